/- Layer 15: the document's crashes. -/
import Derived.Test.YtmammofbgllceaaBkE
namespace Go.Proofs.Ytmammofbgllceaa.Bk
open Go.RowKit
open Go.Proofs.Ytmammofbgllceaa.Sym Go.Proofs.Ytmammofbgllceaa.Mem
open Go.Proofs.Ytmammofbgllceaa.Sx hiding Mm m_alloc m_store m_put m_call m_callx m_make m_append r_string r_ixS
set_option linter.unusedVariables false
attribute [local irreducible] wpList Oper.wp

theorem wrote_len (d : Dk) (at_ : Int) : (wrote_m d at_).length ≤ d.loose.length := by
  have key : ∀ n l i, i ≤ d.loose.length → d.loose.length - i < n → ∃ l' i', wrote_m_l0 d at_ n (l, i) = .inl (l', i') ∧ l'.length ≤ l.length + (d.loose.length - i) := by
    intro n
    induction n with
    | zero => intro l i _ h; omega
    | succ n ih =>
      intro l i hi h
      show ∃ l' i', wrote_m_b0 d at_ (wrote_m_l0 d at_ n) l i = _ ∧ _
      unfold wrote_m_b0
      by_cases h1 : i < d.loose.length
      · rw [if_pos h1]
        by_cases h2 : (d.loose.getD i dWr).at_ = at_
        · rw [if_pos h2]
          obtain ⟨l', i', h3, h4⟩ := ih (l ++ [(d.loose.getD i dWr).data]) (i + 1) (by omega) (by omega)
          refine ⟨l', i', h3, ?_⟩
          rw [List.length_append, List.length_singleton] at h4
          omega
        · rw [if_neg h2]
          obtain ⟨l', i', h3, h4⟩ := ih l (i + 1) (by omega) (by omega)
          exact ⟨l', i', h3, by omega⟩
      · rw [if_neg h1]
        exact ⟨l, i, rfl, by omega⟩
  obtain ⟨l', i', h1, h2⟩ := key (d.loose.length - 0 + 1) [] 0 (Nat.zero_le _) (by omega)
  unfold wrote_m
  rw [h1]
  show l'.length ≤ _
  simpa using h2
def rcrash_m_b0 (d : Dk) (fates : List UInt8) (fuse : Int) (rec : Nat × Nat × (List (List UInt8)) → Sum (Nat × Nat × (List (List UInt8))) (Dk × Int)) (x29 : Nat) (x30 : Nat) (l31 : List (List UInt8)) : Sum (Nat × Nat × (List (List UInt8))) (Dk × Int) :=
  if x30 < l31.length then
    if (wrote_m d ((x30 : Nat) : Int)).length = 0 then
      rec (x29, (x30 + 1), l31)
    else
      if x29 < fates.length then
        if 0 < (((fates.getD x29 0).toNat) % (((wrote_m d ((x30 : Nat) : Int)).length) + 1)) then
          rec ((x29 + 1), (x30 + 1), (l31.set x30 ((wrote_m d ((x30 : Nat) : Int)).getD (((((((fates.getD x29 0).toNat) % (((wrote_m d ((x30 : Nat) : Int)).length) + 1)) : Nat) : Int) - (1 : Int)).toNat) [])))
        else
          rec ((x29 + 1), (x30 + 1), l31)
      else
        if 0 < 0 then
          rec ((x29 + 1), (x30 + 1), (l31.set x30 ((wrote_m d ((x30 : Nat) : Int)).getD (((0 : Int) - (1 : Int)).toNat) [])))
        else
          rec ((x29 + 1), (x30 + 1), l31)
  else
    .inl (x29, x30, l31)
def rcrash_m_l0 (d : Dk) (fates : List UInt8) (fuse : Int) : Nat → Nat × Nat × (List (List UInt8)) → Sum (Nat × Nat × (List (List UInt8))) (Dk × Int)
  | 0, s => .inl s
  | nq + 1, s => rcrash_m_b0 d fates fuse (rcrash_m_l0 d fates fuse nq) s.1 s.2.1 s.2.2

def rcrash_m_k0 (d : Dk) (fates : List UInt8) (fuse : Int) (y35 : Nat) (y36 : Nat) (y37 : List (List UInt8)) : Dk × Int :=
  ((Dk.mk y37 ([] : List Wr) fuse false), 0)

def rcrash_m (d : Dk) (fates : List UInt8) (fuse : Int) : Dk × Int :=
  if (!(rright_m d)) = true then
    (d, 1)
  else
    fin (rcrash_m_l0 d fates fuse (((([] : List (List UInt8)) ++ d.safe).length - 0) + 1) (0, 0, (([] : List (List UInt8)) ++ d.safe))) (fun r => r) (fun s => rcrash_m_k0 d fates fuse s.1 s.2.1 s.2.2)

set_option maxHeartbeats 4000000 in
set_option maxRecDepth 100000 in
theorem rcrash_any (d : Dk) (fates : List UInt8) (fuse : Int) (dv0 dv1 fatesv0 : Value) (S : Nat → Prop) (w : World) (hd : From S (DkR d dv0 dv1) w) (hfates : From S (Rs eB 1 fates fatesv0) w) (hp0 : d.safe.length ≤ 8796093022208) (hp1 : d.loose.length ≤ 5864062014804) (hp2 : fates.length ≤ 140737488355328) : Calls Try.prog 24 #[.agg #[dv0, dv1, .int .i64 (d.fuse), .bool (d.down)], fatesv0, .int .i64 (fuse)] w (fun e w' => (∃ v, e = .returned v ∧ ∃ o0 o1 : Value, v = .tuple #[.agg #[o0, o1, .int .i64 (((rcrash_m d fates fuse).1).fuse), .bool (((rcrash_m d fates fuse).1).down)], .int .i64 ((rcrash_m d fates fuse).2)] ∧ Gives w w' S (DkR ((rcrash_m d fates fuse).1) o0 o1)) ∧ Below w.heap.size w w') := by
  go_enter Try.func24, Try.ntmps24
  have hm00 := Mm.nil none S w
  obtain ⟨Fd, hm01⟩ : ∃ Fd, Mm none S w w [.see (DkR d dv0 dv1) Fd] := hm00.come hd
  obtain ⟨Ffates, hm02⟩ : ∃ Ffates, Mm none S w w [.see (DkR d dv0 dv1) Fd, .see (Rs eB 1 fates fatesv0) Ffates] := hm01.come hfates
  have hm0 := hm02
  refine wp_seq_k (fun K1 hK1 => ?_)
  refine wp_region_lit ?_
  refine lst rfl (m_alloc (c := #[dv0, dv1, .int .i64 (d.fuse), .bool (d.down)]) (T := 25) hm0 3 rfl (run_box rfl rfl) (fun g4 w2 (hm3 : Mm none S w w2 [.see (DkR d dv0 dv1) Fd, .see (Rs eB 1 fates fatesv0) Ffates, .blk g4 #[dv0, dv1, .int .i64 (d.fuse), .bool (d.down)] 25]) => ?_))
  simp only [nz1, nz2, nz3]
  refine lst rfl (m_alloc (c := #[.slice none 0 0, .slice none 0 0, .int .i64 0, .bool false]) (T := 25) hm3 6 rfl (by unfold execOp; go_simp; try rfl) (fun g7 w5 (hm6 : Mm none S w w5 [.see (DkR d dv0 dv1) Fd, .see (Rs eB 1 fates fatesv0) Ffates, .blk g4 #[dv0, dv1, .int .i64 (d.fuse), .bool (d.down)] 25, .blk g7 #[.slice none 0 0, .slice none 0 0, .int .i64 0, .bool false] 25]) => ?_))
  simp only [nz1, nz2, nz3]
  refine lvw 7 (.int .i64 0) rfl rfl (run_as rfl rfl) ?_
  simp only [nz1, nz2, nz3]
  refine wpList_nil ?_
  refine then_n (hK1 _ _ ?_)
  refine wp_seq_k (fun K8 hK8 => ?_)
  refine wp_seq_k (fun K9 hK9 => ?_)
  refine wp_region_lit ?_
  refine lvw 13 (.agg #[dv0, dv1, .int .i64 (d.fuse), .bool (d.down)]) rfl rfl (r_whole (hm6.at 2 rfl) Try.underlying25 rfl (by exact sz_25) rfl rfl) ?_
  simp only [nz1, nz2, nz3]
  refine lst rfl (m_call hm6 14 (.bool ((rright_m d))) rfl (run_rright rfl rfl) (rright_any d dv0 dv1 _ (hm6.see 0 rfl) (by first | omega | assumption | decide | (simp; done) | (simp; omega))) (fun w10 (hm11 : Mm none S w w10 [.see (DkR d dv0 dv1) Fd, .see (Rs eB 1 fates fatesv0) Ffates, .blk g4 #[dv0, dv1, .int .i64 (d.fuse), .bool (d.down)] 25, .blk g7 #[.slice none 0 0, .slice none 0 0, .int .i64 0, .bool false] 25]) => ?_))
  simp only [nz1, nz2, nz3]
  refine lvw 15 (.bool (!(rright_m d))) rfl rfl (r_not (rright_m d) rfl rfl) ?_
  simp only [nz1, nz2, nz3]
  refine wpList_nil ?_
  refine then_n (hK9 _ _ ?_)
  refine cond_B (!(rright_m d)) rfl (fun hc12 => ?_) (fun hc12 => ?_)
  · refine wp_seq_k (fun K13 hK13 => ?_)
    refine wp_region_lit ?_
    refine lvw 16 (.agg #[dv0, dv1, .int .i64 (d.fuse), .bool (d.down)]) rfl rfl (r_whole (hm11.at 2 rfl) Try.underlying25 rfl (by exact sz_25) rfl rfl) ?_
    simp only [nz1, nz2, nz3]
    have ho16 := (rd_one ((hm11.see 0 rfl).1))
    have ho17 := (rd_one ((hm11.see 0 rfl).2))
    refine lst rfl (m_store 3 25 _ _ 0 (.agg #[dv0, dv1, .int .i64 (d.fuse), .bool (d.down)]) (old := #[.slice none 0 0, .slice none 0 0, .int .i64 0, .bool false]) (new := #[dv0, dv1, .int .i64 (d.fuse), .bool (d.down)]) hm11 rfl rfl rfl rfl rfl (by exact sz_25) (show 0 + 4 ≤ 4 from by decide) (by rw [Array.all_eq_true_iff_forall_mem]; intro x hx; simp only [Value.cells, List.mem_toArray, List.mem_cons, List.not_mem_nil, or_false] at hx; rcases hx with rfl | rfl | rfl | rfl <;> first | rfl | assumption) rfl (fun w14 (hm15 : Mm none S w w14 [.see (DkR d dv0 dv1) Fd, .see (Rs eB 1 fates fatesv0) Ffates, .blk g4 #[dv0, dv1, .int .i64 (d.fuse), .bool (d.down)] 25, .blk g7 #[dv0, dv1, .int .i64 (d.fuse), .bool (d.down)] 25]) => ?_))
    refine lvw 7 (.int .i64 1) rfl rfl (run_as rfl rfl) ?_
    simp only [nz1, nz2, nz3]
    refine wpList_nil ?_
    refine then_n (hK13 _ _ ?_)
    refine wp_ret ?_
    refine then_r ?_
    have he18 : rcrash_m d fates fuse = (d, 1) := (show rcrash_m d fates fuse = (d, 1) from by unfold rcrash_m; rw [if_pos hc12] <;> rfl)
    exact ⟨rfl, .tuple #[.agg #[dv0, dv1, .int .i64 (d.fuse), .bool (d.down)], .int .i64 1], Mem.res_ct rfl rfl (hm15.at 3 rfl) Try.underlying25 rfl (by exact sz_25) rfl, ⟨⟨_, rfl, dv0, dv1, (by first | rfl | rw [he18]), by rw [he18]; exact hm15.give (hm15.from 0 rfl)⟩, hm15.below⟩⟩
  refine wp_skip ?_
  refine then_n (hK8 _ _ ?_)
  refine wp_seq_k (fun K19 hK19 => ?_)
  refine wp_region_lit ?_
  refine lst rfl (m_lit0 (α := List UInt8) (enc := eS) (size := 1) (e := 9) hm11 17 rfl (by unfold execOp; go_simp; try rfl) (fun v22 w20 (hm21 : Mm none S w w20 [.see (DkR d dv0 dv1) Fd, .see (Rs eB 1 fates fatesv0) Ffates, .blk g4 #[dv0, dv1, .int .i64 (d.fuse), .bool (d.down)] 25, .blk g7 #[.slice none 0 0, .slice none 0 0, .int .i64 0, .bool false] 25, .row v22 ([] : List (List UInt8)).length (([] : List (List UInt8)).flatMap eS) 9 1]) => ?_))
  simp only [nz1, nz2, nz3]
  refine lvw 18 (.pointer (some ⟨g4, 0, none⟩)) rfl rfl (r_fa25_0 g4 0 rfl rfl) ?_
  simp only [nz1, nz2, nz3]
  refine lvw 19 (dv0) rfl rfl (r_load (hm21.at 2 rfl) rfl Try.underlying22 rfl rfl rfl) ?_
  simp only [nz1, nz2, nz3]
  obtain ⟨iq, hiq, hz1, hz2, hz3⟩ := inf_9
  refine lst rfl (m_appendR 4 (l := ([] : List (List UInt8))) (l2 := d.safe) iq _ _ _ (dv0) hm21 rfl 20 rfl rfl Try.underlying22 hiq hz1 hz2 hz3 eS_len eS_one rfl (by decide) rfl rfl (hm21.see 0 rfl).1 (by first | omega | (simp; omega)) (by first | omega | (simp; omega)) (fun v25 w23 (hm24 : Mm none S w w23 [.see (DkR d dv0 dv1) Fd, .see (Rs eB 1 fates fatesv0) Ffates, .blk g4 #[dv0, dv1, .int .i64 (d.fuse), .bool (d.down)] 25, .blk g7 #[.slice none 0 0, .slice none 0 0, .int .i64 0, .bool false] 25, .row v25 (([] : List (List UInt8)) ++ d.safe).length ((([] : List (List UInt8)) ++ d.safe).flatMap eS) 9 1]) => ?_))
  simp only [nz1, nz2, nz3]
  refine lvw 8 (v25) rfl rfl (run_as rfl rfl) ?_
  simp only [nz1, nz2, nz3]
  refine wpList_nil ?_
  refine then_n (hK19 _ _ ?_)
  refine wp_seq_k (fun K26 hK26 => ?_)
  refine wp_region_lit ?_
  refine lvw 9 (.int .i64 0) rfl rfl (run_as rfl rfl) ?_
  simp only [nz1, nz2, nz3]
  refine wpList_nil ?_
  refine then_n (hK26 _ _ ?_)
  refine wp_seq_k (fun K27 hK27 => ?_)
  refine wp_seq_k (fun K28 hK28 => ?_)
  refine wp_region_lit ?_
  refine lvw 10 (.int .i64 0) rfl rfl (run_as rfl rfl) ?_
  simp only [nz1, nz2, nz3]
  refine wpList_nil ?_
  refine then_n (hK28 _ _ ?_)
  refine wp_cutK (fun a' w' => ∃ (y35 : Nat) (y36 : Nat) (y37 : List (List UInt8)) (yu0 : Nat → Value), rcrash_m_l0 d fates fuse (((([] : List (List UInt8)) ++ d.safe).length - 0) + 1) (0, 0, (([] : List (List UInt8)) ++ d.safe)) = .inl (y35, y36, y37) ∧ (y37.length = d.safe.length) ∧ (y35 ≤ y36) ∧ a' = ⟨#[.agg #[dv0, dv1, .int .i64 (d.fuse), .bool (d.down)], fatesv0, .int .i64 (fuse), .pointer (some ⟨g4, 0, none⟩), undef, undef, .pointer (some ⟨g7, 0, none⟩), .int .i64 0, v25, .int .i64 ((y35 : Nat) : Int), .int .i64 ((y36 : Nat) : Int), yu0 0, yu0 1, .agg #[dv0, dv1, .int .i64 (d.fuse), .bool (d.down)], .bool ((rright_m d)), .bool (!(rright_m d)), undef, v22, .pointer (some ⟨g4, 0, none⟩), dv0, v25, yu0 2, yu0 3, yu0 4, yu0 5, yu0 6, yu0 7, yu0 8, yu0 9, yu0 10, yu0 11, yu0 12, yu0 13, yu0 14, yu0 15, yu0 16, yu0 17, yu0 18, yu0 19, yu0 20, yu0 21, yu0 22, yu0 23, yu0 24, yu0 25, yu0 26, yu0 27, yu0 28, yu0 29, yu0 30, yu0 31, yu0 32, yu0 33, yu0 34, yu0 35, yu0 36, yu0 37, yu0 38, undef, undef, undef], []⟩ ∧ Mm none S w w' [.see (DkR d dv0 dv1) Fd, .see (Rs eB 1 fates fatesv0) Ffates, .blk g4 #[dv0, dv1, .int .i64 (d.fuse), .bool (d.down)] 25, .blk g7 #[.slice none 0 0, .slice none 0 0, .int .i64 0, .bool false] 25, .row v25 y37.length (y37.flatMap eS) 9 1]) ?_ ?_
  · refine wp_block ?_
    refine wp_loop_n (fun n' a' w' => ∃ (n32 : Nat) (x29 : Nat) (x30 : Nat) (l31 : List (List UInt8)) (u0 : Nat → Value), n' = n32 ∧ (l31.length - x30) < n32 ∧ rcrash_m_l0 d fates fuse (((([] : List (List UInt8)) ++ d.safe).length - 0) + 1) (0, 0, (([] : List (List UInt8)) ++ d.safe)) = rcrash_m_l0 d fates fuse n32 (x29, x30, l31) ∧ (l31.length = d.safe.length) ∧ (x29 ≤ x30) ∧ a' = ⟨#[.agg #[dv0, dv1, .int .i64 (d.fuse), .bool (d.down)], fatesv0, .int .i64 (fuse), .pointer (some ⟨g4, 0, none⟩), undef, undef, .pointer (some ⟨g7, 0, none⟩), .int .i64 0, v25, .int .i64 ((x29 : Nat) : Int), .int .i64 ((x30 : Nat) : Int), u0 0, u0 1, .agg #[dv0, dv1, .int .i64 (d.fuse), .bool (d.down)], .bool ((rright_m d)), .bool (!(rright_m d)), undef, v22, .pointer (some ⟨g4, 0, none⟩), dv0, v25, u0 2, u0 3, u0 4, u0 5, u0 6, u0 7, u0 8, u0 9, u0 10, u0 11, u0 12, u0 13, u0 14, u0 15, u0 16, u0 17, u0 18, u0 19, u0 20, u0 21, u0 22, u0 23, u0 24, u0 25, u0 26, u0 27, u0 28, u0 29, u0 30, u0 31, u0 32, u0 33, u0 34, u0 35, u0 36, u0 37, u0 38, undef, undef, undef], []⟩ ∧ Mm none S w w' [.see (DkR d dv0 dv1) Fd, .see (Rs eB 1 fates fatesv0) Ffates, .blk g4 #[dv0, dv1, .int .i64 (d.fuse), .bool (d.down)] 25, .blk g7 #[.slice none 0 0, .slice none 0 0, .int .i64 0, .bool false] 25, .row v25 l31.length (l31.flatMap eS) 9 1]) ⟨(((([] : List (List UInt8)) ++ d.safe).length - 0) + 1), 0, 0, (([] : List (List UInt8)) ++ d.safe), (fun qq => bif Nat.blt qq 24 then List.getD [undef, undef, undef, undef, undef, undef, undef, undef, undef, undef, undef, undef, undef, undef, undef, undef, undef, undef, undef, undef, undef, undef, undef, undef] qq undef else List.getD [undef, undef, undef, undef, undef, undef, undef, undef, undef, undef, undef, undef, undef, undef, undef] (qq - 24) undef), rfl, Nat.lt_succ_self _, rfl, (by simp), (Nat.le_refl _), rfl, hm24⟩ ?_
    rintro n32 _ w39 ⟨_, x29, x30, l31, u0, rfl, hl43, hi34, hls, hnx, rfl, hm40⟩ R41 hR41
    obtain ⟨k33, rfl⟩ : ∃ k, n32 = k + 1 := ⟨n32 - 1, by omega⟩
    refine wp_seq_k (fun K44 hK44 => ?_)
    refine wp_seq_k (fun K45 hK45 => ?_)
    refine wp_region_lit ?_
    refine lvw 21 (.int .i64 ((x30 : Nat) : Int)) rfl rfl (run_mv rfl rfl) ?_
    simp only [nz1, nz2, nz3]
    refine lvw 22 (v25) rfl rfl (run_mv rfl rfl) ?_
    simp only [nz1, nz2, nz3]
    refine lvw 23 (.int .i64 ((l31.length : Nat) : Int)) rfl rfl (s_len (Rs.row (hm40.row 4 rfl)) rfl Try.underlying22 rfl) ?_
    simp only [nz1, nz2, nz3]
    refine lvw 24 (.bool (decide (x30 < l31.length))) rfl rfl (r_lss x30 l31.length rfl rfl rfl) ?_
    simp only [nz1, nz2, nz3]
    refine wpList_nil ?_
    refine then_n (hK45 _ _ ?_)
    refine cond_d (x30 < l31.length) rfl (fun hc46 => ?_) (fun hc46 => ?_)
    rotate_left
    · refine wp_exit ?_
      refine then_x ?_
      refine then_x ?_
      refine blk_x ?_
      refine then_n ?_
      exact ⟨x29, x30, l31, (fun qq => bif Nat.blt qq 24 then List.getD [u0 0, u0 1, .int .i64 ((x30 : Nat) : Int), v25, .int .i64 ((l31.length : Nat) : Int), .bool (decide (x30 < l31.length)), u0 6, u0 7, u0 8, u0 9, u0 10, u0 11, u0 12, u0 13, u0 14, u0 15, u0 16, u0 17, u0 18, u0 19, u0 20, u0 21, u0 22, u0 23] qq undef else List.getD [u0 24, u0 25, u0 26, u0 27, u0 28, u0 29, u0 30, u0 31, u0 32, u0 33, u0 34, u0 35, u0 36, u0 37, u0 38] (qq - 24) undef), (hi34.trans (show rcrash_m_b0 d fates fuse (rcrash_m_l0 d fates fuse k33) x29 x30 l31 = .inl (x29, x30, l31) from by unfold rcrash_m_b0; rw [if_neg hc46] <;> rfl)), hls, hnx, rfl, hm40⟩
    refine wp_skip ?_
    refine then_n (hK44 _ _ ?_)
    refine wp_seq_k (fun K47 hK47 => ?_)
    refine wp_block ?_
    refine wp_seq_k (fun K48 hK48 => ?_)
    refine wp_region_lit ?_
    refine lvw 27 (.agg #[dv0, dv1, .int .i64 (d.fuse), .bool (d.down)]) rfl rfl (r_whole (hm40.at 2 rfl) Try.underlying25 rfl (by exact sz_25) rfl rfl) ?_
    simp only [nz1, nz2, nz3]
    refine lvw 28 (.int .i64 ((x30 : Nat) : Int)) rfl rfl (run_mv rfl rfl) ?_
    simp only [nz1, nz2, nz3]
    refine lst rfl (m_callx hm40 29 rfl (run_wrote rfl rfl rfl) (wrote_any d ((x30 : Nat) : Int) dv0 dv1 (seeS _) _ (hm40.from 0 rfl) (by first | omega | assumption | decide | (simp; done) | (simp; omega)) (by first | omega | assumption | decide | (simp; done) | (simp; omega))) (fun v51 w49 hR55 hb56 hm50 => ?_))
    obtain ⟨_, rfl, hg57⟩ := hR55
    obtain ⟨F53, hm58⟩ : ∃ F53, Mm none S w w49 [.see (DkR d dv0 dv1) Fd, .see (Rs eB 1 fates fatesv0) Ffates, .blk g4 #[dv0, dv1, .int .i64 (d.fuse), .bool (d.down)] 25, .blk g7 #[.slice none 0 0, .slice none 0 0, .int .i64 0, .bool false] 25, .row v25 l31.length (l31.flatMap eS) 9 1, .see (Rs eS 1 (wrote_m d ((x30 : Nat) : Int)) v51) F53] := Mm.tookS hm40 hb56 hg57
    clear hm50 hg57 hb56
    have hf59 : (wrote_m d ((x30 : Nat) : Int)).length ≤ d.loose.length := wrote_len d ((x30 : Nat) : Int)
    simp only [nz1, nz2, nz3]
    refine lvw 11 (v51) rfl rfl (run_as rfl rfl) ?_
    simp only [nz1, nz2, nz3]
    refine wpList_nil ?_
    refine then_n (hK48 _ _ ?_)
    refine wp_seq_k (fun K60 hK60 => ?_)
    refine wp_seq_k (fun K61 hK61 => ?_)
    refine wp_region_lit ?_
    refine lvw 30 (v51) rfl rfl (run_mv rfl rfl) ?_
    simp only [nz1, nz2, nz3]
    refine lvw 31 (.int .i64 (((wrote_m d ((x30 : Nat) : Int)).length : Nat) : Int)) rfl rfl (s_len ((hm58.see 5 rfl)) rfl Try.underlying22 rfl) ?_
    simp only [nz1, nz2, nz3]
    refine lvw 32 (.bool (decide ((wrote_m d ((x30 : Nat) : Int)).length = 0))) rfl rfl (r_eql ((wrote_m d ((x30 : Nat) : Int)).length) 0 rfl rfl rfl) ?_
    simp only [nz1, nz2, nz3]
    refine wpList_nil ?_
    refine then_n (hK61 _ _ ?_)
    refine cond_d ((wrote_m d ((x30 : Nat) : Int)).length = 0) rfl (fun hc62 => ?_) (fun hc62 => ?_)
    · refine wp_exit ?_
      refine then_x ?_
      refine blk_x ?_
      refine then_n (hK47 _ _ ?_)
      refine wp_region_lit ?_
      refine lvw 25 (.int .i64 ((x30 : Nat) : Int)) rfl rfl (run_mv rfl rfl) ?_
      simp only [nz1, nz2, nz3]
      refine lvw 26 (.int .i64 (((x30 + 1) : Nat) : Int)) rfl rfl (r_add x30 1 (show (x30 + 1) < 9223372036854775808 from by omega) rfl rfl rfl) ?_
      simp only [nz1, nz2, nz3]
      refine lvw 10 (.int .i64 (((x30 + 1) : Nat) : Int)) rfl rfl (run_as rfl rfl) ?_
      simp only [nz1, nz2, nz3]
      refine wpList_nil ?_
      refine then_n (hR41 _ _ _ ⟨k33, x29, (x30 + 1), l31, (fun qq => bif Nat.blt qq 24 then List.getD [v51, u0 1, .int .i64 ((x30 : Nat) : Int), v25, .int .i64 ((l31.length : Nat) : Int), .bool (decide (x30 < l31.length)), .int .i64 ((x30 : Nat) : Int), .int .i64 (((x30 + 1) : Nat) : Int), .agg #[dv0, dv1, .int .i64 (d.fuse), .bool (d.down)], .int .i64 ((x30 : Nat) : Int), v51, v51, .int .i64 (((wrote_m d ((x30 : Nat) : Int)).length : Nat) : Int), .bool (decide ((wrote_m d ((x30 : Nat) : Int)).length = 0)), u0 14, u0 15, u0 16, u0 17, u0 18, u0 19, u0 20, u0 21, u0 22, u0 23] qq undef else List.getD [u0 24, u0 25, u0 26, u0 27, u0 28, u0 29, u0 30, u0 31, u0 32, u0 33, u0 34, u0 35, u0 36, u0 37, u0 38] (qq - 24) undef), rfl, (by first | omega | (simp; omega) | (simp at *; omega)), (hi34.trans (show rcrash_m_b0 d fates fuse (rcrash_m_l0 d fates fuse k33) x29 x30 l31 = rcrash_m_l0 d fates fuse k33 (x29, (x30 + 1), l31) from by unfold rcrash_m_b0; rw [if_pos hc46, if_pos hc62] <;> rfl)), (by first | exact hls | (rw [List.length_set]; exact hls)), (by omega), rfl, (Mm.reorder hm58 [0, 1, 2, 3, 4] (by decide) rfl)⟩ ?_)
      omega
    refine wp_skip ?_
    refine then_n (hK60 _ _ ?_)
    refine wp_seq_k (fun K63 hK63 => ?_)
    refine wp_region_lit ?_
    refine lvw 12 (.int .i64 0) rfl rfl (run_as rfl rfl) ?_
    simp only [nz1, nz2, nz3]
    refine wpList_nil ?_
    refine then_n (hK63 _ _ ?_)
    refine wp_seq_k (fun K64 hK64 => ?_)
    refine wp_seq_k (fun K65 hK65 => ?_)
    refine wp_region_lit ?_
    refine lvw 33 (.int .i64 ((x29 : Nat) : Int)) rfl rfl (run_mv rfl rfl) ?_
    simp only [nz1, nz2, nz3]
    refine lvw 34 (fatesv0) rfl rfl (run_mv rfl rfl) ?_
    simp only [nz1, nz2, nz3]
    refine lvw 35 (.int .i64 ((fates.length : Nat) : Int)) rfl rfl (s_len ((hm58.see 1 rfl)) rfl Try.underlying37 rfl) ?_
    simp only [nz1, nz2, nz3]
    refine lvw 36 (.bool (decide (x29 < fates.length))) rfl rfl (r_lss x29 fates.length rfl rfl rfl) ?_
    simp only [nz1, nz2, nz3]
    refine wpList_nil ?_
    refine then_n (hK65 _ _ ?_)
    refine cond_d (x29 < fates.length) rfl (fun hc66 => ?_) (fun hc66 => ?_)
    rotate_left
    · refine wp_skip ?_
      refine then_n (hK64 _ _ ?_)
      refine wp_seq_k (fun K72 hK72 => ?_)
      refine wp_region_lit ?_
      refine lvw 46 (.int .i64 ((x29 : Nat) : Int)) rfl rfl (run_mv rfl rfl) ?_
      simp only [nz1, nz2, nz3]
      refine lvw 47 (.int .i64 (((x29 + 1) : Nat) : Int)) rfl rfl (r_add x29 1 (show (x29 + 1) < 9223372036854775808 from by omega) rfl rfl rfl) ?_
      simp only [nz1, nz2, nz3]
      refine lvw 9 (.int .i64 (((x29 + 1) : Nat) : Int)) rfl rfl (run_as rfl rfl) ?_
      simp only [nz1, nz2, nz3]
      refine wpList_nil ?_
      refine then_n (hK72 _ _ ?_)
      refine wp_seq_k (fun K73 hK73 => ?_)
      refine wp_region_lit ?_
      refine lvw 48 (.int .i64 0) rfl rfl (run_mv rfl rfl) ?_
      simp only [nz1, nz2, nz3]
      refine lvw 49 (.bool (decide (0 < 0))) rfl rfl (r_gtr 0 0 rfl rfl rfl) ?_
      simp only [nz1, nz2, nz3]
      refine wpList_nil ?_
      refine then_n (hK73 _ _ ?_)
      refine cond_d (0 < 0) rfl (fun hc74 => ?_) (fun hc74 => ?_)
      rotate_left
      · refine wp_skip ?_
        refine blk_n ?_
        refine then_n (hK47 _ _ ?_)
        refine wp_region_lit ?_
        refine lvw 25 (.int .i64 ((x30 : Nat) : Int)) rfl rfl (run_mv rfl rfl) ?_
        simp only [nz1, nz2, nz3]
        refine lvw 26 (.int .i64 (((x30 + 1) : Nat) : Int)) rfl rfl (r_add x30 1 (show (x30 + 1) < 9223372036854775808 from by omega) rfl rfl rfl) ?_
        simp only [nz1, nz2, nz3]
        refine lvw 10 (.int .i64 (((x30 + 1) : Nat) : Int)) rfl rfl (run_as rfl rfl) ?_
        simp only [nz1, nz2, nz3]
        refine wpList_nil ?_
        refine then_n (hR41 _ _ _ ⟨k33, (x29 + 1), (x30 + 1), l31, (fun qq => bif Nat.blt qq 24 then List.getD [v51, .int .i64 0, .int .i64 ((x30 : Nat) : Int), v25, .int .i64 ((l31.length : Nat) : Int), .bool (decide (x30 < l31.length)), .int .i64 ((x30 : Nat) : Int), .int .i64 (((x30 + 1) : Nat) : Int), .agg #[dv0, dv1, .int .i64 (d.fuse), .bool (d.down)], .int .i64 ((x30 : Nat) : Int), v51, v51, .int .i64 (((wrote_m d ((x30 : Nat) : Int)).length : Nat) : Int), .bool (decide ((wrote_m d ((x30 : Nat) : Int)).length = 0)), .int .i64 ((x29 : Nat) : Int), fatesv0, .int .i64 ((fates.length : Nat) : Int), .bool (decide (x29 < fates.length)), u0 18, u0 19, u0 20, u0 21, u0 22, u0 23] qq undef else List.getD [u0 24, u0 25, u0 26, .int .i64 ((x29 : Nat) : Int), .int .i64 (((x29 + 1) : Nat) : Int), .int .i64 0, .bool (decide (0 < 0)), u0 31, u0 32, u0 33, u0 34, u0 35, u0 36, u0 37, u0 38] (qq - 24) undef), rfl, (by first | omega | (simp; omega) | (simp at *; omega)), (hi34.trans (show rcrash_m_b0 d fates fuse (rcrash_m_l0 d fates fuse k33) x29 x30 l31 = rcrash_m_l0 d fates fuse k33 ((x29 + 1), (x30 + 1), l31) from by unfold rcrash_m_b0; rw [if_pos hc46, if_neg hc62, if_neg hc66, if_neg hc74] <;> rfl)), (by first | exact hls | (rw [List.length_set]; exact hls)), (by omega), rfl, (Mm.reorder hm58 [0, 1, 2, 3, 4] (by decide) rfl)⟩ ?_)
        omega
      refine wp_region_lit ?_
      refine lvw 50 (v25) rfl rfl (run_mv rfl rfl) ?_
      simp only [nz1, nz2, nz3]
      refine lvw 51 (.int .i64 ((x30 : Nat) : Int)) rfl rfl (run_mv rfl rfl) ?_
      simp only [nz1, nz2, nz3]
      refine lvw 52 (v51) rfl rfl (run_mv rfl rfl) ?_
      simp only [nz1, nz2, nz3]
      refine lvw 53 (.int .i64 0) rfl rfl (run_mv rfl rfl) ?_
      simp only [nz1, nz2, nz3]
      refine lvw 54 (.int .i64 (((0 : Int) - (1 : Int)))) rfl rfl (z_sub (0 : Int) (1 : Int) _ (by rw [IntKind.wrap_i64]; omega) rfl rfl rfl) ?_
      simp only [nz1, nz2, nz3]
      refine lvw 55 (.pointer (some ⟨(bk v51), (po v51 + ((0 : Int) - (1 : Int)).toNat * 1), none⟩)) rfl rfl (r_ixvZ ((hm58.see 5 rfl)) ((0 : Int) - (1 : Int)) (by omega) (by omega) Try.underlying22 sz_9 rfl rfl rfl) ?_
      simp only [nz1, nz2, nz3]
      refine lvw 56 (.string (tx ((wrote_m d ((x30 : Nat) : Int)).getD (((0 : Int) - (1 : Int)).toNat) []))) rfl rfl (r_cellw (Rs.cell ((hm58.see 5 rfl)) eS_len [] (((0 : Int) - (1 : Int)).toNat) (by omega) 0 _ rfl) Try.underlying9 rfl rfl rfl) ?_
      simp only [nz1, nz2, nz3]
      refine lvw 57 (.pointer (some ⟨(bk v25), (po v25 + x30 * 1), none⟩)) rfl rfl (r_ixv (Rs.row (hm58.row 4 rfl)) x30 (by omega) Try.underlying22 sz_9 rfl rfl rfl) ?_
      simp only [nz1, nz2, nz3]
      refine lst rfl (m_setR 4 (l := l31) x30 ((wrote_m d ((x30 : Nat) : Int)).getD (((0 : Int) - (1 : Int)).toNat) []) (.string (tx ((wrote_m d ((x30 : Nat) : Int)).getD (((0 : Int) - (1 : Int)).toNat) []))) hm58 rfl rfl rfl (by omega) rfl rfl sz_9 eS_len rfl rfl (fun w75 (hm76 : Mm none S w w75 [.see (DkR d dv0 dv1) Fd, .see (Rs eB 1 fates fatesv0) Ffates, .blk g4 #[dv0, dv1, .int .i64 (d.fuse), .bool (d.down)] 25, .blk g7 #[.slice none 0 0, .slice none 0 0, .int .i64 0, .bool false] 25, .row v25 (l31.set x30 ((wrote_m d ((x30 : Nat) : Int)).getD (((0 : Int) - (1 : Int)).toNat) [])).length ((l31.set x30 ((wrote_m d ((x30 : Nat) : Int)).getD (((0 : Int) - (1 : Int)).toNat) [])).flatMap eS) 9 1, .see (Rs eS 1 (wrote_m d ((x30 : Nat) : Int)) v51) F53]) => ?_))
      refine wpList_nil ?_
      refine blk_n ?_
      refine then_n (hK47 _ _ ?_)
      refine wp_region_lit ?_
      refine lvw 25 (.int .i64 ((x30 : Nat) : Int)) rfl rfl (run_mv rfl rfl) ?_
      simp only [nz1, nz2, nz3]
      refine lvw 26 (.int .i64 (((x30 + 1) : Nat) : Int)) rfl rfl (r_add x30 1 (show (x30 + 1) < 9223372036854775808 from by omega) rfl rfl rfl) ?_
      simp only [nz1, nz2, nz3]
      refine lvw 10 (.int .i64 (((x30 + 1) : Nat) : Int)) rfl rfl (run_as rfl rfl) ?_
      simp only [nz1, nz2, nz3]
      refine wpList_nil ?_
      refine then_n (hR41 _ _ _ ⟨k33, (x29 + 1), (x30 + 1), (l31.set x30 ((wrote_m d ((x30 : Nat) : Int)).getD (((0 : Int) - (1 : Int)).toNat) [])), (fun qq => bif Nat.blt qq 24 then List.getD [v51, .int .i64 0, .int .i64 ((x30 : Nat) : Int), v25, .int .i64 ((l31.length : Nat) : Int), .bool (decide (x30 < l31.length)), .int .i64 ((x30 : Nat) : Int), .int .i64 (((x30 + 1) : Nat) : Int), .agg #[dv0, dv1, .int .i64 (d.fuse), .bool (d.down)], .int .i64 ((x30 : Nat) : Int), v51, v51, .int .i64 (((wrote_m d ((x30 : Nat) : Int)).length : Nat) : Int), .bool (decide ((wrote_m d ((x30 : Nat) : Int)).length = 0)), .int .i64 ((x29 : Nat) : Int), fatesv0, .int .i64 ((fates.length : Nat) : Int), .bool (decide (x29 < fates.length)), u0 18, u0 19, u0 20, u0 21, u0 22, u0 23] qq undef else List.getD [u0 24, u0 25, u0 26, .int .i64 ((x29 : Nat) : Int), .int .i64 (((x29 + 1) : Nat) : Int), .int .i64 0, .bool (decide (0 < 0)), v25, .int .i64 ((x30 : Nat) : Int), v51, .int .i64 0, .int .i64 (((0 : Int) - (1 : Int))), .pointer (some ⟨(bk v51), (po v51 + ((0 : Int) - (1 : Int)).toNat * 1), none⟩), .string (tx ((wrote_m d ((x30 : Nat) : Int)).getD (((0 : Int) - (1 : Int)).toNat) [])), .pointer (some ⟨(bk v25), (po v25 + x30 * 1), none⟩)] (qq - 24) undef), rfl, (by first | omega | (simp; omega) | (simp at *; omega)), (hi34.trans (show rcrash_m_b0 d fates fuse (rcrash_m_l0 d fates fuse k33) x29 x30 l31 = rcrash_m_l0 d fates fuse k33 ((x29 + 1), (x30 + 1), (l31.set x30 ((wrote_m d ((x30 : Nat) : Int)).getD (((0 : Int) - (1 : Int)).toNat) []))) from by unfold rcrash_m_b0; rw [if_pos hc46, if_neg hc62, if_neg hc66, if_pos hc74] <;> rfl)), (by first | exact hls | (rw [List.length_set]; exact hls)), (by omega), rfl, (Mm.reorder hm76 [0, 1, 2, 3, 4] (by decide) rfl)⟩ ?_)
      omega
    refine wp_region_lit ?_
    refine lvw 37 (fatesv0) rfl rfl (run_mv rfl rfl) ?_
    simp only [nz1, nz2, nz3]
    refine lvw 38 (.int .i64 ((x29 : Nat) : Int)) rfl rfl (run_mv rfl rfl) ?_
    simp only [nz1, nz2, nz3]
    refine lvw 39 (.pointer (some ⟨(bk fatesv0), (po fatesv0 + x29 * 1), none⟩)) rfl rfl (r_ixv ((hm58.see 1 rfl)) x29 (by omega) Try.underlying37 sz_5 rfl rfl rfl) ?_
    simp only [nz1, nz2, nz3]
    refine lvw 40 (.int .u8 (((fates.getD x29 0).toNat : Nat) : Int)) rfl rfl (r_cellw (Rs.cell ((hm58.see 1 rfl)) eB_len 0 x29 (by omega) 0 _ rfl) Try.underlying5 rfl rfl rfl) ?_
    simp only [nz1, nz2, nz3]
    refine lvw 41 (.int .i64 (((fates.getD x29 0).toNat : Nat) : Int)) rfl rfl (r_conv (k' := .i64) ((fates.getD x29 0).toNat) ((fates.getD x29 0).toNat) some_5 Try.underlying3 (wrap_nat (by have := (fates.getD x29 0).toNat_lt; show _ < 9223372036854775808; omega)) rfl rfl) ?_
    simp only [nz1, nz2, nz3]
    refine lvw 42 (v51) rfl rfl (run_mv rfl rfl) ?_
    simp only [nz1, nz2, nz3]
    refine lvw 43 (.int .i64 (((wrote_m d ((x30 : Nat) : Int)).length : Nat) : Int)) rfl rfl (s_len ((hm58.see 5 rfl)) rfl Try.underlying22 rfl) ?_
    simp only [nz1, nz2, nz3]
    refine lvw 44 (.int .i64 (((((wrote_m d ((x30 : Nat) : Int)).length) + 1) : Nat) : Int)) rfl rfl (r_add ((wrote_m d ((x30 : Nat) : Int)).length) 1 (show (((wrote_m d ((x30 : Nat) : Int)).length) + 1) < 9223372036854775808 from by omega) rfl rfl rfl) ?_
    simp only [nz1, nz2, nz3]
    refine lvw 45 (.int .i64 (((((fates.getD x29 0).toNat) % (((wrote_m d ((x30 : Nat) : Int)).length) + 1)) : Nat) : Int)) rfl rfl (r_rem ((fates.getD x29 0).toNat) (((wrote_m d ((x30 : Nat) : Int)).length) + 1) (by have := (fates.getD x29 0).toNat_lt; show _ < 9223372036854775808; omega) (by omega) rfl rfl rfl) ?_
    simp only [nz1, nz2, nz3]
    refine lvw 12 (.int .i64 (((((fates.getD x29 0).toNat) % (((wrote_m d ((x30 : Nat) : Int)).length) + 1)) : Nat) : Int)) rfl rfl (run_as rfl rfl) ?_
    simp only [nz1, nz2, nz3]
    refine wpList_nil ?_
    refine then_n (hK64 _ _ ?_)
    refine wp_seq_k (fun K67 hK67 => ?_)
    refine wp_region_lit ?_
    refine lvw 46 (.int .i64 ((x29 : Nat) : Int)) rfl rfl (run_mv rfl rfl) ?_
    simp only [nz1, nz2, nz3]
    refine lvw 47 (.int .i64 (((x29 + 1) : Nat) : Int)) rfl rfl (r_add x29 1 (show (x29 + 1) < 9223372036854775808 from by omega) rfl rfl rfl) ?_
    simp only [nz1, nz2, nz3]
    refine lvw 9 (.int .i64 (((x29 + 1) : Nat) : Int)) rfl rfl (run_as rfl rfl) ?_
    simp only [nz1, nz2, nz3]
    refine wpList_nil ?_
    refine then_n (hK67 _ _ ?_)
    refine wp_seq_k (fun K68 hK68 => ?_)
    refine wp_region_lit ?_
    refine lvw 48 (.int .i64 (((((fates.getD x29 0).toNat) % (((wrote_m d ((x30 : Nat) : Int)).length) + 1)) : Nat) : Int)) rfl rfl (run_mv rfl rfl) ?_
    simp only [nz1, nz2, nz3]
    refine lvw 49 (.bool (decide (0 < (((fates.getD x29 0).toNat) % (((wrote_m d ((x30 : Nat) : Int)).length) + 1))))) rfl rfl (r_gtr (((fates.getD x29 0).toNat) % (((wrote_m d ((x30 : Nat) : Int)).length) + 1)) 0 rfl rfl rfl) ?_
    simp only [nz1, nz2, nz3]
    refine wpList_nil ?_
    refine then_n (hK68 _ _ ?_)
    refine cond_d (0 < (((fates.getD x29 0).toNat) % (((wrote_m d ((x30 : Nat) : Int)).length) + 1))) rfl (fun hc69 => ?_) (fun hc69 => ?_)
    rotate_left
    · refine wp_skip ?_
      refine blk_n ?_
      refine then_n (hK47 _ _ ?_)
      refine wp_region_lit ?_
      refine lvw 25 (.int .i64 ((x30 : Nat) : Int)) rfl rfl (run_mv rfl rfl) ?_
      simp only [nz1, nz2, nz3]
      refine lvw 26 (.int .i64 (((x30 + 1) : Nat) : Int)) rfl rfl (r_add x30 1 (show (x30 + 1) < 9223372036854775808 from by omega) rfl rfl rfl) ?_
      simp only [nz1, nz2, nz3]
      refine lvw 10 (.int .i64 (((x30 + 1) : Nat) : Int)) rfl rfl (run_as rfl rfl) ?_
      simp only [nz1, nz2, nz3]
      refine wpList_nil ?_
      refine then_n (hR41 _ _ _ ⟨k33, (x29 + 1), (x30 + 1), l31, (fun qq => bif Nat.blt qq 24 then List.getD [v51, .int .i64 (((((fates.getD x29 0).toNat) % (((wrote_m d ((x30 : Nat) : Int)).length) + 1)) : Nat) : Int), .int .i64 ((x30 : Nat) : Int), v25, .int .i64 ((l31.length : Nat) : Int), .bool (decide (x30 < l31.length)), .int .i64 ((x30 : Nat) : Int), .int .i64 (((x30 + 1) : Nat) : Int), .agg #[dv0, dv1, .int .i64 (d.fuse), .bool (d.down)], .int .i64 ((x30 : Nat) : Int), v51, v51, .int .i64 (((wrote_m d ((x30 : Nat) : Int)).length : Nat) : Int), .bool (decide ((wrote_m d ((x30 : Nat) : Int)).length = 0)), .int .i64 ((x29 : Nat) : Int), fatesv0, .int .i64 ((fates.length : Nat) : Int), .bool (decide (x29 < fates.length)), fatesv0, .int .i64 ((x29 : Nat) : Int), .pointer (some ⟨(bk fatesv0), (po fatesv0 + x29 * 1), none⟩), .int .u8 (((fates.getD x29 0).toNat : Nat) : Int), .int .i64 (((fates.getD x29 0).toNat : Nat) : Int), v51] qq undef else List.getD [.int .i64 (((wrote_m d ((x30 : Nat) : Int)).length : Nat) : Int), .int .i64 (((((wrote_m d ((x30 : Nat) : Int)).length) + 1) : Nat) : Int), .int .i64 (((((fates.getD x29 0).toNat) % (((wrote_m d ((x30 : Nat) : Int)).length) + 1)) : Nat) : Int), .int .i64 ((x29 : Nat) : Int), .int .i64 (((x29 + 1) : Nat) : Int), .int .i64 (((((fates.getD x29 0).toNat) % (((wrote_m d ((x30 : Nat) : Int)).length) + 1)) : Nat) : Int), .bool (decide (0 < (((fates.getD x29 0).toNat) % (((wrote_m d ((x30 : Nat) : Int)).length) + 1)))), u0 31, u0 32, u0 33, u0 34, u0 35, u0 36, u0 37, u0 38] (qq - 24) undef), rfl, (by first | omega | (simp; omega) | (simp at *; omega)), (hi34.trans (show rcrash_m_b0 d fates fuse (rcrash_m_l0 d fates fuse k33) x29 x30 l31 = rcrash_m_l0 d fates fuse k33 ((x29 + 1), (x30 + 1), l31) from by unfold rcrash_m_b0; rw [if_pos hc46, if_neg hc62, if_pos hc66, if_neg hc69] <;> rfl)), (by first | exact hls | (rw [List.length_set]; exact hls)), (by omega), rfl, (Mm.reorder hm58 [0, 1, 2, 3, 4] (by decide) rfl)⟩ ?_)
      omega
    refine wp_region_lit ?_
    refine lvw 50 (v25) rfl rfl (run_mv rfl rfl) ?_
    simp only [nz1, nz2, nz3]
    refine lvw 51 (.int .i64 ((x30 : Nat) : Int)) rfl rfl (run_mv rfl rfl) ?_
    simp only [nz1, nz2, nz3]
    refine lvw 52 (v51) rfl rfl (run_mv rfl rfl) ?_
    simp only [nz1, nz2, nz3]
    refine lvw 53 (.int .i64 (((((fates.getD x29 0).toNat) % (((wrote_m d ((x30 : Nat) : Int)).length) + 1)) : Nat) : Int)) rfl rfl (run_mv rfl rfl) ?_
    simp only [nz1, nz2, nz3]
    refine lvw 54 (.int .i64 (((((((fates.getD x29 0).toNat) % (((wrote_m d ((x30 : Nat) : Int)).length) + 1)) : Nat) : Int) - (1 : Int)))) rfl rfl (z_sub (((((fates.getD x29 0).toNat) % (((wrote_m d ((x30 : Nat) : Int)).length) + 1)) : Nat) : Int) (1 : Int) _ (by have h1 := Nat.mod_lt ((fates.getD x29 0).toNat) (show 0 < (((wrote_m d ((x30 : Nat) : Int)).length) + 1) from Nat.succ_pos _); have h2 := Nat.mod_le ((fates.getD x29 0).toNat) (((wrote_m d ((x30 : Nat) : Int)).length) + 1); have h3 := (fates.getD x29 0).toNat_lt; rw [IntKind.wrap_i64]; omega) rfl rfl rfl) ?_
    simp only [nz1, nz2, nz3]
    refine lvw 55 (.pointer (some ⟨(bk v51), (po v51 + ((((((fates.getD x29 0).toNat) % (((wrote_m d ((x30 : Nat) : Int)).length) + 1)) : Nat) : Int) - (1 : Int)).toNat * 1), none⟩)) rfl rfl (r_ixvZ ((hm58.see 5 rfl)) ((((((fates.getD x29 0).toNat) % (((wrote_m d ((x30 : Nat) : Int)).length) + 1)) : Nat) : Int) - (1 : Int)) (by have h1 := Nat.mod_lt ((fates.getD x29 0).toNat) (show 0 < (((wrote_m d ((x30 : Nat) : Int)).length) + 1) from Nat.succ_pos _); have h2 := Nat.mod_le ((fates.getD x29 0).toNat) (((wrote_m d ((x30 : Nat) : Int)).length) + 1); have h3 := (fates.getD x29 0).toNat_lt; omega) (by have h1 := Nat.mod_lt ((fates.getD x29 0).toNat) (show 0 < (((wrote_m d ((x30 : Nat) : Int)).length) + 1) from Nat.succ_pos _); have h2 := Nat.mod_le ((fates.getD x29 0).toNat) (((wrote_m d ((x30 : Nat) : Int)).length) + 1); have h3 := (fates.getD x29 0).toNat_lt; omega) Try.underlying22 sz_9 rfl rfl rfl) ?_
    simp only [nz1, nz2, nz3]
    refine lvw 56 (.string (tx ((wrote_m d ((x30 : Nat) : Int)).getD (((((((fates.getD x29 0).toNat) % (((wrote_m d ((x30 : Nat) : Int)).length) + 1)) : Nat) : Int) - (1 : Int)).toNat) []))) rfl rfl (r_cellw (Rs.cell ((hm58.see 5 rfl)) eS_len [] (((((((fates.getD x29 0).toNat) % (((wrote_m d ((x30 : Nat) : Int)).length) + 1)) : Nat) : Int) - (1 : Int)).toNat) (by have h1 := Nat.mod_lt ((fates.getD x29 0).toNat) (show 0 < (((wrote_m d ((x30 : Nat) : Int)).length) + 1) from Nat.succ_pos _); have h2 := Nat.mod_le ((fates.getD x29 0).toNat) (((wrote_m d ((x30 : Nat) : Int)).length) + 1); have h3 := (fates.getD x29 0).toNat_lt; omega) 0 _ rfl) Try.underlying9 rfl rfl rfl) ?_
    simp only [nz1, nz2, nz3]
    refine lvw 57 (.pointer (some ⟨(bk v25), (po v25 + x30 * 1), none⟩)) rfl rfl (r_ixv (Rs.row (hm58.row 4 rfl)) x30 (by omega) Try.underlying22 sz_9 rfl rfl rfl) ?_
    simp only [nz1, nz2, nz3]
    refine lst rfl (m_setR 4 (l := l31) x30 ((wrote_m d ((x30 : Nat) : Int)).getD (((((((fates.getD x29 0).toNat) % (((wrote_m d ((x30 : Nat) : Int)).length) + 1)) : Nat) : Int) - (1 : Int)).toNat) []) (.string (tx ((wrote_m d ((x30 : Nat) : Int)).getD (((((((fates.getD x29 0).toNat) % (((wrote_m d ((x30 : Nat) : Int)).length) + 1)) : Nat) : Int) - (1 : Int)).toNat) []))) hm58 rfl rfl rfl (by omega) rfl rfl sz_9 eS_len rfl rfl (fun w70 (hm71 : Mm none S w w70 [.see (DkR d dv0 dv1) Fd, .see (Rs eB 1 fates fatesv0) Ffates, .blk g4 #[dv0, dv1, .int .i64 (d.fuse), .bool (d.down)] 25, .blk g7 #[.slice none 0 0, .slice none 0 0, .int .i64 0, .bool false] 25, .row v25 (l31.set x30 ((wrote_m d ((x30 : Nat) : Int)).getD (((((((fates.getD x29 0).toNat) % (((wrote_m d ((x30 : Nat) : Int)).length) + 1)) : Nat) : Int) - (1 : Int)).toNat) [])).length ((l31.set x30 ((wrote_m d ((x30 : Nat) : Int)).getD (((((((fates.getD x29 0).toNat) % (((wrote_m d ((x30 : Nat) : Int)).length) + 1)) : Nat) : Int) - (1 : Int)).toNat) [])).flatMap eS) 9 1, .see (Rs eS 1 (wrote_m d ((x30 : Nat) : Int)) v51) F53]) => ?_))
    refine wpList_nil ?_
    refine blk_n ?_
    refine then_n (hK47 _ _ ?_)
    refine wp_region_lit ?_
    refine lvw 25 (.int .i64 ((x30 : Nat) : Int)) rfl rfl (run_mv rfl rfl) ?_
    simp only [nz1, nz2, nz3]
    refine lvw 26 (.int .i64 (((x30 + 1) : Nat) : Int)) rfl rfl (r_add x30 1 (show (x30 + 1) < 9223372036854775808 from by omega) rfl rfl rfl) ?_
    simp only [nz1, nz2, nz3]
    refine lvw 10 (.int .i64 (((x30 + 1) : Nat) : Int)) rfl rfl (run_as rfl rfl) ?_
    simp only [nz1, nz2, nz3]
    refine wpList_nil ?_
    refine then_n (hR41 _ _ _ ⟨k33, (x29 + 1), (x30 + 1), (l31.set x30 ((wrote_m d ((x30 : Nat) : Int)).getD (((((((fates.getD x29 0).toNat) % (((wrote_m d ((x30 : Nat) : Int)).length) + 1)) : Nat) : Int) - (1 : Int)).toNat) [])), (fun qq => bif Nat.blt qq 24 then List.getD [v51, .int .i64 (((((fates.getD x29 0).toNat) % (((wrote_m d ((x30 : Nat) : Int)).length) + 1)) : Nat) : Int), .int .i64 ((x30 : Nat) : Int), v25, .int .i64 ((l31.length : Nat) : Int), .bool (decide (x30 < l31.length)), .int .i64 ((x30 : Nat) : Int), .int .i64 (((x30 + 1) : Nat) : Int), .agg #[dv0, dv1, .int .i64 (d.fuse), .bool (d.down)], .int .i64 ((x30 : Nat) : Int), v51, v51, .int .i64 (((wrote_m d ((x30 : Nat) : Int)).length : Nat) : Int), .bool (decide ((wrote_m d ((x30 : Nat) : Int)).length = 0)), .int .i64 ((x29 : Nat) : Int), fatesv0, .int .i64 ((fates.length : Nat) : Int), .bool (decide (x29 < fates.length)), fatesv0, .int .i64 ((x29 : Nat) : Int), .pointer (some ⟨(bk fatesv0), (po fatesv0 + x29 * 1), none⟩), .int .u8 (((fates.getD x29 0).toNat : Nat) : Int), .int .i64 (((fates.getD x29 0).toNat : Nat) : Int), v51] qq undef else List.getD [.int .i64 (((wrote_m d ((x30 : Nat) : Int)).length : Nat) : Int), .int .i64 (((((wrote_m d ((x30 : Nat) : Int)).length) + 1) : Nat) : Int), .int .i64 (((((fates.getD x29 0).toNat) % (((wrote_m d ((x30 : Nat) : Int)).length) + 1)) : Nat) : Int), .int .i64 ((x29 : Nat) : Int), .int .i64 (((x29 + 1) : Nat) : Int), .int .i64 (((((fates.getD x29 0).toNat) % (((wrote_m d ((x30 : Nat) : Int)).length) + 1)) : Nat) : Int), .bool (decide (0 < (((fates.getD x29 0).toNat) % (((wrote_m d ((x30 : Nat) : Int)).length) + 1)))), v25, .int .i64 ((x30 : Nat) : Int), v51, .int .i64 (((((fates.getD x29 0).toNat) % (((wrote_m d ((x30 : Nat) : Int)).length) + 1)) : Nat) : Int), .int .i64 (((((((fates.getD x29 0).toNat) % (((wrote_m d ((x30 : Nat) : Int)).length) + 1)) : Nat) : Int) - (1 : Int))), .pointer (some ⟨(bk v51), (po v51 + ((((((fates.getD x29 0).toNat) % (((wrote_m d ((x30 : Nat) : Int)).length) + 1)) : Nat) : Int) - (1 : Int)).toNat * 1), none⟩), .string (tx ((wrote_m d ((x30 : Nat) : Int)).getD (((((((fates.getD x29 0).toNat) % (((wrote_m d ((x30 : Nat) : Int)).length) + 1)) : Nat) : Int) - (1 : Int)).toNat) [])), .pointer (some ⟨(bk v25), (po v25 + x30 * 1), none⟩)] (qq - 24) undef), rfl, (by first | omega | (simp; omega) | (simp at *; omega)), (hi34.trans (show rcrash_m_b0 d fates fuse (rcrash_m_l0 d fates fuse k33) x29 x30 l31 = rcrash_m_l0 d fates fuse k33 ((x29 + 1), (x30 + 1), (l31.set x30 ((wrote_m d ((x30 : Nat) : Int)).getD (((((((fates.getD x29 0).toNat) % (((wrote_m d ((x30 : Nat) : Int)).length) + 1)) : Nat) : Int) - (1 : Int)).toNat) []))) from by unfold rcrash_m_b0; rw [if_pos hc46, if_neg hc62, if_pos hc66, if_pos hc69] <;> rfl)), (by first | exact hls | (rw [List.length_set]; exact hls)), (by omega), rfl, (Mm.reorder hm71 [0, 1, 2, 3, 4] (by decide) rfl)⟩ ?_)
    omega
  rintro _ w77 ⟨y35, y36, y37, yu0, hx38, hls, hnx, rfl, hm78⟩
  have hq79 : rcrash_m d fates fuse = rcrash_m_k0 d fates fuse y35 y36 y37 := (show rcrash_m d fates fuse = rcrash_m_k0 d fates fuse y35 y36 y37 from by unfold rcrash_m; rw [if_neg hc12, hx38] <;> rfl)
  refine then_n (hK27 _ _ ?_)
  refine wp_seq_k (fun K80 hK80 => ?_)
  refine wp_region_lit ?_
  refine lvw 58 (v25) rfl rfl (run_mv rfl rfl) ?_
  simp only [nz1, nz2, nz3]
  refine lvw 59 (.int .i64 (fuse)) rfl rfl (run_mv rfl rfl) ?_
  simp only [nz1, nz2, nz3]
  refine lvw 60 (.agg #[v25, .slice none 0 0, .int .i64 (fuse), .bool false]) rfl rfl (by obtain ⟨ao, cc, hv⟩ := Rd.form (Rs.row (hm78.row 4 rfl)); subst hv; unfold execOp; go_simp; try rfl) ?_
  simp only [nz1, nz2, nz3]
  have ho83 := (rd_one (Rs.row (hm78.row 4 rfl)))
  have ho84 := (show (Value.slice none 0 0).oneCell' = true from rfl)
  refine lst rfl (m_store 3 25 _ _ 0 (.agg #[v25, .slice none 0 0, .int .i64 (fuse), .bool false]) (old := #[.slice none 0 0, .slice none 0 0, .int .i64 0, .bool false]) (new := #[v25, .slice none 0 0, .int .i64 (fuse), .bool false]) hm78 rfl rfl rfl rfl rfl (by exact sz_25) (show 0 + 4 ≤ 4 from by decide) (by rw [Array.all_eq_true_iff_forall_mem]; intro x hx; simp only [Value.cells, List.mem_toArray, List.mem_cons, List.not_mem_nil, or_false] at hx; rcases hx with rfl | rfl | rfl | rfl <;> first | rfl | assumption) rfl (fun w81 (hm82 : Mm none S w w81 [.see (DkR d dv0 dv1) Fd, .see (Rs eB 1 fates fatesv0) Ffates, .blk g4 #[dv0, dv1, .int .i64 (d.fuse), .bool (d.down)] 25, .blk g7 #[v25, .slice none 0 0, .int .i64 (fuse), .bool false] 25, .row v25 y37.length (y37.flatMap eS) 9 1]) => ?_))
  refine lvw 7 (.int .i64 0) rfl rfl (run_as rfl rfl) ?_
  simp only [nz1, nz2, nz3]
  refine wpList_nil ?_
  refine then_n (hK80 _ _ ?_)
  refine wp_ret ?_
  have hm85 : Mm none S w w81 [.see (DkR d dv0 dv1) Fd, .see (Rs eB 1 fates fatesv0) Ffates, .blk g4 #[dv0, dv1, .int .i64 (d.fuse), .bool (d.down)] 25, .blk g7 #[v25, .slice none 0 0, .int .i64 (fuse), .bool false] 25, .see (Rs eS 1 y37 v25) (fp v25 (y37.flatMap eS))] := hm82.freeze 4 rfl
  have he86 : rcrash_m d fates fuse = ((Dk.mk y37 ([] : List Wr) fuse false), 0) := (hq79.trans (show rcrash_m_k0 d fates fuse y35 y36 y37 = ((Dk.mk y37 ([] : List Wr) fuse false), 0) from by unfold rcrash_m_k0; rfl))
  exact ⟨rfl, .tuple #[.agg #[v25, .slice none 0 0, .int .i64 (fuse), .bool false], .int .i64 0], Mem.res_ct rfl rfl (hm85.at 3 rfl) Try.underlying25 rfl (by exact sz_25) rfl, ⟨⟨_, rfl, v25, (.slice none 0 0), (by first | rfl | rw [he86]), by rw [he86]; exact hm85.give ((hm85.from 4 rfl).and (From.pure (fun W => Rs.nil eWr 2 W)))⟩, hm85.below⟩⟩
theorem run_rcrash {o : Oper} {a : Act} {w : World} {x0 x1 x2 : Operand} {v0 v1 v2 : Value} (ho : o.op = .call { callee := .value (.func 24), args := #[x0, x1, x2], argTypes := #[25, 37, 3] }) (h0 : a.eval x0 = v0) (h1 : a.eval x1 = v1) (h2 : a.eval x2 = v2) :
    (execOp a.eval o).run Try.prog w = .ok (.enter 24 #[v0, v1, v2]) w := by
  unfold execOp
  simp only [ho]
  have hf : a.eval (.func 24) = .func (.func 24) #[] #[] := rfl
  generalize a.eval = f at *
  go_simp
end Go.Proofs.Ytmammofbgllceaa.Bk
