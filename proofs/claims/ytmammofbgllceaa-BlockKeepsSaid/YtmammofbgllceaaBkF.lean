/- Layer 15: crashes. -/
import Derived.Test.YtmammofbgllceaaBkE
namespace Go.Proofs.Ytmammofbgllceaa.Bk
open Go.RowKit
open Go.Proofs.Ytmammofbgllceaa.Sym Go.Proofs.Ytmammofbgllceaa.Mem
open Go.Proofs.Ytmammofbgllceaa.Sx hiding Mm m_alloc m_store m_put m_call m_callx m_make m_append r_string r_ixS
set_option linter.unusedVariables false
attribute [local irreducible] wpList Oper.wp

theorem crash_ix {d : Dk} (h : ¬ (!right_m d) = true) (x : Nat) (hx : x < (copied_m d).loose.length) : 0 ≤ ((copied_m d).loose.getD x dWr).at_ ∧ ((copied_m d).loose.getD x dWr).at_ < ((copied_m d).safe.length : Int) := by
  rw [copied_eq] at hx ⊢
  have h1 : right_m d = true := by
    cases h2 : right_m d with
    | true => rfl
    | false => rw [h2] at h; exact absurd rfl h
  have := ((right_iff d).1 h1).2.2.2 _ (getD_mem d.loose x dWr hx)
  exact ⟨this.1, this.2.1⟩
theorem fill_len {α : Type} {l : List (List α)} {x : Nat} (h : ∀ k, (l.getD k []).length ≤ x) (j : Nat) (y : α) : ∀ k, ((l.set j (l.getD j [] ++ [y])).getD k []).length ≤ x + 1 := by
  intro k
  rw [List.getD_eq_getElem?_getD, List.getElem?_set]
  by_cases hj : j = k
  · rw [if_pos hj]
    by_cases hl : j < l.length
    · rw [if_pos hl]
      simp only [Option.getD_some, List.length_append, List.length_singleton]
      have := h j
      omega
    · rw [if_neg hl]
      simp
  · rw [if_neg hj, ← List.getD_eq_getElem?_getD]
    have := h k
    omega
theorem empty_len (n : Nat) : ∀ k, ((List.replicate n ([] : List (List UInt8))).getD k []).length ≤ 0 := by
  intro k
  rw [List.getD_eq_getElem?_getD, List.getElem?_replicate]
  by_cases h : k < n
  · rw [if_pos h]; simp
  · rw [if_neg h]; simp
def crash_m_b0 (d : Dk) (fates : List UInt8) (fuse : Int) (rec : (List (List (List UInt8))) × Nat → Sum ((List (List (List UInt8))) × Nat) (Dk × Int)) (l46 : List (List (List UInt8))) (x48 : Nat) : Sum ((List (List (List UInt8))) × Nat) (Dk × Int) :=
  if x48 < ((copied_m d).loose).length then
    rec ((l46.set (((((copied_m d).loose).getD x48 dWr).at_).toNat) (l46.getD (((((copied_m d).loose).getD x48 dWr).at_).toNat) [] ++ [((((copied_m d).loose).getD x48 dWr).data)])), (x48 + 1))
  else
    .inl (l46, x48)
def crash_m_l0 (d : Dk) (fates : List UInt8) (fuse : Int) : Nat → (List (List (List UInt8))) × Nat → Sum ((List (List (List UInt8))) × Nat) (Dk × Int)
  | 0, s => .inl s
  | nq + 1, s => crash_m_b0 d fates fuse (crash_m_l0 d fates fuse nq) s.1 s.2

def crash_m_b1 (d : Dk) (fates : List UInt8) (fuse : Int) (y52 : List (List (List UInt8))) (y54 : Nat) (rec : Nat × Nat × (List (List UInt8)) → Sum (Nat × Nat × (List (List UInt8))) (Dk × Int)) (x97 : Nat) (x98 : Nat) (l99 : List (List UInt8)) : Sum (Nat × Nat × (List (List UInt8))) (Dk × Int) :=
  if x98 < y52.length then
    if (y52.getD x98 []).length = 0 then
      rec (x97, (x98 + 1), l99)
    else
      if x97 < fates.length then
        if 0 < (((fates.getD x97 0).toNat) % (((y52.getD x98 []).length) + 1)) then
          rec ((x97 + 1), (x98 + 1), (l99.set x98 ((y52.getD x98 []).getD (((((((fates.getD x97 0).toNat) % (((y52.getD x98 []).length) + 1)) : Nat) : Int) - (1 : Int)).toNat) [])))
        else
          rec ((x97 + 1), (x98 + 1), l99)
      else
        if 0 < 0 then
          rec (x97, (x98 + 1), (l99.set x98 ((y52.getD x98 []).getD (((0 : Int) - (1 : Int)).toNat) [])))
        else
          rec (x97, (x98 + 1), l99)
  else
    .inl (x97, x98, l99)
def crash_m_l1 (d : Dk) (fates : List UInt8) (fuse : Int) (y52 : List (List (List UInt8))) (y54 : Nat) : Nat → Nat × Nat × (List (List UInt8)) → Sum (Nat × Nat × (List (List UInt8))) (Dk × Int)
  | 0, s => .inl s
  | nq + 1, s => crash_m_b1 d fates fuse y52 y54 (crash_m_l1 d fates fuse y52 y54 nq) s.1 s.2.1 s.2.2

def crash_m_k1 (d : Dk) (fates : List UInt8) (fuse : Int) (y52 : List (List (List UInt8))) (y54 : Nat) (y103 : Nat) (y104 : Nat) (y105 : List (List UInt8)) : Dk × Int :=
  ((Dk.mk y105 ([] : List Wr) fuse false), 0)

def crash_m_k0 (d : Dk) (fates : List UInt8) (fuse : Int) (y52 : List (List (List UInt8))) (y54 : Nat) : Dk × Int :=
  fin (crash_m_l1 d fates fuse y52 y54 ((y52.length - 0) + 1) (0, 0, ((copied_m d).safe))) (fun r => r) (fun s => crash_m_k1 d fates fuse y52 y54 s.1 s.2.1 s.2.2)

def crash_m (d : Dk) (fates : List UInt8) (fuse : Int) : Dk × Int :=
  if (!(right_m d)) = true then
    (d, 1)
  else
    fin (crash_m_l0 d fates fuse ((((copied_m d).loose).length - 0) + 1) ((List.replicate (((copied_m d).safe).length) ([] : List (List UInt8))), 0)) (fun r => r) (fun s => crash_m_k0 d fates fuse s.1 s.2)

set_option maxHeartbeats 4000000 in
set_option maxRecDepth 100000 in
theorem crash_any (d : Dk) (fates : List UInt8) (fuse : Int) (dv0 dv1 fatesv0 : Value) (S : Nat → Prop) (w : World) (hd : From S (DkR d dv0 dv1) w) (hfates : From S (Rs eB 1 fates fatesv0) w) (hp0 : d.safe.length ≤ 8796093022208) (hp1 : d.loose.length ≤ 5864062014804) (hp2 : fates.length ≤ 140737488355328) : Calls Try.prog 23 #[.agg #[dv0, dv1, .int .i64 (d.fuse), .bool (d.down)], fatesv0, .int .i64 (fuse)] w (fun e w' => (∃ v, e = .returned v ∧ ∃ o0 o1 : Value, v = .tuple #[.agg #[o0, o1, .int .i64 (((crash_m d fates fuse).1).fuse), .bool (((crash_m d fates fuse).1).down)], .int .i64 ((crash_m d fates fuse).2)] ∧ Gives w w' S (DkR ((crash_m d fates fuse).1) o0 o1)) ∧ Below w.heap.size w w') := by
  go_enter Try.func23, Try.ntmps23
  have hm00 := Mm.nil none S w
  obtain ⟨Fd, hm01⟩ : ∃ Fd, Mm none S w w [.see (DkR d dv0 dv1) Fd] := hm00.come hd
  obtain ⟨Ffates, hm02⟩ : ∃ Ffates, Mm none S w w [.see (DkR d dv0 dv1) Fd, .see (Rs eB 1 fates fatesv0) Ffates] := hm01.come hfates
  have hm0 := hm02
  refine wp_seq_k (fun K1 hK1 => ?_)
  refine wp_region_lit ?_
  refine lst rfl (m_alloc (c := #[dv0, dv1, .int .i64 (d.fuse), .bool (d.down)]) (T := 25) hm0 3 rfl (run_box rfl rfl) (fun g4 w2 (hm3 : Mm none S w w2 [.see (DkR d dv0 dv1) Fd, .see (Rs eB 1 fates fatesv0) Ffates, .blk g4 #[dv0, dv1, .int .i64 (d.fuse), .bool (d.down)] 25]) => ?_))
  simp only [nz1, nz2, nz3]
  refine lst rfl (m_alloc (c := #[.slice none 0 0, .slice none 0 0, .int .i64 0, .bool false]) (T := 25) hm3 6 rfl (by unfold execOp; go_simp; try rfl) (fun g7 w5 (hm6 : Mm none S w w5 [.see (DkR d dv0 dv1) Fd, .see (Rs eB 1 fates fatesv0) Ffates, .blk g4 #[dv0, dv1, .int .i64 (d.fuse), .bool (d.down)] 25, .blk g7 #[.slice none 0 0, .slice none 0 0, .int .i64 0, .bool false] 25]) => ?_))
  simp only [nz1, nz2, nz3]
  refine lvw 7 (.int .i64 0) rfl rfl (run_as rfl rfl) ?_
  simp only [nz1, nz2, nz3]
  refine wpList_nil ?_
  refine then_n (hK1 _ _ ?_)
  refine wp_seq_k (fun K8 hK8 => ?_)
  refine wp_seq_k (fun K9 hK9 => ?_)
  refine wp_region_lit ?_
  refine lvw 15 (.agg #[dv0, dv1, .int .i64 (d.fuse), .bool (d.down)]) rfl rfl (r_whole (hm6.at 2 rfl) Try.underlying25 rfl (by exact sz_25) rfl rfl) ?_
  simp only [nz1, nz2, nz3]
  refine lst rfl (m_call hm6 16 (.bool ((right_m d))) rfl (run_right rfl rfl) (right_any d dv0 dv1 _ (hm6.see 0 rfl) (by first | omega | assumption | decide | (simp; done) | (simp; omega))) (fun w10 (hm11 : Mm none S w w10 [.see (DkR d dv0 dv1) Fd, .see (Rs eB 1 fates fatesv0) Ffates, .blk g4 #[dv0, dv1, .int .i64 (d.fuse), .bool (d.down)] 25, .blk g7 #[.slice none 0 0, .slice none 0 0, .int .i64 0, .bool false] 25]) => ?_))
  simp only [nz1, nz2, nz3]
  refine lvw 17 (.bool (!(right_m d))) rfl rfl (r_not (right_m d) rfl rfl) ?_
  simp only [nz1, nz2, nz3]
  refine wpList_nil ?_
  refine then_n (hK9 _ _ ?_)
  refine cond_B (!(right_m d)) rfl (fun hc12 => ?_) (fun hc12 => ?_)
  · refine wp_seq_k (fun K13 hK13 => ?_)
    refine wp_region_lit ?_
    refine lvw 18 (.agg #[dv0, dv1, .int .i64 (d.fuse), .bool (d.down)]) rfl rfl (r_whole (hm11.at 2 rfl) Try.underlying25 rfl (by exact sz_25) rfl rfl) ?_
    simp only [nz1, nz2, nz3]
    have ho16 := (rd_one ((hm11.see 0 rfl).1))
    have ho17 := (rd_one ((hm11.see 0 rfl).2))
    refine lst rfl (m_store 3 25 _ _ 0 (.agg #[dv0, dv1, .int .i64 (d.fuse), .bool (d.down)]) (old := #[.slice none 0 0, .slice none 0 0, .int .i64 0, .bool false]) (new := #[dv0, dv1, .int .i64 (d.fuse), .bool (d.down)]) hm11 rfl rfl rfl rfl rfl (by exact sz_25) (show 0 + 4 ≤ 4 from by decide) (by rw [Array.all_eq_true_iff_forall_mem]; intro x hx; simp only [Value.cells, List.mem_toArray, List.mem_cons, List.not_mem_nil, or_false] at hx; rcases hx with rfl | rfl | rfl | rfl <;> first | rfl | assumption) rfl (fun w14 (hm15 : Mm none S w w14 [.see (DkR d dv0 dv1) Fd, .see (Rs eB 1 fates fatesv0) Ffates, .blk g4 #[dv0, dv1, .int .i64 (d.fuse), .bool (d.down)] 25, .blk g7 #[dv0, dv1, .int .i64 (d.fuse), .bool (d.down)] 25]) => ?_))
    refine lvw 7 (.int .i64 1) rfl rfl (run_as rfl rfl) ?_
    simp only [nz1, nz2, nz3]
    refine wpList_nil ?_
    refine then_n (hK13 _ _ ?_)
    refine wp_ret ?_
    refine then_r ?_
    have he18 : crash_m d fates fuse = (d, 1) := (show crash_m d fates fuse = (d, 1) from by unfold crash_m; rw [if_pos hc12] <;> rfl)
    exact ⟨rfl, .tuple #[.agg #[dv0, dv1, .int .i64 (d.fuse), .bool (d.down)], .int .i64 1], Mem.res_ct rfl rfl (hm15.at 3 rfl) Try.underlying25 rfl (by exact sz_25) rfl, ⟨⟨_, rfl, dv0, dv1, (by first | rfl | rw [he18]), by rw [he18]; exact hm15.give (hm15.from 0 rfl)⟩, hm15.below⟩⟩
  refine wp_skip ?_
  refine then_n (hK8 _ _ ?_)
  refine wp_seq_k (fun K19 hK19 => ?_)
  refine wp_region_lit ?_
  refine lvw 19 (.agg #[dv0, dv1, .int .i64 (d.fuse), .bool (d.down)]) rfl rfl (r_whole (hm11.at 2 rfl) Try.underlying25 rfl (by exact sz_25) rfl rfl) ?_
  simp only [nz1, nz2, nz3]
  refine lst rfl (m_callx hm11 20 rfl (run_copied rfl rfl) (copied_any d dv0 dv1 _ (hm11.see 0 rfl) (by first | omega | assumption | decide | (simp; done) | (simp; omega)) (by first | omega | assumption | decide | (simp; done) | (simp; omega))) (fun vv24 w20 hR25 hb26 hm21 => ?_))
  obtain ⟨v22, v23, rfl, ho28, ho29, hne30⟩ := hR25
  have hm27 : Mm none S w w20 [.see (DkR d dv0 dv1) Fd, .see (Rs eB 1 fates fatesv0) Ffates, .blk g4 #[dv0, dv1, .int .i64 (d.fuse), .bool (d.down)] 25, .blk g7 #[.slice none 0 0, .slice none 0 0, .int .i64 0, .bool false] 25, .row v22 ((copied_m d).safe).length (((copied_m d).safe).flatMap eS) 9 1, .row v23 ((copied_m d).loose).length (((copied_m d).loose).flatMap eWr) 42 2] := hm11.gained2 hb26 ho28 ho29 hne30
  clear hm21
  have hf31 : (copied_m d).fuse = d.fuse := congrArg Dk.fuse (copied_eq d)
  have hf32 : (copied_m d).loose.length = d.loose.length := congrArg (fun x : Dk => x.loose.length) (copied_eq d)
  have hf33 : (copied_m d).safe.length = d.safe.length := congrArg (fun x : Dk => x.safe.length) (copied_eq d)
  simp only [nz1, nz2, nz3]
  have ho36 := (rd_one (Rs.row (hm27.row 4 rfl)))
  have ho37 := (rd_one (Rs.row (hm27.row 5 rfl)))
  refine lst rfl (m_store 2 25 _ _ 0 (.agg #[v22, v23, .int .i64 ((copied_m d).fuse), .bool ((copied_m d).down)]) (old := #[dv0, dv1, .int .i64 (d.fuse), .bool (d.down)]) (new := #[v22, v23, .int .i64 ((copied_m d).fuse), .bool ((copied_m d).down)]) hm27 rfl rfl rfl rfl rfl (by exact sz_25) (show 0 + 4 ≤ 4 from by decide) (by rw [Array.all_eq_true_iff_forall_mem]; intro x hx; simp only [Value.cells, List.mem_toArray, List.mem_cons, List.not_mem_nil, or_false] at hx; rcases hx with rfl | rfl | rfl | rfl <;> first | rfl | assumption) rfl (fun w34 (hm35 : Mm none S w w34 [.see (DkR d dv0 dv1) Fd, .see (Rs eB 1 fates fatesv0) Ffates, .blk g4 #[v22, v23, .int .i64 ((copied_m d).fuse), .bool ((copied_m d).down)] 25, .blk g7 #[.slice none 0 0, .slice none 0 0, .int .i64 0, .bool false] 25, .row v22 ((copied_m d).safe).length (((copied_m d).safe).flatMap eS) 9 1, .row v23 ((copied_m d).loose).length (((copied_m d).loose).flatMap eWr) 42 2]) => ?_))
  refine wpList_nil ?_
  refine then_n (hK19 _ _ ?_)
  refine wp_seq_k (fun K38 hK38 => ?_)
  refine wp_region_lit ?_
  refine lvw 21 (.pointer (some ⟨g4, 0, none⟩)) rfl rfl (r_fa25_0 g4 0 rfl rfl) ?_
  simp only [nz1, nz2, nz3]
  refine lvw 22 (v22) rfl rfl (r_load (hm35.at 2 rfl) rfl Try.underlying22 rfl rfl rfl) ?_
  simp only [nz1, nz2, nz3]
  refine lvw 23 (.int .i64 ((((copied_m d).safe).length : Nat) : Int)) rfl rfl (s_len (Rs.row (hm35.row 4 rfl)) rfl Try.underlying22 rfl) ?_
  simp only [nz1, nz2, nz3]
  obtain ⟨iq, hiq, hz1, hz2, hz3⟩ := inf_22
  refine lst rfl (m_makeF (e := 9) (((copied_m d).safe).length) iq _ hm35 24 rfl rfl Try.underlying71 hiq hz1 hz2 hz3 rfl rfl rfl (by first | omega | (simp; omega)) (by first | omega | (simp; omega)) (fun v41 w39 (hm40 : Mm none S w w39 _) => ?_))
  have hm43 : Mm none S w w39 [.see (DkR d dv0 dv1) Fd, .see (Rs eB 1 fates fatesv0) Ffates, .blk g4 #[v22, v23, .int .i64 ((copied_m d).fuse), .bool ((copied_m d).down)] 25, .blk g7 #[.slice none 0 0, .slice none 0 0, .int .i64 0, .bool false] 25, .row v22 ((copied_m d).safe).length (((copied_m d).safe).flatMap eS) 9 1, .row v23 ((copied_m d).loose).length (((copied_m d).loose).flatMap eWr) 42 2, .row v41 (List.replicate (((copied_m d).safe).length) (Value.slice none 0 0)).length ((List.replicate (((copied_m d).safe).length) (Value.slice none 0 0)).flatMap eV) 22 1, .fam (List.replicate (((copied_m d).safe).length) (Value.slice none 0 0)) (List.map (List.flatMap eS) (List.replicate (((copied_m d).safe).length) ([] : List (List UInt8)))) 9] := by rw [show (List.map (List.flatMap eS) (List.replicate (((copied_m d).safe).length) ([] : List (List UInt8)))) = List.replicate (((copied_m d).safe).length) [] from by rw [List.map_replicate]; rfl]; exact hm40
  clear hm40
  simp only [nz1, nz2, nz3]
  refine lvw 8 (v41) rfl rfl (run_as rfl rfl) ?_
  simp only [nz1, nz2, nz3]
  refine wpList_nil ?_
  refine then_n (hK38 _ _ ?_)
  refine wp_seq_k (fun K44 hK44 => ?_)
  refine wp_seq_k (fun K45 hK45 => ?_)
  refine wp_region_lit ?_
  refine lvw 25 (.pointer (some ⟨g4, 1, none⟩)) rfl rfl (r_fa25_1 g4 0 rfl rfl) ?_
  simp only [nz1, nz2, nz3]
  refine lvw 26 (v23) rfl rfl (r_load (hm43.at 2 rfl) rfl Try.underlying23 rfl rfl rfl) ?_
  simp only [nz1, nz2, nz3]
  refine lvw 27 (.int .i64 ((((copied_m d).loose).length : Nat) : Int)) rfl rfl (s_len (Rs.row (hm43.row 5 rfl)) rfl Try.underlying23 rfl) ?_
  simp only [nz1, nz2, nz3]
  refine lvw 28 (.int .i64 0) rfl rfl (run_mv rfl rfl) ?_
  simp only [nz1, nz2, nz3]
  refine wpList_nil ?_
  refine then_n (hK45 _ _ ?_)
  refine wp_cutK (fun a' w' => ∃ (y52 : List (List (List UInt8))) (y54 : Nat) (vs53 : List Value) (yu0 : Nat → Value), crash_m_l0 d fates fuse ((((copied_m d).loose).length - 0) + 1) ((List.replicate (((copied_m d).safe).length) ([] : List (List UInt8))), 0) = .inl (y52, y54) ∧ (y52.length = (copied_m d).safe.length) ∧ (y54 ≤ (copied_m d).loose.length) ∧ (∀ k, (y52.getD k []).length ≤ y54) ∧ a' = ⟨#[.agg #[dv0, dv1, .int .i64 (d.fuse), .bool (d.down)], fatesv0, .int .i64 (fuse), .pointer (some ⟨g4, 0, none⟩), undef, undef, .pointer (some ⟨g7, 0, none⟩), .int .i64 0, v41, undef, yu0 0, undef, undef, undef, undef, .agg #[dv0, dv1, .int .i64 (d.fuse), .bool (d.down)], .bool ((right_m d)), .bool (!(right_m d)), undef, .agg #[dv0, dv1, .int .i64 (d.fuse), .bool (d.down)], .agg #[v22, v23, .int .i64 ((copied_m d).fuse), .bool ((copied_m d).down)], .pointer (some ⟨g4, 0, none⟩), v22, .int .i64 ((((copied_m d).safe).length : Nat) : Int), v41, .pointer (some ⟨g4, 1, none⟩), v23, .int .i64 ((((copied_m d).loose).length : Nat) : Int), .int .i64 ((y54 : Nat) : Int), yu0 1, yu0 2, yu0 3, yu0 4, yu0 5, yu0 6, yu0 7, yu0 8, yu0 9, yu0 10, yu0 11, yu0 12, yu0 13, yu0 14, yu0 15, yu0 16, yu0 17, undef, undef, undef, undef, undef, undef, undef, undef, undef, undef, undef, undef, undef, undef, undef, undef, undef, undef, undef, undef, undef, undef, undef, undef, undef, undef, undef, undef, undef, undef, undef, undef, undef, undef, undef, undef, undef, undef, undef, undef, undef, undef], []⟩ ∧ Mm none S w w' [.see (DkR d dv0 dv1) Fd, .see (Rs eB 1 fates fatesv0) Ffates, .blk g4 #[v22, v23, .int .i64 ((copied_m d).fuse), .bool ((copied_m d).down)] 25, .blk g7 #[.slice none 0 0, .slice none 0 0, .int .i64 0, .bool false] 25, .row v22 ((copied_m d).safe).length (((copied_m d).safe).flatMap eS) 9 1, .row v23 ((copied_m d).loose).length (((copied_m d).loose).flatMap eWr) 42 2, .row v41 vs53.length (vs53.flatMap eV) 22 1, .fam vs53 (List.map (List.flatMap eS) y52) 9]) ?_ ?_
  · refine wp_block ?_
    refine wp_loop_n (fun n' a' w' => ∃ (n49 : Nat) (l46 : List (List (List UInt8))) (x48 : Nat) (vs47 : List Value) (u0 : Nat → Value), n' = n49 ∧ (((copied_m d).loose).length - x48) < n49 ∧ crash_m_l0 d fates fuse ((((copied_m d).loose).length - 0) + 1) ((List.replicate (((copied_m d).safe).length) ([] : List (List UInt8))), 0) = crash_m_l0 d fates fuse n49 (l46, x48) ∧ (l46.length = (copied_m d).safe.length) ∧ (x48 ≤ (copied_m d).loose.length) ∧ (∀ k, (l46.getD k []).length ≤ x48) ∧ a' = ⟨#[.agg #[dv0, dv1, .int .i64 (d.fuse), .bool (d.down)], fatesv0, .int .i64 (fuse), .pointer (some ⟨g4, 0, none⟩), undef, undef, .pointer (some ⟨g7, 0, none⟩), .int .i64 0, v41, undef, u0 0, undef, undef, undef, undef, .agg #[dv0, dv1, .int .i64 (d.fuse), .bool (d.down)], .bool ((right_m d)), .bool (!(right_m d)), undef, .agg #[dv0, dv1, .int .i64 (d.fuse), .bool (d.down)], .agg #[v22, v23, .int .i64 ((copied_m d).fuse), .bool ((copied_m d).down)], .pointer (some ⟨g4, 0, none⟩), v22, .int .i64 ((((copied_m d).safe).length : Nat) : Int), v41, .pointer (some ⟨g4, 1, none⟩), v23, .int .i64 ((((copied_m d).loose).length : Nat) : Int), .int .i64 ((x48 : Nat) : Int), u0 1, u0 2, u0 3, u0 4, u0 5, u0 6, u0 7, u0 8, u0 9, u0 10, u0 11, u0 12, u0 13, u0 14, u0 15, u0 16, u0 17, undef, undef, undef, undef, undef, undef, undef, undef, undef, undef, undef, undef, undef, undef, undef, undef, undef, undef, undef, undef, undef, undef, undef, undef, undef, undef, undef, undef, undef, undef, undef, undef, undef, undef, undef, undef, undef, undef, undef, undef, undef, undef], []⟩ ∧ Mm none S w w' [.see (DkR d dv0 dv1) Fd, .see (Rs eB 1 fates fatesv0) Ffates, .blk g4 #[v22, v23, .int .i64 ((copied_m d).fuse), .bool ((copied_m d).down)] 25, .blk g7 #[.slice none 0 0, .slice none 0 0, .int .i64 0, .bool false] 25, .row v22 ((copied_m d).safe).length (((copied_m d).safe).flatMap eS) 9 1, .row v23 ((copied_m d).loose).length (((copied_m d).loose).flatMap eWr) 42 2, .row v41 vs47.length (vs47.flatMap eV) 22 1, .fam vs47 (List.map (List.flatMap eS) l46) 9]) ⟨((((copied_m d).loose).length - 0) + 1), (List.replicate (((copied_m d).safe).length) ([] : List (List UInt8))), 0, (List.replicate (((copied_m d).safe).length) (Value.slice none 0 0)), (fun qq => List.getD [undef, undef, undef, undef, undef, undef, undef, undef, undef, undef, undef, undef, undef, undef, undef, undef, undef, undef] qq undef), rfl, Nat.lt_succ_self _, rfl, List.length_replicate, (Nat.zero_le _), (empty_len _), rfl, hm43⟩ ?_
    rintro n49 _ w56 ⟨_, l46, x48, vs47, u0, rfl, hl60, hi51, hfl, hfx, hfb, rfl, hm57⟩ R58 hR58
    obtain ⟨k50, rfl⟩ : ∃ k, n49 = k + 1 := ⟨n49 - 1, by omega⟩
    refine wp_seq_k (fun K61 hK61 => ?_)
    refine wp_region_lit ?_
    refine lvw 29 (.bool (decide (x48 < ((copied_m d).loose).length))) rfl rfl (r_lss x48 (((copied_m d).loose).length) rfl rfl rfl) ?_
    simp only [nz1, nz2, nz3]
    refine wpList_nil ?_
    refine then_n (hK61 _ _ ?_)
    refine wp_seq_k (fun K62 hK62 => ?_)
    refine cond_d (x48 < ((copied_m d).loose).length) rfl (fun hc63 => ?_) (fun hc63 => ?_)
    rotate_left
    · refine wp_exit ?_
      refine then_x ?_
      refine then_x ?_
      refine blk_x ?_
      refine then_n ?_
      exact ⟨l46, x48, vs47, (fun qq => List.getD [u0 0, .bool (decide (x48 < ((copied_m d).loose).length)), u0 2, u0 3, u0 4, u0 5, u0 6, u0 7, u0 8, u0 9, u0 10, u0 11, u0 12, u0 13, u0 14, u0 15, u0 16, u0 17] qq undef), (hi51.trans (show crash_m_b0 d fates fuse (crash_m_l0 d fates fuse k50) l46 x48 = .inl (l46, x48) from by unfold crash_m_b0; rw [if_neg hc63] <;> rfl)), hfl, hfx, hfb, rfl, hm57⟩
    refine wp_skip ?_
    refine then_n (hK62 _ _ ?_)
    refine wp_seq_k (fun K64 hK64 => ?_)
    refine wp_block ?_
    refine wp_seq_k (fun K65 hK65 => ?_)
    refine wp_region_lit ?_
    refine lvw 30 (.pointer (some ⟨(bk v23), (po v23 + x48 * 2), none⟩)) rfl rfl (r_ixv (Rs.row (hm57.row 5 rfl)) x48 (by omega) Try.underlying23 sz_42 rfl rfl rfl) ?_
    simp only [nz1, nz2, nz3]
    refine lvw 31 (.agg #[.int .i64 ((((copied_m d).loose).getD x48 dWr).at_), .string (tx ((((copied_m d).loose).getD x48 dWr).data))]) rfl rfl (r_partw (fun j u hj => Rs.cell (Rs.row (hm57.row 5 rfl)) eWr_len dWr x48 (by omega) j u (arr_get hj)) Try.underlying42 rfl (by exact sz_42) rfl rfl) ?_
    simp only [nz1, nz2, nz3]
    refine lst rfl (m_alloc (c := #[.int .i64 0, .string (tx ([]))]) (T := 42) hm57 10 rfl (by unfold execOp; go_simp; try rfl) (fun g68 w66 (hm67 : Mm none S w w66 [.see (DkR d dv0 dv1) Fd, .see (Rs eB 1 fates fatesv0) Ffates, .blk g4 #[v22, v23, .int .i64 ((copied_m d).fuse), .bool ((copied_m d).down)] 25, .blk g7 #[.slice none 0 0, .slice none 0 0, .int .i64 0, .bool false] 25, .row v22 ((copied_m d).safe).length (((copied_m d).safe).flatMap eS) 9 1, .row v23 ((copied_m d).loose).length (((copied_m d).loose).flatMap eWr) 42 2, .row v41 vs47.length (vs47.flatMap eV) 22 1, .fam vs47 (List.map (List.flatMap eS) l46) 9, .blk g68 #[.int .i64 0, .string (tx ([]))] 42]) => ?_))
    simp only [nz1, nz2, nz3]
    refine lst rfl (m_store 8 42 _ _ 0 (.agg #[.int .i64 ((((copied_m d).loose).getD x48 dWr).at_), .string (tx ((((copied_m d).loose).getD x48 dWr).data))]) (old := #[.int .i64 0, .string (tx ([]))]) (new := #[.int .i64 ((((copied_m d).loose).getD x48 dWr).at_), .string (tx ((((copied_m d).loose).getD x48 dWr).data))]) hm67 rfl rfl rfl rfl rfl (by exact sz_42) (show 0 + 2 ≤ 2 from by decide) (by simp [Value.cells, Value.oneCell']) rfl (fun w69 (hm70 : Mm none S w w69 [.see (DkR d dv0 dv1) Fd, .see (Rs eB 1 fates fatesv0) Ffates, .blk g4 #[v22, v23, .int .i64 ((copied_m d).fuse), .bool ((copied_m d).down)] 25, .blk g7 #[.slice none 0 0, .slice none 0 0, .int .i64 0, .bool false] 25, .row v22 ((copied_m d).safe).length (((copied_m d).safe).flatMap eS) 9 1, .row v23 ((copied_m d).loose).length (((copied_m d).loose).flatMap eWr) 42 2, .row v41 vs47.length (vs47.flatMap eV) 22 1, .fam vs47 (List.map (List.flatMap eS) l46) 9, .blk g68 #[.int .i64 ((((copied_m d).loose).getD x48 dWr).at_), .string (tx ((((copied_m d).loose).getD x48 dWr).data))] 42]) => ?_))
    refine wpList_nil ?_
    refine then_n (hK65 _ _ ?_)
    refine wp_mono (Q := fun e a' w' => e = Exit.normal ∧ ∃ (g75 : Nat) (v78 : Value), a' = ⟨#[.agg #[dv0, dv1, .int .i64 (d.fuse), .bool (d.down)], fatesv0, .int .i64 (fuse), .pointer (some ⟨g4, 0, none⟩), undef, undef, .pointer (some ⟨g7, 0, none⟩), .int .i64 0, v41, undef, .pointer (some ⟨g68, 0, none⟩), undef, undef, undef, undef, .agg #[dv0, dv1, .int .i64 (d.fuse), .bool (d.down)], .bool ((right_m d)), .bool (!(right_m d)), undef, .agg #[dv0, dv1, .int .i64 (d.fuse), .bool (d.down)], .agg #[v22, v23, .int .i64 ((copied_m d).fuse), .bool ((copied_m d).down)], .pointer (some ⟨g4, 0, none⟩), v22, .int .i64 ((((copied_m d).safe).length : Nat) : Int), v41, .pointer (some ⟨g4, 1, none⟩), v23, .int .i64 ((((copied_m d).loose).length : Nat) : Int), .int .i64 ((x48 : Nat) : Int), .bool (decide (x48 < ((copied_m d).loose).length)), .pointer (some ⟨(bk v23), (po v23 + x48 * 2), none⟩), .agg #[.int .i64 ((((copied_m d).loose).getD x48 dWr).at_), .string (tx ((((copied_m d).loose).getD x48 dWr).data))], v41, .pointer (some ⟨g68, 0, none⟩), .int .i64 ((((copied_m d).loose).getD x48 dWr).at_), v41, .pointer (some ⟨g68, 0, none⟩), .int .i64 ((((copied_m d).loose).getD x48 dWr).at_), .pointer (some ⟨(bk v41), (po v41 + (((((copied_m d).loose).getD x48 dWr).at_).toNat) * 1), none⟩), (vs47.getD (((((copied_m d).loose).getD x48 dWr).at_).toNat) (Value.slice none 0 0)), .pointer (some ⟨g68, 1, none⟩), .string (tx ((((copied_m d).loose).getD x48 dWr).data)), .slice (some ⟨g75, 0, none⟩) 1 1, v78, .pointer (some ⟨(bk v41), (po v41 + (((((copied_m d).loose).getD x48 dWr).at_).toNat) * 1), none⟩), u0 17, undef, undef, undef, undef, undef, undef, undef, undef, undef, undef, undef, undef, undef, undef, undef, undef, undef, undef, undef, undef, undef, undef, undef, undef, undef, undef, undef, undef, undef, undef, undef, undef, undef, undef, undef, undef, undef, undef, undef, undef, undef, undef], []⟩ ∧ Mm none S w w' [.see (DkR d dv0 dv1) Fd, .see (Rs eB 1 fates fatesv0) Ffates, .blk g4 #[v22, v23, .int .i64 ((copied_m d).fuse), .bool ((copied_m d).down)] 25, .blk g7 #[.slice none 0 0, .slice none 0 0, .int .i64 0, .bool false] 25, .row v22 ((copied_m d).safe).length (((copied_m d).safe).flatMap eS) 9 1, .row v23 ((copied_m d).loose).length (((copied_m d).loose).flatMap eWr) 42 2, .row v41 (vs47.set (((((copied_m d).loose).getD x48 dWr).at_).toNat) v78).length ((vs47.set (((((copied_m d).loose).getD x48 dWr).at_).toNat) v78).flatMap eV) 22 1, .fam (vs47.set (((((copied_m d).loose).getD x48 dWr).at_).toNat) v78) (List.map (List.flatMap eS) (l46.set (((((copied_m d).loose).getD x48 dWr).at_).toNat) (l46.getD (((((copied_m d).loose).getD x48 dWr).at_).toNat) [] ++ [((((copied_m d).loose).getD x48 dWr).data)]))) 9, .blk g68 #[.int .i64 ((((copied_m d).loose).getD x48 dWr).at_), .string (tx ((((copied_m d).loose).getD x48 dWr).data))] 42, .blk g75 #[.string (tx ((((copied_m d).loose).getD x48 dWr).data))] 9]) ?_ ?_
    · have hm71 := hm70.drew
      refine wp_region_held_drew (S := fun w' => Mem.Blk w' g68 (#[.int .i64 ((((copied_m d).loose).getD x48 dWr).at_), .string (tx ((((copied_m d).loose).getD x48 dWr).data))]) 42) (by kernel_rfl) (hm71.at 8 rfl) (fun _ => ?_)
      generalize w69.drew = w72 at *
      refine Sym.take_at 0 32 (v41) rfl rfl (by kernel_rfl) (by kernel_rfl) (by kernel_rfl) (fun _ _ _ h => nomatch h.1) rfl (fun _ hw => run_mv rfl rfl) (hm71.at 8 rfl) ?_
      simp only [nz1, nz2, nz3]
      refine Sym.take_at 1 33 (.pointer (some ⟨g68, 0, none⟩)) rfl rfl (by kernel_rfl) (by kernel_rfl) (by kernel_rfl) (fun _ _ _ h => nomatch h.1) rfl (fun _ hw => r_fa42_0 g68 0 rfl rfl) (hm71.at 8 rfl) ?_
      simp only [nz1, nz2, nz3]
      refine Sym.take_at 2 34 (.int .i64 ((((copied_m d).loose).getD x48 dWr).at_)) rfl rfl (by kernel_rfl) (by kernel_rfl) (by kernel_rfl) (fun _ _ _ h => nomatch h.1) rfl (fun _ hw => r_load hw rfl Try.underlying3 rfl rfl rfl) (hm71.at 8 rfl) ?_
      simp only [nz1, nz2, nz3]
      refine Sym.take_at 3 35 (v41) rfl rfl (by kernel_rfl) (by kernel_rfl) (by kernel_rfl) (fun _ _ _ h => nomatch h.1) rfl (fun _ hw => run_mv rfl rfl) (hm71.at 8 rfl) ?_
      simp only [nz1, nz2, nz3]
      refine Sym.take_at 4 36 (.pointer (some ⟨g68, 0, none⟩)) rfl rfl (by kernel_rfl) (by kernel_rfl) (by kernel_rfl) (fun _ _ _ h => nomatch h.1) rfl (fun _ hw => r_fa42_0 g68 0 rfl rfl) (hm71.at 8 rfl) ?_
      simp only [nz1, nz2, nz3]
      refine Sym.take_at 5 37 (.int .i64 ((((copied_m d).loose).getD x48 dWr).at_)) rfl rfl (by kernel_rfl) (by kernel_rfl) (by kernel_rfl) (fun _ _ _ h => nomatch h.1) rfl (fun _ hw => r_load hw rfl Try.underlying3 rfl rfl rfl) (hm71.at 8 rfl) ?_
      simp only [nz1, nz2, nz3]
      refine Sym.take_at 6 38 (.pointer (some ⟨(bk v41), (po v41 + (((((copied_m d).loose).getD x48 dWr).at_).toNat) * 1), none⟩)) rfl rfl (by kernel_rfl) (by kernel_rfl) (by kernel_rfl) (fun _ _ _ h => nomatch h.1) rfl (fun _ hw => r_ixvZ (Rs.row (hm71.row 6 rfl)) ((((copied_m d).loose).getD x48 dWr).at_) (crash_ix ‹¬ (!(right_m d)) = true› _ (by assumption)).1 (by have := (hm71.fam 7 rfl).len; (try simp only [List.length_set] at this); have hb := (crash_ix ‹¬ (!(right_m d)) = true› _ (by assumption)); omega) Try.underlying71 sz_22 rfl rfl rfl) (hm71.at 8 rfl) ?_
      simp only [nz1, nz2, nz3]
      refine Sym.take_at 8 40 (.pointer (some ⟨g68, 1, none⟩)) rfl rfl (by kernel_rfl) (by kernel_rfl) (by kernel_rfl) (fun _ _ _ h => nomatch h.1) rfl (fun _ hw => r_fa42_1 g68 0 rfl rfl) (hm71.at 8 rfl) ?_
      simp only [nz1, nz2, nz3]
      refine Sym.take_at 9 41 (.string (tx ((((copied_m d).loose).getD x48 dWr).data))) rfl rfl (by kernel_rfl) (by kernel_rfl) (by kernel_rfl) (fun _ _ _ h => nomatch h.1) rfl (fun _ hw => r_load hw rfl Try.underlying9 rfl rfl rfl) (hm71.at 8 rfl) ?_
      simp only [nz1, nz2, nz3]
      refine two_ready 7 10 (by kernel_rfl) ?_ ?_
      · refine opd rfl rfl (w_value 39 ((vs47.getD (((((copied_m d).loose).getD x48 dWr).at_).toNat) (Value.slice none 0 0))) rfl (r_cellw (Rs.cell (Rs.row (hm71.row 6 rfl)) eV_len (Value.slice none 0 0) (((((copied_m d).loose).getD x48 dWr).at_).toNat) (by have := (hm71.fam 7 rfl).len; (try simp only [List.length_set] at this); have hb := (crash_ix ‹¬ (!(right_m d)) = true› _ (by assumption)); omega) 0 _ rfl) Try.underlying22 rfl rfl rfl) ⟨hm71.at 8 rfl, ?_⟩)
        simp only [nz1, nz2, nz3]
        refine one_ready 10 (by kernel_rfl) ?_
        refine opd rfl rfl (m_make (c := #[.string (tx ((((copied_m d).loose).getD x48 dWr).data))]) (T := 9) (fun g => .slice (some ⟨g, 0, none⟩) 1 1) hm71 42 rfl (by unfold execOp; go_simp; try rfl) (fun g75 w73 hm74 => ?_))
        refine ⟨hm74.at 8 rfl, ?_⟩
        simp only [nz1, nz2, nz3]
        refine one_ready 11 (by kernel_rfl) ?_
        obtain ⟨iq, hiq, hz1, hz2, hz3⟩ := inf_9
        refine opd rfl rfl (m_appendF 7 (((((copied_m d).loose).getD x48 dWr).at_).toNat) (ls := l46) (Value.slice none 0 0) ((((copied_m d).loose).getD x48 dWr).data) iq _ _ _ ⟨g75, 0, none⟩ 1 hm74 rfl (by have := (crash_ix ‹¬ (!(right_m d)) = true› _ (by assumption)); omega) 43 rfl rfl Try.underlying22 hiq hz1 hz2 hz3 eS_len eS_one rfl rfl rfl (fun j u hu => (hm74.at 9 rfl).news j u hu) (by have := hfb (((((copied_m d).loose).getD x48 dWr).at_).toNat); omega) (by have := hfb (((((copied_m d).loose).getD x48 dWr).at_).toNat); omega) (fun v78 w76 (hm77 : Mm none S w w76 [.see (DkR d dv0 dv1) Fd, .see (Rs eB 1 fates fatesv0) Ffates, .blk g4 #[v22, v23, .int .i64 ((copied_m d).fuse), .bool ((copied_m d).down)] 25, .blk g7 #[.slice none 0 0, .slice none 0 0, .int .i64 0, .bool false] 25, .row v22 ((copied_m d).safe).length (((copied_m d).safe).flatMap eS) 9 1, .row v23 ((copied_m d).loose).length (((copied_m d).loose).flatMap eWr) 42 2, .row v41 vs47.length (vs47.flatMap eV) 22 1, .fam (vs47.set (((((copied_m d).loose).getD x48 dWr).at_).toNat) v78) (List.map (List.flatMap eS) (l46.set (((((copied_m d).loose).getD x48 dWr).at_).toNat) (l46.getD (((((copied_m d).loose).getD x48 dWr).at_).toNat) [] ++ [((((copied_m d).loose).getD x48 dWr).data)]))) 9, .blk g68 #[.int .i64 ((((copied_m d).loose).getD x48 dWr).at_), .string (tx ((((copied_m d).loose).getD x48 dWr).data))] 42, .blk g75 #[.string (tx ((((copied_m d).loose).getD x48 dWr).data))] 9]) => ?_))
        refine ⟨hm77.at 8 rfl, ?_⟩
        simp only [nz1, nz2, nz3]
        refine Sym.take_at 12 44 (.pointer (some ⟨(bk v41), (po v41 + (((((copied_m d).loose).getD x48 dWr).at_).toNat) * 1), none⟩)) rfl rfl (by kernel_rfl) (by kernel_rfl) (by kernel_rfl) (fun _ _ _ h => nomatch h.1) rfl (fun _ hw => r_ixvZ (Rs.row (hm77.row 6 rfl)) ((((copied_m d).loose).getD x48 dWr).at_) (crash_ix ‹¬ (!(right_m d)) = true› _ (by assumption)).1 (by have := (hm77.fam 7 rfl).len; (try simp only [List.length_set] at this); have hb := (crash_ix ‹¬ (!(right_m d)) = true› _ (by assumption)); omega) Try.underlying71 sz_22 rfl rfl rfl) (hm77.at 8 rfl) ?_
        simp only [nz1, nz2, nz3]
        refine one_ready 13 (by kernel_rfl) ?_
        refine opd rfl rfl (m_setR 6 (l := vs47) (((((copied_m d).loose).getD x48 dWr).at_).toNat) v78 (v78) hm77 rfl rfl rfl (by have := (hm77.fam 7 rfl).len; rw [List.length_set, List.length_set] at this; have hb := (by have := (crash_ix ‹¬ (!(right_m d)) = true› _ (by assumption)); omega); omega) rfl rfl sz_22 eV_len rfl ((hm77.fam 7 rfl).one (by have := (hm77.fam 7 rfl).len; rw [List.length_set, List.length_set] at this; have hb := (by have := (crash_ix ‹¬ (!(right_m d)) = true› _ (by assumption)); omega); omega)) (fun w79 (hm80 : Mm none S w w79 [.see (DkR d dv0 dv1) Fd, .see (Rs eB 1 fates fatesv0) Ffates, .blk g4 #[v22, v23, .int .i64 ((copied_m d).fuse), .bool ((copied_m d).down)] 25, .blk g7 #[.slice none 0 0, .slice none 0 0, .int .i64 0, .bool false] 25, .row v22 ((copied_m d).safe).length (((copied_m d).safe).flatMap eS) 9 1, .row v23 ((copied_m d).loose).length (((copied_m d).loose).flatMap eWr) 42 2, .row v41 (vs47.set (((((copied_m d).loose).getD x48 dWr).at_).toNat) v78).length ((vs47.set (((((copied_m d).loose).getD x48 dWr).at_).toNat) v78).flatMap eV) 22 1, .fam (vs47.set (((((copied_m d).loose).getD x48 dWr).at_).toNat) v78) (List.map (List.flatMap eS) (l46.set (((((copied_m d).loose).getD x48 dWr).at_).toNat) (l46.getD (((((copied_m d).loose).getD x48 dWr).at_).toNat) [] ++ [((((copied_m d).loose).getD x48 dWr).data)]))) 9, .blk g68 #[.int .i64 ((((copied_m d).loose).getD x48 dWr).at_), .string (tx ((((copied_m d).loose).getD x48 dWr).data))] 42, .blk g75 #[.string (tx ((((copied_m d).loose).getD x48 dWr).data))] 9]) => ?_))
        refine ⟨hm80.at 8 rfl, ?_⟩
        refine wpAnyH_done (by kernel_rfl) ?_ _
        exact ⟨rfl, g75, v78, rfl, hm80⟩
      · refine opd rfl rfl (m_make (c := #[.string (tx ((((copied_m d).loose).getD x48 dWr).data))]) (T := 9) (fun g => .slice (some ⟨g, 0, none⟩) 1 1) hm71 42 rfl (by unfold execOp; go_simp; try rfl) (fun g83 w81 hm82 => ?_))
        refine ⟨hm82.at 8 rfl, ?_⟩
        simp only [nz1, nz2, nz3]
        refine one_ready 7 (by kernel_rfl) ?_
        refine opd rfl rfl (w_value 39 ((vs47.getD (((((copied_m d).loose).getD x48 dWr).at_).toNat) (Value.slice none 0 0))) rfl (r_cellw (Rs.cell (Rs.row (hm82.row 6 rfl)) eV_len (Value.slice none 0 0) (((((copied_m d).loose).getD x48 dWr).at_).toNat) (by have := (hm82.fam 7 rfl).len; (try simp only [List.length_set] at this); have hb := (crash_ix ‹¬ (!(right_m d)) = true› _ (by assumption)); omega) 0 _ rfl) Try.underlying22 rfl rfl rfl) ⟨hm82.at 8 rfl, ?_⟩)
        simp only [nz1, nz2, nz3]
        refine one_ready 11 (by kernel_rfl) ?_
        obtain ⟨iq, hiq, hz1, hz2, hz3⟩ := inf_9
        refine opd rfl rfl (m_appendF 7 (((((copied_m d).loose).getD x48 dWr).at_).toNat) (ls := l46) (Value.slice none 0 0) ((((copied_m d).loose).getD x48 dWr).data) iq _ _ _ ⟨g83, 0, none⟩ 1 hm82 rfl (by have := (crash_ix ‹¬ (!(right_m d)) = true› _ (by assumption)); omega) 43 rfl rfl Try.underlying22 hiq hz1 hz2 hz3 eS_len eS_one rfl rfl rfl (fun j u hu => (hm82.at 9 rfl).news j u hu) (by have := hfb (((((copied_m d).loose).getD x48 dWr).at_).toNat); omega) (by have := hfb (((((copied_m d).loose).getD x48 dWr).at_).toNat); omega) (fun v86 w84 (hm85 : Mm none S w w84 [.see (DkR d dv0 dv1) Fd, .see (Rs eB 1 fates fatesv0) Ffates, .blk g4 #[v22, v23, .int .i64 ((copied_m d).fuse), .bool ((copied_m d).down)] 25, .blk g7 #[.slice none 0 0, .slice none 0 0, .int .i64 0, .bool false] 25, .row v22 ((copied_m d).safe).length (((copied_m d).safe).flatMap eS) 9 1, .row v23 ((copied_m d).loose).length (((copied_m d).loose).flatMap eWr) 42 2, .row v41 vs47.length (vs47.flatMap eV) 22 1, .fam (vs47.set (((((copied_m d).loose).getD x48 dWr).at_).toNat) v86) (List.map (List.flatMap eS) (l46.set (((((copied_m d).loose).getD x48 dWr).at_).toNat) (l46.getD (((((copied_m d).loose).getD x48 dWr).at_).toNat) [] ++ [((((copied_m d).loose).getD x48 dWr).data)]))) 9, .blk g68 #[.int .i64 ((((copied_m d).loose).getD x48 dWr).at_), .string (tx ((((copied_m d).loose).getD x48 dWr).data))] 42, .blk g83 #[.string (tx ((((copied_m d).loose).getD x48 dWr).data))] 9]) => ?_))
        refine ⟨hm85.at 8 rfl, ?_⟩
        simp only [nz1, nz2, nz3]
        refine Sym.take_at 12 44 (.pointer (some ⟨(bk v41), (po v41 + (((((copied_m d).loose).getD x48 dWr).at_).toNat) * 1), none⟩)) rfl rfl (by kernel_rfl) (by kernel_rfl) (by kernel_rfl) (fun _ _ _ h => nomatch h.1) rfl (fun _ hw => r_ixvZ (Rs.row (hm85.row 6 rfl)) ((((copied_m d).loose).getD x48 dWr).at_) (crash_ix ‹¬ (!(right_m d)) = true› _ (by assumption)).1 (by have := (hm85.fam 7 rfl).len; (try simp only [List.length_set] at this); have hb := (crash_ix ‹¬ (!(right_m d)) = true› _ (by assumption)); omega) Try.underlying71 sz_22 rfl rfl rfl) (hm85.at 8 rfl) ?_
        simp only [nz1, nz2, nz3]
        refine one_ready 13 (by kernel_rfl) ?_
        refine opd rfl rfl (m_setR 6 (l := vs47) (((((copied_m d).loose).getD x48 dWr).at_).toNat) v86 (v86) hm85 rfl rfl rfl (by have := (hm85.fam 7 rfl).len; rw [List.length_set, List.length_set] at this; have hb := (by have := (crash_ix ‹¬ (!(right_m d)) = true› _ (by assumption)); omega); omega) rfl rfl sz_22 eV_len rfl ((hm85.fam 7 rfl).one (by have := (hm85.fam 7 rfl).len; rw [List.length_set, List.length_set] at this; have hb := (by have := (crash_ix ‹¬ (!(right_m d)) = true› _ (by assumption)); omega); omega)) (fun w87 (hm88 : Mm none S w w87 [.see (DkR d dv0 dv1) Fd, .see (Rs eB 1 fates fatesv0) Ffates, .blk g4 #[v22, v23, .int .i64 ((copied_m d).fuse), .bool ((copied_m d).down)] 25, .blk g7 #[.slice none 0 0, .slice none 0 0, .int .i64 0, .bool false] 25, .row v22 ((copied_m d).safe).length (((copied_m d).safe).flatMap eS) 9 1, .row v23 ((copied_m d).loose).length (((copied_m d).loose).flatMap eWr) 42 2, .row v41 (vs47.set (((((copied_m d).loose).getD x48 dWr).at_).toNat) v86).length ((vs47.set (((((copied_m d).loose).getD x48 dWr).at_).toNat) v86).flatMap eV) 22 1, .fam (vs47.set (((((copied_m d).loose).getD x48 dWr).at_).toNat) v86) (List.map (List.flatMap eS) (l46.set (((((copied_m d).loose).getD x48 dWr).at_).toNat) (l46.getD (((((copied_m d).loose).getD x48 dWr).at_).toNat) [] ++ [((((copied_m d).loose).getD x48 dWr).data)]))) 9, .blk g68 #[.int .i64 ((((copied_m d).loose).getD x48 dWr).at_), .string (tx ((((copied_m d).loose).getD x48 dWr).data))] 42, .blk g83 #[.string (tx ((((copied_m d).loose).getD x48 dWr).data))] 9]) => ?_))
        refine ⟨hm88.at 8 rfl, ?_⟩
        refine wpAnyH_done (by kernel_rfl) ?_ _
        exact ⟨rfl, g83, v86, rfl, hm88⟩
    clear hm70
    rintro _ _ w89 ⟨rfl, g75, v78, rfl, hm90⟩
    refine blk_n ?_
    refine then_n (hK64 _ _ ?_)
    refine wp_region_lit ?_
    refine lvw 45 (.int .i64 (((x48 + 1) : Nat) : Int)) rfl rfl (r_add x48 1 (show (x48 + 1) < 9223372036854775808 from by omega) rfl rfl rfl) ?_
    simp only [nz1, nz2, nz3]
    refine lvw 28 (.int .i64 (((x48 + 1) : Nat) : Int)) rfl rfl (run_mv rfl rfl) ?_
    simp only [nz1, nz2, nz3]
    refine wpList_nil ?_
    refine then_n (hR58 _ _ _ ⟨k50, (l46.set (((((copied_m d).loose).getD x48 dWr).at_).toNat) (l46.getD (((((copied_m d).loose).getD x48 dWr).at_).toNat) [] ++ [((((copied_m d).loose).getD x48 dWr).data)])), (x48 + 1), (vs47.set (((((copied_m d).loose).getD x48 dWr).at_).toNat) v78), (fun qq => List.getD [.pointer (some ⟨g68, 0, none⟩), .bool (decide (x48 < ((copied_m d).loose).length)), .pointer (some ⟨(bk v23), (po v23 + x48 * 2), none⟩), .agg #[.int .i64 ((((copied_m d).loose).getD x48 dWr).at_), .string (tx ((((copied_m d).loose).getD x48 dWr).data))], v41, .pointer (some ⟨g68, 0, none⟩), .int .i64 ((((copied_m d).loose).getD x48 dWr).at_), v41, .pointer (some ⟨g68, 0, none⟩), .int .i64 ((((copied_m d).loose).getD x48 dWr).at_), .pointer (some ⟨(bk v41), (po v41 + (((((copied_m d).loose).getD x48 dWr).at_).toNat) * 1), none⟩), (vs47.getD (((((copied_m d).loose).getD x48 dWr).at_).toNat) (Value.slice none 0 0)), .pointer (some ⟨g68, 1, none⟩), .string (tx ((((copied_m d).loose).getD x48 dWr).data)), .slice (some ⟨g75, 0, none⟩) 1 1, v78, .pointer (some ⟨(bk v41), (po v41 + (((((copied_m d).loose).getD x48 dWr).at_).toNat) * 1), none⟩), .int .i64 (((x48 + 1) : Nat) : Int)] qq undef), rfl, (by first | omega | (simp; omega) | (simp at *; omega)), (hi51.trans (show crash_m_b0 d fates fuse (crash_m_l0 d fates fuse k50) l46 x48 = crash_m_l0 d fates fuse k50 ((l46.set (((((copied_m d).loose).getD x48 dWr).at_).toNat) (l46.getD (((((copied_m d).loose).getD x48 dWr).at_).toNat) [] ++ [((((copied_m d).loose).getD x48 dWr).data)])), (x48 + 1)) from by unfold crash_m_b0; rw [if_pos hc63] <;> rfl)), (by rw [List.length_set]; exact hfl), (by omega), (fill_len hfb _ _), rfl, (Mm.reorder hm90 [0, 1, 2, 3, 4, 5, 6, 7] (by decide) rfl)⟩ ?_)
    omega
  rintro _ w91 ⟨y52, y54, vs53, yu0, hx55, hfl, hfx, hfb, rfl, hm92⟩
  have hq93 : crash_m d fates fuse = crash_m_k0 d fates fuse y52 y54 := (show crash_m d fates fuse = crash_m_k0 d fates fuse y52 y54 from by unfold crash_m; rw [if_neg hc12, hx55] <;> rfl)
  refine then_n (hK44 _ _ ?_)
  refine wp_seq_k (fun K94 hK94 => ?_)
  refine wp_region_lit ?_
  refine lvw 11 (.int .i64 0) rfl rfl (run_as rfl rfl) ?_
  simp only [nz1, nz2, nz3]
  refine wpList_nil ?_
  refine then_n (hK94 _ _ ?_)
  refine wp_seq_k (fun K95 hK95 => ?_)
  refine wp_seq_k (fun K96 hK96 => ?_)
  refine wp_region_lit ?_
  refine lvw 46 (v41) rfl rfl (run_mv rfl rfl) ?_
  simp only [nz1, nz2, nz3]
  refine lvw 47 (.int .i64 ((y52.length : Nat) : Int)) rfl rfl (s_lenF (Rs.row (hm92.row 6 rfl)) (hm92.fam 7 rfl).len rfl Try.underlying71 rfl) ?_
  simp only [nz1, nz2, nz3]
  refine lvw 48 (.int .i64 0) rfl rfl (run_mv rfl rfl) ?_
  simp only [nz1, nz2, nz3]
  refine wpList_nil ?_
  refine then_n (hK96 _ _ ?_)
  refine wp_cutK (fun a' w' => ∃ (y103 : Nat) (y104 : Nat) (y105 : List (List UInt8)) (yu1 : Nat → Value), crash_m_l1 d fates fuse y52 y54 ((y52.length - 0) + 1) (0, 0, ((copied_m d).safe)) = .inl (y103, y104, y105) ∧ (y105.length = (copied_m d).safe.length) ∧ a' = ⟨#[.agg #[dv0, dv1, .int .i64 (d.fuse), .bool (d.down)], fatesv0, .int .i64 (fuse), .pointer (some ⟨g4, 0, none⟩), undef, undef, .pointer (some ⟨g7, 0, none⟩), .int .i64 0, v41, undef, yu0 0, .int .i64 ((y103 : Nat) : Int), yu1 0, yu1 1, yu1 2, .agg #[dv0, dv1, .int .i64 (d.fuse), .bool (d.down)], .bool ((right_m d)), .bool (!(right_m d)), undef, .agg #[dv0, dv1, .int .i64 (d.fuse), .bool (d.down)], .agg #[v22, v23, .int .i64 ((copied_m d).fuse), .bool ((copied_m d).down)], .pointer (some ⟨g4, 0, none⟩), v22, .int .i64 ((((copied_m d).safe).length : Nat) : Int), v41, .pointer (some ⟨g4, 1, none⟩), v23, .int .i64 ((((copied_m d).loose).length : Nat) : Int), .int .i64 ((y54 : Nat) : Int), yu0 1, yu0 2, yu0 3, yu0 4, yu0 5, yu0 6, yu0 7, yu0 8, yu0 9, yu0 10, yu0 11, yu0 12, yu0 13, yu0 14, yu0 15, yu0 16, yu0 17, v41, .int .i64 ((y52.length : Nat) : Int), .int .i64 ((y104 : Nat) : Int), yu1 3, yu1 4, yu1 5, yu1 6, yu1 7, yu1 8, yu1 9, yu1 10, yu1 11, yu1 12, yu1 13, yu1 14, yu1 15, yu1 16, yu1 17, yu1 18, yu1 19, yu1 20, yu1 21, yu1 22, yu1 23, yu1 24, yu1 25, yu1 26, yu1 27, yu1 28, yu1 29, yu1 30, yu1 31, yu1 32, yu1 33, yu1 34, yu1 35, yu1 36, undef, undef, undef, undef, undef], []⟩ ∧ Mm none S w w' [.see (DkR d dv0 dv1) Fd, .see (Rs eB 1 fates fatesv0) Ffates, .blk g4 #[v22, v23, .int .i64 ((copied_m d).fuse), .bool ((copied_m d).down)] 25, .blk g7 #[.slice none 0 0, .slice none 0 0, .int .i64 0, .bool false] 25, .row v22 y105.length (y105.flatMap eS) 9 1, .row v23 ((copied_m d).loose).length (((copied_m d).loose).flatMap eWr) 42 2, .row v41 vs53.length (vs53.flatMap eV) 22 1, .fam vs53 (List.map (List.flatMap eS) y52) 9]) ?_ ?_
  · refine wp_block ?_
    refine wp_loop_n (fun n' a' w' => ∃ (n100 : Nat) (x97 : Nat) (x98 : Nat) (l99 : List (List UInt8)) (u1 : Nat → Value), n' = n100 ∧ (y52.length - x98) < n100 ∧ crash_m_l1 d fates fuse y52 y54 ((y52.length - 0) + 1) (0, 0, ((copied_m d).safe)) = crash_m_l1 d fates fuse y52 y54 n100 (x97, x98, l99) ∧ (l99.length = (copied_m d).safe.length) ∧ a' = ⟨#[.agg #[dv0, dv1, .int .i64 (d.fuse), .bool (d.down)], fatesv0, .int .i64 (fuse), .pointer (some ⟨g4, 0, none⟩), undef, undef, .pointer (some ⟨g7, 0, none⟩), .int .i64 0, v41, undef, yu0 0, .int .i64 ((x97 : Nat) : Int), u1 0, u1 1, u1 2, .agg #[dv0, dv1, .int .i64 (d.fuse), .bool (d.down)], .bool ((right_m d)), .bool (!(right_m d)), undef, .agg #[dv0, dv1, .int .i64 (d.fuse), .bool (d.down)], .agg #[v22, v23, .int .i64 ((copied_m d).fuse), .bool ((copied_m d).down)], .pointer (some ⟨g4, 0, none⟩), v22, .int .i64 ((((copied_m d).safe).length : Nat) : Int), v41, .pointer (some ⟨g4, 1, none⟩), v23, .int .i64 ((((copied_m d).loose).length : Nat) : Int), .int .i64 ((y54 : Nat) : Int), yu0 1, yu0 2, yu0 3, yu0 4, yu0 5, yu0 6, yu0 7, yu0 8, yu0 9, yu0 10, yu0 11, yu0 12, yu0 13, yu0 14, yu0 15, yu0 16, yu0 17, v41, .int .i64 ((y52.length : Nat) : Int), .int .i64 ((x98 : Nat) : Int), u1 3, u1 4, u1 5, u1 6, u1 7, u1 8, u1 9, u1 10, u1 11, u1 12, u1 13, u1 14, u1 15, u1 16, u1 17, u1 18, u1 19, u1 20, u1 21, u1 22, u1 23, u1 24, u1 25, u1 26, u1 27, u1 28, u1 29, u1 30, u1 31, u1 32, u1 33, u1 34, u1 35, u1 36, undef, undef, undef, undef, undef], []⟩ ∧ Mm none S w w' [.see (DkR d dv0 dv1) Fd, .see (Rs eB 1 fates fatesv0) Ffates, .blk g4 #[v22, v23, .int .i64 ((copied_m d).fuse), .bool ((copied_m d).down)] 25, .blk g7 #[.slice none 0 0, .slice none 0 0, .int .i64 0, .bool false] 25, .row v22 l99.length (l99.flatMap eS) 9 1, .row v23 ((copied_m d).loose).length (((copied_m d).loose).flatMap eWr) 42 2, .row v41 vs53.length (vs53.flatMap eV) 22 1, .fam vs53 (List.map (List.flatMap eS) y52) 9]) ⟨((y52.length - 0) + 1), 0, 0, ((copied_m d).safe), (fun qq => bif Nat.blt qq 24 then List.getD [undef, undef, undef, undef, undef, undef, undef, undef, undef, undef, undef, undef, undef, undef, undef, undef, undef, undef, undef, undef, undef, undef, undef, undef] qq undef else List.getD [undef, undef, undef, undef, undef, undef, undef, undef, undef, undef, undef, undef, undef] (qq - 24) undef), rfl, Nat.lt_succ_self _, rfl, rfl, rfl, hm92⟩ ?_
    rintro n100 _ w107 ⟨_, x97, x98, l99, u1, rfl, hl111, hi102, hls, rfl, hm108⟩ R109 hR109
    obtain ⟨k101, rfl⟩ : ∃ k, n100 = k + 1 := ⟨n100 - 1, by omega⟩
    refine wp_seq_k (fun K112 hK112 => ?_)
    refine wp_region_lit ?_
    refine lvw 49 (.bool (decide (x98 < y52.length))) rfl rfl (r_lss x98 y52.length rfl rfl rfl) ?_
    simp only [nz1, nz2, nz3]
    refine wpList_nil ?_
    refine then_n (hK112 _ _ ?_)
    refine wp_seq_k (fun K113 hK113 => ?_)
    refine cond_d (x98 < y52.length) rfl (fun hc114 => ?_) (fun hc114 => ?_)
    rotate_left
    · refine wp_exit ?_
      refine then_x ?_
      refine then_x ?_
      refine blk_x ?_
      refine then_n ?_
      exact ⟨x97, x98, l99, (fun qq => bif Nat.blt qq 24 then List.getD [u1 0, u1 1, u1 2, .bool (decide (x98 < y52.length)), u1 4, u1 5, u1 6, u1 7, u1 8, u1 9, u1 10, u1 11, u1 12, u1 13, u1 14, u1 15, u1 16, u1 17, u1 18, u1 19, u1 20, u1 21, u1 22, u1 23] qq undef else List.getD [u1 24, u1 25, u1 26, u1 27, u1 28, u1 29, u1 30, u1 31, u1 32, u1 33, u1 34, u1 35, u1 36] (qq - 24) undef), (hi102.trans (show crash_m_b1 d fates fuse y52 y54 (crash_m_l1 d fates fuse y52 y54 k101) x97 x98 l99 = .inl (x97, x98, l99) from by unfold crash_m_b1; rw [if_neg hc114] <;> rfl)), hls, rfl, hm108⟩
    refine wp_skip ?_
    refine then_n (hK113 _ _ ?_)
    refine wp_seq_k (fun K115 hK115 => ?_)
    refine wp_block ?_
    refine wp_seq_k (fun K116 hK116 => ?_)
    refine wp_region_lit ?_
    refine lvw 50 (.int .i64 ((x98 : Nat) : Int)) rfl rfl (run_mv rfl rfl) ?_
    simp only [nz1, nz2, nz3]
    refine lvw 51 (.pointer (some ⟨(bk v41), (po v41 + x98 * 1), none⟩)) rfl rfl (r_ixv (Rs.row (hm108.row 6 rfl)) x98 (by have := (hm108.fam 7 rfl).len; (try simp only [List.length_set] at this); have hb := (show _ < _ from by omega); omega) Try.underlying71 sz_22 rfl rfl rfl) ?_
    simp only [nz1, nz2, nz3]
    refine lvw 52 ((vs53.getD x98 (Value.slice none 0 0))) rfl rfl (r_cellw (Rs.cell (Rs.row (hm108.row 6 rfl)) eV_len (Value.slice none 0 0) x98 (by have := (hm108.fam 7 rfl).len; (try simp only [List.length_set] at this); have hb := (show _ < _ from by omega); omega) 0 _ rfl) Try.underlying22 rfl rfl rfl) ?_
    simp only [nz1, nz2, nz3]
    refine lvw 12 (.int .i64 ((x98 : Nat) : Int)) rfl rfl (run_as rfl rfl) ?_
    simp only [nz1, nz2, nz3]
    refine lvw 13 ((vs53.getD x98 (Value.slice none 0 0))) rfl rfl (run_as rfl rfl) ?_
    simp only [nz1, nz2, nz3]
    refine wpList_nil ?_
    refine then_n (hK116 _ _ ?_)
    refine wp_seq_k (fun K117 hK117 => ?_)
    refine wp_seq_k (fun K118 hK118 => ?_)
    refine wp_region_lit ?_
    refine lvw 53 ((vs53.getD x98 (Value.slice none 0 0))) rfl rfl (run_mv rfl rfl) ?_
    simp only [nz1, nz2, nz3]
    refine lvw 54 (.int .i64 (((y52.getD x98 []).length : Nat) : Int)) rfl rfl (s_len (Fam.rs (hm108.fam 7 rfl) eS_len x98 (by have hb := (show _ < _ from by omega); omega) (Value.slice none 0 0)) rfl Try.underlying22 rfl) ?_
    simp only [nz1, nz2, nz3]
    refine lvw 55 (.bool (decide ((y52.getD x98 []).length = 0))) rfl rfl (r_eql ((y52.getD x98 []).length) 0 rfl rfl rfl) ?_
    simp only [nz1, nz2, nz3]
    refine wpList_nil ?_
    refine then_n (hK118 _ _ ?_)
    refine cond_d ((y52.getD x98 []).length = 0) rfl (fun hc119 => ?_) (fun hc119 => ?_)
    · refine wp_exit ?_
      refine then_x ?_
      refine blk_x ?_
      refine then_n (hK115 _ _ ?_)
      refine wp_region_lit ?_
      refine lvw 82 (.int .i64 (((x98 + 1) : Nat) : Int)) rfl rfl (r_add x98 1 (show (x98 + 1) < 9223372036854775808 from by omega) rfl rfl rfl) ?_
      simp only [nz1, nz2, nz3]
      refine lvw 48 (.int .i64 (((x98 + 1) : Nat) : Int)) rfl rfl (run_mv rfl rfl) ?_
      simp only [nz1, nz2, nz3]
      refine wpList_nil ?_
      refine then_n (hR109 _ _ _ ⟨k101, x97, (x98 + 1), l99, (fun qq => bif Nat.blt qq 24 then List.getD [.int .i64 ((x98 : Nat) : Int), (vs53.getD x98 (Value.slice none 0 0)), u1 2, .bool (decide (x98 < y52.length)), .int .i64 ((x98 : Nat) : Int), .pointer (some ⟨(bk v41), (po v41 + x98 * 1), none⟩), (vs53.getD x98 (Value.slice none 0 0)), (vs53.getD x98 (Value.slice none 0 0)), .int .i64 (((y52.getD x98 []).length : Nat) : Int), .bool (decide ((y52.getD x98 []).length = 0)), u1 10, u1 11, u1 12, u1 13, u1 14, u1 15, u1 16, u1 17, u1 18, u1 19, u1 20, u1 21, u1 22, u1 23] qq undef else List.getD [u1 24, u1 25, u1 26, u1 27, u1 28, u1 29, u1 30, u1 31, u1 32, u1 33, u1 34, u1 35, .int .i64 (((x98 + 1) : Nat) : Int)] (qq - 24) undef), rfl, (by first | omega | (simp; omega) | (simp at *; omega)), (hi102.trans (show crash_m_b1 d fates fuse y52 y54 (crash_m_l1 d fates fuse y52 y54 k101) x97 x98 l99 = crash_m_l1 d fates fuse y52 y54 k101 (x97, (x98 + 1), l99) from by unfold crash_m_b1; rw [if_pos hc114, if_pos hc119] <;> rfl)), (by first | exact hls | (rw [List.length_set]; exact hls)), rfl, hm108⟩ ?_)
      omega
    refine wp_skip ?_
    refine then_n (hK117 _ _ ?_)
    refine wp_seq_k (fun K120 hK120 => ?_)
    refine wp_region_lit ?_
    refine lvw 14 (.int .i64 0) rfl rfl (run_as rfl rfl) ?_
    simp only [nz1, nz2, nz3]
    refine wpList_nil ?_
    refine then_n (hK120 _ _ ?_)
    refine wp_seq_k (fun K121 hK121 => ?_)
    refine wp_seq_k (fun K122 hK122 => ?_)
    refine wp_region_lit ?_
    refine lvw 56 (.int .i64 ((x97 : Nat) : Int)) rfl rfl (run_mv rfl rfl) ?_
    simp only [nz1, nz2, nz3]
    refine lvw 57 (fatesv0) rfl rfl (run_mv rfl rfl) ?_
    simp only [nz1, nz2, nz3]
    refine lvw 58 (.int .i64 ((fates.length : Nat) : Int)) rfl rfl (s_len ((hm108.see 1 rfl)) rfl Try.underlying37 rfl) ?_
    simp only [nz1, nz2, nz3]
    refine lvw 59 (.bool (decide (x97 < fates.length))) rfl rfl (r_lss x97 fates.length rfl rfl rfl) ?_
    simp only [nz1, nz2, nz3]
    refine wpList_nil ?_
    refine then_n (hK122 _ _ ?_)
    refine cond_d (x97 < fates.length) rfl (fun hc123 => ?_) (fun hc123 => ?_)
    rotate_left
    · refine wp_skip ?_
      refine then_n (hK121 _ _ ?_)
      refine wp_seq_k (fun K131 hK131 => ?_)
      refine wp_region_lit ?_
      refine lvw 71 (.int .i64 0) rfl rfl (run_mv rfl rfl) ?_
      simp only [nz1, nz2, nz3]
      refine lvw 72 (.bool (decide (0 < 0))) rfl rfl (r_gtr 0 0 rfl rfl rfl) ?_
      simp only [nz1, nz2, nz3]
      refine wpList_nil ?_
      refine then_n (hK131 _ _ ?_)
      refine cond_d (0 < 0) rfl (fun hc132 => ?_) (fun hc132 => ?_)
      rotate_left
      · refine wp_skip ?_
        refine blk_n ?_
        refine then_n (hK115 _ _ ?_)
        refine wp_region_lit ?_
        refine lvw 82 (.int .i64 (((x98 + 1) : Nat) : Int)) rfl rfl (r_add x98 1 (show (x98 + 1) < 9223372036854775808 from by omega) rfl rfl rfl) ?_
        simp only [nz1, nz2, nz3]
        refine lvw 48 (.int .i64 (((x98 + 1) : Nat) : Int)) rfl rfl (run_mv rfl rfl) ?_
        simp only [nz1, nz2, nz3]
        refine wpList_nil ?_
        refine then_n (hR109 _ _ _ ⟨k101, x97, (x98 + 1), l99, (fun qq => bif Nat.blt qq 24 then List.getD [.int .i64 ((x98 : Nat) : Int), (vs53.getD x98 (Value.slice none 0 0)), .int .i64 0, .bool (decide (x98 < y52.length)), .int .i64 ((x98 : Nat) : Int), .pointer (some ⟨(bk v41), (po v41 + x98 * 1), none⟩), (vs53.getD x98 (Value.slice none 0 0)), (vs53.getD x98 (Value.slice none 0 0)), .int .i64 (((y52.getD x98 []).length : Nat) : Int), .bool (decide ((y52.getD x98 []).length = 0)), .int .i64 ((x97 : Nat) : Int), fatesv0, .int .i64 ((fates.length : Nat) : Int), .bool (decide (x97 < fates.length)), u1 14, u1 15, u1 16, u1 17, u1 18, u1 19, u1 20, u1 21, u1 22, u1 23] qq undef else List.getD [u1 24, .int .i64 0, .bool (decide (0 < 0)), u1 27, u1 28, u1 29, u1 30, u1 31, u1 32, u1 33, u1 34, u1 35, .int .i64 (((x98 + 1) : Nat) : Int)] (qq - 24) undef), rfl, (by first | omega | (simp; omega) | (simp at *; omega)), (hi102.trans (show crash_m_b1 d fates fuse y52 y54 (crash_m_l1 d fates fuse y52 y54 k101) x97 x98 l99 = crash_m_l1 d fates fuse y52 y54 k101 (x97, (x98 + 1), l99) from by unfold crash_m_b1; rw [if_pos hc114, if_neg hc119, if_neg hc123, if_neg hc132] <;> rfl)), (by first | exact hls | (rw [List.length_set]; exact hls)), rfl, hm108⟩ ?_)
        omega
      have hm133 := hm108.drew
      refine wp_region_held_drew (S := fun w' => Mem.Blk w' g4 (#[v22, v23, .int .i64 ((copied_m d).fuse), .bool ((copied_m d).down)]) 25 ∧ Rs eS 1 (y52.getD x98 []) (vs53.getD x98 (Value.slice none 0 0)) w') (by kernel_rfl) (⟨hm133.at 2 rfl, (Fam.rs (hm133.fam 7 rfl) eS_len x98 (by have hb := (show _ < _ from by omega); omega) (Value.slice none 0 0))⟩) (fun _ => ?_)
      generalize w107.drew = w134 at *
      refine tk 0 73 (.pointer (some ⟨g4, 0, none⟩)) rfl rfl (fun _ hw => r_fa25_0 g4 0 rfl rfl) (⟨hm133.at 2 rfl, (Fam.rs (hm133.fam 7 rfl) eS_len x98 (by have hb := (show _ < _ from by omega); omega) (Value.slice none 0 0))⟩) ?_
      simp only [nz1, nz2, nz3]
      refine tk 1 74 (v22) rfl rfl (fun _ hw => r_load hw.1 rfl Try.underlying22 rfl rfl rfl) (⟨hm133.at 2 rfl, (Fam.rs (hm133.fam 7 rfl) eS_len x98 (by have hb := (show _ < _ from by omega); omega) (Value.slice none 0 0))⟩) ?_
      simp only [nz1, nz2, nz3]
      refine tk 2 75 (.int .i64 ((x98 : Nat) : Int)) rfl rfl (fun _ hw => run_mv rfl rfl) (⟨hm133.at 2 rfl, (Fam.rs (hm133.fam 7 rfl) eS_len x98 (by have hb := (show _ < _ from by omega); omega) (Value.slice none 0 0))⟩) ?_
      simp only [nz1, nz2, nz3]
      refine tk 3 76 ((vs53.getD x98 (Value.slice none 0 0))) rfl rfl (fun _ hw => run_mv rfl rfl) (⟨hm133.at 2 rfl, (Fam.rs (hm133.fam 7 rfl) eS_len x98 (by have hb := (show _ < _ from by omega); omega) (Value.slice none 0 0))⟩) ?_
      simp only [nz1, nz2, nz3]
      refine tk 4 77 (.int .i64 0) rfl rfl (fun _ hw => run_mv rfl rfl) (⟨hm133.at 2 rfl, (Fam.rs (hm133.fam 7 rfl) eS_len x98 (by have hb := (show _ < _ from by omega); omega) (Value.slice none 0 0))⟩) ?_
      simp only [nz1, nz2, nz3]
      refine tk 5 78 (.int .i64 (((0 : Int) - (1 : Int)))) rfl rfl (fun _ hw => z_sub (0 : Int) (1 : Int) _ (by rw [IntKind.wrap_i64]; omega) rfl rfl rfl) (⟨hm133.at 2 rfl, (Fam.rs (hm133.fam 7 rfl) eS_len x98 (by have hb := (show _ < _ from by omega); omega) (Value.slice none 0 0))⟩) ?_
      simp only [nz1, nz2, nz3]
      refine tk 6 79 (.pointer (some ⟨(bk (vs53.getD x98 (Value.slice none 0 0))), (po (vs53.getD x98 (Value.slice none 0 0)) + ((0 : Int) - (1 : Int)).toNat * 1), none⟩)) rfl rfl (fun _ hw => r_ixvZ (Fam.rs (hm133.fam 7 rfl) eS_len x98 (by have hb := (show _ < _ from by omega); omega) (Value.slice none 0 0)) ((0 : Int) - (1 : Int)) (by omega) (by omega) Try.underlying22 sz_9 rfl rfl rfl) (⟨hm133.at 2 rfl, (Fam.rs (hm133.fam 7 rfl) eS_len x98 (by have hb := (show _ < _ from by omega); omega) (Value.slice none 0 0))⟩) ?_
      simp only [nz1, nz2, nz3]
      refine tk 7 80 (.string (tx ((y52.getD x98 []).getD (((0 : Int) - (1 : Int)).toNat) []))) rfl rfl (fun _ hw => r_cellw (Rs.cell hw.2 eS_len [] (((0 : Int) - (1 : Int)).toNat) (by omega) 0 _ rfl) Try.underlying9 rfl rfl rfl) (⟨hm133.at 2 rfl, (Fam.rs (hm133.fam 7 rfl) eS_len x98 (by have hb := (show _ < _ from by omega); omega) (Value.slice none 0 0))⟩) ?_
      simp only [nz1, nz2, nz3]
      refine tk 8 81 (.pointer (some ⟨(bk v22), (po v22 + x98 * 1), none⟩)) rfl rfl (fun _ hw => r_ixv (Rs.row (hm133.row 4 rfl)) x98 (by omega) Try.underlying22 sz_9 rfl rfl rfl) (⟨hm133.at 2 rfl, (Fam.rs (hm133.fam 7 rfl) eS_len x98 (by have hb := (show _ < _ from by omega); omega) (Value.slice none 0 0))⟩) ?_
      simp only [nz1, nz2, nz3]
      refine one_ready 9 (by kernel_rfl) ?_
      refine opd rfl (wanted_none rfl) (m_setR 4 (l := l99) x98 ((y52.getD x98 []).getD (((0 : Int) - (1 : Int)).toNat) []) (.string (tx ((y52.getD x98 []).getD (((0 : Int) - (1 : Int)).toNat) []))) hm133 rfl rfl rfl (by omega) rfl rfl sz_9 eS_len rfl rfl (fun w135 (hm136 : Mm none S w w135 [.see (DkR d dv0 dv1) Fd, .see (Rs eB 1 fates fatesv0) Ffates, .blk g4 #[v22, v23, .int .i64 ((copied_m d).fuse), .bool ((copied_m d).down)] 25, .blk g7 #[.slice none 0 0, .slice none 0 0, .int .i64 0, .bool false] 25, .row v22 (l99.set x98 ((y52.getD x98 []).getD (((0 : Int) - (1 : Int)).toNat) [])).length ((l99.set x98 ((y52.getD x98 []).getD (((0 : Int) - (1 : Int)).toNat) [])).flatMap eS) 9 1, .row v23 ((copied_m d).loose).length (((copied_m d).loose).flatMap eWr) 42 2, .row v41 vs53.length (vs53.flatMap eV) 22 1, .fam vs53 (List.map (List.flatMap eS) y52) 9]) => ?_))
      refine ⟨⟨hm136.at 2 rfl, (Fam.rs (hm136.fam 7 rfl) eS_len x98 (by have hb := (show _ < _ from by omega); omega) (Value.slice none 0 0))⟩, ?_⟩
      refine wpAnyH_done (by kernel_rfl) ?_ _
      refine blk_n ?_
      refine then_n (hK115 _ _ ?_)
      refine wp_region_lit ?_
      refine lvw 82 (.int .i64 (((x98 + 1) : Nat) : Int)) rfl rfl (r_add x98 1 (show (x98 + 1) < 9223372036854775808 from by omega) rfl rfl rfl) ?_
      simp only [nz1, nz2, nz3]
      refine lvw 48 (.int .i64 (((x98 + 1) : Nat) : Int)) rfl rfl (run_mv rfl rfl) ?_
      simp only [nz1, nz2, nz3]
      refine wpList_nil ?_
      refine then_n (hR109 _ _ _ ⟨k101, x97, (x98 + 1), (l99.set x98 ((y52.getD x98 []).getD (((0 : Int) - (1 : Int)).toNat) [])), (fun qq => bif Nat.blt qq 24 then List.getD [.int .i64 ((x98 : Nat) : Int), (vs53.getD x98 (Value.slice none 0 0)), .int .i64 0, .bool (decide (x98 < y52.length)), .int .i64 ((x98 : Nat) : Int), .pointer (some ⟨(bk v41), (po v41 + x98 * 1), none⟩), (vs53.getD x98 (Value.slice none 0 0)), (vs53.getD x98 (Value.slice none 0 0)), .int .i64 (((y52.getD x98 []).length : Nat) : Int), .bool (decide ((y52.getD x98 []).length = 0)), .int .i64 ((x97 : Nat) : Int), fatesv0, .int .i64 ((fates.length : Nat) : Int), .bool (decide (x97 < fates.length)), u1 14, u1 15, u1 16, u1 17, u1 18, u1 19, u1 20, u1 21, u1 22, u1 23] qq undef else List.getD [u1 24, .int .i64 0, .bool (decide (0 < 0)), .pointer (some ⟨g4, 0, none⟩), v22, .int .i64 ((x98 : Nat) : Int), (vs53.getD x98 (Value.slice none 0 0)), .int .i64 0, .int .i64 (((0 : Int) - (1 : Int))), .pointer (some ⟨(bk (vs53.getD x98 (Value.slice none 0 0))), (po (vs53.getD x98 (Value.slice none 0 0)) + ((0 : Int) - (1 : Int)).toNat * 1), none⟩), .string (tx ((y52.getD x98 []).getD (((0 : Int) - (1 : Int)).toNat) [])), .pointer (some ⟨(bk v22), (po v22 + x98 * 1), none⟩), .int .i64 (((x98 + 1) : Nat) : Int)] (qq - 24) undef), rfl, (by first | omega | (simp; omega) | (simp at *; omega)), (hi102.trans (show crash_m_b1 d fates fuse y52 y54 (crash_m_l1 d fates fuse y52 y54 k101) x97 x98 l99 = crash_m_l1 d fates fuse y52 y54 k101 (x97, (x98 + 1), (l99.set x98 ((y52.getD x98 []).getD (((0 : Int) - (1 : Int)).toNat) []))) from by unfold crash_m_b1; rw [if_pos hc114, if_neg hc119, if_neg hc123, if_pos hc132] <;> rfl)), (by first | exact hls | (rw [List.length_set]; exact hls)), rfl, hm136⟩ ?_)
      omega
    refine wp_seq_k (fun K124 hK124 => ?_)
    refine wp_region_lit ?_
    refine lvw 60 (fatesv0) rfl rfl (run_mv rfl rfl) ?_
    simp only [nz1, nz2, nz3]
    refine lvw 61 (.int .i64 ((x97 : Nat) : Int)) rfl rfl (run_mv rfl rfl) ?_
    simp only [nz1, nz2, nz3]
    refine lvw 62 (.pointer (some ⟨(bk fatesv0), (po fatesv0 + x97 * 1), none⟩)) rfl rfl (r_ixv ((hm108.see 1 rfl)) x97 (by omega) Try.underlying37 sz_5 rfl rfl rfl) ?_
    simp only [nz1, nz2, nz3]
    refine lvw 63 (.int .u8 (((fates.getD x97 0).toNat : Nat) : Int)) rfl rfl (r_cellw (Rs.cell ((hm108.see 1 rfl)) eB_len 0 x97 (by omega) 0 _ rfl) Try.underlying5 rfl rfl rfl) ?_
    simp only [nz1, nz2, nz3]
    refine lvw 64 (.int .i64 (((fates.getD x97 0).toNat : Nat) : Int)) rfl rfl (r_conv (k' := .i64) ((fates.getD x97 0).toNat) ((fates.getD x97 0).toNat) some_5 Try.underlying3 (wrap_nat (by have := (fates.getD x97 0).toNat_lt; show _ < 9223372036854775808; omega)) rfl rfl) ?_
    simp only [nz1, nz2, nz3]
    refine lvw 65 ((vs53.getD x98 (Value.slice none 0 0))) rfl rfl (run_mv rfl rfl) ?_
    simp only [nz1, nz2, nz3]
    refine lvw 66 (.int .i64 (((y52.getD x98 []).length : Nat) : Int)) rfl rfl (s_len (Fam.rs (hm108.fam 7 rfl) eS_len x98 (by have hb := (show _ < _ from by omega); omega) (Value.slice none 0 0)) rfl Try.underlying22 rfl) ?_
    simp only [nz1, nz2, nz3]
    refine lvw 67 (.int .i64 (((((y52.getD x98 []).length) + 1) : Nat) : Int)) rfl rfl (r_add ((y52.getD x98 []).length) 1 (by have := hfb x98; show _ < 9223372036854775808; omega) rfl rfl rfl) ?_
    simp only [nz1, nz2, nz3]
    refine lvw 68 (.int .i64 (((((fates.getD x97 0).toNat) % (((y52.getD x98 []).length) + 1)) : Nat) : Int)) rfl rfl (r_rem ((fates.getD x97 0).toNat) (((y52.getD x98 []).length) + 1) (by have := (fates.getD x97 0).toNat_lt; show _ < 9223372036854775808; omega) (by omega) rfl rfl rfl) ?_
    simp only [nz1, nz2, nz3]
    refine lvw 14 (.int .i64 (((((fates.getD x97 0).toNat) % (((y52.getD x98 []).length) + 1)) : Nat) : Int)) rfl rfl (run_as rfl rfl) ?_
    simp only [nz1, nz2, nz3]
    refine wpList_nil ?_
    refine then_n (hK124 _ _ ?_)
    refine wp_region_lit ?_
    refine lvw 69 (.int .i64 ((x97 : Nat) : Int)) rfl rfl (run_mv rfl rfl) ?_
    simp only [nz1, nz2, nz3]
    refine lvw 70 (.int .i64 (((x97 + 1) : Nat) : Int)) rfl rfl (r_add x97 1 (show (x97 + 1) < 9223372036854775808 from by omega) rfl rfl rfl) ?_
    simp only [nz1, nz2, nz3]
    refine lvw 11 (.int .i64 (((x97 + 1) : Nat) : Int)) rfl rfl (run_as rfl rfl) ?_
    simp only [nz1, nz2, nz3]
    refine wpList_nil ?_
    refine then_n (hK121 _ _ ?_)
    refine wp_seq_k (fun K125 hK125 => ?_)
    refine wp_region_lit ?_
    refine lvw 71 (.int .i64 (((((fates.getD x97 0).toNat) % (((y52.getD x98 []).length) + 1)) : Nat) : Int)) rfl rfl (run_mv rfl rfl) ?_
    simp only [nz1, nz2, nz3]
    refine lvw 72 (.bool (decide (0 < (((fates.getD x97 0).toNat) % (((y52.getD x98 []).length) + 1))))) rfl rfl (r_gtr (((fates.getD x97 0).toNat) % (((y52.getD x98 []).length) + 1)) 0 rfl rfl rfl) ?_
    simp only [nz1, nz2, nz3]
    refine wpList_nil ?_
    refine then_n (hK125 _ _ ?_)
    refine cond_d (0 < (((fates.getD x97 0).toNat) % (((y52.getD x98 []).length) + 1))) rfl (fun hc126 => ?_) (fun hc126 => ?_)
    rotate_left
    · refine wp_skip ?_
      refine blk_n ?_
      refine then_n (hK115 _ _ ?_)
      refine wp_region_lit ?_
      refine lvw 82 (.int .i64 (((x98 + 1) : Nat) : Int)) rfl rfl (r_add x98 1 (show (x98 + 1) < 9223372036854775808 from by omega) rfl rfl rfl) ?_
      simp only [nz1, nz2, nz3]
      refine lvw 48 (.int .i64 (((x98 + 1) : Nat) : Int)) rfl rfl (run_mv rfl rfl) ?_
      simp only [nz1, nz2, nz3]
      refine wpList_nil ?_
      refine then_n (hR109 _ _ _ ⟨k101, (x97 + 1), (x98 + 1), l99, (fun qq => bif Nat.blt qq 24 then List.getD [.int .i64 ((x98 : Nat) : Int), (vs53.getD x98 (Value.slice none 0 0)), .int .i64 (((((fates.getD x97 0).toNat) % (((y52.getD x98 []).length) + 1)) : Nat) : Int), .bool (decide (x98 < y52.length)), .int .i64 ((x98 : Nat) : Int), .pointer (some ⟨(bk v41), (po v41 + x98 * 1), none⟩), (vs53.getD x98 (Value.slice none 0 0)), (vs53.getD x98 (Value.slice none 0 0)), .int .i64 (((y52.getD x98 []).length : Nat) : Int), .bool (decide ((y52.getD x98 []).length = 0)), .int .i64 ((x97 : Nat) : Int), fatesv0, .int .i64 ((fates.length : Nat) : Int), .bool (decide (x97 < fates.length)), fatesv0, .int .i64 ((x97 : Nat) : Int), .pointer (some ⟨(bk fatesv0), (po fatesv0 + x97 * 1), none⟩), .int .u8 (((fates.getD x97 0).toNat : Nat) : Int), .int .i64 (((fates.getD x97 0).toNat : Nat) : Int), (vs53.getD x98 (Value.slice none 0 0)), .int .i64 (((y52.getD x98 []).length : Nat) : Int), .int .i64 (((((y52.getD x98 []).length) + 1) : Nat) : Int), .int .i64 (((((fates.getD x97 0).toNat) % (((y52.getD x98 []).length) + 1)) : Nat) : Int), .int .i64 ((x97 : Nat) : Int)] qq undef else List.getD [.int .i64 (((x97 + 1) : Nat) : Int), .int .i64 (((((fates.getD x97 0).toNat) % (((y52.getD x98 []).length) + 1)) : Nat) : Int), .bool (decide (0 < (((fates.getD x97 0).toNat) % (((y52.getD x98 []).length) + 1)))), u1 27, u1 28, u1 29, u1 30, u1 31, u1 32, u1 33, u1 34, u1 35, .int .i64 (((x98 + 1) : Nat) : Int)] (qq - 24) undef), rfl, (by first | omega | (simp; omega) | (simp at *; omega)), (hi102.trans (show crash_m_b1 d fates fuse y52 y54 (crash_m_l1 d fates fuse y52 y54 k101) x97 x98 l99 = crash_m_l1 d fates fuse y52 y54 k101 ((x97 + 1), (x98 + 1), l99) from by unfold crash_m_b1; rw [if_pos hc114, if_neg hc119, if_pos hc123, if_neg hc126] <;> rfl)), (by first | exact hls | (rw [List.length_set]; exact hls)), rfl, hm108⟩ ?_)
      omega
    have hm127 := hm108.drew
    refine wp_region_held_drew (S := fun w' => Mem.Blk w' g4 (#[v22, v23, .int .i64 ((copied_m d).fuse), .bool ((copied_m d).down)]) 25 ∧ Rs eS 1 (y52.getD x98 []) (vs53.getD x98 (Value.slice none 0 0)) w') (by kernel_rfl) (⟨hm127.at 2 rfl, (Fam.rs (hm127.fam 7 rfl) eS_len x98 (by have hb := (show _ < _ from by omega); omega) (Value.slice none 0 0))⟩) (fun _ => ?_)
    generalize w107.drew = w128 at *
    refine tk 0 73 (.pointer (some ⟨g4, 0, none⟩)) rfl rfl (fun _ hw => r_fa25_0 g4 0 rfl rfl) (⟨hm127.at 2 rfl, (Fam.rs (hm127.fam 7 rfl) eS_len x98 (by have hb := (show _ < _ from by omega); omega) (Value.slice none 0 0))⟩) ?_
    simp only [nz1, nz2, nz3]
    refine tk 1 74 (v22) rfl rfl (fun _ hw => r_load hw.1 rfl Try.underlying22 rfl rfl rfl) (⟨hm127.at 2 rfl, (Fam.rs (hm127.fam 7 rfl) eS_len x98 (by have hb := (show _ < _ from by omega); omega) (Value.slice none 0 0))⟩) ?_
    simp only [nz1, nz2, nz3]
    refine tk 2 75 (.int .i64 ((x98 : Nat) : Int)) rfl rfl (fun _ hw => run_mv rfl rfl) (⟨hm127.at 2 rfl, (Fam.rs (hm127.fam 7 rfl) eS_len x98 (by have hb := (show _ < _ from by omega); omega) (Value.slice none 0 0))⟩) ?_
    simp only [nz1, nz2, nz3]
    refine tk 3 76 ((vs53.getD x98 (Value.slice none 0 0))) rfl rfl (fun _ hw => run_mv rfl rfl) (⟨hm127.at 2 rfl, (Fam.rs (hm127.fam 7 rfl) eS_len x98 (by have hb := (show _ < _ from by omega); omega) (Value.slice none 0 0))⟩) ?_
    simp only [nz1, nz2, nz3]
    refine tk 4 77 (.int .i64 (((((fates.getD x97 0).toNat) % (((y52.getD x98 []).length) + 1)) : Nat) : Int)) rfl rfl (fun _ hw => run_mv rfl rfl) (⟨hm127.at 2 rfl, (Fam.rs (hm127.fam 7 rfl) eS_len x98 (by have hb := (show _ < _ from by omega); omega) (Value.slice none 0 0))⟩) ?_
    simp only [nz1, nz2, nz3]
    refine tk 5 78 (.int .i64 (((((((fates.getD x97 0).toNat) % (((y52.getD x98 []).length) + 1)) : Nat) : Int) - (1 : Int)))) rfl rfl (fun _ hw => z_sub (((((fates.getD x97 0).toNat) % (((y52.getD x98 []).length) + 1)) : Nat) : Int) (1 : Int) _ (by have h1 := Nat.mod_lt ((fates.getD x97 0).toNat) (show 0 < (((y52.getD x98 []).length) + 1) from Nat.succ_pos _); have h2 := Nat.mod_le ((fates.getD x97 0).toNat) (((y52.getD x98 []).length) + 1); have h3 := (fates.getD x97 0).toNat_lt; rw [IntKind.wrap_i64]; omega) rfl rfl rfl) (⟨hm127.at 2 rfl, (Fam.rs (hm127.fam 7 rfl) eS_len x98 (by have hb := (show _ < _ from by omega); omega) (Value.slice none 0 0))⟩) ?_
    simp only [nz1, nz2, nz3]
    refine tk 6 79 (.pointer (some ⟨(bk (vs53.getD x98 (Value.slice none 0 0))), (po (vs53.getD x98 (Value.slice none 0 0)) + ((((((fates.getD x97 0).toNat) % (((y52.getD x98 []).length) + 1)) : Nat) : Int) - (1 : Int)).toNat * 1), none⟩)) rfl rfl (fun _ hw => r_ixvZ (Fam.rs (hm127.fam 7 rfl) eS_len x98 (by have hb := (show _ < _ from by omega); omega) (Value.slice none 0 0)) ((((((fates.getD x97 0).toNat) % (((y52.getD x98 []).length) + 1)) : Nat) : Int) - (1 : Int)) (by have h1 := Nat.mod_lt ((fates.getD x97 0).toNat) (show 0 < (((y52.getD x98 []).length) + 1) from Nat.succ_pos _); have h2 := Nat.mod_le ((fates.getD x97 0).toNat) (((y52.getD x98 []).length) + 1); have h3 := (fates.getD x97 0).toNat_lt; omega) (by have h1 := Nat.mod_lt ((fates.getD x97 0).toNat) (show 0 < (((y52.getD x98 []).length) + 1) from Nat.succ_pos _); have h2 := Nat.mod_le ((fates.getD x97 0).toNat) (((y52.getD x98 []).length) + 1); have h3 := (fates.getD x97 0).toNat_lt; omega) Try.underlying22 sz_9 rfl rfl rfl) (⟨hm127.at 2 rfl, (Fam.rs (hm127.fam 7 rfl) eS_len x98 (by have hb := (show _ < _ from by omega); omega) (Value.slice none 0 0))⟩) ?_
    simp only [nz1, nz2, nz3]
    refine tk 7 80 (.string (tx ((y52.getD x98 []).getD (((((((fates.getD x97 0).toNat) % (((y52.getD x98 []).length) + 1)) : Nat) : Int) - (1 : Int)).toNat) []))) rfl rfl (fun _ hw => r_cellw (Rs.cell hw.2 eS_len [] (((((((fates.getD x97 0).toNat) % (((y52.getD x98 []).length) + 1)) : Nat) : Int) - (1 : Int)).toNat) (by have h1 := Nat.mod_lt ((fates.getD x97 0).toNat) (show 0 < (((y52.getD x98 []).length) + 1) from Nat.succ_pos _); have h2 := Nat.mod_le ((fates.getD x97 0).toNat) (((y52.getD x98 []).length) + 1); have h3 := (fates.getD x97 0).toNat_lt; omega) 0 _ rfl) Try.underlying9 rfl rfl rfl) (⟨hm127.at 2 rfl, (Fam.rs (hm127.fam 7 rfl) eS_len x98 (by have hb := (show _ < _ from by omega); omega) (Value.slice none 0 0))⟩) ?_
    simp only [nz1, nz2, nz3]
    refine tk 8 81 (.pointer (some ⟨(bk v22), (po v22 + x98 * 1), none⟩)) rfl rfl (fun _ hw => r_ixv (Rs.row (hm127.row 4 rfl)) x98 (by omega) Try.underlying22 sz_9 rfl rfl rfl) (⟨hm127.at 2 rfl, (Fam.rs (hm127.fam 7 rfl) eS_len x98 (by have hb := (show _ < _ from by omega); omega) (Value.slice none 0 0))⟩) ?_
    simp only [nz1, nz2, nz3]
    refine one_ready 9 (by kernel_rfl) ?_
    refine opd rfl (wanted_none rfl) (m_setR 4 (l := l99) x98 ((y52.getD x98 []).getD (((((((fates.getD x97 0).toNat) % (((y52.getD x98 []).length) + 1)) : Nat) : Int) - (1 : Int)).toNat) []) (.string (tx ((y52.getD x98 []).getD (((((((fates.getD x97 0).toNat) % (((y52.getD x98 []).length) + 1)) : Nat) : Int) - (1 : Int)).toNat) []))) hm127 rfl rfl rfl (by omega) rfl rfl sz_9 eS_len rfl rfl (fun w129 (hm130 : Mm none S w w129 [.see (DkR d dv0 dv1) Fd, .see (Rs eB 1 fates fatesv0) Ffates, .blk g4 #[v22, v23, .int .i64 ((copied_m d).fuse), .bool ((copied_m d).down)] 25, .blk g7 #[.slice none 0 0, .slice none 0 0, .int .i64 0, .bool false] 25, .row v22 (l99.set x98 ((y52.getD x98 []).getD (((((((fates.getD x97 0).toNat) % (((y52.getD x98 []).length) + 1)) : Nat) : Int) - (1 : Int)).toNat) [])).length ((l99.set x98 ((y52.getD x98 []).getD (((((((fates.getD x97 0).toNat) % (((y52.getD x98 []).length) + 1)) : Nat) : Int) - (1 : Int)).toNat) [])).flatMap eS) 9 1, .row v23 ((copied_m d).loose).length (((copied_m d).loose).flatMap eWr) 42 2, .row v41 vs53.length (vs53.flatMap eV) 22 1, .fam vs53 (List.map (List.flatMap eS) y52) 9]) => ?_))
    refine ⟨⟨hm130.at 2 rfl, (Fam.rs (hm130.fam 7 rfl) eS_len x98 (by have hb := (show _ < _ from by omega); omega) (Value.slice none 0 0))⟩, ?_⟩
    refine wpAnyH_done (by kernel_rfl) ?_ _
    refine blk_n ?_
    refine then_n (hK115 _ _ ?_)
    refine wp_region_lit ?_
    refine lvw 82 (.int .i64 (((x98 + 1) : Nat) : Int)) rfl rfl (r_add x98 1 (show (x98 + 1) < 9223372036854775808 from by omega) rfl rfl rfl) ?_
    simp only [nz1, nz2, nz3]
    refine lvw 48 (.int .i64 (((x98 + 1) : Nat) : Int)) rfl rfl (run_mv rfl rfl) ?_
    simp only [nz1, nz2, nz3]
    refine wpList_nil ?_
    refine then_n (hR109 _ _ _ ⟨k101, (x97 + 1), (x98 + 1), (l99.set x98 ((y52.getD x98 []).getD (((((((fates.getD x97 0).toNat) % (((y52.getD x98 []).length) + 1)) : Nat) : Int) - (1 : Int)).toNat) [])), (fun qq => bif Nat.blt qq 24 then List.getD [.int .i64 ((x98 : Nat) : Int), (vs53.getD x98 (Value.slice none 0 0)), .int .i64 (((((fates.getD x97 0).toNat) % (((y52.getD x98 []).length) + 1)) : Nat) : Int), .bool (decide (x98 < y52.length)), .int .i64 ((x98 : Nat) : Int), .pointer (some ⟨(bk v41), (po v41 + x98 * 1), none⟩), (vs53.getD x98 (Value.slice none 0 0)), (vs53.getD x98 (Value.slice none 0 0)), .int .i64 (((y52.getD x98 []).length : Nat) : Int), .bool (decide ((y52.getD x98 []).length = 0)), .int .i64 ((x97 : Nat) : Int), fatesv0, .int .i64 ((fates.length : Nat) : Int), .bool (decide (x97 < fates.length)), fatesv0, .int .i64 ((x97 : Nat) : Int), .pointer (some ⟨(bk fatesv0), (po fatesv0 + x97 * 1), none⟩), .int .u8 (((fates.getD x97 0).toNat : Nat) : Int), .int .i64 (((fates.getD x97 0).toNat : Nat) : Int), (vs53.getD x98 (Value.slice none 0 0)), .int .i64 (((y52.getD x98 []).length : Nat) : Int), .int .i64 (((((y52.getD x98 []).length) + 1) : Nat) : Int), .int .i64 (((((fates.getD x97 0).toNat) % (((y52.getD x98 []).length) + 1)) : Nat) : Int), .int .i64 ((x97 : Nat) : Int)] qq undef else List.getD [.int .i64 (((x97 + 1) : Nat) : Int), .int .i64 (((((fates.getD x97 0).toNat) % (((y52.getD x98 []).length) + 1)) : Nat) : Int), .bool (decide (0 < (((fates.getD x97 0).toNat) % (((y52.getD x98 []).length) + 1)))), .pointer (some ⟨g4, 0, none⟩), v22, .int .i64 ((x98 : Nat) : Int), (vs53.getD x98 (Value.slice none 0 0)), .int .i64 (((((fates.getD x97 0).toNat) % (((y52.getD x98 []).length) + 1)) : Nat) : Int), .int .i64 (((((((fates.getD x97 0).toNat) % (((y52.getD x98 []).length) + 1)) : Nat) : Int) - (1 : Int))), .pointer (some ⟨(bk (vs53.getD x98 (Value.slice none 0 0))), (po (vs53.getD x98 (Value.slice none 0 0)) + ((((((fates.getD x97 0).toNat) % (((y52.getD x98 []).length) + 1)) : Nat) : Int) - (1 : Int)).toNat * 1), none⟩), .string (tx ((y52.getD x98 []).getD (((((((fates.getD x97 0).toNat) % (((y52.getD x98 []).length) + 1)) : Nat) : Int) - (1 : Int)).toNat) [])), .pointer (some ⟨(bk v22), (po v22 + x98 * 1), none⟩), .int .i64 (((x98 + 1) : Nat) : Int)] (qq - 24) undef), rfl, (by first | omega | (simp; omega) | (simp at *; omega)), (hi102.trans (show crash_m_b1 d fates fuse y52 y54 (crash_m_l1 d fates fuse y52 y54 k101) x97 x98 l99 = crash_m_l1 d fates fuse y52 y54 k101 ((x97 + 1), (x98 + 1), (l99.set x98 ((y52.getD x98 []).getD (((((((fates.getD x97 0).toNat) % (((y52.getD x98 []).length) + 1)) : Nat) : Int) - (1 : Int)).toNat) []))) from by unfold crash_m_b1; rw [if_pos hc114, if_neg hc119, if_pos hc123, if_pos hc126] <;> rfl)), (by first | exact hls | (rw [List.length_set]; exact hls)), rfl, hm130⟩ ?_)
    omega
  rintro _ w137 ⟨y103, y104, y105, yu1, hx106, hls, rfl, hm138⟩
  have hq139 : crash_m d fates fuse = crash_m_k1 d fates fuse y52 y54 y103 y104 y105 := (hq93.trans (show crash_m_k0 d fates fuse y52 y54 = crash_m_k1 d fates fuse y52 y54 y103 y104 y105 from by unfold crash_m_k0; rw [hx106] <;> rfl))
  refine then_n (hK95 _ _ ?_)
  refine wp_seq_k (fun K140 hK140 => ?_)
  refine wp_region_lit ?_
  refine lvw 83 (.pointer (some ⟨g4, 1, none⟩)) rfl rfl (r_fa25_1 g4 0 rfl rfl) ?_
  simp only [nz1, nz2, nz3]
  have ho143 := (show (Value.slice none 0 0).oneCell' = true from rfl)
  refine lst rfl (m_store 2 23 _ _ 1 (.slice none 0 0) (old := #[v22, v23, .int .i64 ((copied_m d).fuse), .bool ((copied_m d).down)]) (new := #[v22, .slice none 0 0, .int .i64 ((copied_m d).fuse), .bool ((copied_m d).down)]) hm138 rfl rfl rfl rfl rfl (by rw [cells_one ho143]; exact sz_23) (by rw [cells_one ho143]; exact (show 1 + 1 ≤ 4 from by decide)) (one_all ho143) (by rw [cells_one ho143]; rfl) (fun w141 (hm142 : Mm none S w w141 [.see (DkR d dv0 dv1) Fd, .see (Rs eB 1 fates fatesv0) Ffates, .blk g4 #[v22, .slice none 0 0, .int .i64 ((copied_m d).fuse), .bool ((copied_m d).down)] 25, .blk g7 #[.slice none 0 0, .slice none 0 0, .int .i64 0, .bool false] 25, .row v22 y105.length (y105.flatMap eS) 9 1, .row v23 ((copied_m d).loose).length (((copied_m d).loose).flatMap eWr) 42 2, .row v41 vs53.length (vs53.flatMap eV) 22 1, .fam vs53 (List.map (List.flatMap eS) y52) 9]) => ?_))
  refine wpList_nil ?_
  refine then_n (hK140 _ _ ?_)
  refine wp_seq_k (fun K144 hK144 => ?_)
  refine wp_region_lit ?_
  refine lvw 84 (.pointer (some ⟨g4, 3, none⟩)) rfl rfl (r_fa25_3 g4 0 rfl rfl) ?_
  simp only [nz1, nz2, nz3]
  refine lst rfl (m_store 2 4 _ _ 3 (.bool false) (old := #[v22, .slice none 0 0, .int .i64 ((copied_m d).fuse), .bool ((copied_m d).down)]) (new := #[v22, .slice none 0 0, .int .i64 ((copied_m d).fuse), .bool false]) hm142 rfl rfl rfl rfl rfl (by exact sz_4) (show 3 + 1 ≤ 4 from by decide) (one_all rfl) rfl (fun w145 (hm146 : Mm none S w w145 [.see (DkR d dv0 dv1) Fd, .see (Rs eB 1 fates fatesv0) Ffates, .blk g4 #[v22, .slice none 0 0, .int .i64 ((copied_m d).fuse), .bool false] 25, .blk g7 #[.slice none 0 0, .slice none 0 0, .int .i64 0, .bool false] 25, .row v22 y105.length (y105.flatMap eS) 9 1, .row v23 ((copied_m d).loose).length (((copied_m d).loose).flatMap eWr) 42 2, .row v41 vs53.length (vs53.flatMap eV) 22 1, .fam vs53 (List.map (List.flatMap eS) y52) 9]) => ?_))
  refine wpList_nil ?_
  refine then_n (hK144 _ _ ?_)
  refine wp_seq_k (fun K147 hK147 => ?_)
  refine wp_region_lit ?_
  refine lvw 85 (.int .i64 (fuse)) rfl rfl (run_mv rfl rfl) ?_
  simp only [nz1, nz2, nz3]
  refine lvw 86 (.pointer (some ⟨g4, 2, none⟩)) rfl rfl (r_fa25_2 g4 0 rfl rfl) ?_
  simp only [nz1, nz2, nz3]
  refine lst rfl (m_store 2 3 _ _ 2 (.int .i64 (fuse)) (old := #[v22, .slice none 0 0, .int .i64 ((copied_m d).fuse), .bool false]) (new := #[v22, .slice none 0 0, .int .i64 (fuse), .bool false]) hm146 rfl rfl rfl rfl rfl (by exact sz_3) (show 2 + 1 ≤ 4 from by decide) (one_all rfl) rfl (fun w148 (hm149 : Mm none S w w148 [.see (DkR d dv0 dv1) Fd, .see (Rs eB 1 fates fatesv0) Ffates, .blk g4 #[v22, .slice none 0 0, .int .i64 (fuse), .bool false] 25, .blk g7 #[.slice none 0 0, .slice none 0 0, .int .i64 0, .bool false] 25, .row v22 y105.length (y105.flatMap eS) 9 1, .row v23 ((copied_m d).loose).length (((copied_m d).loose).flatMap eWr) 42 2, .row v41 vs53.length (vs53.flatMap eV) 22 1, .fam vs53 (List.map (List.flatMap eS) y52) 9]) => ?_))
  refine wpList_nil ?_
  refine then_n (hK147 _ _ ?_)
  refine wp_seq_k (fun K150 hK150 => ?_)
  refine wp_region_lit ?_
  refine lvw 87 (.agg #[v22, .slice none 0 0, .int .i64 (fuse), .bool false]) rfl rfl (r_whole (hm149.at 2 rfl) Try.underlying25 rfl (by exact sz_25) rfl rfl) ?_
  simp only [nz1, nz2, nz3]
  have ho153 := (rd_one (Rs.row (hm149.row 4 rfl)))
  have ho154 := (show (Value.slice none 0 0).oneCell' = true from rfl)
  refine lst rfl (m_store 3 25 _ _ 0 (.agg #[v22, .slice none 0 0, .int .i64 (fuse), .bool false]) (old := #[.slice none 0 0, .slice none 0 0, .int .i64 0, .bool false]) (new := #[v22, .slice none 0 0, .int .i64 (fuse), .bool false]) hm149 rfl rfl rfl rfl rfl (by exact sz_25) (show 0 + 4 ≤ 4 from by decide) (by rw [Array.all_eq_true_iff_forall_mem]; intro x hx; simp only [Value.cells, List.mem_toArray, List.mem_cons, List.not_mem_nil, or_false] at hx; rcases hx with rfl | rfl | rfl | rfl <;> first | rfl | assumption) rfl (fun w151 (hm152 : Mm none S w w151 [.see (DkR d dv0 dv1) Fd, .see (Rs eB 1 fates fatesv0) Ffates, .blk g4 #[v22, .slice none 0 0, .int .i64 (fuse), .bool false] 25, .blk g7 #[v22, .slice none 0 0, .int .i64 (fuse), .bool false] 25, .row v22 y105.length (y105.flatMap eS) 9 1, .row v23 ((copied_m d).loose).length (((copied_m d).loose).flatMap eWr) 42 2, .row v41 vs53.length (vs53.flatMap eV) 22 1, .fam vs53 (List.map (List.flatMap eS) y52) 9]) => ?_))
  refine lvw 7 (.int .i64 0) rfl rfl (run_as rfl rfl) ?_
  simp only [nz1, nz2, nz3]
  refine wpList_nil ?_
  refine then_n (hK150 _ _ ?_)
  refine wp_ret ?_
  have hm155 : Mm none S w w151 [.see (DkR d dv0 dv1) Fd, .see (Rs eB 1 fates fatesv0) Ffates, .blk g4 #[v22, .slice none 0 0, .int .i64 (fuse), .bool false] 25, .blk g7 #[v22, .slice none 0 0, .int .i64 (fuse), .bool false] 25, .see (Rs eS 1 y105 v22) (fp v22 (y105.flatMap eS)), .row v23 ((copied_m d).loose).length (((copied_m d).loose).flatMap eWr) 42 2, .row v41 vs53.length (vs53.flatMap eV) 22 1, .fam vs53 (List.map (List.flatMap eS) y52) 9] := hm152.freeze 4 rfl
  have he156 : crash_m d fates fuse = ((Dk.mk y105 ([] : List Wr) fuse false), 0) := (hq139.trans (show crash_m_k1 d fates fuse y52 y54 y103 y104 y105 = ((Dk.mk y105 ([] : List Wr) fuse false), 0) from by unfold crash_m_k1; rfl))
  exact ⟨rfl, .tuple #[.agg #[v22, .slice none 0 0, .int .i64 (fuse), .bool false], .int .i64 0], Mem.res_ct rfl rfl (hm155.at 3 rfl) Try.underlying25 rfl (by exact sz_25) rfl, ⟨⟨_, rfl, v22, (.slice none 0 0), (by first | rfl | rw [he156]), by rw [he156]; exact hm155.give ((hm155.from 4 rfl).and (From.pure (fun W => Rs.nil eWr 2 W)))⟩, hm155.below⟩⟩
theorem run_crash {o : Oper} {a : Act} {w : World} {x0 x1 x2 : Operand} {v0 v1 v2 : Value} (ho : o.op = .call { callee := .value (.func 23), args := #[x0, x1, x2], argTypes := #[25, 37, 3] }) (h0 : a.eval x0 = v0) (h1 : a.eval x1 = v1) (h2 : a.eval x2 = v2) :
    (execOp a.eval o).run Try.prog w = .ok (.enter 23 #[v0, v1, v2]) w := by
  unfold execOp
  simp only [ho]
  have hf : a.eval (.func 23) = .func (.func 23) #[] #[] := rfl
  generalize a.eval = f at *
  go_simp
end Go.Proofs.Ytmammofbgllceaa.Bk
