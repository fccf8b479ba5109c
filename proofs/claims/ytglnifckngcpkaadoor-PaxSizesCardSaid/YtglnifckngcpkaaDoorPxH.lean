/- Layer 10: the document's texts of records. -/
import Derived.Test.YtglnifckngcpkaaDoorPxG
namespace Go.Proofs.YtglnifckngcpkaaDoor.Px
open Go.RowKit
open Go.Proofs.YtglnifckngcpkaaDoor.Sym Go.Proofs.YtglnifckngcpkaaDoor.Mem
open Go.Proofs.YtglnifckngcpkaaDoor.Sx hiding Mm m_alloc m_store m_put m_call m_callx m_make m_append r_string r_ixS
set_option linter.unusedVariables false
attribute [local irreducible] rdig_m rone_m rkey_m rlen_m rplace_m
attribute [local irreducible] wpList Oper.wp

def rencode_m_b0 (l : List Par) (rec : (List UInt8) × Nat → Sum ((List UInt8) × Nat) ((List UInt8) × Int)) (x5 : List UInt8) (x6 : Nat) : Sum ((List UInt8) × Nat) ((List UInt8) × Int) :=
  if x6 < l.length then
    if (!(rkey_m ((l.getD x6 dPar).key))) = true then
      .inr (([]), 1)
    else
      if 1048576 < x5.length then
        .inr (([]), 3)
      else
        if 1048576 < ((l.getD x6 dPar).key).length then
          .inr (([]), 3)
        else
          if 1048576 < ((l.getD x6 dPar).value).length then
            .inr (([]), 3)
          else
            rec ((x5 ++ (rone_m (l.getD x6 dPar))), (x6 + 1))
  else
    .inl (x5, x6)
def rencode_m_l0 (l : List Par) : Nat → (List UInt8) × Nat → Sum ((List UInt8) × Nat) ((List UInt8) × Int)
  | 0, zz => .inl zz
  | nq + 1, zz => rencode_m_b0 l (rencode_m_l0 l nq) zz.1 zz.2

def rencode_m_k0 (l : List Par) (y10 : List UInt8) (y11 : Nat) : (List UInt8) × Int :=
  if 1048576 < y10.length then
    (([]), 3)
  else
    (y10, 0)

def rencode_m (l : List Par) : (List UInt8) × Int :=
  fin (rencode_m_l0 l ((l.length - 0) + 1) (([]), 0)) (fun r => r) (fun zz => rencode_m_k0 l zz.1 zz.2)

set_option maxHeartbeats 4000000 in
set_option maxRecDepth 100000 in
theorem rencode_any (l : List Par) (lv0 : Value) (w : World) (hl : Rs ePar 2 l lv0 w) (hp0 : l.length ≤ 4398046511104) (hp1 : ∀ i, (l.getD i dPar).key.length ≤ 1048576) : Calls Tryd.prog 26 #[lv0] w (fun e w' => e = .returned (.tuple #[.string (tx ((rencode_m l).1)), .int .i64 ((rencode_m l).2)]) ∧ Below w.heap.size w w') := by
  go_enter Tryd.func26, Tryd.ntmps26
  have hm00 := Mm.nil none (fun _ => True) w
  obtain ⟨Fl, hm01⟩ : ∃ Fl, Mm none (fun _ => True) w w [.see (Rs ePar 2 l lv0) Fl] := hm00.come (Rs.all hl)
  have hm0 := hm01
  refine wp_seq_k (fun K1 hK1 => ?_)
  refine wp_region_lit ?_
  refine lvw 2 (.string (tx ([]))) rfl rfl (run_as rfl rfl) ?_
  simp only [nz1, nz2, nz3]
  refine lvw 3 (.int .i64 0) rfl rfl (run_as rfl rfl) ?_
  simp only [nz1, nz2, nz3]
  refine wpList_nil ?_
  refine then_n (hK1 _ _ ?_)
  refine wp_seq_k (fun K2 hK2 => ?_)
  refine wp_region_lit ?_
  refine lvw 4 (.string (tx ([]))) rfl rfl (run_as rfl rfl) ?_
  simp only [nz1, nz2, nz3]
  refine wpList_nil ?_
  refine then_n (hK2 _ _ ?_)
  refine wp_seq_k (fun K3 hK3 => ?_)
  refine wp_seq_k (fun K4 hK4 => ?_)
  refine wp_region_lit ?_
  refine lvw 5 (.int .i64 0) rfl rfl (run_as rfl rfl) ?_
  simp only [nz1, nz2, nz3]
  refine wpList_nil ?_
  refine then_n (hK4 _ _ ?_)
  refine wp_cutK (fun a' w' => ∃ (y10 : List UInt8) (y11 : Nat) (yu0 : Nat → Value), rencode_m_l0 l ((l.length - 0) + 1) (([]), 0) = .inl (y10, y11) ∧ (y10.length ≤ 3145776) ∧ a' = ⟨#[lv0, undef, yu0 0, yu0 1, .string (tx y10), .int .i64 ((y11 : Nat) : Int), yu0 2, yu0 3, yu0 4, yu0 5, yu0 6, yu0 7, yu0 8, yu0 9, yu0 10, yu0 11, yu0 12, yu0 13, yu0 14, yu0 15, yu0 16, yu0 17, yu0 18, yu0 19, yu0 20, yu0 21, yu0 22, yu0 23, yu0 24, yu0 25, yu0 26, yu0 27, yu0 28, yu0 29, yu0 30, yu0 31, yu0 32, yu0 33, yu0 34, yu0 35, yu0 36, yu0 37, yu0 38, yu0 39, yu0 40, yu0 41, yu0 42, undef, undef, undef, undef], []⟩ ∧ Mm none (fun _ => True) w w' [.see (Rs ePar 2 l lv0) Fl]) ?_ ?_
  · refine wp_block ?_
    refine wp_loop_n (fun n' a' w' => ∃ (n7 : Nat) (x5 : List UInt8) (x6 : Nat) (u0 : Nat → Value), n' = n7 ∧ (l.length - x6) < n7 ∧ rencode_m_l0 l ((l.length - 0) + 1) (([]), 0) = rencode_m_l0 l n7 (x5, x6) ∧ (x5.length ≤ 3145776) ∧ a' = ⟨#[lv0, undef, u0 0, u0 1, .string (tx x5), .int .i64 ((x6 : Nat) : Int), u0 2, u0 3, u0 4, u0 5, u0 6, u0 7, u0 8, u0 9, u0 10, u0 11, u0 12, u0 13, u0 14, u0 15, u0 16, u0 17, u0 18, u0 19, u0 20, u0 21, u0 22, u0 23, u0 24, u0 25, u0 26, u0 27, u0 28, u0 29, u0 30, u0 31, u0 32, u0 33, u0 34, u0 35, u0 36, u0 37, u0 38, u0 39, u0 40, u0 41, u0 42, undef, undef, undef, undef], []⟩ ∧ Mm none (fun _ => True) w w' [.see (Rs ePar 2 l lv0) Fl]) ⟨((l.length - 0) + 1), ([]), 0, (fun qq => bif Nat.blt qq 24 then List.getD [.string (tx ([])), .int .i64 0, undef, undef, undef, undef, undef, undef, undef, undef, undef, undef, undef, undef, undef, undef, undef, undef, undef, undef, undef, undef, undef, undef] qq undef else List.getD [undef, undef, undef, undef, undef, undef, undef, undef, undef, undef, undef, undef, undef, undef, undef, undef, undef, undef, undef] (qq - 24) undef), rfl, Nat.lt_succ_self _, rfl, (by first | omega | (simp; done) | (simp; omega) | (simp at *; omega)), rfl, hm0⟩ ?_
    rintro n7 _ w13 ⟨_, x5, x6, u0, rfl, hl17, hi9, hen, rfl, hm14⟩ R15 hR15
    obtain ⟨k8, rfl⟩ : ∃ k, n7 = k + 1 := ⟨n7 - 1, by omega⟩
    refine wp_seq_k (fun K18 hK18 => ?_)
    refine wp_seq_k (fun K19 hK19 => ?_)
    refine wp_region_lit ?_
    refine lvw 6 (.int .i64 ((x6 : Nat) : Int)) rfl rfl (run_mv rfl rfl) ?_
    simp only [nz1, nz2, nz3]
    refine lvw 7 (lv0) rfl rfl (run_mv rfl rfl) ?_
    simp only [nz1, nz2, nz3]
    refine lvw 8 (.int .i64 ((l.length : Nat) : Int)) rfl rfl (s_len ((hm14.see 0 rfl)) rfl Tryd.underlying36 rfl) ?_
    simp only [nz1, nz2, nz3]
    refine lvw 9 (.bool (decide (x6 < l.length))) rfl rfl (r_lss x6 l.length rfl rfl rfl) ?_
    simp only [nz1, nz2, nz3]
    refine wpList_nil ?_
    refine then_n (hK19 _ _ ?_)
    refine cond_d (x6 < l.length) rfl (fun hc20 => ?_) (fun hc20 => ?_)
    rotate_left
    · refine wp_exit ?_
      refine then_x ?_
      refine then_x ?_
      refine blk_x ?_
      refine then_n ?_
      exact ⟨x5, x6, (fun qq => bif Nat.blt qq 24 then List.getD [u0 0, u0 1, .int .i64 ((x6 : Nat) : Int), lv0, .int .i64 ((l.length : Nat) : Int), .bool (decide (x6 < l.length)), u0 6, u0 7, u0 8, u0 9, u0 10, u0 11, u0 12, u0 13, u0 14, u0 15, u0 16, u0 17, u0 18, u0 19, u0 20, u0 21, u0 22, u0 23] qq undef else List.getD [u0 24, u0 25, u0 26, u0 27, u0 28, u0 29, u0 30, u0 31, u0 32, u0 33, u0 34, u0 35, u0 36, u0 37, u0 38, u0 39, u0 40, u0 41, u0 42] (qq - 24) undef), (hi9.trans (show rencode_m_b0 l (rencode_m_l0 l k8) x5 x6 = .inl (x5, x6) from by unfold rencode_m_b0; rw [if_neg hc20] <;> rfl)), (by first | omega | (simp; done) | (simp; omega) | (simp at *; omega)), rfl, hm14⟩
    refine wp_skip ?_
    refine then_n (hK18 _ _ ?_)
    refine wp_seq_k (fun K21 hK21 => ?_)
    refine wp_block ?_
    refine wp_seq_k (fun K22 hK22 => ?_)
    refine wp_seq_k (fun K23 hK23 => ?_)
    refine wp_region_lit ?_
    refine lvw 12 (lv0) rfl rfl (run_mv rfl rfl) ?_
    simp only [nz1, nz2, nz3]
    refine lvw 13 (.int .i64 ((x6 : Nat) : Int)) rfl rfl (run_mv rfl rfl) ?_
    simp only [nz1, nz2, nz3]
    refine lvw 14 (.pointer (some ⟨(bk lv0), (po lv0 + x6 * 2), none⟩)) rfl rfl (r_ixv ((hm14.see 0 rfl)) x6 (by omega) Tryd.underlying36 sz_47 rfl rfl rfl) ?_
    simp only [nz1, nz2, nz3]
    refine lvw 15 (.pointer (some ⟨(bk lv0), ((po lv0 + x6 * 2) + 0), none⟩)) rfl rfl (r_fa47_0 (bk lv0) (po lv0 + x6 * 2) rfl rfl) ?_
    simp only [nz1, nz2, nz3]
    refine lvw 16 (.string (tx ((l.getD x6 dPar).key))) rfl rfl (r_cellw (Rs.cell ((hm14.see 0 rfl)) ePar_len dPar x6 (by omega) 0 _ rfl) Tryd.underlying9 rfl rfl rfl) ?_
    simp only [nz1, nz2, nz3]
    refine lst rfl (m_call hm14 17 (.bool ((rkey_m ((l.getD x6 dPar).key)))) rfl (run_rkey rfl rfl) (rkey_any ((l.getD x6 dPar).key)  _  (by first | omega | assumption | exact hp1 _ | (simp; done) | (simp; omega) | (simp only [List.length_append, List.length_cons, List.length_nil]; omega) | (simp only [List.length_append, List.length_cons, List.length_nil] at *; omega) | decide)) (fun w24 (hm25 : Mm none (fun _ => True) w w24 [.see (Rs ePar 2 l lv0) Fl]) => ?_))
    simp only [nz1, nz2, nz3]
    refine lvw 18 (.bool (!(rkey_m ((l.getD x6 dPar).key)))) rfl rfl (r_not (rkey_m ((l.getD x6 dPar).key)) rfl rfl) ?_
    simp only [nz1, nz2, nz3]
    refine wpList_nil ?_
    refine then_n (hK23 _ _ ?_)
    refine cond_B (!(rkey_m ((l.getD x6 dPar).key))) rfl (fun hc26 => ?_) (fun hc26 => ?_)
    · refine wp_seq_k (fun K27 hK27 => ?_)
      refine wp_region_lit ?_
      refine lvw 2 (.string (tx ([]))) rfl rfl (run_as rfl rfl) ?_
      simp only [nz1, nz2, nz3]
      refine lvw 3 (.int .i64 1) rfl rfl (run_as rfl rfl) ?_
      simp only [nz1, nz2, nz3]
      refine wpList_nil ?_
      refine then_n (hK27 _ _ ?_)
      refine wp_ret ?_
      refine then_r ?_
      refine blk_r ?_
      refine then_r ?_
      refine then_r ?_
      refine blk_r ?_
      refine then_r ?_
      refine then_r ?_
      have he28 : rencode_m_l0 l ((l.length - 0) + 1) (([]), 0) = .inr (([]), 1) := (hi9.trans (show rencode_m_b0 l (rencode_m_l0 l k8) x5 x6 = .inr (([]), 1) from by unfold rencode_m_b0; rw [if_pos hc20, if_pos hc26] <;> rfl))
      have he29 : rencode_m l = (([]), 1) := (show rencode_m l = (([]), 1) from by unfold rencode_m; rw [he28] <;> rfl)
      exact ⟨rfl, .tuple #[.string (tx ([])), .int .i64 1], res_tt rfl rfl rfl, ⟨by rw [he29], hm25.below⟩⟩
    refine wp_skip ?_
    refine then_n (hK22 _ _ ?_)
    refine wp_seq_k (fun K30 hK30 => ?_)
    refine wp_seq_k (fun K31 hK31 => ?_)
    refine wp_region_lit ?_
    refine lvw 19 (.string (tx x5)) rfl rfl (run_mv rfl rfl) ?_
    simp only [nz1, nz2, nz3]
    refine lvw 20 (.int .i64 ((x5.length : Nat) : Int)) rfl rfl (t_len rfl Tryd.underlying9 rfl) ?_
    simp only [nz1, nz2, nz3]
    refine lvb 21 (1048576 < x5.length) rfl rfl (r_gtr x5.length 1048576 rfl rfl rfl) (fun hs32 => ?_) (fun hs32 => ?_)
    · simp only [nz1, nz2, nz3]
      refine lvw 22 (.bool true) rfl rfl (run_mv rfl rfl) ?_
      simp only [nz1, nz2, nz3]
      refine lst_skip 23 rfl rfl ?_
      simp only [nz1, nz2, nz3]
      refine lst_skip 24 rfl rfl ?_
      simp only [nz1, nz2, nz3]
      refine lst_skip 25 rfl rfl ?_
      simp only [nz1, nz2, nz3]
      refine lst_skip 26 rfl rfl ?_
      simp only [nz1, nz2, nz3]
      refine lst_skip 27 rfl rfl ?_
      simp only [nz1, nz2, nz3]
      refine lst_skip 28 rfl rfl ?_
      simp only [nz1, nz2, nz3]
      refine lst_skip 29 rfl rfl ?_
      simp only [nz1, nz2, nz3]
      refine lvw 30 (.bool true) rfl rfl (run_pick rfl rfl rfl) ?_
      simp only [nz1, nz2, nz3]
      refine lvw 31 (.bool true) rfl rfl (run_mv rfl rfl) ?_
      simp only [nz1, nz2, nz3]
      refine lst_skip 32 rfl rfl ?_
      simp only [nz1, nz2, nz3]
      refine lst_skip 33 rfl rfl ?_
      simp only [nz1, nz2, nz3]
      refine lst_skip 34 rfl rfl ?_
      simp only [nz1, nz2, nz3]
      refine lst_skip 35 rfl rfl ?_
      simp only [nz1, nz2, nz3]
      refine lst_skip 36 rfl rfl ?_
      simp only [nz1, nz2, nz3]
      refine lst_skip 37 rfl rfl ?_
      simp only [nz1, nz2, nz3]
      refine lst_skip 38 rfl rfl ?_
      simp only [nz1, nz2, nz3]
      refine lvw 39 (.bool true) rfl rfl (run_pick rfl rfl rfl) ?_
      simp only [nz1, nz2, nz3]
      refine wpList_nil ?_
      refine then_n (hK31 _ _ ?_)
      refine cond_t rfl ?_
      refine wp_seq_k (fun K33 hK33 => ?_)
      refine wp_region_lit ?_
      refine lvw 2 (.string (tx ([]))) rfl rfl (run_as rfl rfl) ?_
      simp only [nz1, nz2, nz3]
      refine lvw 3 (.int .i64 3) rfl rfl (run_as rfl rfl) ?_
      simp only [nz1, nz2, nz3]
      refine wpList_nil ?_
      refine then_n (hK33 _ _ ?_)
      refine wp_ret ?_
      refine then_r ?_
      refine blk_r ?_
      refine then_r ?_
      refine then_r ?_
      refine blk_r ?_
      refine then_r ?_
      refine then_r ?_
      have he34 : rencode_m_l0 l ((l.length - 0) + 1) (([]), 0) = .inr (([]), 3) := (hi9.trans (show rencode_m_b0 l (rencode_m_l0 l k8) x5 x6 = .inr (([]), 3) from by unfold rencode_m_b0; rw [if_pos hc20, if_neg hc26, if_pos hs32] <;> rfl))
      have he35 : rencode_m l = (([]), 3) := (show rencode_m l = (([]), 3) from by unfold rencode_m; rw [he34] <;> rfl)
      exact ⟨rfl, .tuple #[.string (tx ([])), .int .i64 3], res_tt rfl rfl rfl, ⟨by rw [he35], hm25.below⟩⟩
    simp only [nz1, nz2, nz3]
    refine lvw 22 (.bool false) rfl rfl (run_mv rfl rfl) ?_
    simp only [nz1, nz2, nz3]
    refine lvw 23 (lv0) rfl rfl (run_mv rfl rfl) ?_
    simp only [nz1, nz2, nz3]
    refine lvw 24 (.int .i64 ((x6 : Nat) : Int)) rfl rfl (run_mv rfl rfl) ?_
    simp only [nz1, nz2, nz3]
    refine lvw 25 (.pointer (some ⟨(bk lv0), (po lv0 + x6 * 2), none⟩)) rfl rfl (r_ixv ((hm25.see 0 rfl)) x6 (by omega) Tryd.underlying36 sz_47 rfl rfl rfl) ?_
    simp only [nz1, nz2, nz3]
    refine lvw 26 (.pointer (some ⟨(bk lv0), ((po lv0 + x6 * 2) + 0), none⟩)) rfl rfl (r_fa47_0 (bk lv0) (po lv0 + x6 * 2) rfl rfl) ?_
    simp only [nz1, nz2, nz3]
    refine lvw 27 (.string (tx ((l.getD x6 dPar).key))) rfl rfl (r_cellw (Rs.cell ((hm25.see 0 rfl)) ePar_len dPar x6 (by omega) 0 _ rfl) Tryd.underlying9 rfl rfl rfl) ?_
    simp only [nz1, nz2, nz3]
    refine lvw 28 (.int .i64 ((((l.getD x6 dPar).key).length : Nat) : Int)) rfl rfl (t_len rfl Tryd.underlying9 rfl) ?_
    simp only [nz1, nz2, nz3]
    refine lvb 29 (1048576 < ((l.getD x6 dPar).key).length) rfl rfl (r_gtr (((l.getD x6 dPar).key).length) 1048576 rfl rfl rfl) (fun hs36 => ?_) (fun hs36 => ?_)
    · simp only [nz1, nz2, nz3]
      refine lvw 30 (.bool true) rfl rfl (run_pickf rfl rfl rfl) ?_
      simp only [nz1, nz2, nz3]
      refine lvw 31 (.bool true) rfl rfl (run_mv rfl rfl) ?_
      simp only [nz1, nz2, nz3]
      refine lst_skip 32 rfl rfl ?_
      simp only [nz1, nz2, nz3]
      refine lst_skip 33 rfl rfl ?_
      simp only [nz1, nz2, nz3]
      refine lst_skip 34 rfl rfl ?_
      simp only [nz1, nz2, nz3]
      refine lst_skip 35 rfl rfl ?_
      simp only [nz1, nz2, nz3]
      refine lst_skip 36 rfl rfl ?_
      simp only [nz1, nz2, nz3]
      refine lst_skip 37 rfl rfl ?_
      simp only [nz1, nz2, nz3]
      refine lst_skip 38 rfl rfl ?_
      simp only [nz1, nz2, nz3]
      refine lvw 39 (.bool true) rfl rfl (run_pick rfl rfl rfl) ?_
      simp only [nz1, nz2, nz3]
      refine wpList_nil ?_
      refine then_n (hK31 _ _ ?_)
      refine cond_t rfl ?_
      refine wp_seq_k (fun K37 hK37 => ?_)
      refine wp_region_lit ?_
      refine lvw 2 (.string (tx ([]))) rfl rfl (run_as rfl rfl) ?_
      simp only [nz1, nz2, nz3]
      refine lvw 3 (.int .i64 3) rfl rfl (run_as rfl rfl) ?_
      simp only [nz1, nz2, nz3]
      refine wpList_nil ?_
      refine then_n (hK37 _ _ ?_)
      refine wp_ret ?_
      refine then_r ?_
      refine blk_r ?_
      refine then_r ?_
      refine then_r ?_
      refine blk_r ?_
      refine then_r ?_
      refine then_r ?_
      have he38 : rencode_m_l0 l ((l.length - 0) + 1) (([]), 0) = .inr (([]), 3) := (hi9.trans (show rencode_m_b0 l (rencode_m_l0 l k8) x5 x6 = .inr (([]), 3) from by unfold rencode_m_b0; rw [if_pos hc20, if_neg hc26, if_neg hs32, if_pos hs36] <;> rfl))
      have he39 : rencode_m l = (([]), 3) := (show rencode_m l = (([]), 3) from by unfold rencode_m; rw [he38] <;> rfl)
      exact ⟨rfl, .tuple #[.string (tx ([])), .int .i64 3], res_tt rfl rfl rfl, ⟨by rw [he39], hm25.below⟩⟩
    simp only [nz1, nz2, nz3]
    refine lvw 30 (.bool false) rfl rfl (run_pickf rfl rfl rfl) ?_
    simp only [nz1, nz2, nz3]
    refine lvw 31 (.bool false) rfl rfl (run_mv rfl rfl) ?_
    simp only [nz1, nz2, nz3]
    refine lvw 32 (lv0) rfl rfl (run_mv rfl rfl) ?_
    simp only [nz1, nz2, nz3]
    refine lvw 33 (.int .i64 ((x6 : Nat) : Int)) rfl rfl (run_mv rfl rfl) ?_
    simp only [nz1, nz2, nz3]
    refine lvw 34 (.pointer (some ⟨(bk lv0), (po lv0 + x6 * 2), none⟩)) rfl rfl (r_ixv ((hm25.see 0 rfl)) x6 (by omega) Tryd.underlying36 sz_47 rfl rfl rfl) ?_
    simp only [nz1, nz2, nz3]
    refine lvw 35 (.pointer (some ⟨(bk lv0), ((po lv0 + x6 * 2) + 1), none⟩)) rfl rfl (r_fa47_1 (bk lv0) (po lv0 + x6 * 2) rfl rfl) ?_
    simp only [nz1, nz2, nz3]
    refine lvw 36 (.string (tx ((l.getD x6 dPar).value))) rfl rfl (r_cellw (Rs.cell ((hm25.see 0 rfl)) ePar_len dPar x6 (by omega) 1 _ rfl) Tryd.underlying9 rfl rfl rfl) ?_
    simp only [nz1, nz2, nz3]
    refine lvw 37 (.int .i64 ((((l.getD x6 dPar).value).length : Nat) : Int)) rfl rfl (t_len rfl Tryd.underlying9 rfl) ?_
    simp only [nz1, nz2, nz3]
    refine lvw 38 (.bool (decide (1048576 < ((l.getD x6 dPar).value).length))) rfl rfl (r_gtr (((l.getD x6 dPar).value).length) 1048576 rfl rfl rfl) ?_
    simp only [nz1, nz2, nz3]
    refine lvw 39 (.bool (decide (1048576 < ((l.getD x6 dPar).value).length))) rfl rfl (run_pickf rfl rfl rfl) ?_
    simp only [nz1, nz2, nz3]
    refine wpList_nil ?_
    refine then_n (hK31 _ _ ?_)
    refine cond_d (1048576 < ((l.getD x6 dPar).value).length) rfl (fun hc40 => ?_) (fun hc40 => ?_)
    · refine wp_seq_k (fun K41 hK41 => ?_)
      refine wp_region_lit ?_
      refine lvw 2 (.string (tx ([]))) rfl rfl (run_as rfl rfl) ?_
      simp only [nz1, nz2, nz3]
      refine lvw 3 (.int .i64 3) rfl rfl (run_as rfl rfl) ?_
      simp only [nz1, nz2, nz3]
      refine wpList_nil ?_
      refine then_n (hK41 _ _ ?_)
      refine wp_ret ?_
      refine then_r ?_
      refine blk_r ?_
      refine then_r ?_
      refine then_r ?_
      refine blk_r ?_
      refine then_r ?_
      refine then_r ?_
      have he42 : rencode_m_l0 l ((l.length - 0) + 1) (([]), 0) = .inr (([]), 3) := (hi9.trans (show rencode_m_b0 l (rencode_m_l0 l k8) x5 x6 = .inr (([]), 3) from by unfold rencode_m_b0; rw [if_pos hc20, if_neg hc26, if_neg hs32, if_neg hs36, if_pos hc40] <;> rfl))
      have he43 : rencode_m l = (([]), 3) := (show rencode_m l = (([]), 3) from by unfold rencode_m; rw [he42] <;> rfl)
      exact ⟨rfl, .tuple #[.string (tx ([])), .int .i64 3], res_tt rfl rfl rfl, ⟨by rw [he43], hm25.below⟩⟩
    refine wp_skip ?_
    refine then_n (hK30 _ _ ?_)
    refine wp_region_lit ?_
    refine lvw 40 (.string (tx x5)) rfl rfl (run_mv rfl rfl) ?_
    simp only [nz1, nz2, nz3]
    refine lvw 41 (lv0) rfl rfl (run_mv rfl rfl) ?_
    simp only [nz1, nz2, nz3]
    refine lvw 42 (.int .i64 ((x6 : Nat) : Int)) rfl rfl (run_mv rfl rfl) ?_
    simp only [nz1, nz2, nz3]
    refine lvw 43 (.pointer (some ⟨(bk lv0), (po lv0 + x6 * 2), none⟩)) rfl rfl (r_ixv ((hm25.see 0 rfl)) x6 (by omega) Tryd.underlying36 sz_47 rfl rfl rfl) ?_
    simp only [nz1, nz2, nz3]
    refine lvw 44 (.agg #[.string (tx ((l.getD x6 dPar).key)), .string (tx ((l.getD x6 dPar).value))]) rfl rfl (r_partw (fun j u hj => Rs.cell ((hm25.see 0 rfl)) ePar_len dPar x6 (by omega) j u (arr_get hj)) Tryd.underlying47 rfl (by exact sz_47) rfl rfl) ?_
    simp only [nz1, nz2, nz3]
    refine lst rfl (m_call hm25 45 (.string (tx (rone_m (l.getD x6 dPar)))) rfl (run_rone rfl rfl) (rone_any (l.getD x6 dPar)  _  (by first | omega | assumption | exact hp1 _ | (simp; done) | (simp; omega) | (simp only [List.length_append, List.length_cons, List.length_nil]; omega) | (simp only [List.length_append, List.length_cons, List.length_nil] at *; omega) | decide) (by first | omega | assumption | exact hp1 _ | (simp; done) | (simp; omega) | (simp only [List.length_append, List.length_cons, List.length_nil]; omega) | (simp only [List.length_append, List.length_cons, List.length_nil] at *; omega) | decide)) (fun w44 (hm45 : Mm none (fun _ => True) w w44 [.see (Rs ePar 2 l lv0) Fl]) => ?_))
    have hf46 : (rone_m (l.getD x6 dPar)).length ≤ 2097200 := rone_len (l.getD x6 dPar) (by first | (simp; omega) | omega | (simp only [List.length_drop, List.length_take]; omega)) (by first | (simp; omega) | omega | (simp only [List.length_drop, List.length_take]; omega))
    simp only [nz1, nz2, nz3]
    refine lvw 46 (.string (tx (x5 ++ (rone_m (l.getD x6 dPar))))) rfl rfl (t_cat x5 (rone_m (l.getD x6 dPar)) (by first | omega | (simp; omega)) rfl rfl rfl) ?_
    simp only [nz1, nz2, nz3]
    refine lvw 4 (.string (tx (x5 ++ (rone_m (l.getD x6 dPar))))) rfl rfl (run_as rfl rfl) ?_
    simp only [nz1, nz2, nz3]
    refine wpList_nil ?_
    refine blk_n ?_
    refine then_n (hK21 _ _ ?_)
    refine wp_region_lit ?_
    refine lvw 10 (.int .i64 ((x6 : Nat) : Int)) rfl rfl (run_mv rfl rfl) ?_
    simp only [nz1, nz2, nz3]
    refine lvw 11 (.int .i64 (((x6 + 1) : Nat) : Int)) rfl rfl (r_add x6 1 (show (x6 + 1) < 9223372036854775808 from by omega) rfl rfl rfl) ?_
    simp only [nz1, nz2, nz3]
    refine lvw 5 (.int .i64 (((x6 + 1) : Nat) : Int)) rfl rfl (run_as rfl rfl) ?_
    simp only [nz1, nz2, nz3]
    refine wpList_nil ?_
    refine then_n (hR15 _ _ _ ⟨k8, (x5 ++ (rone_m (l.getD x6 dPar))), (x6 + 1), (fun qq => bif Nat.blt qq 24 then List.getD [u0 0, u0 1, .int .i64 ((x6 : Nat) : Int), lv0, .int .i64 ((l.length : Nat) : Int), .bool (decide (x6 < l.length)), .int .i64 ((x6 : Nat) : Int), .int .i64 (((x6 + 1) : Nat) : Int), lv0, .int .i64 ((x6 : Nat) : Int), .pointer (some ⟨(bk lv0), (po lv0 + x6 * 2), none⟩), .pointer (some ⟨(bk lv0), ((po lv0 + x6 * 2) + 0), none⟩), .string (tx ((l.getD x6 dPar).key)), .bool ((rkey_m ((l.getD x6 dPar).key))), .bool (!(rkey_m ((l.getD x6 dPar).key))), .string (tx x5), .int .i64 ((x5.length : Nat) : Int), .bool false, .bool false, lv0, .int .i64 ((x6 : Nat) : Int), .pointer (some ⟨(bk lv0), (po lv0 + x6 * 2), none⟩), .pointer (some ⟨(bk lv0), ((po lv0 + x6 * 2) + 0), none⟩), .string (tx ((l.getD x6 dPar).key))] qq undef else List.getD [.int .i64 ((((l.getD x6 dPar).key).length : Nat) : Int), .bool false, .bool false, .bool false, lv0, .int .i64 ((x6 : Nat) : Int), .pointer (some ⟨(bk lv0), (po lv0 + x6 * 2), none⟩), .pointer (some ⟨(bk lv0), ((po lv0 + x6 * 2) + 1), none⟩), .string (tx ((l.getD x6 dPar).value)), .int .i64 ((((l.getD x6 dPar).value).length : Nat) : Int), .bool (decide (1048576 < ((l.getD x6 dPar).value).length)), .bool (decide (1048576 < ((l.getD x6 dPar).value).length)), .string (tx x5), lv0, .int .i64 ((x6 : Nat) : Int), .pointer (some ⟨(bk lv0), (po lv0 + x6 * 2), none⟩), .agg #[.string (tx ((l.getD x6 dPar).key)), .string (tx ((l.getD x6 dPar).value))], .string (tx (rone_m (l.getD x6 dPar))), .string (tx (x5 ++ (rone_m (l.getD x6 dPar))))] (qq - 24) undef), rfl, (by first | omega | (simp; omega) | (simp at *; omega)), (hi9.trans (show rencode_m_b0 l (rencode_m_l0 l k8) x5 x6 = rencode_m_l0 l k8 ((x5 ++ (rone_m (l.getD x6 dPar))), (x6 + 1)) from by unfold rencode_m_b0; rw [if_pos hc20, if_neg hc26, if_neg hs32, if_neg hs36, if_neg hc40] <;> rfl)), (by rw [List.length_append]; omega), rfl, hm45⟩ ?_)
    omega
  rintro _ w47 ⟨y10, y11, yu0, hx12, hen, rfl, hm48⟩
  have hq49 : rencode_m l = rencode_m_k0 l y10 y11 := (show rencode_m l = rencode_m_k0 l y10 y11 from by unfold rencode_m; rw [hx12] <;> rfl)
  refine then_n (hK3 _ _ ?_)
  refine wp_seq_k (fun K50 hK50 => ?_)
  refine wp_seq_k (fun K51 hK51 => ?_)
  refine wp_region_lit ?_
  refine lvw 47 (.string (tx y10)) rfl rfl (run_mv rfl rfl) ?_
  simp only [nz1, nz2, nz3]
  refine lvw 48 (.int .i64 ((y10.length : Nat) : Int)) rfl rfl (t_len rfl Tryd.underlying9 rfl) ?_
  simp only [nz1, nz2, nz3]
  refine lvw 49 (.bool (decide (1048576 < y10.length))) rfl rfl (r_gtr y10.length 1048576 rfl rfl rfl) ?_
  simp only [nz1, nz2, nz3]
  refine wpList_nil ?_
  refine then_n (hK51 _ _ ?_)
  refine cond_d (1048576 < y10.length) rfl (fun hc52 => ?_) (fun hc52 => ?_)
  · refine wp_seq_k (fun K53 hK53 => ?_)
    refine wp_region_lit ?_
    refine lvw 2 (.string (tx ([]))) rfl rfl (run_as rfl rfl) ?_
    simp only [nz1, nz2, nz3]
    refine lvw 3 (.int .i64 3) rfl rfl (run_as rfl rfl) ?_
    simp only [nz1, nz2, nz3]
    refine wpList_nil ?_
    refine then_n (hK53 _ _ ?_)
    refine wp_ret ?_
    refine then_r ?_
    have he54 : rencode_m l = (([]), 3) := (hq49.trans (show rencode_m_k0 l y10 y11 = (([]), 3) from by unfold rencode_m_k0; rw [if_pos hc52] <;> rfl))
    exact ⟨rfl, .tuple #[.string (tx ([])), .int .i64 3], res_tt rfl rfl rfl, ⟨by rw [he54], hm48.below⟩⟩
  refine wp_skip ?_
  refine then_n (hK50 _ _ ?_)
  refine wp_seq_k (fun K55 hK55 => ?_)
  refine wp_region_lit ?_
  refine lvw 50 (.string (tx y10)) rfl rfl (run_mv rfl rfl) ?_
  simp only [nz1, nz2, nz3]
  refine lvw 2 (.string (tx y10)) rfl rfl (run_as rfl rfl) ?_
  simp only [nz1, nz2, nz3]
  refine lvw 3 (.int .i64 0) rfl rfl (run_as rfl rfl) ?_
  simp only [nz1, nz2, nz3]
  refine wpList_nil ?_
  refine then_n (hK55 _ _ ?_)
  refine wp_ret ?_
  have he56 : rencode_m l = (y10, 0) := (hq49.trans (show rencode_m_k0 l y10 y11 = (y10, 0) from by unfold rencode_m_k0; rw [if_neg hc52] <;> rfl))
  exact ⟨rfl, .tuple #[.string (tx y10), .int .i64 0], res_tt rfl rfl rfl, ⟨by rw [he56], hm48.below⟩⟩
theorem run_rencode {o : Oper} {a : Act} {w : World} {x0 : Operand} {v0 : Value} (ho : o.op = .call { callee := .value (.func 26), args := #[x0], argTypes := #[36] }) (h0 : a.eval x0 = v0) :
    (execOp a.eval o).run Tryd.prog w = .ok (.enter 26 #[v0]) w := by
  unfold execOp
  simp only [ho]
  have hf : a.eval (.func 26) = .func (.func 26) #[] #[] := rfl
  generalize a.eval = f at *
  go_simp
def rdecode_m_b0 (s : List UInt8) (rec : (List UInt8) × (List Par) → Sum ((List UInt8) × (List Par)) ((List Par) × Int)) (x11 : List UInt8) (l12 : List Par) : Sum ((List UInt8) × (List Par)) ((List Par) × Int) :=
  if 0 < x11.length then
    if (rlen_m x11).2 = 0 then
      .inr (([] : List Par), 2)
    else
      if ((x11.length : Nat) : Int) < (rlen_m x11).1 then
        .inr (([] : List Par), 2)
      else
        if (rlen_m x11).1 < ((rlen_m x11).2 + (4 : Int)) then
          .inr (([] : List Par), 2)
        else
          if ¬ by' x11 (((rlen_m x11).2).toNat) = 32 then
            .inr (([] : List Par), 2)
          else
            if ¬ by' x11 (((rlen_m x11).1 - (1 : Int)).toNat) = 10 then
              .inr (([] : List Par), 2)
            else
              if (rplace_m ((x11.take (((rlen_m x11).1 - (1 : Int)).toNat)).drop (((rlen_m x11).2 + (1 : Int)).toNat)) (UInt8.ofNat 61)) = ((((x11.take (((rlen_m x11).1 - (1 : Int)).toNat)).drop (((rlen_m x11).2 + (1 : Int)).toNat)).length : Nat) : Int) then
                .inr (([] : List Par), 2)
              else
                if (!(rkey_m (((x11.take (((rlen_m x11).1 - (1 : Int)).toNat)).drop (((rlen_m x11).2 + (1 : Int)).toNat)).take ((rplace_m ((x11.take (((rlen_m x11).1 - (1 : Int)).toNat)).drop (((rlen_m x11).2 + (1 : Int)).toNat)) (UInt8.ofNat 61)).toNat)))) = true then
                  .inr (([] : List Par), 2)
                else
                  if ¬ (rone_m (Par.mk (((x11.take (((rlen_m x11).1 - (1 : Int)).toNat)).drop (((rlen_m x11).2 + (1 : Int)).toNat)).take ((rplace_m ((x11.take (((rlen_m x11).1 - (1 : Int)).toNat)).drop (((rlen_m x11).2 + (1 : Int)).toNat)) (UInt8.ofNat 61)).toNat)) (((x11.take (((rlen_m x11).1 - (1 : Int)).toNat)).drop (((rlen_m x11).2 + (1 : Int)).toNat)).drop (((rplace_m ((x11.take (((rlen_m x11).1 - (1 : Int)).toNat)).drop (((rlen_m x11).2 + (1 : Int)).toNat)) (UInt8.ofNat 61)) + (1 : Int)).toNat)))) = (x11.take (((rlen_m x11).1).toNat)) then
                    .inr (([] : List Par), 2)
                  else
                    rec ((x11.drop (((rlen_m x11).1).toNat)), (l12 ++ [(Par.mk (((x11.take (((rlen_m x11).1 - (1 : Int)).toNat)).drop (((rlen_m x11).2 + (1 : Int)).toNat)).take ((rplace_m ((x11.take (((rlen_m x11).1 - (1 : Int)).toNat)).drop (((rlen_m x11).2 + (1 : Int)).toNat)) (UInt8.ofNat 61)).toNat)) (((x11.take (((rlen_m x11).1 - (1 : Int)).toNat)).drop (((rlen_m x11).2 + (1 : Int)).toNat)).drop (((rplace_m ((x11.take (((rlen_m x11).1 - (1 : Int)).toNat)).drop (((rlen_m x11).2 + (1 : Int)).toNat)) (UInt8.ofNat 61)) + (1 : Int)).toNat)))]))
  else
    .inl (x11, l12)
def rdecode_m_l0 (s : List UInt8) : Nat → (List UInt8) × (List Par) → Sum ((List UInt8) × (List Par)) ((List Par) × Int)
  | 0, zz => .inl zz
  | nq + 1, zz => rdecode_m_b0 s (rdecode_m_l0 s nq) zz.1 zz.2

def rdecode_m_k0 (s : List UInt8) (y17 : List UInt8) (y18 : List Par) : (List Par) × Int :=
  (y18, 0)

def rdecode_m (s : List UInt8) : (List Par) × Int :=
  if 1048576 < s.length then
    (([] : List Par), 3)
  else
    fin (rdecode_m_l0 s (s.length + 1) (s, ([] : List Par))) (fun r => r) (fun zz => rdecode_m_k0 s zz.1 zz.2)

set_option maxHeartbeats 4000000 in
set_option maxRecDepth 100000 in
theorem rdecode_any (s : List UInt8) (S : Nat → Prop) (w : World)   : Calls Tryd.prog 32 #[.string (tx s)] w (fun e w' => (∃ v, e = .returned v ∧ ∃ o0 : Value, v = .tuple #[o0, .int .i64 ((rdecode_m s).2)] ∧ Gives w w' S (Rs ePar 2 ((rdecode_m s).1) o0)) ∧ Below w.heap.size w w') := by
  go_enter Tryd.func32, Tryd.ntmps32
  have hm00 := Mm.nil none S w
  have hm0 := hm00
  refine wp_seq_k (fun K1 hK1 => ?_)
  refine wp_region_lit ?_
  refine lvw 2 (.slice none 0 0) rfl rfl (run_as rfl rfl) ?_
  simp only [nz1, nz2, nz3]
  refine lvw 3 (.int .i64 0) rfl rfl (run_as rfl rfl) ?_
  simp only [nz1, nz2, nz3]
  refine wpList_nil ?_
  refine then_n (hK1 _ _ ?_)
  refine wp_seq_k (fun K2 hK2 => ?_)
  refine wp_seq_k (fun K3 hK3 => ?_)
  refine wp_region_lit ?_
  refine lvw 10 (.string (tx s)) rfl rfl (run_mv rfl rfl) ?_
  simp only [nz1, nz2, nz3]
  refine lvw 11 (.int .i64 ((s.length : Nat) : Int)) rfl rfl (t_len rfl Tryd.underlying9 rfl) ?_
  simp only [nz1, nz2, nz3]
  refine lvw 12 (.bool (decide (1048576 < s.length))) rfl rfl (r_gtr s.length 1048576 rfl rfl rfl) ?_
  simp only [nz1, nz2, nz3]
  refine wpList_nil ?_
  refine then_n (hK3 _ _ ?_)
  refine cond_d (1048576 < s.length) rfl (fun hc4 => ?_) (fun hc4 => ?_)
  · refine wp_seq_k (fun K5 hK5 => ?_)
    refine wp_region_lit ?_
    refine lvw 2 (.slice none 0 0) rfl rfl (run_as rfl rfl) ?_
    simp only [nz1, nz2, nz3]
    refine lvw 3 (.int .i64 3) rfl rfl (run_as rfl rfl) ?_
    simp only [nz1, nz2, nz3]
    refine wpList_nil ?_
    refine then_n (hK5 _ _ ?_)
    refine wp_ret ?_
    refine then_r ?_
    have he6 : rdecode_m s = (([] : List Par), 3) := (show rdecode_m s = (([] : List Par), 3) from by unfold rdecode_m; rw [if_pos hc4] <;> rfl)
    exact ⟨rfl, .tuple #[.slice none 0 0, .int .i64 3], res_tt rfl rfl rfl, ⟨⟨_, rfl, (.slice none 0 0), (by first | rfl | rw [he6]), by rw [he6]; exact hm0.give (From.pure (fun W => Rs.nil ePar 2 W))⟩, hm0.below⟩⟩
  refine wp_skip ?_
  refine then_n (hK2 _ _ ?_)
  refine wp_seq_k (fun K7 hK7 => ?_)
  refine wp_region_lit ?_
  refine lvw 4 (.slice none 0 0) rfl rfl (run_as rfl rfl) ?_
  simp only [nz1, nz2, nz3]
  refine wpList_nil ?_
  refine then_n (hK7 _ _ ?_)
  refine wp_seq_k (fun K8 hK8 => ?_)
  have hm10 : Mm none S w w [.row (.slice none 0 0) ([] : List Par).length (([] : List Par).flatMap ePar) 47 2] := hm0.nilrow 47 2
  refine wp_cutK (fun a' w' => ∃ (y17 : List UInt8) (y18 : List Par) (v19 : Value) (yu0 : Nat → Value), rdecode_m_l0 s (s.length + 1) (s, ([] : List Par)) = .inl (y17, y18) ∧ (y18.length + y17.length ≤ 1048576) ∧ a' = ⟨#[.string (tx y17), undef, yu0 0, yu0 1, v19, yu0 2, yu0 3, yu0 4, yu0 5, yu0 6, .string (tx s), .int .i64 ((s.length : Nat) : Int), .bool (decide (1048576 < s.length)), yu0 7, yu0 8, yu0 9, yu0 10, yu0 11, yu0 12, yu0 13, yu0 14, yu0 15, yu0 16, yu0 17, yu0 18, yu0 19, yu0 20, yu0 21, yu0 22, yu0 23, yu0 24, yu0 25, yu0 26, yu0 27, yu0 28, yu0 29, yu0 30, yu0 31, yu0 32, yu0 33, yu0 34, yu0 35, yu0 36, yu0 37, yu0 38, yu0 39, yu0 40, yu0 41, yu0 42, yu0 43, yu0 44, yu0 45, yu0 46, yu0 47, yu0 48, yu0 49, yu0 50, yu0 51, yu0 52, yu0 53, yu0 54, yu0 55, yu0 56, yu0 57, yu0 58, yu0 59, yu0 60, yu0 61, yu0 62, yu0 63, yu0 64, yu0 65, yu0 66, yu0 67, yu0 68, yu0 69, yu0 70, yu0 71, yu0 72, yu0 73, yu0 74, yu0 75, yu0 76, yu0 77, yu0 78, yu0 79, yu0 80, yu0 81, undef], []⟩ ∧ Mm none S w w' [.row v19 y18.length (y18.flatMap ePar) 47 2]) ?_ ?_
  · refine wp_block ?_
    refine wp_loop_n (fun n' a' w' => ∃ (n14 : Nat) (x11 : List UInt8) (l12 : List Par) (v13 : Value) (u0 : Nat → Value), n' = n14 ∧ x11.length < n14 ∧ rdecode_m_l0 s (s.length + 1) (s, ([] : List Par)) = rdecode_m_l0 s n14 (x11, l12) ∧ (l12.length + x11.length ≤ 1048576) ∧ a' = ⟨#[.string (tx x11), undef, u0 0, u0 1, v13, u0 2, u0 3, u0 4, u0 5, u0 6, .string (tx s), .int .i64 ((s.length : Nat) : Int), .bool (decide (1048576 < s.length)), u0 7, u0 8, u0 9, u0 10, u0 11, u0 12, u0 13, u0 14, u0 15, u0 16, u0 17, u0 18, u0 19, u0 20, u0 21, u0 22, u0 23, u0 24, u0 25, u0 26, u0 27, u0 28, u0 29, u0 30, u0 31, u0 32, u0 33, u0 34, u0 35, u0 36, u0 37, u0 38, u0 39, u0 40, u0 41, u0 42, u0 43, u0 44, u0 45, u0 46, u0 47, u0 48, u0 49, u0 50, u0 51, u0 52, u0 53, u0 54, u0 55, u0 56, u0 57, u0 58, u0 59, u0 60, u0 61, u0 62, u0 63, u0 64, u0 65, u0 66, u0 67, u0 68, u0 69, u0 70, u0 71, u0 72, u0 73, u0 74, u0 75, u0 76, u0 77, u0 78, u0 79, u0 80, u0 81, undef], []⟩ ∧ Mm none S w w' [.row v13 l12.length (l12.flatMap ePar) 47 2]) ⟨(s.length + 1), s, ([] : List Par), .slice none 0 0, (fun qq => bif Nat.blt qq 24 then List.getD [.slice none 0 0, .int .i64 0, undef, undef, undef, undef, undef, undef, undef, undef, undef, undef, undef, undef, undef, undef, undef, undef, undef, undef, undef, undef, undef, undef] qq undef else bif Nat.blt qq 48 then List.getD [undef, undef, undef, undef, undef, undef, undef, undef, undef, undef, undef, undef, undef, undef, undef, undef, undef, undef, undef, undef, undef, undef, undef, undef] (qq - 24) undef else bif Nat.blt qq 72 then List.getD [undef, undef, undef, undef, undef, undef, undef, undef, undef, undef, undef, undef, undef, undef, undef, undef, undef, undef, undef, undef, undef, undef, undef, undef] (qq - 48) undef else List.getD [undef, undef, undef, undef, undef, undef, undef, undef, undef, undef] (qq - 72) undef), rfl, Nat.lt_succ_self _, rfl, (by first | omega | (simp; done) | (simp; omega) | (simp at *; omega)), rfl, hm10⟩ ?_
    rintro n14 _ w21 ⟨_, x11, l12, v13, u0, rfl, hl25, hi16, hdn, rfl, hm22⟩ R23 hR23
    obtain ⟨k15, rfl⟩ : ∃ k, n14 = k + 1 := ⟨n14 - 1, by omega⟩
    refine wp_seq_k (fun K26 hK26 => ?_)
    refine wp_seq_k (fun K27 hK27 => ?_)
    refine wp_region_lit ?_
    refine lvw 13 (.string (tx x11)) rfl rfl (run_mv rfl rfl) ?_
    simp only [nz1, nz2, nz3]
    refine lvw 14 (.int .i64 ((x11.length : Nat) : Int)) rfl rfl (t_len rfl Tryd.underlying9 rfl) ?_
    simp only [nz1, nz2, nz3]
    refine lvw 15 (.bool (decide (0 < x11.length))) rfl rfl (r_gtr x11.length 0 rfl rfl rfl) ?_
    simp only [nz1, nz2, nz3]
    refine wpList_nil ?_
    refine then_n (hK27 _ _ ?_)
    refine cond_d (0 < x11.length) rfl (fun hc28 => ?_) (fun hc28 => ?_)
    rotate_left
    · refine wp_exit ?_
      refine then_x ?_
      refine then_x ?_
      refine blk_x ?_
      refine then_n ?_
      exact ⟨x11, l12, v13, (fun qq => bif Nat.blt qq 24 then List.getD [u0 0, u0 1, u0 2, u0 3, u0 4, u0 5, u0 6, .string (tx x11), .int .i64 ((x11.length : Nat) : Int), .bool (decide (0 < x11.length)), u0 10, u0 11, u0 12, u0 13, u0 14, u0 15, u0 16, u0 17, u0 18, u0 19, u0 20, u0 21, u0 22, u0 23] qq undef else bif Nat.blt qq 48 then List.getD [u0 24, u0 25, u0 26, u0 27, u0 28, u0 29, u0 30, u0 31, u0 32, u0 33, u0 34, u0 35, u0 36, u0 37, u0 38, u0 39, u0 40, u0 41, u0 42, u0 43, u0 44, u0 45, u0 46, u0 47] (qq - 24) undef else bif Nat.blt qq 72 then List.getD [u0 48, u0 49, u0 50, u0 51, u0 52, u0 53, u0 54, u0 55, u0 56, u0 57, u0 58, u0 59, u0 60, u0 61, u0 62, u0 63, u0 64, u0 65, u0 66, u0 67, u0 68, u0 69, u0 70, u0 71] (qq - 48) undef else List.getD [u0 72, u0 73, u0 74, u0 75, u0 76, u0 77, u0 78, u0 79, u0 80, u0 81] (qq - 72) undef), (hi16.trans (show rdecode_m_b0 s (rdecode_m_l0 s k15) x11 l12 = .inl (x11, l12) from by unfold rdecode_m_b0; rw [if_neg hc28] <;> rfl)), (by first | omega | (simp; done) | (simp; omega) | (simp at *; omega)), rfl, hm22⟩
    refine wp_skip ?_
    refine then_n (hK26 _ _ ?_)
    refine wp_block ?_
    refine wp_seq_k (fun K29 hK29 => ?_)
    refine wp_region_lit ?_
    refine lvw 17 (.string (tx x11)) rfl rfl (run_mv rfl rfl) ?_
    simp only [nz1, nz2, nz3]
    refine lst rfl (m_call hm22 18 (.tuple #[.int .i64 ((rlen_m x11).1), .int .i64 ((rlen_m x11).2)]) rfl (run_rlen rfl rfl) (rlen_any x11  _  (by first | omega | assumption | (simp only [List.length_drop, List.length_take] at *; omega) | (simp; done) | (simp; omega) | (simp only [List.length_append, List.length_cons, List.length_nil]; omega) | (simp only [List.length_append, List.length_cons, List.length_nil] at *; omega) | decide)) (fun w30 (hm31 : Mm none S w w30 [.row v13 l12.length (l12.flatMap ePar) 47 2]) => ?_))
    have hf32 : 0 ≤ (rlen_m x11).1 ∧ (rlen_m x11).1 ≤ 99999999 ∧ 0 ≤ (rlen_m x11).2 ∧ (rlen_m x11).2 ≤ ((x11.length : Nat) : Int) := rlen_rng x11
    simp only [nz1, nz2, nz3]
    refine lvw 16 (.tuple #[.int .i64 ((rlen_m x11).1), .int .i64 ((rlen_m x11).2)]) rfl rfl (run_mv rfl rfl) ?_
    simp only [nz1, nz2, nz3]
    refine lvw 19 (.int .i64 ((rlen_m x11).1)) rfl rfl (run_ex rfl rfl rfl) ?_
    simp only [nz1, nz2, nz3]
    refine lvw 20 (.int .i64 ((rlen_m x11).2)) rfl rfl (run_ex rfl rfl rfl) ?_
    simp only [nz1, nz2, nz3]
    refine lvw 5 (.int .i64 ((rlen_m x11).1)) rfl rfl (run_as rfl rfl) ?_
    simp only [nz1, nz2, nz3]
    refine lvw 6 (.int .i64 ((rlen_m x11).2)) rfl rfl (run_as rfl rfl) ?_
    simp only [nz1, nz2, nz3]
    refine wpList_nil ?_
    refine then_n (hK29 _ _ ?_)
    refine wp_seq_k (fun K33 hK33 => ?_)
    refine wp_seq_k (fun K34 hK34 => ?_)
    refine wp_region_lit ?_
    refine lvw 21 (.int .i64 ((rlen_m x11).2)) rfl rfl (run_mv rfl rfl) ?_
    simp only [nz1, nz2, nz3]
    refine lvb 22 ((rlen_m x11).2 = 0) rfl rfl (z_eql ((rlen_m x11).2) 0 rfl rfl rfl) (fun hs35 => ?_) (fun hs35 => ?_)
    · simp only [nz1, nz2, nz3]
      refine lvw 23 (.bool true) rfl rfl (run_mv rfl rfl) ?_
      simp only [nz1, nz2, nz3]
      refine lst_skip 24 rfl rfl ?_
      simp only [nz1, nz2, nz3]
      refine lst_skip 25 rfl rfl ?_
      simp only [nz1, nz2, nz3]
      refine lst_skip 26 rfl rfl ?_
      simp only [nz1, nz2, nz3]
      refine lst_skip 27 rfl rfl ?_
      simp only [nz1, nz2, nz3]
      refine lvw 28 (.bool true) rfl rfl (run_pick rfl rfl rfl) ?_
      simp only [nz1, nz2, nz3]
      refine lvw 29 (.bool true) rfl rfl (run_mv rfl rfl) ?_
      simp only [nz1, nz2, nz3]
      refine lst_skip 30 rfl rfl ?_
      simp only [nz1, nz2, nz3]
      refine lst_skip 31 rfl rfl ?_
      simp only [nz1, nz2, nz3]
      refine lst_skip 32 rfl rfl ?_
      simp only [nz1, nz2, nz3]
      refine lst_skip 33 rfl rfl ?_
      simp only [nz1, nz2, nz3]
      refine lvw 34 (.bool true) rfl rfl (run_pick rfl rfl rfl) ?_
      simp only [nz1, nz2, nz3]
      refine lvw 35 (.bool true) rfl rfl (run_mv rfl rfl) ?_
      simp only [nz1, nz2, nz3]
      refine lst_skip 36 rfl rfl ?_
      simp only [nz1, nz2, nz3]
      refine lst_skip 37 rfl rfl ?_
      simp only [nz1, nz2, nz3]
      refine lst_skip 38 rfl rfl ?_
      simp only [nz1, nz2, nz3]
      refine lst_skip 39 rfl rfl ?_
      simp only [nz1, nz2, nz3]
      refine lvw 40 (.bool true) rfl rfl (run_pick rfl rfl rfl) ?_
      simp only [nz1, nz2, nz3]
      refine lvw 41 (.bool true) rfl rfl (run_mv rfl rfl) ?_
      simp only [nz1, nz2, nz3]
      refine lst_skip 42 rfl rfl ?_
      simp only [nz1, nz2, nz3]
      refine lst_skip 43 rfl rfl ?_
      simp only [nz1, nz2, nz3]
      refine lst_skip 44 rfl rfl ?_
      simp only [nz1, nz2, nz3]
      refine lst_skip 45 rfl rfl ?_
      simp only [nz1, nz2, nz3]
      refine lst_skip 46 rfl rfl ?_
      simp only [nz1, nz2, nz3]
      refine lvw 47 (.bool true) rfl rfl (run_pick rfl rfl rfl) ?_
      simp only [nz1, nz2, nz3]
      refine wpList_nil ?_
      refine then_n (hK34 _ _ ?_)
      refine cond_t rfl ?_
      refine wp_seq_k (fun K36 hK36 => ?_)
      refine wp_region_lit ?_
      refine lvw 2 (.slice none 0 0) rfl rfl (run_as rfl rfl) ?_
      simp only [nz1, nz2, nz3]
      refine lvw 3 (.int .i64 2) rfl rfl (run_as rfl rfl) ?_
      simp only [nz1, nz2, nz3]
      refine wpList_nil ?_
      refine then_n (hK36 _ _ ?_)
      refine wp_ret ?_
      refine then_r ?_
      refine blk_r ?_
      refine then_r ?_
      refine blk_r ?_
      refine then_r ?_
      refine then_r ?_
      have he37 : rdecode_m_l0 s (s.length + 1) (s, ([] : List Par)) = .inr (([] : List Par), 2) := (hi16.trans (show rdecode_m_b0 s (rdecode_m_l0 s k15) x11 l12 = .inr (([] : List Par), 2) from by unfold rdecode_m_b0; rw [if_pos hc28, if_pos hs35] <;> rfl))
      have he38 : rdecode_m s = (([] : List Par), 2) := (show rdecode_m s = (([] : List Par), 2) from by unfold rdecode_m; rw [if_neg hc4, he37] <;> rfl)
      exact ⟨rfl, .tuple #[.slice none 0 0, .int .i64 2], res_tt rfl rfl rfl, ⟨⟨_, rfl, (.slice none 0 0), (by first | rfl | rw [he38]), by rw [he38]; exact hm31.give (From.pure (fun W => Rs.nil ePar 2 W))⟩, hm31.below⟩⟩
    simp only [nz1, nz2, nz3]
    refine lvw 23 (.bool false) rfl rfl (run_mv rfl rfl) ?_
    simp only [nz1, nz2, nz3]
    refine lvw 24 (.int .i64 ((rlen_m x11).1)) rfl rfl (run_mv rfl rfl) ?_
    simp only [nz1, nz2, nz3]
    refine lvw 25 (.string (tx x11)) rfl rfl (run_mv rfl rfl) ?_
    simp only [nz1, nz2, nz3]
    refine lvw 26 (.int .i64 ((x11.length : Nat) : Int)) rfl rfl (t_len rfl Tryd.underlying9 rfl) ?_
    simp only [nz1, nz2, nz3]
    refine lvb 27 (((x11.length : Nat) : Int) < (rlen_m x11).1) rfl rfl (z_gtr ((rlen_m x11).1) ((x11.length : Nat) : Int) rfl rfl rfl) (fun hs39 => ?_) (fun hs39 => ?_)
    · simp only [nz1, nz2, nz3]
      refine lvw 28 (.bool true) rfl rfl (run_pickf rfl rfl rfl) ?_
      simp only [nz1, nz2, nz3]
      refine lvw 29 (.bool true) rfl rfl (run_mv rfl rfl) ?_
      simp only [nz1, nz2, nz3]
      refine lst_skip 30 rfl rfl ?_
      simp only [nz1, nz2, nz3]
      refine lst_skip 31 rfl rfl ?_
      simp only [nz1, nz2, nz3]
      refine lst_skip 32 rfl rfl ?_
      simp only [nz1, nz2, nz3]
      refine lst_skip 33 rfl rfl ?_
      simp only [nz1, nz2, nz3]
      refine lvw 34 (.bool true) rfl rfl (run_pick rfl rfl rfl) ?_
      simp only [nz1, nz2, nz3]
      refine lvw 35 (.bool true) rfl rfl (run_mv rfl rfl) ?_
      simp only [nz1, nz2, nz3]
      refine lst_skip 36 rfl rfl ?_
      simp only [nz1, nz2, nz3]
      refine lst_skip 37 rfl rfl ?_
      simp only [nz1, nz2, nz3]
      refine lst_skip 38 rfl rfl ?_
      simp only [nz1, nz2, nz3]
      refine lst_skip 39 rfl rfl ?_
      simp only [nz1, nz2, nz3]
      refine lvw 40 (.bool true) rfl rfl (run_pick rfl rfl rfl) ?_
      simp only [nz1, nz2, nz3]
      refine lvw 41 (.bool true) rfl rfl (run_mv rfl rfl) ?_
      simp only [nz1, nz2, nz3]
      refine lst_skip 42 rfl rfl ?_
      simp only [nz1, nz2, nz3]
      refine lst_skip 43 rfl rfl ?_
      simp only [nz1, nz2, nz3]
      refine lst_skip 44 rfl rfl ?_
      simp only [nz1, nz2, nz3]
      refine lst_skip 45 rfl rfl ?_
      simp only [nz1, nz2, nz3]
      refine lst_skip 46 rfl rfl ?_
      simp only [nz1, nz2, nz3]
      refine lvw 47 (.bool true) rfl rfl (run_pick rfl rfl rfl) ?_
      simp only [nz1, nz2, nz3]
      refine wpList_nil ?_
      refine then_n (hK34 _ _ ?_)
      refine cond_t rfl ?_
      refine wp_seq_k (fun K40 hK40 => ?_)
      refine wp_region_lit ?_
      refine lvw 2 (.slice none 0 0) rfl rfl (run_as rfl rfl) ?_
      simp only [nz1, nz2, nz3]
      refine lvw 3 (.int .i64 2) rfl rfl (run_as rfl rfl) ?_
      simp only [nz1, nz2, nz3]
      refine wpList_nil ?_
      refine then_n (hK40 _ _ ?_)
      refine wp_ret ?_
      refine then_r ?_
      refine blk_r ?_
      refine then_r ?_
      refine blk_r ?_
      refine then_r ?_
      refine then_r ?_
      have he41 : rdecode_m_l0 s (s.length + 1) (s, ([] : List Par)) = .inr (([] : List Par), 2) := (hi16.trans (show rdecode_m_b0 s (rdecode_m_l0 s k15) x11 l12 = .inr (([] : List Par), 2) from by unfold rdecode_m_b0; rw [if_pos hc28, if_neg hs35, if_pos hs39] <;> rfl))
      have he42 : rdecode_m s = (([] : List Par), 2) := (show rdecode_m s = (([] : List Par), 2) from by unfold rdecode_m; rw [if_neg hc4, he41] <;> rfl)
      exact ⟨rfl, .tuple #[.slice none 0 0, .int .i64 2], res_tt rfl rfl rfl, ⟨⟨_, rfl, (.slice none 0 0), (by first | rfl | rw [he42]), by rw [he42]; exact hm31.give (From.pure (fun W => Rs.nil ePar 2 W))⟩, hm31.below⟩⟩
    simp only [nz1, nz2, nz3]
    refine lvw 28 (.bool false) rfl rfl (run_pickf rfl rfl rfl) ?_
    simp only [nz1, nz2, nz3]
    refine lvw 29 (.bool false) rfl rfl (run_mv rfl rfl) ?_
    simp only [nz1, nz2, nz3]
    refine lvw 30 (.int .i64 ((rlen_m x11).1)) rfl rfl (run_mv rfl rfl) ?_
    simp only [nz1, nz2, nz3]
    refine lvw 31 (.int .i64 ((rlen_m x11).2)) rfl rfl (run_mv rfl rfl) ?_
    simp only [nz1, nz2, nz3]
    refine lvw 32 (.int .i64 (((rlen_m x11).2 + (4 : Int)))) rfl rfl (z_add ((rlen_m x11).2) (4 : Int) _ (by rw [IntKind.wrap_i64]; omega) rfl rfl rfl) ?_
    simp only [nz1, nz2, nz3]
    refine lvb 33 ((rlen_m x11).1 < ((rlen_m x11).2 + (4 : Int))) rfl rfl (z_lss ((rlen_m x11).1) ((rlen_m x11).2 + (4 : Int)) rfl rfl rfl) (fun hs43 => ?_) (fun hs43 => ?_)
    · simp only [nz1, nz2, nz3]
      refine lvw 34 (.bool true) rfl rfl (run_pickf rfl rfl rfl) ?_
      simp only [nz1, nz2, nz3]
      refine lvw 35 (.bool true) rfl rfl (run_mv rfl rfl) ?_
      simp only [nz1, nz2, nz3]
      refine lst_skip 36 rfl rfl ?_
      simp only [nz1, nz2, nz3]
      refine lst_skip 37 rfl rfl ?_
      simp only [nz1, nz2, nz3]
      refine lst_skip 38 rfl rfl ?_
      simp only [nz1, nz2, nz3]
      refine lst_skip 39 rfl rfl ?_
      simp only [nz1, nz2, nz3]
      refine lvw 40 (.bool true) rfl rfl (run_pick rfl rfl rfl) ?_
      simp only [nz1, nz2, nz3]
      refine lvw 41 (.bool true) rfl rfl (run_mv rfl rfl) ?_
      simp only [nz1, nz2, nz3]
      refine lst_skip 42 rfl rfl ?_
      simp only [nz1, nz2, nz3]
      refine lst_skip 43 rfl rfl ?_
      simp only [nz1, nz2, nz3]
      refine lst_skip 44 rfl rfl ?_
      simp only [nz1, nz2, nz3]
      refine lst_skip 45 rfl rfl ?_
      simp only [nz1, nz2, nz3]
      refine lst_skip 46 rfl rfl ?_
      simp only [nz1, nz2, nz3]
      refine lvw 47 (.bool true) rfl rfl (run_pick rfl rfl rfl) ?_
      simp only [nz1, nz2, nz3]
      refine wpList_nil ?_
      refine then_n (hK34 _ _ ?_)
      refine cond_t rfl ?_
      refine wp_seq_k (fun K44 hK44 => ?_)
      refine wp_region_lit ?_
      refine lvw 2 (.slice none 0 0) rfl rfl (run_as rfl rfl) ?_
      simp only [nz1, nz2, nz3]
      refine lvw 3 (.int .i64 2) rfl rfl (run_as rfl rfl) ?_
      simp only [nz1, nz2, nz3]
      refine wpList_nil ?_
      refine then_n (hK44 _ _ ?_)
      refine wp_ret ?_
      refine then_r ?_
      refine blk_r ?_
      refine then_r ?_
      refine blk_r ?_
      refine then_r ?_
      refine then_r ?_
      have he45 : rdecode_m_l0 s (s.length + 1) (s, ([] : List Par)) = .inr (([] : List Par), 2) := (hi16.trans (show rdecode_m_b0 s (rdecode_m_l0 s k15) x11 l12 = .inr (([] : List Par), 2) from by unfold rdecode_m_b0; rw [if_pos hc28, if_neg hs35, if_neg hs39, if_pos hs43] <;> rfl))
      have he46 : rdecode_m s = (([] : List Par), 2) := (show rdecode_m s = (([] : List Par), 2) from by unfold rdecode_m; rw [if_neg hc4, he45] <;> rfl)
      exact ⟨rfl, .tuple #[.slice none 0 0, .int .i64 2], res_tt rfl rfl rfl, ⟨⟨_, rfl, (.slice none 0 0), (by first | rfl | rw [he46]), by rw [he46]; exact hm31.give (From.pure (fun W => Rs.nil ePar 2 W))⟩, hm31.below⟩⟩
    simp only [nz1, nz2, nz3]
    refine lvw 34 (.bool false) rfl rfl (run_pickf rfl rfl rfl) ?_
    simp only [nz1, nz2, nz3]
    refine lvw 35 (.bool false) rfl rfl (run_mv rfl rfl) ?_
    simp only [nz1, nz2, nz3]
    refine lvw 36 (.string (tx x11)) rfl rfl (run_mv rfl rfl) ?_
    simp only [nz1, nz2, nz3]
    refine lvw 37 (.int .i64 ((rlen_m x11).2)) rfl rfl (run_mv rfl rfl) ?_
    simp only [nz1, nz2, nz3]
    refine lvw 38 (.int .u8 ((by' x11 (((rlen_m x11).2).toNat) : Nat) : Int)) rfl rfl (t_char x11 (((rlen_m x11).2).toNat) (by omega) Tryd.underlying9 rfl rfl (show (Value.int .i64 ((rlen_m x11).2)) = .int .i64 (((((rlen_m x11).2).toNat) : Nat) : Int) from by congr 1; omega)) ?_
    simp only [nz1, nz2, nz3]
    refine lvb 39 (¬ by' x11 (((rlen_m x11).2).toNat) = 32) rfl rfl (r_neq (by' x11 (((rlen_m x11).2).toNat)) 32 rfl rfl rfl) (fun hs47 => ?_) (fun hs47 => ?_)
    · simp only [nz1, nz2, nz3]
      refine lvw 40 (.bool true) rfl rfl (run_pickf rfl rfl rfl) ?_
      simp only [nz1, nz2, nz3]
      refine lvw 41 (.bool true) rfl rfl (run_mv rfl rfl) ?_
      simp only [nz1, nz2, nz3]
      refine lst_skip 42 rfl rfl ?_
      simp only [nz1, nz2, nz3]
      refine lst_skip 43 rfl rfl ?_
      simp only [nz1, nz2, nz3]
      refine lst_skip 44 rfl rfl ?_
      simp only [nz1, nz2, nz3]
      refine lst_skip 45 rfl rfl ?_
      simp only [nz1, nz2, nz3]
      refine lst_skip 46 rfl rfl ?_
      simp only [nz1, nz2, nz3]
      refine lvw 47 (.bool true) rfl rfl (run_pick rfl rfl rfl) ?_
      simp only [nz1, nz2, nz3]
      refine wpList_nil ?_
      refine then_n (hK34 _ _ ?_)
      refine cond_t rfl ?_
      refine wp_seq_k (fun K48 hK48 => ?_)
      refine wp_region_lit ?_
      refine lvw 2 (.slice none 0 0) rfl rfl (run_as rfl rfl) ?_
      simp only [nz1, nz2, nz3]
      refine lvw 3 (.int .i64 2) rfl rfl (run_as rfl rfl) ?_
      simp only [nz1, nz2, nz3]
      refine wpList_nil ?_
      refine then_n (hK48 _ _ ?_)
      refine wp_ret ?_
      refine then_r ?_
      refine blk_r ?_
      refine then_r ?_
      refine blk_r ?_
      refine then_r ?_
      refine then_r ?_
      have he49 : rdecode_m_l0 s (s.length + 1) (s, ([] : List Par)) = .inr (([] : List Par), 2) := (hi16.trans (show rdecode_m_b0 s (rdecode_m_l0 s k15) x11 l12 = .inr (([] : List Par), 2) from by unfold rdecode_m_b0; rw [if_pos hc28, if_neg hs35, if_neg hs39, if_neg hs43, if_pos hs47] <;> rfl))
      have he50 : rdecode_m s = (([] : List Par), 2) := (show rdecode_m s = (([] : List Par), 2) from by unfold rdecode_m; rw [if_neg hc4, he49] <;> rfl)
      exact ⟨rfl, .tuple #[.slice none 0 0, .int .i64 2], res_tt rfl rfl rfl, ⟨⟨_, rfl, (.slice none 0 0), (by first | rfl | rw [he50]), by rw [he50]; exact hm31.give (From.pure (fun W => Rs.nil ePar 2 W))⟩, hm31.below⟩⟩
    simp only [nz1, nz2, nz3]
    refine lvw 40 (.bool false) rfl rfl (run_pickf rfl rfl rfl) ?_
    simp only [nz1, nz2, nz3]
    refine lvw 41 (.bool false) rfl rfl (run_mv rfl rfl) ?_
    simp only [nz1, nz2, nz3]
    refine lvw 42 (.string (tx x11)) rfl rfl (run_mv rfl rfl) ?_
    simp only [nz1, nz2, nz3]
    refine lvw 43 (.int .i64 ((rlen_m x11).1)) rfl rfl (run_mv rfl rfl) ?_
    simp only [nz1, nz2, nz3]
    refine lvw 44 (.int .i64 (((rlen_m x11).1 - (1 : Int)))) rfl rfl (z_sub ((rlen_m x11).1) (1 : Int) _ (by rw [IntKind.wrap_i64]; omega) rfl rfl rfl) ?_
    simp only [nz1, nz2, nz3]
    refine lvw 45 (.int .u8 ((by' x11 (((rlen_m x11).1 - (1 : Int)).toNat) : Nat) : Int)) rfl rfl (t_char x11 (((rlen_m x11).1 - (1 : Int)).toNat) (by omega) Tryd.underlying9 rfl rfl (show (Value.int .i64 ((rlen_m x11).1 - (1 : Int))) = .int .i64 (((((rlen_m x11).1 - (1 : Int)).toNat) : Nat) : Int) from by congr 1; omega)) ?_
    simp only [nz1, nz2, nz3]
    refine lvw 46 (.bool (decide (¬ by' x11 (((rlen_m x11).1 - (1 : Int)).toNat) = 10))) rfl rfl (r_neq (by' x11 (((rlen_m x11).1 - (1 : Int)).toNat)) 10 rfl rfl rfl) ?_
    simp only [nz1, nz2, nz3]
    refine lvw 47 (.bool (decide (¬ by' x11 (((rlen_m x11).1 - (1 : Int)).toNat) = 10))) rfl rfl (run_pickf rfl rfl rfl) ?_
    simp only [nz1, nz2, nz3]
    refine wpList_nil ?_
    refine then_n (hK34 _ _ ?_)
    refine cond_d (¬ by' x11 (((rlen_m x11).1 - (1 : Int)).toNat) = 10) rfl (fun hc51 => ?_) (fun hc51 => ?_)
    · refine wp_seq_k (fun K52 hK52 => ?_)
      refine wp_region_lit ?_
      refine lvw 2 (.slice none 0 0) rfl rfl (run_as rfl rfl) ?_
      simp only [nz1, nz2, nz3]
      refine lvw 3 (.int .i64 2) rfl rfl (run_as rfl rfl) ?_
      simp only [nz1, nz2, nz3]
      refine wpList_nil ?_
      refine then_n (hK52 _ _ ?_)
      refine wp_ret ?_
      refine then_r ?_
      refine blk_r ?_
      refine then_r ?_
      refine blk_r ?_
      refine then_r ?_
      refine then_r ?_
      have he53 : rdecode_m_l0 s (s.length + 1) (s, ([] : List Par)) = .inr (([] : List Par), 2) := (hi16.trans (show rdecode_m_b0 s (rdecode_m_l0 s k15) x11 l12 = .inr (([] : List Par), 2) from by unfold rdecode_m_b0; rw [if_pos hc28, if_neg hs35, if_neg hs39, if_neg hs43, if_neg hs47, if_pos hc51] <;> rfl))
      have he54 : rdecode_m s = (([] : List Par), 2) := (show rdecode_m s = (([] : List Par), 2) from by unfold rdecode_m; rw [if_neg hc4, he53] <;> rfl)
      exact ⟨rfl, .tuple #[.slice none 0 0, .int .i64 2], res_tt rfl rfl rfl, ⟨⟨_, rfl, (.slice none 0 0), (by first | rfl | rw [he54]), by rw [he54]; exact hm31.give (From.pure (fun W => Rs.nil ePar 2 W))⟩, hm31.below⟩⟩
    refine wp_skip ?_
    refine then_n (hK33 _ _ ?_)
    refine wp_seq_k (fun K55 hK55 => ?_)
    refine wp_region_lit ?_
    refine lvw 48 (.string (tx x11)) rfl rfl (run_mv rfl rfl) ?_
    simp only [nz1, nz2, nz3]
    refine lvw 49 (.int .i64 ((rlen_m x11).2)) rfl rfl (run_mv rfl rfl) ?_
    simp only [nz1, nz2, nz3]
    refine lvw 50 (.int .i64 (((rlen_m x11).2 + (1 : Int)))) rfl rfl (z_add ((rlen_m x11).2) (1 : Int) _ (by rw [IntKind.wrap_i64]; omega) rfl rfl rfl) ?_
    simp only [nz1, nz2, nz3]
    refine lvw 51 (.int .i64 ((rlen_m x11).1)) rfl rfl (run_mv rfl rfl) ?_
    simp only [nz1, nz2, nz3]
    refine lvw 52 (.int .i64 (((rlen_m x11).1 - (1 : Int)))) rfl rfl (z_sub ((rlen_m x11).1) (1 : Int) _ (by rw [IntKind.wrap_i64]; omega) rfl rfl rfl) ?_
    simp only [nz1, nz2, nz3]
    refine lvw 53 (.string (tx ((x11.take (((rlen_m x11).1 - (1 : Int)).toNat)).drop (((rlen_m x11).2 + (1 : Int)).toNat)))) rfl rfl (t_cut x11 (((rlen_m x11).2 + (1 : Int)).toNat) (((rlen_m x11).1 - (1 : Int)).toNat) (by omega) (by omega) Tryd.underlying9 rfl rfl (show (Value.int .i64 ((rlen_m x11).2 + (1 : Int))) = .int .i64 ((((rlen_m x11).2 + (1 : Int)).toNat : Nat) : Int) from by congr 1; omega) (show (Value.int .i64 ((rlen_m x11).1 - (1 : Int))) = .int .i64 ((((rlen_m x11).1 - (1 : Int)).toNat : Nat) : Int) from by congr 1; omega)) ?_
    simp only [nz1, nz2, nz3]
    refine lvw 7 (.string (tx ((x11.take (((rlen_m x11).1 - (1 : Int)).toNat)).drop (((rlen_m x11).2 + (1 : Int)).toNat)))) rfl rfl (run_as rfl rfl) ?_
    simp only [nz1, nz2, nz3]
    refine wpList_nil ?_
    refine then_n (hK55 _ _ ?_)
    refine wp_seq_k (fun K56 hK56 => ?_)
    refine wp_region_lit ?_
    refine lvw 54 (.string (tx ((x11.take (((rlen_m x11).1 - (1 : Int)).toNat)).drop (((rlen_m x11).2 + (1 : Int)).toNat)))) rfl rfl (run_mv rfl rfl) ?_
    simp only [nz1, nz2, nz3]
    refine lst rfl (m_call hm31 55 (.int .i64 ((rplace_m ((x11.take (((rlen_m x11).1 - (1 : Int)).toNat)).drop (((rlen_m x11).2 + (1 : Int)).toNat)) (UInt8.ofNat 61)))) rfl (run_rplace rfl rfl rfl) (rplace_any ((x11.take (((rlen_m x11).1 - (1 : Int)).toNat)).drop (((rlen_m x11).2 + (1 : Int)).toNat)) (UInt8.ofNat 61)  _  (by first | omega | assumption | (simp only [List.length_drop, List.length_take] at *; omega) | (simp; done) | (simp; omega) | (simp only [List.length_append, List.length_cons, List.length_nil]; omega) | (simp only [List.length_append, List.length_cons, List.length_nil] at *; omega) | decide)) (fun w57 (hm58 : Mm none S w w57 [.row v13 l12.length (l12.flatMap ePar) 47 2]) => ?_))
    have hf59 : 0 ≤ (rplace_m ((x11.take (((rlen_m x11).1 - (1 : Int)).toNat)).drop (((rlen_m x11).2 + (1 : Int)).toNat)) (UInt8.ofNat 61)) ∧ (rplace_m ((x11.take (((rlen_m x11).1 - (1 : Int)).toNat)).drop (((rlen_m x11).2 + (1 : Int)).toNat)) (UInt8.ofNat 61)) ≤ ((((x11.take (((rlen_m x11).1 - (1 : Int)).toNat)).drop (((rlen_m x11).2 + (1 : Int)).toNat)).length : Nat) : Int) := rplace_rng ((x11.take (((rlen_m x11).1 - (1 : Int)).toNat)).drop (((rlen_m x11).2 + (1 : Int)).toNat)) (UInt8.ofNat 61)
    have hf60 : (rplace_m ((x11.take (((rlen_m x11).1 - (1 : Int)).toNat)).drop (((rlen_m x11).2 + (1 : Int)).toNat)) (UInt8.ofNat 61)) ≤ 1048576 := rplace_max ((x11.take (((rlen_m x11).1 - (1 : Int)).toNat)).drop (((rlen_m x11).2 + (1 : Int)).toNat)) (UInt8.ofNat 61) (by first | omega | (simp only [List.length_drop, List.length_take] at *; omega))
    simp only [nz1, nz2, nz3]
    refine lvw 8 (.int .i64 ((rplace_m ((x11.take (((rlen_m x11).1 - (1 : Int)).toNat)).drop (((rlen_m x11).2 + (1 : Int)).toNat)) (UInt8.ofNat 61)))) rfl rfl (run_as rfl rfl) ?_
    simp only [nz1, nz2, nz3]
    refine wpList_nil ?_
    refine then_n (hK56 _ _ ?_)
    refine wp_seq_k (fun K61 hK61 => ?_)
    refine wp_seq_k (fun K62 hK62 => ?_)
    refine wp_region_lit ?_
    refine lvw 56 (.int .i64 ((rplace_m ((x11.take (((rlen_m x11).1 - (1 : Int)).toNat)).drop (((rlen_m x11).2 + (1 : Int)).toNat)) (UInt8.ofNat 61)))) rfl rfl (run_mv rfl rfl) ?_
    simp only [nz1, nz2, nz3]
    refine lvw 57 (.string (tx ((x11.take (((rlen_m x11).1 - (1 : Int)).toNat)).drop (((rlen_m x11).2 + (1 : Int)).toNat)))) rfl rfl (run_mv rfl rfl) ?_
    simp only [nz1, nz2, nz3]
    refine lvw 58 (.int .i64 ((((x11.take (((rlen_m x11).1 - (1 : Int)).toNat)).drop (((rlen_m x11).2 + (1 : Int)).toNat)).length : Nat) : Int)) rfl rfl (t_len rfl Tryd.underlying9 rfl) ?_
    simp only [nz1, nz2, nz3]
    refine lvb 59 ((rplace_m ((x11.take (((rlen_m x11).1 - (1 : Int)).toNat)).drop (((rlen_m x11).2 + (1 : Int)).toNat)) (UInt8.ofNat 61)) = ((((x11.take (((rlen_m x11).1 - (1 : Int)).toNat)).drop (((rlen_m x11).2 + (1 : Int)).toNat)).length : Nat) : Int)) rfl rfl (z_eql (rplace_m ((x11.take (((rlen_m x11).1 - (1 : Int)).toNat)).drop (((rlen_m x11).2 + (1 : Int)).toNat)) (UInt8.ofNat 61)) ((((x11.take (((rlen_m x11).1 - (1 : Int)).toNat)).drop (((rlen_m x11).2 + (1 : Int)).toNat)).length : Nat) : Int) rfl rfl rfl) (fun hs63 => ?_) (fun hs63 => ?_)
    · simp only [nz1, nz2, nz3]
      refine lvw 60 (.bool true) rfl rfl (run_mv rfl rfl) ?_
      simp only [nz1, nz2, nz3]
      refine lst_skip 61 rfl rfl ?_
      simp only [nz1, nz2, nz3]
      refine lst_skip 62 rfl rfl ?_
      simp only [nz1, nz2, nz3]
      refine lst_skip 63 rfl rfl ?_
      simp only [nz1, nz2, nz3]
      refine lst_skip 64 rfl rfl ?_
      simp only [nz1, nz2, nz3]
      refine lst_skip 65 rfl rfl ?_
      simp only [nz1, nz2, nz3]
      refine lvw 66 (.bool true) rfl rfl (run_pick rfl rfl rfl) ?_
      simp only [nz1, nz2, nz3]
      refine wpList_nil ?_
      refine then_n (hK62 _ _ ?_)
      refine cond_t rfl ?_
      refine wp_seq_k (fun K64 hK64 => ?_)
      refine wp_region_lit ?_
      refine lvw 2 (.slice none 0 0) rfl rfl (run_as rfl rfl) ?_
      simp only [nz1, nz2, nz3]
      refine lvw 3 (.int .i64 2) rfl rfl (run_as rfl rfl) ?_
      simp only [nz1, nz2, nz3]
      refine wpList_nil ?_
      refine then_n (hK64 _ _ ?_)
      refine wp_ret ?_
      refine then_r ?_
      refine blk_r ?_
      refine then_r ?_
      refine blk_r ?_
      refine then_r ?_
      refine then_r ?_
      have he65 : rdecode_m_l0 s (s.length + 1) (s, ([] : List Par)) = .inr (([] : List Par), 2) := (hi16.trans (show rdecode_m_b0 s (rdecode_m_l0 s k15) x11 l12 = .inr (([] : List Par), 2) from by unfold rdecode_m_b0; rw [if_pos hc28, if_neg hs35, if_neg hs39, if_neg hs43, if_neg hs47, if_neg hc51, if_pos hs63] <;> rfl))
      have he66 : rdecode_m s = (([] : List Par), 2) := (show rdecode_m s = (([] : List Par), 2) from by unfold rdecode_m; rw [if_neg hc4, he65] <;> rfl)
      exact ⟨rfl, .tuple #[.slice none 0 0, .int .i64 2], res_tt rfl rfl rfl, ⟨⟨_, rfl, (.slice none 0 0), (by first | rfl | rw [he66]), by rw [he66]; exact hm58.give (From.pure (fun W => Rs.nil ePar 2 W))⟩, hm58.below⟩⟩
    simp only [nz1, nz2, nz3]
    refine lvw 60 (.bool false) rfl rfl (run_mv rfl rfl) ?_
    simp only [nz1, nz2, nz3]
    refine lvw 61 (.string (tx ((x11.take (((rlen_m x11).1 - (1 : Int)).toNat)).drop (((rlen_m x11).2 + (1 : Int)).toNat)))) rfl rfl (run_mv rfl rfl) ?_
    simp only [nz1, nz2, nz3]
    refine lvw 62 (.int .i64 ((rplace_m ((x11.take (((rlen_m x11).1 - (1 : Int)).toNat)).drop (((rlen_m x11).2 + (1 : Int)).toNat)) (UInt8.ofNat 61)))) rfl rfl (run_mv rfl rfl) ?_
    simp only [nz1, nz2, nz3]
    refine lvw 63 (.string (tx (((x11.take (((rlen_m x11).1 - (1 : Int)).toNat)).drop (((rlen_m x11).2 + (1 : Int)).toNat)).take ((rplace_m ((x11.take (((rlen_m x11).1 - (1 : Int)).toNat)).drop (((rlen_m x11).2 + (1 : Int)).toNat)) (UInt8.ofNat 61)).toNat)))) rfl rfl (t_to ((x11.take (((rlen_m x11).1 - (1 : Int)).toNat)).drop (((rlen_m x11).2 + (1 : Int)).toNat)) ((rplace_m ((x11.take (((rlen_m x11).1 - (1 : Int)).toNat)).drop (((rlen_m x11).2 + (1 : Int)).toNat)) (UInt8.ofNat 61)).toNat) (by omega) Tryd.underlying9 rfl rfl (show (Value.int .i64 (rplace_m ((x11.take (((rlen_m x11).1 - (1 : Int)).toNat)).drop (((rlen_m x11).2 + (1 : Int)).toNat)) (UInt8.ofNat 61))) = .int .i64 (((rplace_m ((x11.take (((rlen_m x11).1 - (1 : Int)).toNat)).drop (((rlen_m x11).2 + (1 : Int)).toNat)) (UInt8.ofNat 61)).toNat : Nat) : Int) from by congr 1; omega)) ?_
    simp only [nz1, nz2, nz3]
    refine lst rfl (m_call hm58 64 (.bool ((rkey_m (((x11.take (((rlen_m x11).1 - (1 : Int)).toNat)).drop (((rlen_m x11).2 + (1 : Int)).toNat)).take ((rplace_m ((x11.take (((rlen_m x11).1 - (1 : Int)).toNat)).drop (((rlen_m x11).2 + (1 : Int)).toNat)) (UInt8.ofNat 61)).toNat))))) rfl (run_rkey rfl rfl) (rkey_any (((x11.take (((rlen_m x11).1 - (1 : Int)).toNat)).drop (((rlen_m x11).2 + (1 : Int)).toNat)).take ((rplace_m ((x11.take (((rlen_m x11).1 - (1 : Int)).toNat)).drop (((rlen_m x11).2 + (1 : Int)).toNat)) (UInt8.ofNat 61)).toNat))  _  (by first | omega | assumption | (simp only [List.length_drop, List.length_take] at *; omega) | (simp; done) | (simp; omega) | (simp only [List.length_append, List.length_cons, List.length_nil]; omega) | (simp only [List.length_append, List.length_cons, List.length_nil] at *; omega) | decide)) (fun w67 (hm68 : Mm none S w w67 [.row v13 l12.length (l12.flatMap ePar) 47 2]) => ?_))
    simp only [nz1, nz2, nz3]
    refine lvw 65 (.bool (!(rkey_m (((x11.take (((rlen_m x11).1 - (1 : Int)).toNat)).drop (((rlen_m x11).2 + (1 : Int)).toNat)).take ((rplace_m ((x11.take (((rlen_m x11).1 - (1 : Int)).toNat)).drop (((rlen_m x11).2 + (1 : Int)).toNat)) (UInt8.ofNat 61)).toNat))))) rfl rfl (r_not (rkey_m (((x11.take (((rlen_m x11).1 - (1 : Int)).toNat)).drop (((rlen_m x11).2 + (1 : Int)).toNat)).take ((rplace_m ((x11.take (((rlen_m x11).1 - (1 : Int)).toNat)).drop (((rlen_m x11).2 + (1 : Int)).toNat)) (UInt8.ofNat 61)).toNat))) rfl rfl) ?_
    simp only [nz1, nz2, nz3]
    refine lvw 66 (.bool (!(rkey_m (((x11.take (((rlen_m x11).1 - (1 : Int)).toNat)).drop (((rlen_m x11).2 + (1 : Int)).toNat)).take ((rplace_m ((x11.take (((rlen_m x11).1 - (1 : Int)).toNat)).drop (((rlen_m x11).2 + (1 : Int)).toNat)) (UInt8.ofNat 61)).toNat))))) rfl rfl (run_pickf rfl rfl rfl) ?_
    simp only [nz1, nz2, nz3]
    refine wpList_nil ?_
    refine then_n (hK62 _ _ ?_)
    refine cond_B (!(rkey_m (((x11.take (((rlen_m x11).1 - (1 : Int)).toNat)).drop (((rlen_m x11).2 + (1 : Int)).toNat)).take ((rplace_m ((x11.take (((rlen_m x11).1 - (1 : Int)).toNat)).drop (((rlen_m x11).2 + (1 : Int)).toNat)) (UInt8.ofNat 61)).toNat)))) rfl (fun hc69 => ?_) (fun hc69 => ?_)
    · refine wp_seq_k (fun K70 hK70 => ?_)
      refine wp_region_lit ?_
      refine lvw 2 (.slice none 0 0) rfl rfl (run_as rfl rfl) ?_
      simp only [nz1, nz2, nz3]
      refine lvw 3 (.int .i64 2) rfl rfl (run_as rfl rfl) ?_
      simp only [nz1, nz2, nz3]
      refine wpList_nil ?_
      refine then_n (hK70 _ _ ?_)
      refine wp_ret ?_
      refine then_r ?_
      refine blk_r ?_
      refine then_r ?_
      refine blk_r ?_
      refine then_r ?_
      refine then_r ?_
      have he71 : rdecode_m_l0 s (s.length + 1) (s, ([] : List Par)) = .inr (([] : List Par), 2) := (hi16.trans (show rdecode_m_b0 s (rdecode_m_l0 s k15) x11 l12 = .inr (([] : List Par), 2) from by unfold rdecode_m_b0; rw [if_pos hc28, if_neg hs35, if_neg hs39, if_neg hs43, if_neg hs47, if_neg hc51, if_neg hs63, if_pos hc69] <;> rfl))
      have he72 : rdecode_m s = (([] : List Par), 2) := (show rdecode_m s = (([] : List Par), 2) from by unfold rdecode_m; rw [if_neg hc4, he71] <;> rfl)
      exact ⟨rfl, .tuple #[.slice none 0 0, .int .i64 2], res_tt rfl rfl rfl, ⟨⟨_, rfl, (.slice none 0 0), (by first | rfl | rw [he72]), by rw [he72]; exact hm68.give (From.pure (fun W => Rs.nil ePar 2 W))⟩, hm68.below⟩⟩
    refine wp_skip ?_
    refine then_n (hK61 _ _ ?_)
    refine wp_seq_k (fun K73 hK73 => ?_)
    have hm74 := hm68.drew
    refine wp_region_held_drew (S := fun w' => True) (by kernel_rfl) (trivial) (fun _ => ?_)
    generalize w67.drew = w75 at *
    refine tk 0 67 (.string (tx ((x11.take (((rlen_m x11).1 - (1 : Int)).toNat)).drop (((rlen_m x11).2 + (1 : Int)).toNat)))) rfl rfl (fun _ hw => run_mv rfl rfl) trivial ?_
    simp only [nz1, nz2, nz3]
    refine tk 1 68 (.int .i64 ((rplace_m ((x11.take (((rlen_m x11).1 - (1 : Int)).toNat)).drop (((rlen_m x11).2 + (1 : Int)).toNat)) (UInt8.ofNat 61)))) rfl rfl (fun _ hw => run_mv rfl rfl) trivial ?_
    simp only [nz1, nz2, nz3]
    refine tk 2 69 (.string (tx (((x11.take (((rlen_m x11).1 - (1 : Int)).toNat)).drop (((rlen_m x11).2 + (1 : Int)).toNat)).take ((rplace_m ((x11.take (((rlen_m x11).1 - (1 : Int)).toNat)).drop (((rlen_m x11).2 + (1 : Int)).toNat)) (UInt8.ofNat 61)).toNat)))) rfl rfl (fun _ hw => t_to ((x11.take (((rlen_m x11).1 - (1 : Int)).toNat)).drop (((rlen_m x11).2 + (1 : Int)).toNat)) ((rplace_m ((x11.take (((rlen_m x11).1 - (1 : Int)).toNat)).drop (((rlen_m x11).2 + (1 : Int)).toNat)) (UInt8.ofNat 61)).toNat) (by omega) Tryd.underlying9 rfl rfl (show (Value.int .i64 (rplace_m ((x11.take (((rlen_m x11).1 - (1 : Int)).toNat)).drop (((rlen_m x11).2 + (1 : Int)).toNat)) (UInt8.ofNat 61))) = .int .i64 (((rplace_m ((x11.take (((rlen_m x11).1 - (1 : Int)).toNat)).drop (((rlen_m x11).2 + (1 : Int)).toNat)) (UInt8.ofNat 61)).toNat : Nat) : Int) from by congr 1; omega)) trivial ?_
    simp only [nz1, nz2, nz3]
    refine tk 3 70 (.string (tx ((x11.take (((rlen_m x11).1 - (1 : Int)).toNat)).drop (((rlen_m x11).2 + (1 : Int)).toNat)))) rfl rfl (fun _ hw => run_mv rfl rfl) trivial ?_
    simp only [nz1, nz2, nz3]
    refine tk 4 71 (.int .i64 ((rplace_m ((x11.take (((rlen_m x11).1 - (1 : Int)).toNat)).drop (((rlen_m x11).2 + (1 : Int)).toNat)) (UInt8.ofNat 61)))) rfl rfl (fun _ hw => run_mv rfl rfl) trivial ?_
    simp only [nz1, nz2, nz3]
    refine tk 5 72 (.int .i64 (((rplace_m ((x11.take (((rlen_m x11).1 - (1 : Int)).toNat)).drop (((rlen_m x11).2 + (1 : Int)).toNat)) (UInt8.ofNat 61)) + (1 : Int)))) rfl rfl (fun _ hw => z_add (rplace_m ((x11.take (((rlen_m x11).1 - (1 : Int)).toNat)).drop (((rlen_m x11).2 + (1 : Int)).toNat)) (UInt8.ofNat 61)) (1 : Int) _ (by rw [IntKind.wrap_i64]; omega) rfl rfl rfl) trivial ?_
    simp only [nz1, nz2, nz3]
    refine tk 6 73 (.string (tx (((x11.take (((rlen_m x11).1 - (1 : Int)).toNat)).drop (((rlen_m x11).2 + (1 : Int)).toNat)).drop (((rplace_m ((x11.take (((rlen_m x11).1 - (1 : Int)).toNat)).drop (((rlen_m x11).2 + (1 : Int)).toNat)) (UInt8.ofNat 61)) + (1 : Int)).toNat)))) rfl rfl (fun _ hw => t_from ((x11.take (((rlen_m x11).1 - (1 : Int)).toNat)).drop (((rlen_m x11).2 + (1 : Int)).toNat)) (((rplace_m ((x11.take (((rlen_m x11).1 - (1 : Int)).toNat)).drop (((rlen_m x11).2 + (1 : Int)).toNat)) (UInt8.ofNat 61)) + (1 : Int)).toNat) (by omega) Tryd.underlying9 rfl rfl (show (Value.int .i64 ((rplace_m ((x11.take (((rlen_m x11).1 - (1 : Int)).toNat)).drop (((rlen_m x11).2 + (1 : Int)).toNat)) (UInt8.ofNat 61)) + (1 : Int))) = .int .i64 ((((rplace_m ((x11.take (((rlen_m x11).1 - (1 : Int)).toNat)).drop (((rlen_m x11).2 + (1 : Int)).toNat)) (UInt8.ofNat 61)) + (1 : Int)).toNat : Nat) : Int) from by congr 1; omega)) trivial ?_
    simp only [nz1, nz2, nz3]
    refine tk 7 74 (.agg #[.string (tx (((x11.take (((rlen_m x11).1 - (1 : Int)).toNat)).drop (((rlen_m x11).2 + (1 : Int)).toNat)).take ((rplace_m ((x11.take (((rlen_m x11).1 - (1 : Int)).toNat)).drop (((rlen_m x11).2 + (1 : Int)).toNat)) (UInt8.ofNat 61)).toNat))), .string (tx (((x11.take (((rlen_m x11).1 - (1 : Int)).toNat)).drop (((rlen_m x11).2 + (1 : Int)).toNat)).drop (((rplace_m ((x11.take (((rlen_m x11).1 - (1 : Int)).toNat)).drop (((rlen_m x11).2 + (1 : Int)).toNat)) (UInt8.ofNat 61)) + (1 : Int)).toNat)))]) rfl rfl (fun _ hw => by unfold execOp; go_simp; try (first | rfl | (repeat' (first | rfl | apply And.intro)))) trivial ?_
    simp only [nz1, nz2, nz3]
    refine one_ready 8 (by kernel_rfl) ?_
    refine opd rfl (wanted_none rfl) (m_alloc (c := #[.string (tx ([])), .string (tx ([]))]) (T := 47) hm74 9 rfl (by unfold execOp; go_simp; try rfl) (fun g78 w76 (hm77 : Mm none S w w76 [.row v13 l12.length (l12.flatMap ePar) 47 2, .blk g78 #[.string (tx ([])), .string (tx ([]))] 47]) => ?_))
    refine ⟨trivial, ?_⟩
    simp only [nz1, nz2, nz3]
    refine one_ready 9 (by kernel_rfl) ?_
    refine opd rfl (wanted_none rfl) (m_store 1 47 _ _ 0 (.agg #[.string (tx (((x11.take (((rlen_m x11).1 - (1 : Int)).toNat)).drop (((rlen_m x11).2 + (1 : Int)).toNat)).take ((rplace_m ((x11.take (((rlen_m x11).1 - (1 : Int)).toNat)).drop (((rlen_m x11).2 + (1 : Int)).toNat)) (UInt8.ofNat 61)).toNat))), .string (tx (((x11.take (((rlen_m x11).1 - (1 : Int)).toNat)).drop (((rlen_m x11).2 + (1 : Int)).toNat)).drop (((rplace_m ((x11.take (((rlen_m x11).1 - (1 : Int)).toNat)).drop (((rlen_m x11).2 + (1 : Int)).toNat)) (UInt8.ofNat 61)) + (1 : Int)).toNat)))]) (old := #[.string (tx ([])), .string (tx ([]))]) (new := #[.string (tx (((x11.take (((rlen_m x11).1 - (1 : Int)).toNat)).drop (((rlen_m x11).2 + (1 : Int)).toNat)).take ((rplace_m ((x11.take (((rlen_m x11).1 - (1 : Int)).toNat)).drop (((rlen_m x11).2 + (1 : Int)).toNat)) (UInt8.ofNat 61)).toNat))), .string (tx (((x11.take (((rlen_m x11).1 - (1 : Int)).toNat)).drop (((rlen_m x11).2 + (1 : Int)).toNat)).drop (((rplace_m ((x11.take (((rlen_m x11).1 - (1 : Int)).toNat)).drop (((rlen_m x11).2 + (1 : Int)).toNat)) (UInt8.ofNat 61)) + (1 : Int)).toNat)))]) hm77 rfl rfl rfl rfl rfl (by exact sz_47) (show 0 + 2 ≤ 2 from by decide) (by simp [Value.cells, Value.oneCell']) rfl (fun w79 (hm80 : Mm none S w w79 [.row v13 l12.length (l12.flatMap ePar) 47 2, .blk g78 #[.string (tx (((x11.take (((rlen_m x11).1 - (1 : Int)).toNat)).drop (((rlen_m x11).2 + (1 : Int)).toNat)).take ((rplace_m ((x11.take (((rlen_m x11).1 - (1 : Int)).toNat)).drop (((rlen_m x11).2 + (1 : Int)).toNat)) (UInt8.ofNat 61)).toNat))), .string (tx (((x11.take (((rlen_m x11).1 - (1 : Int)).toNat)).drop (((rlen_m x11).2 + (1 : Int)).toNat)).drop (((rplace_m ((x11.take (((rlen_m x11).1 - (1 : Int)).toNat)).drop (((rlen_m x11).2 + (1 : Int)).toNat)) (UInt8.ofNat 61)) + (1 : Int)).toNat)))] 47]) => ?_))
    refine ⟨trivial, ?_⟩
    refine wpAnyH_done (by kernel_rfl) ?_ _
    refine then_n (hK73 _ _ ?_)
    refine wp_seq_k (fun K81 hK81 => ?_)
    refine wp_seq_k (fun K82 hK82 => ?_)
    have hm83 := hm80.drew
    refine wp_region_held_drew (S := fun w' => Mem.Blk w' g78 (#[.string (tx (((x11.take (((rlen_m x11).1 - (1 : Int)).toNat)).drop (((rlen_m x11).2 + (1 : Int)).toNat)).take ((rplace_m ((x11.take (((rlen_m x11).1 - (1 : Int)).toNat)).drop (((rlen_m x11).2 + (1 : Int)).toNat)) (UInt8.ofNat 61)).toNat))), .string (tx (((x11.take (((rlen_m x11).1 - (1 : Int)).toNat)).drop (((rlen_m x11).2 + (1 : Int)).toNat)).drop (((rplace_m ((x11.take (((rlen_m x11).1 - (1 : Int)).toNat)).drop (((rlen_m x11).2 + (1 : Int)).toNat)) (UInt8.ofNat 61)) + (1 : Int)).toNat)))]) 47) (by kernel_rfl) (hm83.at 1 rfl) (fun _ => ?_)
    generalize w79.drew = w84 at *
    refine tk 0 75 (.agg #[.string (tx (((x11.take (((rlen_m x11).1 - (1 : Int)).toNat)).drop (((rlen_m x11).2 + (1 : Int)).toNat)).take ((rplace_m ((x11.take (((rlen_m x11).1 - (1 : Int)).toNat)).drop (((rlen_m x11).2 + (1 : Int)).toNat)) (UInt8.ofNat 61)).toNat))), .string (tx (((x11.take (((rlen_m x11).1 - (1 : Int)).toNat)).drop (((rlen_m x11).2 + (1 : Int)).toNat)).drop (((rplace_m ((x11.take (((rlen_m x11).1 - (1 : Int)).toNat)).drop (((rlen_m x11).2 + (1 : Int)).toNat)) (UInt8.ofNat 61)) + (1 : Int)).toNat)))]) rfl rfl (fun _ hw => r_whole hw Tryd.underlying47 rfl (by exact sz_47) rfl rfl) (hm83.at 1 rfl) ?_
    simp only [nz1, nz2, nz3]
    refine tk 2 77 (.string (tx x11)) rfl rfl (fun _ hw => run_mv rfl rfl) (hm83.at 1 rfl) ?_
    simp only [nz1, nz2, nz3]
    refine tk 3 78 (.int .i64 ((rlen_m x11).1)) rfl rfl (fun _ hw => run_mv rfl rfl) (hm83.at 1 rfl) ?_
    simp only [nz1, nz2, nz3]
    refine tk 4 79 (.string (tx (x11.take (((rlen_m x11).1).toNat)))) rfl rfl (fun _ hw => t_to x11 (((rlen_m x11).1).toNat) (by omega) Tryd.underlying9 rfl rfl (show (Value.int .i64 ((rlen_m x11).1)) = .int .i64 ((((rlen_m x11).1).toNat : Nat) : Int) from by congr 1; omega)) (hm83.at 1 rfl) ?_
    simp only [nz1, nz2, nz3]
    refine one_ready 1 (by kernel_rfl) ?_
    refine opd rfl (wanted_none rfl) (m_call hm83 76 (.string (tx (rone_m (Par.mk (((x11.take (((rlen_m x11).1 - (1 : Int)).toNat)).drop (((rlen_m x11).2 + (1 : Int)).toNat)).take ((rplace_m ((x11.take (((rlen_m x11).1 - (1 : Int)).toNat)).drop (((rlen_m x11).2 + (1 : Int)).toNat)) (UInt8.ofNat 61)).toNat)) (((x11.take (((rlen_m x11).1 - (1 : Int)).toNat)).drop (((rlen_m x11).2 + (1 : Int)).toNat)).drop (((rplace_m ((x11.take (((rlen_m x11).1 - (1 : Int)).toNat)).drop (((rlen_m x11).2 + (1 : Int)).toNat)) (UInt8.ofNat 61)) + (1 : Int)).toNat)))))) rfl (run_rone rfl rfl) (rone_any (Par.mk (((x11.take (((rlen_m x11).1 - (1 : Int)).toNat)).drop (((rlen_m x11).2 + (1 : Int)).toNat)).take ((rplace_m ((x11.take (((rlen_m x11).1 - (1 : Int)).toNat)).drop (((rlen_m x11).2 + (1 : Int)).toNat)) (UInt8.ofNat 61)).toNat)) (((x11.take (((rlen_m x11).1 - (1 : Int)).toNat)).drop (((rlen_m x11).2 + (1 : Int)).toNat)).drop (((rplace_m ((x11.take (((rlen_m x11).1 - (1 : Int)).toNat)).drop (((rlen_m x11).2 + (1 : Int)).toNat)) (UInt8.ofNat 61)) + (1 : Int)).toNat)))  _  (by first | omega | assumption | (simp only [List.length_drop, List.length_take] at *; omega) | (simp; done) | (simp; omega) | (simp only [List.length_append, List.length_cons, List.length_nil]; omega) | (simp only [List.length_append, List.length_cons, List.length_nil] at *; omega) | decide) (by first | omega | assumption | (simp only [List.length_drop, List.length_take] at *; omega) | (simp; done) | (simp; omega) | (simp only [List.length_append, List.length_cons, List.length_nil]; omega) | (simp only [List.length_append, List.length_cons, List.length_nil] at *; omega) | decide)) (fun w85 (hm86 : Mm none S w w85 [.row v13 l12.length (l12.flatMap ePar) 47 2, .blk g78 #[.string (tx (((x11.take (((rlen_m x11).1 - (1 : Int)).toNat)).drop (((rlen_m x11).2 + (1 : Int)).toNat)).take ((rplace_m ((x11.take (((rlen_m x11).1 - (1 : Int)).toNat)).drop (((rlen_m x11).2 + (1 : Int)).toNat)) (UInt8.ofNat 61)).toNat))), .string (tx (((x11.take (((rlen_m x11).1 - (1 : Int)).toNat)).drop (((rlen_m x11).2 + (1 : Int)).toNat)).drop (((rplace_m ((x11.take (((rlen_m x11).1 - (1 : Int)).toNat)).drop (((rlen_m x11).2 + (1 : Int)).toNat)) (UInt8.ofNat 61)) + (1 : Int)).toNat)))] 47]) => ?_))
    have hf87 : (rone_m (Par.mk (((x11.take (((rlen_m x11).1 - (1 : Int)).toNat)).drop (((rlen_m x11).2 + (1 : Int)).toNat)).take ((rplace_m ((x11.take (((rlen_m x11).1 - (1 : Int)).toNat)).drop (((rlen_m x11).2 + (1 : Int)).toNat)) (UInt8.ofNat 61)).toNat)) (((x11.take (((rlen_m x11).1 - (1 : Int)).toNat)).drop (((rlen_m x11).2 + (1 : Int)).toNat)).drop (((rplace_m ((x11.take (((rlen_m x11).1 - (1 : Int)).toNat)).drop (((rlen_m x11).2 + (1 : Int)).toNat)) (UInt8.ofNat 61)) + (1 : Int)).toNat)))).length ≤ 2097200 := rone_len (Par.mk (((x11.take (((rlen_m x11).1 - (1 : Int)).toNat)).drop (((rlen_m x11).2 + (1 : Int)).toNat)).take ((rplace_m ((x11.take (((rlen_m x11).1 - (1 : Int)).toNat)).drop (((rlen_m x11).2 + (1 : Int)).toNat)) (UInt8.ofNat 61)).toNat)) (((x11.take (((rlen_m x11).1 - (1 : Int)).toNat)).drop (((rlen_m x11).2 + (1 : Int)).toNat)).drop (((rplace_m ((x11.take (((rlen_m x11).1 - (1 : Int)).toNat)).drop (((rlen_m x11).2 + (1 : Int)).toNat)) (UInt8.ofNat 61)) + (1 : Int)).toNat))) (by first | (simp; omega) | omega | (simp only [List.length_drop, List.length_take]; omega)) (by first | (simp; omega) | omega | (simp only [List.length_drop, List.length_take]; omega))
    refine ⟨hm86.at 1 rfl, ?_⟩
    simp only [nz1, nz2, nz3]
    refine tk 5 80 (.bool (decide (¬ (rone_m (Par.mk (((x11.take (((rlen_m x11).1 - (1 : Int)).toNat)).drop (((rlen_m x11).2 + (1 : Int)).toNat)).take ((rplace_m ((x11.take (((rlen_m x11).1 - (1 : Int)).toNat)).drop (((rlen_m x11).2 + (1 : Int)).toNat)) (UInt8.ofNat 61)).toNat)) (((x11.take (((rlen_m x11).1 - (1 : Int)).toNat)).drop (((rlen_m x11).2 + (1 : Int)).toNat)).drop (((rplace_m ((x11.take (((rlen_m x11).1 - (1 : Int)).toNat)).drop (((rlen_m x11).2 + (1 : Int)).toNat)) (UInt8.ofNat 61)) + (1 : Int)).toNat)))) = (x11.take (((rlen_m x11).1).toNat))))) rfl rfl (fun _ hw => t_neq (rone_m (Par.mk (((x11.take (((rlen_m x11).1 - (1 : Int)).toNat)).drop (((rlen_m x11).2 + (1 : Int)).toNat)).take ((rplace_m ((x11.take (((rlen_m x11).1 - (1 : Int)).toNat)).drop (((rlen_m x11).2 + (1 : Int)).toNat)) (UInt8.ofNat 61)).toNat)) (((x11.take (((rlen_m x11).1 - (1 : Int)).toNat)).drop (((rlen_m x11).2 + (1 : Int)).toNat)).drop (((rplace_m ((x11.take (((rlen_m x11).1 - (1 : Int)).toNat)).drop (((rlen_m x11).2 + (1 : Int)).toNat)) (UInt8.ofNat 61)) + (1 : Int)).toNat)))) (x11.take (((rlen_m x11).1).toNat)) rfl rfl rfl) (hm86.at 1 rfl) ?_
    simp only [nz1, nz2, nz3]
    refine wpAnyH_done (by kernel_rfl) ?_ _
    refine then_n (hK82 _ _ ?_)
    refine cond_d (¬ (rone_m (Par.mk (((x11.take (((rlen_m x11).1 - (1 : Int)).toNat)).drop (((rlen_m x11).2 + (1 : Int)).toNat)).take ((rplace_m ((x11.take (((rlen_m x11).1 - (1 : Int)).toNat)).drop (((rlen_m x11).2 + (1 : Int)).toNat)) (UInt8.ofNat 61)).toNat)) (((x11.take (((rlen_m x11).1 - (1 : Int)).toNat)).drop (((rlen_m x11).2 + (1 : Int)).toNat)).drop (((rplace_m ((x11.take (((rlen_m x11).1 - (1 : Int)).toNat)).drop (((rlen_m x11).2 + (1 : Int)).toNat)) (UInt8.ofNat 61)) + (1 : Int)).toNat)))) = (x11.take (((rlen_m x11).1).toNat))) rfl (fun hc88 => ?_) (fun hc88 => ?_)
    · refine wp_seq_k (fun K89 hK89 => ?_)
      refine wp_region_lit ?_
      refine lvw 2 (.slice none 0 0) rfl rfl (run_as rfl rfl) ?_
      simp only [nz1, nz2, nz3]
      refine lvw 3 (.int .i64 2) rfl rfl (run_as rfl rfl) ?_
      simp only [nz1, nz2, nz3]
      refine wpList_nil ?_
      refine then_n (hK89 _ _ ?_)
      refine wp_ret ?_
      refine then_r ?_
      refine blk_r ?_
      refine then_r ?_
      refine blk_r ?_
      refine then_r ?_
      refine then_r ?_
      have he90 : rdecode_m_l0 s (s.length + 1) (s, ([] : List Par)) = .inr (([] : List Par), 2) := (hi16.trans (show rdecode_m_b0 s (rdecode_m_l0 s k15) x11 l12 = .inr (([] : List Par), 2) from by unfold rdecode_m_b0; rw [if_pos hc28, if_neg hs35, if_neg hs39, if_neg hs43, if_neg hs47, if_neg hc51, if_neg hs63, if_neg hc69, if_pos hc88] <;> rfl))
      have he91 : rdecode_m s = (([] : List Par), 2) := (show rdecode_m s = (([] : List Par), 2) from by unfold rdecode_m; rw [if_neg hc4, he90] <;> rfl)
      exact ⟨rfl, .tuple #[.slice none 0 0, .int .i64 2], res_tt rfl rfl rfl, ⟨⟨_, rfl, (.slice none 0 0), (by first | rfl | rw [he91]), by rw [he91]; exact hm86.give (From.pure (fun W => Rs.nil ePar 2 W))⟩, hm86.below⟩⟩
    refine wp_skip ?_
    refine then_n (hK81 _ _ ?_)
    refine wp_seq_k (fun K92 hK92 => ?_)
    refine wp_region_lit ?_
    refine lvw 81 (v13) rfl rfl (run_mv rfl rfl) ?_
    simp only [nz1, nz2, nz3]
    refine lvw 82 (.agg #[.string (tx (((x11.take (((rlen_m x11).1 - (1 : Int)).toNat)).drop (((rlen_m x11).2 + (1 : Int)).toNat)).take ((rplace_m ((x11.take (((rlen_m x11).1 - (1 : Int)).toNat)).drop (((rlen_m x11).2 + (1 : Int)).toNat)) (UInt8.ofNat 61)).toNat))), .string (tx (((x11.take (((rlen_m x11).1 - (1 : Int)).toNat)).drop (((rlen_m x11).2 + (1 : Int)).toNat)).drop (((rplace_m ((x11.take (((rlen_m x11).1 - (1 : Int)).toNat)).drop (((rlen_m x11).2 + (1 : Int)).toNat)) (UInt8.ofNat 61)) + (1 : Int)).toNat)))]) rfl rfl (r_whole (hm86.at 1 rfl) Tryd.underlying47 rfl (by exact sz_47) rfl rfl) ?_
    simp only [nz1, nz2, nz3]
    refine lst rfl (m_make (c := #[.string (tx (((x11.take (((rlen_m x11).1 - (1 : Int)).toNat)).drop (((rlen_m x11).2 + (1 : Int)).toNat)).take ((rplace_m ((x11.take (((rlen_m x11).1 - (1 : Int)).toNat)).drop (((rlen_m x11).2 + (1 : Int)).toNat)) (UInt8.ofNat 61)).toNat))), .string (tx (((x11.take (((rlen_m x11).1 - (1 : Int)).toNat)).drop (((rlen_m x11).2 + (1 : Int)).toNat)).drop (((rplace_m ((x11.take (((rlen_m x11).1 - (1 : Int)).toNat)).drop (((rlen_m x11).2 + (1 : Int)).toNat)) (UInt8.ofNat 61)) + (1 : Int)).toNat)))]) (T := 47) (fun g => .slice (some ⟨g, 0, none⟩) 1 1) hm86 83 rfl (by unfold execOp; go_simp; try rfl) (fun g95 w93 (hm94 : Mm none S w w93 [.row v13 l12.length (l12.flatMap ePar) 47 2, .blk g78 #[.string (tx (((x11.take (((rlen_m x11).1 - (1 : Int)).toNat)).drop (((rlen_m x11).2 + (1 : Int)).toNat)).take ((rplace_m ((x11.take (((rlen_m x11).1 - (1 : Int)).toNat)).drop (((rlen_m x11).2 + (1 : Int)).toNat)) (UInt8.ofNat 61)).toNat))), .string (tx (((x11.take (((rlen_m x11).1 - (1 : Int)).toNat)).drop (((rlen_m x11).2 + (1 : Int)).toNat)).drop (((rplace_m ((x11.take (((rlen_m x11).1 - (1 : Int)).toNat)).drop (((rlen_m x11).2 + (1 : Int)).toNat)) (UInt8.ofNat 61)) + (1 : Int)).toNat)))] 47, .blk g95 #[.string (tx (((x11.take (((rlen_m x11).1 - (1 : Int)).toNat)).drop (((rlen_m x11).2 + (1 : Int)).toNat)).take ((rplace_m ((x11.take (((rlen_m x11).1 - (1 : Int)).toNat)).drop (((rlen_m x11).2 + (1 : Int)).toNat)) (UInt8.ofNat 61)).toNat))), .string (tx (((x11.take (((rlen_m x11).1 - (1 : Int)).toNat)).drop (((rlen_m x11).2 + (1 : Int)).toNat)).drop (((rplace_m ((x11.take (((rlen_m x11).1 - (1 : Int)).toNat)).drop (((rlen_m x11).2 + (1 : Int)).toNat)) (UInt8.ofNat 61)) + (1 : Int)).toNat)))] 47]) => ?_))
    simp only [nz1, nz2, nz3]
    obtain ⟨iq, hiq, hz1, hz2, hz3⟩ := inf_47
    refine lst rfl (m_appendR 0 (l := l12) (l2 := [(Par.mk (((x11.take (((rlen_m x11).1 - (1 : Int)).toNat)).drop (((rlen_m x11).2 + (1 : Int)).toNat)).take ((rplace_m ((x11.take (((rlen_m x11).1 - (1 : Int)).toNat)).drop (((rlen_m x11).2 + (1 : Int)).toNat)) (UInt8.ofNat 61)).toNat)) (((x11.take (((rlen_m x11).1 - (1 : Int)).toNat)).drop (((rlen_m x11).2 + (1 : Int)).toNat)).drop (((rplace_m ((x11.take (((rlen_m x11).1 - (1 : Int)).toNat)).drop (((rlen_m x11).2 + (1 : Int)).toNat)) (UInt8.ofNat 61)) + (1 : Int)).toNat)))]) iq _ _ _ (.slice (some ⟨g95, 0, none⟩) 1 1) hm94 rfl 84 rfl rfl Tryd.underlying36 hiq hz1 hz2 hz3 ePar_len ePar_one rfl (by decide) rfl rfl (Rs.blk (l := [(Par.mk (((x11.take (((rlen_m x11).1 - (1 : Int)).toNat)).drop (((rlen_m x11).2 + (1 : Int)).toNat)).take ((rplace_m ((x11.take (((rlen_m x11).1 - (1 : Int)).toNat)).drop (((rlen_m x11).2 + (1 : Int)).toNat)) (UInt8.ofNat 61)).toNat)) (((x11.take (((rlen_m x11).1 - (1 : Int)).toNat)).drop (((rlen_m x11).2 + (1 : Int)).toNat)).drop (((rplace_m ((x11.take (((rlen_m x11).1 - (1 : Int)).toNat)).drop (((rlen_m x11).2 + (1 : Int)).toNat)) (UInt8.ofNat 61)) + (1 : Int)).toNat)))]) (hm94.at 2 rfl) rfl rfl ePar_len (Nat.le_refl _)) (by first | omega | (simp; omega)) (by first | omega | (simp; omega)) (fun v98 w96 (hm97 : Mm none S w w96 [.row v98 (l12 ++ [(Par.mk (((x11.take (((rlen_m x11).1 - (1 : Int)).toNat)).drop (((rlen_m x11).2 + (1 : Int)).toNat)).take ((rplace_m ((x11.take (((rlen_m x11).1 - (1 : Int)).toNat)).drop (((rlen_m x11).2 + (1 : Int)).toNat)) (UInt8.ofNat 61)).toNat)) (((x11.take (((rlen_m x11).1 - (1 : Int)).toNat)).drop (((rlen_m x11).2 + (1 : Int)).toNat)).drop (((rplace_m ((x11.take (((rlen_m x11).1 - (1 : Int)).toNat)).drop (((rlen_m x11).2 + (1 : Int)).toNat)) (UInt8.ofNat 61)) + (1 : Int)).toNat)))]).length ((l12 ++ [(Par.mk (((x11.take (((rlen_m x11).1 - (1 : Int)).toNat)).drop (((rlen_m x11).2 + (1 : Int)).toNat)).take ((rplace_m ((x11.take (((rlen_m x11).1 - (1 : Int)).toNat)).drop (((rlen_m x11).2 + (1 : Int)).toNat)) (UInt8.ofNat 61)).toNat)) (((x11.take (((rlen_m x11).1 - (1 : Int)).toNat)).drop (((rlen_m x11).2 + (1 : Int)).toNat)).drop (((rplace_m ((x11.take (((rlen_m x11).1 - (1 : Int)).toNat)).drop (((rlen_m x11).2 + (1 : Int)).toNat)) (UInt8.ofNat 61)) + (1 : Int)).toNat)))]).flatMap ePar) 47 2, .blk g78 #[.string (tx (((x11.take (((rlen_m x11).1 - (1 : Int)).toNat)).drop (((rlen_m x11).2 + (1 : Int)).toNat)).take ((rplace_m ((x11.take (((rlen_m x11).1 - (1 : Int)).toNat)).drop (((rlen_m x11).2 + (1 : Int)).toNat)) (UInt8.ofNat 61)).toNat))), .string (tx (((x11.take (((rlen_m x11).1 - (1 : Int)).toNat)).drop (((rlen_m x11).2 + (1 : Int)).toNat)).drop (((rplace_m ((x11.take (((rlen_m x11).1 - (1 : Int)).toNat)).drop (((rlen_m x11).2 + (1 : Int)).toNat)) (UInt8.ofNat 61)) + (1 : Int)).toNat)))] 47, .blk g95 #[.string (tx (((x11.take (((rlen_m x11).1 - (1 : Int)).toNat)).drop (((rlen_m x11).2 + (1 : Int)).toNat)).take ((rplace_m ((x11.take (((rlen_m x11).1 - (1 : Int)).toNat)).drop (((rlen_m x11).2 + (1 : Int)).toNat)) (UInt8.ofNat 61)).toNat))), .string (tx (((x11.take (((rlen_m x11).1 - (1 : Int)).toNat)).drop (((rlen_m x11).2 + (1 : Int)).toNat)).drop (((rplace_m ((x11.take (((rlen_m x11).1 - (1 : Int)).toNat)).drop (((rlen_m x11).2 + (1 : Int)).toNat)) (UInt8.ofNat 61)) + (1 : Int)).toNat)))] 47]) => ?_))
    simp only [nz1, nz2, nz3]
    refine lvw 4 (v98) rfl rfl (run_as rfl rfl) ?_
    simp only [nz1, nz2, nz3]
    refine wpList_nil ?_
    refine then_n (hK92 _ _ ?_)
    refine wp_region_lit ?_
    refine lvw 85 (.string (tx x11)) rfl rfl (run_mv rfl rfl) ?_
    simp only [nz1, nz2, nz3]
    refine lvw 86 (.int .i64 ((rlen_m x11).1)) rfl rfl (run_mv rfl rfl) ?_
    simp only [nz1, nz2, nz3]
    refine lvw 87 (.string (tx (x11.drop (((rlen_m x11).1).toNat)))) rfl rfl (t_from x11 (((rlen_m x11).1).toNat) (by omega) Tryd.underlying9 rfl rfl (show (Value.int .i64 ((rlen_m x11).1)) = .int .i64 ((((rlen_m x11).1).toNat : Nat) : Int) from by congr 1; omega)) ?_
    simp only [nz1, nz2, nz3]
    refine lvw 0 (.string (tx (x11.drop (((rlen_m x11).1).toNat)))) rfl rfl (run_as rfl rfl) ?_
    simp only [nz1, nz2]
    refine wpList_nil ?_
    refine blk_n ?_
    refine then_n (hR23 _ _ _ ⟨k15, (x11.drop (((rlen_m x11).1).toNat)), (l12 ++ [(Par.mk (((x11.take (((rlen_m x11).1 - (1 : Int)).toNat)).drop (((rlen_m x11).2 + (1 : Int)).toNat)).take ((rplace_m ((x11.take (((rlen_m x11).1 - (1 : Int)).toNat)).drop (((rlen_m x11).2 + (1 : Int)).toNat)) (UInt8.ofNat 61)).toNat)) (((x11.take (((rlen_m x11).1 - (1 : Int)).toNat)).drop (((rlen_m x11).2 + (1 : Int)).toNat)).drop (((rplace_m ((x11.take (((rlen_m x11).1 - (1 : Int)).toNat)).drop (((rlen_m x11).2 + (1 : Int)).toNat)) (UInt8.ofNat 61)) + (1 : Int)).toNat)))]), v98, (fun qq => bif Nat.blt qq 24 then List.getD [u0 0, u0 1, .int .i64 ((rlen_m x11).1), .int .i64 ((rlen_m x11).2), .string (tx ((x11.take (((rlen_m x11).1 - (1 : Int)).toNat)).drop (((rlen_m x11).2 + (1 : Int)).toNat))), .int .i64 ((rplace_m ((x11.take (((rlen_m x11).1 - (1 : Int)).toNat)).drop (((rlen_m x11).2 + (1 : Int)).toNat)) (UInt8.ofNat 61))), .pointer (some ⟨g78, 0, none⟩), .string (tx x11), .int .i64 ((x11.length : Nat) : Int), .bool (decide (0 < x11.length)), .tuple #[.int .i64 ((rlen_m x11).1), .int .i64 ((rlen_m x11).2)], .string (tx x11), .tuple #[.int .i64 ((rlen_m x11).1), .int .i64 ((rlen_m x11).2)], .int .i64 ((rlen_m x11).1), .int .i64 ((rlen_m x11).2), .int .i64 ((rlen_m x11).2), .bool false, .bool false, .int .i64 ((rlen_m x11).1), .string (tx x11), .int .i64 ((x11.length : Nat) : Int), .bool false, .bool false, .bool false] qq undef else bif Nat.blt qq 48 then List.getD [.int .i64 ((rlen_m x11).1), .int .i64 ((rlen_m x11).2), .int .i64 (((rlen_m x11).2 + (4 : Int))), .bool false, .bool false, .bool false, .string (tx x11), .int .i64 ((rlen_m x11).2), .int .u8 ((by' x11 (((rlen_m x11).2).toNat) : Nat) : Int), .bool false, .bool false, .bool false, .string (tx x11), .int .i64 ((rlen_m x11).1), .int .i64 (((rlen_m x11).1 - (1 : Int))), .int .u8 ((by' x11 (((rlen_m x11).1 - (1 : Int)).toNat) : Nat) : Int), .bool (decide (¬ by' x11 (((rlen_m x11).1 - (1 : Int)).toNat) = 10)), .bool (decide (¬ by' x11 (((rlen_m x11).1 - (1 : Int)).toNat) = 10)), .string (tx x11), .int .i64 ((rlen_m x11).2), .int .i64 (((rlen_m x11).2 + (1 : Int))), .int .i64 ((rlen_m x11).1), .int .i64 (((rlen_m x11).1 - (1 : Int))), .string (tx ((x11.take (((rlen_m x11).1 - (1 : Int)).toNat)).drop (((rlen_m x11).2 + (1 : Int)).toNat)))] (qq - 24) undef else bif Nat.blt qq 72 then List.getD [.string (tx ((x11.take (((rlen_m x11).1 - (1 : Int)).toNat)).drop (((rlen_m x11).2 + (1 : Int)).toNat))), .int .i64 ((rplace_m ((x11.take (((rlen_m x11).1 - (1 : Int)).toNat)).drop (((rlen_m x11).2 + (1 : Int)).toNat)) (UInt8.ofNat 61))), .int .i64 ((rplace_m ((x11.take (((rlen_m x11).1 - (1 : Int)).toNat)).drop (((rlen_m x11).2 + (1 : Int)).toNat)) (UInt8.ofNat 61))), .string (tx ((x11.take (((rlen_m x11).1 - (1 : Int)).toNat)).drop (((rlen_m x11).2 + (1 : Int)).toNat))), .int .i64 ((((x11.take (((rlen_m x11).1 - (1 : Int)).toNat)).drop (((rlen_m x11).2 + (1 : Int)).toNat)).length : Nat) : Int), .bool false, .bool false, .string (tx ((x11.take (((rlen_m x11).1 - (1 : Int)).toNat)).drop (((rlen_m x11).2 + (1 : Int)).toNat))), .int .i64 ((rplace_m ((x11.take (((rlen_m x11).1 - (1 : Int)).toNat)).drop (((rlen_m x11).2 + (1 : Int)).toNat)) (UInt8.ofNat 61))), .string (tx (((x11.take (((rlen_m x11).1 - (1 : Int)).toNat)).drop (((rlen_m x11).2 + (1 : Int)).toNat)).take ((rplace_m ((x11.take (((rlen_m x11).1 - (1 : Int)).toNat)).drop (((rlen_m x11).2 + (1 : Int)).toNat)) (UInt8.ofNat 61)).toNat))), .bool ((rkey_m (((x11.take (((rlen_m x11).1 - (1 : Int)).toNat)).drop (((rlen_m x11).2 + (1 : Int)).toNat)).take ((rplace_m ((x11.take (((rlen_m x11).1 - (1 : Int)).toNat)).drop (((rlen_m x11).2 + (1 : Int)).toNat)) (UInt8.ofNat 61)).toNat)))), .bool (!(rkey_m (((x11.take (((rlen_m x11).1 - (1 : Int)).toNat)).drop (((rlen_m x11).2 + (1 : Int)).toNat)).take ((rplace_m ((x11.take (((rlen_m x11).1 - (1 : Int)).toNat)).drop (((rlen_m x11).2 + (1 : Int)).toNat)) (UInt8.ofNat 61)).toNat)))), .bool (!(rkey_m (((x11.take (((rlen_m x11).1 - (1 : Int)).toNat)).drop (((rlen_m x11).2 + (1 : Int)).toNat)).take ((rplace_m ((x11.take (((rlen_m x11).1 - (1 : Int)).toNat)).drop (((rlen_m x11).2 + (1 : Int)).toNat)) (UInt8.ofNat 61)).toNat)))), .string (tx ((x11.take (((rlen_m x11).1 - (1 : Int)).toNat)).drop (((rlen_m x11).2 + (1 : Int)).toNat))), .int .i64 ((rplace_m ((x11.take (((rlen_m x11).1 - (1 : Int)).toNat)).drop (((rlen_m x11).2 + (1 : Int)).toNat)) (UInt8.ofNat 61))), .string (tx (((x11.take (((rlen_m x11).1 - (1 : Int)).toNat)).drop (((rlen_m x11).2 + (1 : Int)).toNat)).take ((rplace_m ((x11.take (((rlen_m x11).1 - (1 : Int)).toNat)).drop (((rlen_m x11).2 + (1 : Int)).toNat)) (UInt8.ofNat 61)).toNat))), .string (tx ((x11.take (((rlen_m x11).1 - (1 : Int)).toNat)).drop (((rlen_m x11).2 + (1 : Int)).toNat))), .int .i64 ((rplace_m ((x11.take (((rlen_m x11).1 - (1 : Int)).toNat)).drop (((rlen_m x11).2 + (1 : Int)).toNat)) (UInt8.ofNat 61))), .int .i64 (((rplace_m ((x11.take (((rlen_m x11).1 - (1 : Int)).toNat)).drop (((rlen_m x11).2 + (1 : Int)).toNat)) (UInt8.ofNat 61)) + (1 : Int))), .string (tx (((x11.take (((rlen_m x11).1 - (1 : Int)).toNat)).drop (((rlen_m x11).2 + (1 : Int)).toNat)).drop (((rplace_m ((x11.take (((rlen_m x11).1 - (1 : Int)).toNat)).drop (((rlen_m x11).2 + (1 : Int)).toNat)) (UInt8.ofNat 61)) + (1 : Int)).toNat))), .agg #[.string (tx (((x11.take (((rlen_m x11).1 - (1 : Int)).toNat)).drop (((rlen_m x11).2 + (1 : Int)).toNat)).take ((rplace_m ((x11.take (((rlen_m x11).1 - (1 : Int)).toNat)).drop (((rlen_m x11).2 + (1 : Int)).toNat)) (UInt8.ofNat 61)).toNat))), .string (tx (((x11.take (((rlen_m x11).1 - (1 : Int)).toNat)).drop (((rlen_m x11).2 + (1 : Int)).toNat)).drop (((rplace_m ((x11.take (((rlen_m x11).1 - (1 : Int)).toNat)).drop (((rlen_m x11).2 + (1 : Int)).toNat)) (UInt8.ofNat 61)) + (1 : Int)).toNat)))], .agg #[.string (tx (((x11.take (((rlen_m x11).1 - (1 : Int)).toNat)).drop (((rlen_m x11).2 + (1 : Int)).toNat)).take ((rplace_m ((x11.take (((rlen_m x11).1 - (1 : Int)).toNat)).drop (((rlen_m x11).2 + (1 : Int)).toNat)) (UInt8.ofNat 61)).toNat))), .string (tx (((x11.take (((rlen_m x11).1 - (1 : Int)).toNat)).drop (((rlen_m x11).2 + (1 : Int)).toNat)).drop (((rplace_m ((x11.take (((rlen_m x11).1 - (1 : Int)).toNat)).drop (((rlen_m x11).2 + (1 : Int)).toNat)) (UInt8.ofNat 61)) + (1 : Int)).toNat)))], .string (tx (rone_m (Par.mk (((x11.take (((rlen_m x11).1 - (1 : Int)).toNat)).drop (((rlen_m x11).2 + (1 : Int)).toNat)).take ((rplace_m ((x11.take (((rlen_m x11).1 - (1 : Int)).toNat)).drop (((rlen_m x11).2 + (1 : Int)).toNat)) (UInt8.ofNat 61)).toNat)) (((x11.take (((rlen_m x11).1 - (1 : Int)).toNat)).drop (((rlen_m x11).2 + (1 : Int)).toNat)).drop (((rplace_m ((x11.take (((rlen_m x11).1 - (1 : Int)).toNat)).drop (((rlen_m x11).2 + (1 : Int)).toNat)) (UInt8.ofNat 61)) + (1 : Int)).toNat))))), .string (tx x11)] (qq - 48) undef else List.getD [.int .i64 ((rlen_m x11).1), .string (tx (x11.take (((rlen_m x11).1).toNat))), .bool (decide (¬ (rone_m (Par.mk (((x11.take (((rlen_m x11).1 - (1 : Int)).toNat)).drop (((rlen_m x11).2 + (1 : Int)).toNat)).take ((rplace_m ((x11.take (((rlen_m x11).1 - (1 : Int)).toNat)).drop (((rlen_m x11).2 + (1 : Int)).toNat)) (UInt8.ofNat 61)).toNat)) (((x11.take (((rlen_m x11).1 - (1 : Int)).toNat)).drop (((rlen_m x11).2 + (1 : Int)).toNat)).drop (((rplace_m ((x11.take (((rlen_m x11).1 - (1 : Int)).toNat)).drop (((rlen_m x11).2 + (1 : Int)).toNat)) (UInt8.ofNat 61)) + (1 : Int)).toNat)))) = (x11.take (((rlen_m x11).1).toNat)))), v13, .agg #[.string (tx (((x11.take (((rlen_m x11).1 - (1 : Int)).toNat)).drop (((rlen_m x11).2 + (1 : Int)).toNat)).take ((rplace_m ((x11.take (((rlen_m x11).1 - (1 : Int)).toNat)).drop (((rlen_m x11).2 + (1 : Int)).toNat)) (UInt8.ofNat 61)).toNat))), .string (tx (((x11.take (((rlen_m x11).1 - (1 : Int)).toNat)).drop (((rlen_m x11).2 + (1 : Int)).toNat)).drop (((rplace_m ((x11.take (((rlen_m x11).1 - (1 : Int)).toNat)).drop (((rlen_m x11).2 + (1 : Int)).toNat)) (UInt8.ofNat 61)) + (1 : Int)).toNat)))], .slice (some ⟨g95, 0, none⟩) 1 1, v98, .string (tx x11), .int .i64 ((rlen_m x11).1), .string (tx (x11.drop (((rlen_m x11).1).toNat)))] (qq - 72) undef), rfl, (by rw [List.length_drop]; omega), (hi16.trans (show rdecode_m_b0 s (rdecode_m_l0 s k15) x11 l12 = rdecode_m_l0 s k15 ((x11.drop (((rlen_m x11).1).toNat)), (l12 ++ [(Par.mk (((x11.take (((rlen_m x11).1 - (1 : Int)).toNat)).drop (((rlen_m x11).2 + (1 : Int)).toNat)).take ((rplace_m ((x11.take (((rlen_m x11).1 - (1 : Int)).toNat)).drop (((rlen_m x11).2 + (1 : Int)).toNat)) (UInt8.ofNat 61)).toNat)) (((x11.take (((rlen_m x11).1 - (1 : Int)).toNat)).drop (((rlen_m x11).2 + (1 : Int)).toNat)).drop (((rplace_m ((x11.take (((rlen_m x11).1 - (1 : Int)).toNat)).drop (((rlen_m x11).2 + (1 : Int)).toNat)) (UInt8.ofNat 61)) + (1 : Int)).toNat)))])) from by unfold rdecode_m_b0; rw [if_pos hc28, if_neg hs35, if_neg hs39, if_neg hs43, if_neg hs47, if_neg hc51, if_neg hs63, if_neg hc69, if_neg hc88] <;> rfl)), (by rw [List.length_append, List.length_drop, List.length_singleton]; omega), rfl, (Mm.reorder hm97 [0] (by decide) rfl)⟩ ?_)
    omega
  rintro _ w99 ⟨y17, y18, v19, yu0, hx20, hdn, rfl, hm100⟩
  have hq101 : rdecode_m s = rdecode_m_k0 s y17 y18 := (show rdecode_m s = rdecode_m_k0 s y17 y18 from by unfold rdecode_m; rw [if_neg hc4, hx20] <;> rfl)
  refine then_n (hK8 _ _ ?_)
  refine wp_seq_k (fun K102 hK102 => ?_)
  refine wp_region_lit ?_
  refine lvw 88 (v19) rfl rfl (run_mv rfl rfl) ?_
  simp only [nz1, nz2, nz3]
  refine lvw 2 (v19) rfl rfl (run_as rfl rfl) ?_
  simp only [nz1, nz2, nz3]
  refine lvw 3 (.int .i64 0) rfl rfl (run_as rfl rfl) ?_
  simp only [nz1, nz2, nz3]
  refine wpList_nil ?_
  refine then_n (hK102 _ _ ?_)
  refine wp_ret ?_
  have hm103 : Mm none S w w99 [.see (Rs ePar 2 y18 v19) (fp v19 (y18.flatMap ePar))] := hm100.freeze 0 rfl
  have he104 : rdecode_m s = (y18, 0) := (hq101.trans (show rdecode_m_k0 s y17 y18 = (y18, 0) from by unfold rdecode_m_k0; rfl))
  exact ⟨rfl, .tuple #[v19, .int .i64 0], res_tt rfl rfl rfl, ⟨⟨_, rfl, v19, (by first | rfl | rw [he104]), by rw [he104]; exact hm103.give (hm103.from 0 rfl)⟩, hm103.below⟩⟩
theorem run_rdecode {o : Oper} {a : Act} {w : World} {x0 : Operand} {v0 : Value} (ho : o.op = .call { callee := .value (.func 32), args := #[x0], argTypes := #[9] }) (h0 : a.eval x0 = v0) :
    (execOp a.eval o).run Tryd.prog w = .ok (.enter 32 #[v0]) w := by
  unfold execOp
  simp only [ho]
  have hf : a.eval (.func 32) = .func (.func 32) #[] #[] := rfl
  generalize a.eval = f at *
  go_simp
end Go.Proofs.YtglnifckngcpkaaDoor.Px
