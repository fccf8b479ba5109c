/- Layer 7: PathUp. -/
import Derived.Test.YtdohmmdfenafnaaDoorPaF
namespace Go.Proofs.YtdohmmdfenafnaaDoor.Pa
open Go.RowKit
open Go.Proofs.YtdohmmdfenafnaaDoor.Sym Go.Proofs.YtdohmmdfenafnaaDoor.Mem
open Go.Proofs.YtdohmmdfenafnaaDoor.Sx hiding Mm m_alloc m_store m_put m_call m_callx m_make m_append r_string r_ixS
set_option linter.unusedVariables false
attribute [local irreducible] wpList Oper.wp

def up_m (s : List UInt8) : Bool :=
  if ¬ (parts_m s).2 = 0 then
    if awake_m = true then
      (decide (((parts_m s).1).length = 0))
    else
      false
  else
    if ((parts_m s).1).length = 0 then
      if awake_m = true then
        (decide (((parts_m s).1).length = 0))
      else
        false
    else
      if ((parts_m s).1).length = 1 then
        if awake_m = true then
          if (parent_m s) = [] then
            ((reserved_m s) == (decide (s = own_m)))
          else
            false
        else
          false
      else
        if awake_m = true then
          if (parts_m (parent_m s)).2 = 0 then
            if (same_m ((parts_m (parent_m s)).1) (((parts_m s).1).take ((((((parts_m s).1).length : Nat) : Int) - (1 : Int)).toNat))) = true then
              if (((parent_m s) ++ [47]) ++ (((parts_m s).1).getD ((((((parts_m s).1).length : Nat) : Int) - (1 : Int)).toNat) [])) = s then
                ((reserved_m s) == (reserved_m (parent_m s)))
              else
                false
            else
              false
          else
            false
        else
          false

set_option maxHeartbeats 4000000 in
set_option maxRecDepth 100000 in
theorem up_any (s : List UInt8) (w : World)  (hT : Laid w) (hp0 : s.length ≤ 140737488351232) : Calls Tryd.prog 7 #[.string (tx s)] w (fun e w' => e = .returned (.bool ((up_m s))) ∧ Below w.heap.size w w') := by
  go_enter Tryd.func7, Tryd.ntmps7
  have hm00 := Mm.nil none (fun _ => True) w
  have hm0 := hm00
  refine wp_seq_k (fun K1 hK1 => ?_)
  refine wp_region_lit ?_
  refine lvw 2 (.bool false) rfl rfl (run_as rfl rfl) ?_
  simp only [nz1, nz2, nz3]
  refine wpList_nil ?_
  refine then_n (hK1 _ _ ?_)
  refine wp_seq_k (fun K2 hK2 => ?_)
  refine wp_region_lit ?_
  refine lvw 9 (.string (tx s)) rfl rfl (run_mv rfl rfl) ?_
  simp only [nz1, nz2, nz3]
  refine lst rfl (m_callx hm0 10 rfl (run_parts rfl rfl) (parts_any s  (seeS []) _  (Laid.below hT hm0.below) ) (fun vv8 w3 hR9 hb10 hm4 => ?_))
  obtain ⟨v5, rfl, hg11⟩ := hR9
  obtain ⟨F7, hm12⟩ : ∃ F7, Mm none (fun _ => True) w w3 [.see (Rs eS 1 ((parts_m s).1) v5) F7] := Mm.tookS hm0 hb10 hg11
  clear hm4 hg11 hb10
  have hf13 : (parts_m s).1.length ≤ 201 ∧ (join_m (parts_m s).1 [47]).length ≤ s.length ∧ ((parts_m s).2 ≠ 0 ∨ (s.length ≤ 200 ∧ 1 ≤ s.length ∧ 1 ≤ (parts_m s).1.length ∧ (parts_m s).1.length ≤ 16)) := parts_facts s
  simp only [nz1, nz2, nz3]
  refine lvw 8 (.tuple #[v5, .int .i64 ((parts_m s).2)]) rfl rfl (run_mv rfl rfl) ?_
  simp only [nz1, nz2, nz3]
  refine lvw 11 (v5) rfl rfl (run_ex rfl rfl rfl) ?_
  simp only [nz1, nz2, nz3]
  refine lvw 12 (.int .i64 ((parts_m s).2)) rfl rfl (run_ex rfl rfl rfl) ?_
  simp only [nz1, nz2, nz3]
  refine lvw 3 (v5) rfl rfl (run_as rfl rfl) ?_
  simp only [nz1, nz2, nz3]
  refine lvw 4 (.int .i64 ((parts_m s).2)) rfl rfl (run_as rfl rfl) ?_
  simp only [nz1, nz2, nz3]
  refine wpList_nil ?_
  refine then_n (hK2 _ _ ?_)
  refine wp_seq_k (fun K14 hK14 => ?_)
  refine wp_seq_k (fun K15 hK15 => ?_)
  refine wp_region_lit ?_
  refine lvw 13 (.int .i64 ((parts_m s).2)) rfl rfl (run_mv rfl rfl) ?_
  simp only [nz1, nz2, nz3]
  refine lvb 14 (¬ (parts_m s).2 = 0) rfl rfl (z_neq ((parts_m s).2) 0 rfl rfl rfl) (fun hs16 => ?_) (fun hs16 => ?_)
  · simp only [nz1, nz2, nz3]
    refine lvw 15 (.bool true) rfl rfl (run_mv rfl rfl) ?_
    simp only [nz1, nz2, nz3]
    refine lst_skip 16 rfl rfl ?_
    simp only [nz1, nz2, nz3]
    refine lst_skip 17 rfl rfl ?_
    simp only [nz1, nz2, nz3]
    refine lst_skip 18 rfl rfl ?_
    simp only [nz1, nz2, nz3]
    refine lvw 19 (.bool true) rfl rfl (run_pick rfl rfl rfl) ?_
    simp only [nz1, nz2, nz3]
    refine wpList_nil ?_
    refine then_n (hK15 _ _ ?_)
    refine cond_t rfl ?_
    refine wp_seq_k (fun K17 hK17 => ?_)
    refine wp_region_lit ?_
    refine lst rfl (m_call hm12 20 (.bool (awake_m)) rfl (run_awake rfl) (awake_any   _  (Laid.below hT hm12.below) ) (fun w18 (hm19 : Mm none (fun _ => True) w w18 [.see (Rs eS 1 ((parts_m s).1) v5) F7]) => ?_))
    simp only [nz1, nz2, nz3]
    by_cases hs20 : awake_m = true
    · rw [(hs20 : awake_m = true)]
      refine lvw 21 (.bool true) rfl rfl (run_mv rfl rfl) ?_
      simp only [nz1, nz2, nz3]
      refine lvw 22 (v5) rfl rfl (run_mv rfl rfl) ?_
      simp only [nz1, nz2, nz3]
      refine lvw 23 (.int .i64 ((((parts_m s).1).length : Nat) : Int)) rfl rfl (s_len ((hm19.see 0 rfl)) rfl Tryd.underlying22 rfl) ?_
      simp only [nz1, nz2, nz3]
      refine lvw 24 (.bool (decide (((parts_m s).1).length = 0))) rfl rfl (r_eql (((parts_m s).1).length) 0 rfl rfl rfl) ?_
      simp only [nz1, nz2, nz3]
      refine lvw 25 (.bool (decide (((parts_m s).1).length = 0))) rfl rfl (run_pick rfl rfl rfl) ?_
      simp only [nz1, nz2, nz3]
      refine lvw 2 (.bool (decide (((parts_m s).1).length = 0))) rfl rfl (run_as rfl rfl) ?_
      simp only [nz1, nz2, nz3]
      refine wpList_nil ?_
      refine then_n (hK17 _ _ ?_)
      refine wp_ret ?_
      refine then_r ?_
      have he21 : up_m s = (decide (((parts_m s).1).length = 0)) := (show up_m s = (decide (((parts_m s).1).length = 0)) from by unfold up_m; rw [if_pos hs16, if_pos hs20] <;> rfl)
      exact ⟨rfl, .bool (decide (((parts_m s).1).length = 0)), res_t rfl rfl, ⟨by rw [he21], hm19.below⟩⟩
    rw [(Bool.eq_false_iff.2 hs20 : awake_m = false)]
    refine lvw 21 (.bool false) rfl rfl (run_mv rfl rfl) ?_
    simp only [nz1, nz2, nz3]
    refine lst_skip 22 rfl rfl ?_
    simp only [nz1, nz2, nz3]
    refine lst_skip 23 rfl rfl ?_
    simp only [nz1, nz2, nz3]
    refine lst_skip 24 rfl rfl ?_
    simp only [nz1, nz2, nz3]
    refine lvw 25 (.bool false) rfl rfl (run_pickf rfl rfl rfl) ?_
    simp only [nz1, nz2, nz3]
    refine lvw 2 (.bool false) rfl rfl (run_as rfl rfl) ?_
    simp only [nz1, nz2, nz3]
    refine wpList_nil ?_
    refine then_n (hK17 _ _ ?_)
    refine wp_ret ?_
    refine then_r ?_
    have he22 : up_m s = false := (show up_m s = false from by unfold up_m; rw [if_pos hs16, if_neg hs20] <;> rfl)
    exact ⟨rfl, .bool false, res_t rfl rfl, ⟨by rw [he22], hm19.below⟩⟩
  simp only [nz1, nz2, nz3]
  refine lvw 15 (.bool false) rfl rfl (run_mv rfl rfl) ?_
  simp only [nz1, nz2, nz3]
  refine lvw 16 (v5) rfl rfl (run_mv rfl rfl) ?_
  simp only [nz1, nz2, nz3]
  refine lvw 17 (.int .i64 ((((parts_m s).1).length : Nat) : Int)) rfl rfl (s_len ((hm12.see 0 rfl)) rfl Tryd.underlying22 rfl) ?_
  simp only [nz1, nz2, nz3]
  refine lvw 18 (.bool (decide (((parts_m s).1).length = 0))) rfl rfl (r_eql (((parts_m s).1).length) 0 rfl rfl rfl) ?_
  simp only [nz1, nz2, nz3]
  refine lvw 19 (.bool (decide (((parts_m s).1).length = 0))) rfl rfl (run_pickf rfl rfl rfl) ?_
  simp only [nz1, nz2, nz3]
  refine wpList_nil ?_
  refine then_n (hK15 _ _ ?_)
  refine cond_d (((parts_m s).1).length = 0) rfl (fun hc23 => ?_) (fun hc23 => ?_)
  · refine wp_seq_k (fun K24 hK24 => ?_)
    refine wp_region_lit ?_
    refine lst rfl (m_call hm12 20 (.bool (awake_m)) rfl (run_awake rfl) (awake_any   _  (Laid.below hT hm12.below) ) (fun w25 (hm26 : Mm none (fun _ => True) w w25 [.see (Rs eS 1 ((parts_m s).1) v5) F7]) => ?_))
    simp only [nz1, nz2, nz3]
    by_cases hs27 : awake_m = true
    · rw [(hs27 : awake_m = true)]
      refine lvw 21 (.bool true) rfl rfl (run_mv rfl rfl) ?_
      simp only [nz1, nz2, nz3]
      refine lvw 22 (v5) rfl rfl (run_mv rfl rfl) ?_
      simp only [nz1, nz2, nz3]
      refine lvw 23 (.int .i64 ((((parts_m s).1).length : Nat) : Int)) rfl rfl (s_len ((hm26.see 0 rfl)) rfl Tryd.underlying22 rfl) ?_
      simp only [nz1, nz2, nz3]
      refine lvw 24 (.bool (decide (((parts_m s).1).length = 0))) rfl rfl (r_eql (((parts_m s).1).length) 0 rfl rfl rfl) ?_
      simp only [nz1, nz2, nz3]
      refine lvw 25 (.bool (decide (((parts_m s).1).length = 0))) rfl rfl (run_pick rfl rfl rfl) ?_
      simp only [nz1, nz2, nz3]
      refine lvw 2 (.bool (decide (((parts_m s).1).length = 0))) rfl rfl (run_as rfl rfl) ?_
      simp only [nz1, nz2, nz3]
      refine wpList_nil ?_
      refine then_n (hK24 _ _ ?_)
      refine wp_ret ?_
      refine then_r ?_
      have he28 : up_m s = (decide (((parts_m s).1).length = 0)) := (show up_m s = (decide (((parts_m s).1).length = 0)) from by unfold up_m; rw [if_neg hs16, if_pos hc23, if_pos hs27] <;> rfl)
      exact ⟨rfl, .bool (decide (((parts_m s).1).length = 0)), res_t rfl rfl, ⟨by rw [he28], hm26.below⟩⟩
    rw [(Bool.eq_false_iff.2 hs27 : awake_m = false)]
    refine lvw 21 (.bool false) rfl rfl (run_mv rfl rfl) ?_
    simp only [nz1, nz2, nz3]
    refine lst_skip 22 rfl rfl ?_
    simp only [nz1, nz2, nz3]
    refine lst_skip 23 rfl rfl ?_
    simp only [nz1, nz2, nz3]
    refine lst_skip 24 rfl rfl ?_
    simp only [nz1, nz2, nz3]
    refine lvw 25 (.bool false) rfl rfl (run_pickf rfl rfl rfl) ?_
    simp only [nz1, nz2, nz3]
    refine lvw 2 (.bool false) rfl rfl (run_as rfl rfl) ?_
    simp only [nz1, nz2, nz3]
    refine wpList_nil ?_
    refine then_n (hK24 _ _ ?_)
    refine wp_ret ?_
    refine then_r ?_
    have he29 : up_m s = false := (show up_m s = false from by unfold up_m; rw [if_neg hs16, if_pos hc23, if_neg hs27] <;> rfl)
    exact ⟨rfl, .bool false, res_t rfl rfl, ⟨by rw [he29], hm26.below⟩⟩
  refine wp_skip ?_
  refine then_n (hK14 _ _ ?_)
  refine wp_seq_k (fun K30 hK30 => ?_)
  refine wp_region_lit ?_
  refine lvw 26 (.string (tx s)) rfl rfl (run_mv rfl rfl) ?_
  simp only [nz1, nz2, nz3]
  refine lst rfl (m_call hm12 27 (.string (tx (parent_m s))) rfl (run_parent rfl rfl) (parent_any s  _  (by first | omega | assumption | decide | (simp; done) | (simp; omega))) (fun w31 (hm32 : Mm none (fun _ => True) w w31 [.see (Rs eS 1 ((parts_m s).1) v5) F7]) => ?_))
  have hf33 : (parent_m s).length ≤ s.length := parent_len s
  simp only [nz1, nz2, nz3]
  refine lvw 5 (.string (tx (parent_m s))) rfl rfl (run_as rfl rfl) ?_
  simp only [nz1, nz2, nz3]
  refine wpList_nil ?_
  refine then_n (hK30 _ _ ?_)
  refine wp_seq_k (fun K34 hK34 => ?_)
  refine wp_seq_k (fun K35 hK35 => ?_)
  refine wp_region_lit ?_
  refine lvw 28 (v5) rfl rfl (run_mv rfl rfl) ?_
  simp only [nz1, nz2, nz3]
  refine lvw 29 (.int .i64 ((((parts_m s).1).length : Nat) : Int)) rfl rfl (s_len ((hm32.see 0 rfl)) rfl Tryd.underlying22 rfl) ?_
  simp only [nz1, nz2, nz3]
  refine lvw 30 (.bool (decide (((parts_m s).1).length = 1))) rfl rfl (r_eql (((parts_m s).1).length) 1 rfl rfl rfl) ?_
  simp only [nz1, nz2, nz3]
  refine wpList_nil ?_
  refine then_n (hK35 _ _ ?_)
  refine cond_d (((parts_m s).1).length = 1) rfl (fun hc36 => ?_) (fun hc36 => ?_)
  · refine wp_seq_k (fun K37 hK37 => ?_)
    refine wp_region_lit ?_
    refine lst rfl (m_call hm32 31 (.bool (awake_m)) rfl (run_awake rfl) (awake_any   _  (Laid.below hT hm32.below) ) (fun w38 (hm39 : Mm none (fun _ => True) w w38 [.see (Rs eS 1 ((parts_m s).1) v5) F7]) => ?_))
    simp only [nz1, nz2, nz3]
    by_cases hs40 : awake_m = true
    rotate_left
    · rw [(Bool.eq_false_iff.2 hs40 : awake_m = false)]
      refine lvw 32 (.bool false) rfl rfl (run_mv rfl rfl) ?_
      simp only [nz1, nz2, nz3]
      refine lst_skip 33 rfl rfl ?_
      simp only [nz1, nz2, nz3]
      refine lst_skip 34 rfl rfl ?_
      simp only [nz1, nz2, nz3]
      refine lvw 35 (.bool false) rfl rfl (run_pickf rfl rfl rfl) ?_
      simp only [nz1, nz2, nz3]
      refine lvw 36 (.bool false) rfl rfl (run_mv rfl rfl) ?_
      simp only [nz1, nz2, nz3]
      refine lst_skip 37 rfl rfl ?_
      simp only [nz1, nz2, nz3]
      refine lst_skip 38 rfl rfl ?_
      simp only [nz1, nz2, nz3]
      refine lst_skip 39 rfl rfl ?_
      simp only [nz1, nz2, nz3]
      refine lst_skip 40 rfl rfl ?_
      simp only [nz1, nz2, nz3]
      refine lst_skip 41 rfl rfl ?_
      simp only [nz1, nz2, nz3]
      refine lst_skip 42 rfl rfl ?_
      simp only [nz1, nz2, nz3]
      refine lvw 43 (.bool false) rfl rfl (run_pickf rfl rfl rfl) ?_
      simp only [nz1, nz2, nz3]
      refine lvw 2 (.bool false) rfl rfl (run_as rfl rfl) ?_
      simp only [nz1, nz2, nz3]
      refine wpList_nil ?_
      refine then_n (hK37 _ _ ?_)
      refine wp_ret ?_
      refine then_r ?_
      have he48 : up_m s = false := (show up_m s = false from by unfold up_m; rw [if_neg hs16, if_neg hc23, if_pos hc36, if_neg hs40] <;> rfl)
      exact ⟨rfl, .bool false, res_t rfl rfl, ⟨by rw [he48], hm39.below⟩⟩
    rw [(hs40 : awake_m = true)]
    refine lvw 32 (.bool true) rfl rfl (run_mv rfl rfl) ?_
    simp only [nz1, nz2, nz3]
    refine lvw 33 (.string (tx (parent_m s))) rfl rfl (run_mv rfl rfl) ?_
    simp only [nz1, nz2, nz3]
    refine lvb 34 ((parent_m s) = []) rfl rfl (t_eql (parent_m s) ([]) rfl rfl rfl) (fun hs41 => ?_) (fun hs41 => ?_)
    · simp only [nz1, nz2, nz3]
      refine lvw 35 (.bool true) rfl rfl (run_pick rfl rfl rfl) ?_
      simp only [nz1, nz2, nz3]
      refine lvw 36 (.bool true) rfl rfl (run_mv rfl rfl) ?_
      simp only [nz1, nz2, nz3]
      refine lvw 37 (.string (tx s)) rfl rfl (run_mv rfl rfl) ?_
      simp only [nz1, nz2, nz3]
      refine lst rfl (m_call hm39 38 (.bool ((reserved_m s))) rfl (run_reserved rfl rfl) (reserved_any s  _  (Laid.below hT hm39.below) (by first | omega | assumption | decide | (simp; done) | (simp; omega))) (fun w42 (hm43 : Mm none (fun _ => True) w w42 [.see (Rs eS 1 ((parts_m s).1) v5) F7]) => ?_))
      simp only [nz1, nz2, nz3]
      refine lvw 39 (.string (tx s)) rfl rfl (run_mv rfl rfl) ?_
      simp only [nz1, nz2, nz3]
      refine lst rfl (m_call hm43 40 (.string (tx own_m)) rfl (run_own rfl) (own_any   _  ) (fun w44 (hm45 : Mm none (fun _ => True) w w44 [.see (Rs eS 1 ((parts_m s).1) v5) F7]) => ?_))
      simp only [nz1, nz2, nz3]
      refine lvw 41 (.bool (decide (s = own_m))) rfl rfl (t_eql s own_m rfl rfl rfl) ?_
      simp only [nz1, nz2, nz3]
      refine lvw 42 (.bool ((reserved_m s) == (decide (s = own_m)))) rfl rfl (b_eql (reserved_m s) (decide (s = own_m)) rfl rfl rfl) ?_
      simp only [nz1, nz2, nz3]
      refine lvw 43 (.bool ((reserved_m s) == (decide (s = own_m)))) rfl rfl (run_pick rfl rfl rfl) ?_
      simp only [nz1, nz2, nz3]
      refine lvw 2 (.bool ((reserved_m s) == (decide (s = own_m)))) rfl rfl (run_as rfl rfl) ?_
      simp only [nz1, nz2, nz3]
      refine wpList_nil ?_
      refine then_n (hK37 _ _ ?_)
      refine wp_ret ?_
      refine then_r ?_
      have he46 : up_m s = ((reserved_m s) == (decide (s = own_m))) := (show up_m s = ((reserved_m s) == (decide (s = own_m))) from by unfold up_m; rw [if_neg hs16, if_neg hc23, if_pos hc36, if_pos hs40, if_pos hs41] <;> rfl)
      exact ⟨rfl, .bool ((reserved_m s) == (decide (s = own_m))), res_t rfl rfl, ⟨by rw [he46], hm45.below⟩⟩
    simp only [nz1, nz2, nz3]
    refine lvw 35 (.bool false) rfl rfl (run_pick rfl rfl rfl) ?_
    simp only [nz1, nz2, nz3]
    refine lvw 36 (.bool false) rfl rfl (run_mv rfl rfl) ?_
    simp only [nz1, nz2, nz3]
    refine lst_skip 37 rfl rfl ?_
    simp only [nz1, nz2, nz3]
    refine lst_skip 38 rfl rfl ?_
    simp only [nz1, nz2, nz3]
    refine lst_skip 39 rfl rfl ?_
    simp only [nz1, nz2, nz3]
    refine lst_skip 40 rfl rfl ?_
    simp only [nz1, nz2, nz3]
    refine lst_skip 41 rfl rfl ?_
    simp only [nz1, nz2, nz3]
    refine lst_skip 42 rfl rfl ?_
    simp only [nz1, nz2, nz3]
    refine lvw 43 (.bool false) rfl rfl (run_pickf rfl rfl rfl) ?_
    simp only [nz1, nz2, nz3]
    refine lvw 2 (.bool false) rfl rfl (run_as rfl rfl) ?_
    simp only [nz1, nz2, nz3]
    refine wpList_nil ?_
    refine then_n (hK37 _ _ ?_)
    refine wp_ret ?_
    refine then_r ?_
    have he47 : up_m s = false := (show up_m s = false from by unfold up_m; rw [if_neg hs16, if_neg hc23, if_pos hc36, if_pos hs40, if_neg hs41] <;> rfl)
    exact ⟨rfl, .bool false, res_t rfl rfl, ⟨by rw [he47], hm39.below⟩⟩
  refine wp_skip ?_
  refine then_n (hK34 _ _ ?_)
  refine wp_seq_k (fun K49 hK49 => ?_)
  refine wp_region_lit ?_
  refine lvw 45 (.string (tx (parent_m s))) rfl rfl (run_mv rfl rfl) ?_
  simp only [nz1, nz2, nz3]
  refine lst rfl (m_callx hm32 46 rfl (run_parts rfl rfl) (parts_any (parent_m s)  (seeS [.see (Rs eS 1 ((parts_m s).1) v5) F7]) _  (Laid.below hT hm32.below) ) (fun vv55 w50 hR56 hb57 hm51 => ?_))
  obtain ⟨v52, rfl, hg58⟩ := hR56
  obtain ⟨F54, hm59⟩ : ∃ F54, Mm none (fun _ => True) w w50 [.see (Rs eS 1 ((parts_m s).1) v5) F7, .see (Rs eS 1 ((parts_m (parent_m s)).1) v52) F54] := Mm.tookS hm32 hb57 hg58
  clear hm51 hg58 hb57
  have hf60 : (parts_m (parent_m s)).1.length ≤ 201 ∧ (join_m (parts_m (parent_m s)).1 [47]).length ≤ (parent_m s).length ∧ ((parts_m (parent_m s)).2 ≠ 0 ∨ ((parent_m s).length ≤ 200 ∧ 1 ≤ (parent_m s).length ∧ 1 ≤ (parts_m (parent_m s)).1.length ∧ (parts_m (parent_m s)).1.length ≤ 16)) := parts_facts (parent_m s)
  simp only [nz1, nz2, nz3]
  refine lvw 44 (.tuple #[v52, .int .i64 ((parts_m (parent_m s)).2)]) rfl rfl (run_mv rfl rfl) ?_
  simp only [nz1, nz2, nz3]
  refine lvw 47 (v52) rfl rfl (run_ex rfl rfl rfl) ?_
  simp only [nz1, nz2, nz3]
  refine lvw 48 (.int .i64 ((parts_m (parent_m s)).2)) rfl rfl (run_ex rfl rfl rfl) ?_
  simp only [nz1, nz2, nz3]
  refine lvw 6 (v52) rfl rfl (run_as rfl rfl) ?_
  simp only [nz1, nz2, nz3]
  refine lvw 7 (.int .i64 ((parts_m (parent_m s)).2)) rfl rfl (run_as rfl rfl) ?_
  simp only [nz1, nz2, nz3]
  refine wpList_nil ?_
  refine then_n (hK49 _ _ ?_)
  refine wp_seq_k (fun K61 hK61 => ?_)
  refine wp_region_lit ?_
  refine lst rfl (m_call hm59 49 (.bool (awake_m)) rfl (run_awake rfl) (awake_any   _  (Laid.below hT hm59.below) ) (fun w62 (hm63 : Mm none (fun _ => True) w w62 [.see (Rs eS 1 ((parts_m s).1) v5) F7, .see (Rs eS 1 ((parts_m (parent_m s)).1) v52) F54]) => ?_))
  simp only [nz1, nz2, nz3]
  by_cases hs64 : awake_m = true
  rotate_left
  · rw [(Bool.eq_false_iff.2 hs64 : awake_m = false)]
    refine lvw 50 (.bool false) rfl rfl (run_mv rfl rfl) ?_
    simp only [nz1, nz2, nz3]
    refine lst_skip 51 rfl rfl ?_
    simp only [nz1, nz2, nz3]
    refine lst_skip 52 rfl rfl ?_
    simp only [nz1, nz2, nz3]
    refine lvw 53 (.bool false) rfl rfl (run_pickf rfl rfl rfl) ?_
    simp only [nz1, nz2, nz3]
    refine lvw 54 (.bool false) rfl rfl (run_mv rfl rfl) ?_
    simp only [nz1, nz2, nz3]
    refine lst_skip 55 rfl rfl ?_
    simp only [nz1, nz2, nz3]
    refine lst_skip 56 rfl rfl ?_
    simp only [nz1, nz2, nz3]
    refine lst_skip 57 rfl rfl ?_
    simp only [nz1, nz2, nz3]
    refine lst_skip 58 rfl rfl ?_
    simp only [nz1, nz2, nz3]
    refine lst_skip 59 rfl rfl ?_
    simp only [nz1, nz2, nz3]
    refine lst_skip 60 rfl rfl ?_
    simp only [nz1, nz2, nz3]
    refine lst_skip 61 rfl rfl ?_
    simp only [nz1, nz2, nz3]
    refine lvw 62 (.bool false) rfl rfl (run_pickf rfl rfl rfl) ?_
    simp only [nz1, nz2, nz3]
    refine lvw 63 (.bool false) rfl rfl (run_mv rfl rfl) ?_
    simp only [nz1, nz2, nz3]
    refine lst_skip 64 rfl rfl ?_
    simp only [nz1, nz2, nz3]
    refine lst_skip 65 rfl rfl ?_
    simp only [nz1, nz2, nz3]
    refine lst_skip 66 rfl rfl ?_
    simp only [nz1, nz2, nz3]
    refine lst_skip 67 rfl rfl ?_
    simp only [nz1, nz2, nz3]
    refine lst_skip 68 rfl rfl ?_
    simp only [nz1, nz2, nz3]
    refine lst_skip 69 rfl rfl ?_
    simp only [nz1, nz2, nz3]
    refine lst_skip 70 rfl rfl ?_
    simp only [nz1, nz2, nz3]
    refine lst_skip 71 rfl rfl ?_
    simp only [nz1, nz2, nz3]
    refine lst_skip 72 rfl rfl ?_
    simp only [nz1, nz2, nz3]
    refine lst_skip 73 rfl rfl ?_
    simp only [nz1, nz2, nz3]
    refine lst_skip 74 rfl rfl ?_
    simp only [nz1, nz2, nz3]
    refine lvw 75 (.bool false) rfl rfl (run_pickf rfl rfl rfl) ?_
    simp only [nz1, nz2, nz3]
    refine lvw 76 (.bool false) rfl rfl (run_mv rfl rfl) ?_
    simp only [nz1, nz2, nz3]
    refine lst_skip 77 rfl rfl ?_
    simp only [nz1, nz2, nz3]
    refine lst_skip 78 rfl rfl ?_
    simp only [nz1, nz2, nz3]
    refine lst_skip 79 rfl rfl ?_
    simp only [nz1, nz2, nz3]
    refine lst_skip 80 rfl rfl ?_
    simp only [nz1, nz2, nz3]
    refine lst_skip 81 rfl rfl ?_
    simp only [nz1, nz2, nz3]
    refine lvw 82 (.bool false) rfl rfl (run_pickf rfl rfl rfl) ?_
    simp only [nz1, nz2, nz3]
    refine lvw 2 (.bool false) rfl rfl (run_as rfl rfl) ?_
    simp only [nz1, nz2, nz3]
    refine wpList_nil ?_
    refine then_n (hK61 _ _ ?_)
    refine wp_ret ?_
    have he78 : up_m s = false := (show up_m s = false from by unfold up_m; rw [if_neg hs16, if_neg hc23, if_neg hc36, if_neg hs64] <;> rfl)
    exact ⟨rfl, .bool false, res_t rfl rfl, ⟨by rw [he78], hm63.below⟩⟩
  rw [(hs64 : awake_m = true)]
  refine lvw 50 (.bool true) rfl rfl (run_mv rfl rfl) ?_
  simp only [nz1, nz2, nz3]
  refine lvw 51 (.int .i64 ((parts_m (parent_m s)).2)) rfl rfl (run_mv rfl rfl) ?_
  simp only [nz1, nz2, nz3]
  refine lvb 52 ((parts_m (parent_m s)).2 = 0) rfl rfl (z_eql ((parts_m (parent_m s)).2) 0 rfl rfl rfl) (fun hs65 => ?_) (fun hs65 => ?_)
  rotate_left
  · simp only [nz1, nz2, nz3]
    refine lvw 53 (.bool false) rfl rfl (run_pick rfl rfl rfl) ?_
    simp only [nz1, nz2, nz3]
    refine lvw 54 (.bool false) rfl rfl (run_mv rfl rfl) ?_
    simp only [nz1, nz2, nz3]
    refine lst_skip 55 rfl rfl ?_
    simp only [nz1, nz2, nz3]
    refine lst_skip 56 rfl rfl ?_
    simp only [nz1, nz2, nz3]
    refine lst_skip 57 rfl rfl ?_
    simp only [nz1, nz2, nz3]
    refine lst_skip 58 rfl rfl ?_
    simp only [nz1, nz2, nz3]
    refine lst_skip 59 rfl rfl ?_
    simp only [nz1, nz2, nz3]
    refine lst_skip 60 rfl rfl ?_
    simp only [nz1, nz2, nz3]
    refine lst_skip 61 rfl rfl ?_
    simp only [nz1, nz2, nz3]
    refine lvw 62 (.bool false) rfl rfl (run_pickf rfl rfl rfl) ?_
    simp only [nz1, nz2, nz3]
    refine lvw 63 (.bool false) rfl rfl (run_mv rfl rfl) ?_
    simp only [nz1, nz2, nz3]
    refine lst_skip 64 rfl rfl ?_
    simp only [nz1, nz2, nz3]
    refine lst_skip 65 rfl rfl ?_
    simp only [nz1, nz2, nz3]
    refine lst_skip 66 rfl rfl ?_
    simp only [nz1, nz2, nz3]
    refine lst_skip 67 rfl rfl ?_
    simp only [nz1, nz2, nz3]
    refine lst_skip 68 rfl rfl ?_
    simp only [nz1, nz2, nz3]
    refine lst_skip 69 rfl rfl ?_
    simp only [nz1, nz2, nz3]
    refine lst_skip 70 rfl rfl ?_
    simp only [nz1, nz2, nz3]
    refine lst_skip 71 rfl rfl ?_
    simp only [nz1, nz2, nz3]
    refine lst_skip 72 rfl rfl ?_
    simp only [nz1, nz2, nz3]
    refine lst_skip 73 rfl rfl ?_
    simp only [nz1, nz2, nz3]
    refine lst_skip 74 rfl rfl ?_
    simp only [nz1, nz2, nz3]
    refine lvw 75 (.bool false) rfl rfl (run_pickf rfl rfl rfl) ?_
    simp only [nz1, nz2, nz3]
    refine lvw 76 (.bool false) rfl rfl (run_mv rfl rfl) ?_
    simp only [nz1, nz2, nz3]
    refine lst_skip 77 rfl rfl ?_
    simp only [nz1, nz2, nz3]
    refine lst_skip 78 rfl rfl ?_
    simp only [nz1, nz2, nz3]
    refine lst_skip 79 rfl rfl ?_
    simp only [nz1, nz2, nz3]
    refine lst_skip 80 rfl rfl ?_
    simp only [nz1, nz2, nz3]
    refine lst_skip 81 rfl rfl ?_
    simp only [nz1, nz2, nz3]
    refine lvw 82 (.bool false) rfl rfl (run_pickf rfl rfl rfl) ?_
    simp only [nz1, nz2, nz3]
    refine lvw 2 (.bool false) rfl rfl (run_as rfl rfl) ?_
    simp only [nz1, nz2, nz3]
    refine wpList_nil ?_
    refine then_n (hK61 _ _ ?_)
    refine wp_ret ?_
    have he77 : up_m s = false := (show up_m s = false from by unfold up_m; rw [if_neg hs16, if_neg hc23, if_neg hc36, if_pos hs64, if_neg hs65] <;> rfl)
    exact ⟨rfl, .bool false, res_t rfl rfl, ⟨by rw [he77], hm63.below⟩⟩
  simp only [nz1, nz2, nz3]
  refine lvw 53 (.bool true) rfl rfl (run_pick rfl rfl rfl) ?_
  simp only [nz1, nz2, nz3]
  refine lvw 54 (.bool true) rfl rfl (run_mv rfl rfl) ?_
  simp only [nz1, nz2, nz3]
  refine lvw 55 (v52) rfl rfl (run_mv rfl rfl) ?_
  simp only [nz1, nz2, nz3]
  refine lvw 56 (v5) rfl rfl (run_mv rfl rfl) ?_
  simp only [nz1, nz2, nz3]
  refine lvw 57 (v5) rfl rfl (run_mv rfl rfl) ?_
  simp only [nz1, nz2, nz3]
  refine lvw 58 (.int .i64 ((((parts_m s).1).length : Nat) : Int)) rfl rfl (s_len ((hm63.see 0 rfl)) rfl Tryd.underlying22 rfl) ?_
  simp only [nz1, nz2, nz3]
  refine lvw 59 (.int .i64 ((((((parts_m s).1).length : Nat) : Int) - (1 : Int)))) rfl rfl (z_sub ((((parts_m s).1).length : Nat) : Int) (1 : Int) _ (by rw [IntKind.wrap_i64]; omega) rfl rfl rfl) ?_
  simp only [nz1, nz2, nz3]
  refine lvw 60 ((cutV v5 0 ((((((parts_m s).1).length : Nat) : Int) - (1 : Int)).toNat) 1)) rfl rfl (r_cut_h ((hm63.see 0 rfl)) ((((((parts_m s).1).length : Nat) : Int) - (1 : Int)).toNat) (by omega) Tryd.underlying22 sz_9 rfl rfl (show (Value.int .i64 (((((parts_m s).1).length : Nat) : Int) - (1 : Int))) = .int .i64 (((((((parts_m s).1).length : Nat) : Int) - (1 : Int)).toNat : Nat) : Int) from by congr 1; omega)) ?_
  simp only [nz1, nz2, nz3]
  refine lst rfl (m_call hm63 61 (.bool ((same_m ((parts_m (parent_m s)).1) (((parts_m s).1).take ((((((parts_m s).1).length : Nat) : Int) - (1 : Int)).toNat))))) rfl (run_same rfl rfl rfl) (same_any ((parts_m (parent_m s)).1) (((parts_m s).1).take ((((((parts_m s).1).length : Nat) : Int) - (1 : Int)).toNat)) v52 (cutV v5 0 ((((((parts_m s).1).length : Nat) : Int) - (1 : Int)).toNat) 1) _ (hm63.see 1 rfl) (Rs.cut_h (hm63.see 0 rfl) eS_len ((((((parts_m s).1).length : Nat) : Int) - (1 : Int)).toNat) (by omega)) (by first | omega | assumption | decide | (simp; done) | (simp; omega))) (fun w66 (hm67 : Mm none (fun _ => True) w w66 [.see (Rs eS 1 ((parts_m s).1) v5) F7, .see (Rs eS 1 ((parts_m (parent_m s)).1) v52) F54]) => ?_))
  simp only [nz1, nz2, nz3]
  by_cases hs68 : (same_m ((parts_m (parent_m s)).1) (((parts_m s).1).take ((((((parts_m s).1).length : Nat) : Int) - (1 : Int)).toNat))) = true
  rotate_left
  · rw [(Bool.eq_false_iff.2 hs68 : (same_m ((parts_m (parent_m s)).1) (((parts_m s).1).take ((((((parts_m s).1).length : Nat) : Int) - (1 : Int)).toNat))) = false)]
    refine lvw 62 (.bool false) rfl rfl (run_pick rfl rfl rfl) ?_
    simp only [nz1, nz2, nz3]
    refine lvw 63 (.bool false) rfl rfl (run_mv rfl rfl) ?_
    simp only [nz1, nz2, nz3]
    refine lst_skip 64 rfl rfl ?_
    simp only [nz1, nz2, nz3]
    refine lst_skip 65 rfl rfl ?_
    simp only [nz1, nz2, nz3]
    refine lst_skip 66 rfl rfl ?_
    simp only [nz1, nz2, nz3]
    refine lst_skip 67 rfl rfl ?_
    simp only [nz1, nz2, nz3]
    refine lst_skip 68 rfl rfl ?_
    simp only [nz1, nz2, nz3]
    refine lst_skip 69 rfl rfl ?_
    simp only [nz1, nz2, nz3]
    refine lst_skip 70 rfl rfl ?_
    simp only [nz1, nz2, nz3]
    refine lst_skip 71 rfl rfl ?_
    simp only [nz1, nz2, nz3]
    refine lst_skip 72 rfl rfl ?_
    simp only [nz1, nz2, nz3]
    refine lst_skip 73 rfl rfl ?_
    simp only [nz1, nz2, nz3]
    refine lst_skip 74 rfl rfl ?_
    simp only [nz1, nz2, nz3]
    refine lvw 75 (.bool false) rfl rfl (run_pickf rfl rfl rfl) ?_
    simp only [nz1, nz2, nz3]
    refine lvw 76 (.bool false) rfl rfl (run_mv rfl rfl) ?_
    simp only [nz1, nz2, nz3]
    refine lst_skip 77 rfl rfl ?_
    simp only [nz1, nz2, nz3]
    refine lst_skip 78 rfl rfl ?_
    simp only [nz1, nz2, nz3]
    refine lst_skip 79 rfl rfl ?_
    simp only [nz1, nz2, nz3]
    refine lst_skip 80 rfl rfl ?_
    simp only [nz1, nz2, nz3]
    refine lst_skip 81 rfl rfl ?_
    simp only [nz1, nz2, nz3]
    refine lvw 82 (.bool false) rfl rfl (run_pickf rfl rfl rfl) ?_
    simp only [nz1, nz2, nz3]
    refine lvw 2 (.bool false) rfl rfl (run_as rfl rfl) ?_
    simp only [nz1, nz2, nz3]
    refine wpList_nil ?_
    refine then_n (hK61 _ _ ?_)
    refine wp_ret ?_
    have he76 : up_m s = false := (show up_m s = false from by unfold up_m; rw [if_neg hs16, if_neg hc23, if_neg hc36, if_pos hs64, if_pos hs65, if_neg hs68] <;> rfl)
    exact ⟨rfl, .bool false, res_t rfl rfl, ⟨by rw [he76], hm67.below⟩⟩
  rw [(hs68 : (same_m ((parts_m (parent_m s)).1) (((parts_m s).1).take ((((((parts_m s).1).length : Nat) : Int) - (1 : Int)).toNat))) = true)]
  refine lvw 62 (.bool true) rfl rfl (run_pick rfl rfl rfl) ?_
  simp only [nz1, nz2, nz3]
  refine lvw 63 (.bool true) rfl rfl (run_mv rfl rfl) ?_
  simp only [nz1, nz2, nz3]
  refine lvw 64 (.string (tx (parent_m s))) rfl rfl (run_mv rfl rfl) ?_
  simp only [nz1, nz2, nz3]
  refine lvw 65 (.string (tx ((parent_m s) ++ [47]))) rfl rfl (t_cat (parent_m s) ([47]) (by first | (rw [List.length_singleton]; omega) | (refine Nat.le_trans (Nat.add_le_add_left (parts_el s _) _) ?_; rw [List.length_append, List.length_singleton]; omega)) rfl rfl rfl) ?_
  simp only [nz1, nz2, nz3]
  refine lvw 66 (v5) rfl rfl (run_mv rfl rfl) ?_
  simp only [nz1, nz2, nz3]
  refine lvw 67 (v5) rfl rfl (run_mv rfl rfl) ?_
  simp only [nz1, nz2, nz3]
  refine lvw 68 (.int .i64 ((((parts_m s).1).length : Nat) : Int)) rfl rfl (s_len ((hm67.see 0 rfl)) rfl Tryd.underlying22 rfl) ?_
  simp only [nz1, nz2, nz3]
  refine lvw 69 (.int .i64 ((((((parts_m s).1).length : Nat) : Int) - (1 : Int)))) rfl rfl (z_sub ((((parts_m s).1).length : Nat) : Int) (1 : Int) _ (by rw [IntKind.wrap_i64]; omega) rfl rfl rfl) ?_
  simp only [nz1, nz2, nz3]
  refine lvw 70 (.pointer (some ⟨(bk v5), (po v5 + (((((parts_m s).1).length : Nat) : Int) - (1 : Int)).toNat * 1), none⟩)) rfl rfl (r_ixvZ ((hm67.see 0 rfl)) (((((parts_m s).1).length : Nat) : Int) - (1 : Int)) (by omega) (by omega) Tryd.underlying22 sz_9 rfl rfl rfl) ?_
  simp only [nz1, nz2, nz3]
  refine lvw 71 (.string (tx (((parts_m s).1).getD ((((((parts_m s).1).length : Nat) : Int) - (1 : Int)).toNat) []))) rfl rfl (r_cellw (Rs.cell ((hm67.see 0 rfl)) eS_len [] ((((((parts_m s).1).length : Nat) : Int) - (1 : Int)).toNat) (by omega) 0 _ rfl) Tryd.underlying9 rfl rfl rfl) ?_
  simp only [nz1, nz2, nz3]
  refine lvw 72 (.string (tx (((parent_m s) ++ [47]) ++ (((parts_m s).1).getD ((((((parts_m s).1).length : Nat) : Int) - (1 : Int)).toNat) [])))) rfl rfl (t_cat ((parent_m s) ++ [47]) (((parts_m s).1).getD ((((((parts_m s).1).length : Nat) : Int) - (1 : Int)).toNat) []) (by first | (rw [List.length_singleton]; omega) | (refine Nat.le_trans (Nat.add_le_add_left (parts_el s _) _) ?_; rw [List.length_append, List.length_singleton]; omega)) rfl rfl rfl) ?_
  simp only [nz1, nz2, nz3]
  refine lvw 73 (.string (tx s)) rfl rfl (run_mv rfl rfl) ?_
  simp only [nz1, nz2, nz3]
  refine lvb 74 ((((parent_m s) ++ [47]) ++ (((parts_m s).1).getD ((((((parts_m s).1).length : Nat) : Int) - (1 : Int)).toNat) [])) = s) rfl rfl (t_eql (((parent_m s) ++ [47]) ++ (((parts_m s).1).getD ((((((parts_m s).1).length : Nat) : Int) - (1 : Int)).toNat) [])) s rfl rfl rfl) (fun hs69 => ?_) (fun hs69 => ?_)
  · simp only [nz1, nz2, nz3]
    refine lvw 75 (.bool true) rfl rfl (run_pick rfl rfl rfl) ?_
    simp only [nz1, nz2, nz3]
    refine lvw 76 (.bool true) rfl rfl (run_mv rfl rfl) ?_
    simp only [nz1, nz2, nz3]
    refine lvw 77 (.string (tx s)) rfl rfl (run_mv rfl rfl) ?_
    simp only [nz1, nz2, nz3]
    refine lst rfl (m_call hm67 78 (.bool ((reserved_m s))) rfl (run_reserved rfl rfl) (reserved_any s  _  (Laid.below hT hm67.below) (by first | omega | assumption | decide | (simp; done) | (simp; omega))) (fun w70 (hm71 : Mm none (fun _ => True) w w70 [.see (Rs eS 1 ((parts_m s).1) v5) F7, .see (Rs eS 1 ((parts_m (parent_m s)).1) v52) F54]) => ?_))
    simp only [nz1, nz2, nz3]
    refine lvw 79 (.string (tx (parent_m s))) rfl rfl (run_mv rfl rfl) ?_
    simp only [nz1, nz2, nz3]
    refine lst rfl (m_call hm71 80 (.bool ((reserved_m (parent_m s)))) rfl (run_reserved rfl rfl) (reserved_any (parent_m s)  _  (Laid.below hT hm71.below) (by first | omega | assumption | decide | (simp; done) | (simp; omega))) (fun w72 (hm73 : Mm none (fun _ => True) w w72 [.see (Rs eS 1 ((parts_m s).1) v5) F7, .see (Rs eS 1 ((parts_m (parent_m s)).1) v52) F54]) => ?_))
    simp only [nz1, nz2, nz3]
    refine lvw 81 (.bool ((reserved_m s) == (reserved_m (parent_m s)))) rfl rfl (b_eql (reserved_m s) (reserved_m (parent_m s)) rfl rfl rfl) ?_
    simp only [nz1, nz2, nz3]
    refine lvw 82 (.bool ((reserved_m s) == (reserved_m (parent_m s)))) rfl rfl (run_pick rfl rfl rfl) ?_
    simp only [nz1, nz2, nz3]
    refine lvw 2 (.bool ((reserved_m s) == (reserved_m (parent_m s)))) rfl rfl (run_as rfl rfl) ?_
    simp only [nz1, nz2, nz3]
    refine wpList_nil ?_
    refine then_n (hK61 _ _ ?_)
    refine wp_ret ?_
    have he74 : up_m s = ((reserved_m s) == (reserved_m (parent_m s))) := (show up_m s = ((reserved_m s) == (reserved_m (parent_m s))) from by unfold up_m; rw [if_neg hs16, if_neg hc23, if_neg hc36, if_pos hs64, if_pos hs65, if_pos hs68, if_pos hs69] <;> rfl)
    exact ⟨rfl, .bool ((reserved_m s) == (reserved_m (parent_m s))), res_t rfl rfl, ⟨by rw [he74], hm73.below⟩⟩
  simp only [nz1, nz2, nz3]
  refine lvw 75 (.bool false) rfl rfl (run_pick rfl rfl rfl) ?_
  simp only [nz1, nz2, nz3]
  refine lvw 76 (.bool false) rfl rfl (run_mv rfl rfl) ?_
  simp only [nz1, nz2, nz3]
  refine lst_skip 77 rfl rfl ?_
  simp only [nz1, nz2, nz3]
  refine lst_skip 78 rfl rfl ?_
  simp only [nz1, nz2, nz3]
  refine lst_skip 79 rfl rfl ?_
  simp only [nz1, nz2, nz3]
  refine lst_skip 80 rfl rfl ?_
  simp only [nz1, nz2, nz3]
  refine lst_skip 81 rfl rfl ?_
  simp only [nz1, nz2, nz3]
  refine lvw 82 (.bool false) rfl rfl (run_pickf rfl rfl rfl) ?_
  simp only [nz1, nz2, nz3]
  refine lvw 2 (.bool false) rfl rfl (run_as rfl rfl) ?_
  simp only [nz1, nz2, nz3]
  refine wpList_nil ?_
  refine then_n (hK61 _ _ ?_)
  refine wp_ret ?_
  have he75 : up_m s = false := (show up_m s = false from by unfold up_m; rw [if_neg hs16, if_neg hc23, if_neg hc36, if_pos hs64, if_pos hs65, if_pos hs68, if_neg hs69] <;> rfl)
  exact ⟨rfl, .bool false, res_t rfl rfl, ⟨by rw [he75], hm67.below⟩⟩
theorem run_up {o : Oper} {a : Act} {w : World} {x0 : Operand} {v0 : Value} (ho : o.op = .call { callee := .value (.func 7), args := #[x0], argTypes := #[9] }) (h0 : a.eval x0 = v0) :
    (execOp a.eval o).run Tryd.prog w = .ok (.enter 7 #[v0]) w := by
  unfold execOp
  simp only [ho]
  have hf : a.eval (.func 7) = .func (.func 7) #[] #[] := rfl
  generalize a.eval = f at *
  go_simp
end Go.Proofs.YtdohmmdfenafnaaDoor.Pa
