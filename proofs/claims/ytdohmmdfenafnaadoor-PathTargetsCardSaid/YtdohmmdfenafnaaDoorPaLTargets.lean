/- Layer 7: PathTargets. -/
import Derived.Test.YtdohmmdfenafnaaDoorPaF
namespace Go.Proofs.YtdohmmdfenafnaaDoor.Pa
open Go.RowKit
open Go.Proofs.YtdohmmdfenafnaaDoor.Sym Go.Proofs.YtdohmmdfenafnaaDoor.Mem
open Go.Proofs.YtdohmmdfenafnaaDoor.Sx hiding Mm m_alloc m_store m_put m_call m_callx m_make m_append r_string r_ixS
set_option linter.unusedVariables false
attribute [local irreducible] wpList Oper.wp

def targets_m (s : List UInt8) : Bool :=
  if (parts_m s).2 = 0 then
    if (!(target_m s)) = true then
      false
    else
      if awake_m = true then
        if (!(target_m s)) = true then
          true
        else
          if ¬ s = [] then
            (decide (s.length ≤ 200))
          else
            false
      else
        false
  else
    if awake_m = true then
      if (!(target_m s)) = true then
        true
      else
        if ¬ s = [] then
          (decide (s.length ≤ 200))
        else
          false
    else
      false

set_option maxHeartbeats 4000000 in
set_option maxRecDepth 100000 in
theorem targets_any (s : List UInt8) (w : World)  (hT : Laid w) (hp0 : s.length ≤ 140737488351232) : Calls Tryd.prog 8 #[.string (tx s)] w (fun e w' => e = .returned (.bool ((targets_m s))) ∧ Below w.heap.size w w') := by
  go_enter Tryd.func8, Tryd.ntmps8
  have hm00 := Mm.nil none (fun _ => True) w
  have hm0 := hm00
  refine wp_seq_k (fun K1 hK1 => ?_)
  refine wp_region_lit ?_
  refine lvw 2 (.bool false) rfl rfl (run_as rfl rfl) ?_
  simp only [nz1, nz2, nz3]
  refine wpList_nil ?_
  refine then_n (hK1 _ _ ?_)
  refine wp_seq_k (fun K2 hK2 => ?_)
  refine wp_region_lit ?_
  refine lvw 6 (.string (tx s)) rfl rfl (run_mv rfl rfl) ?_
  simp only [nz1, nz2, nz3]
  refine lst rfl (m_callx hm0 7 rfl (run_parts rfl rfl) (parts_any s  (seeS []) _  (Laid.below hT hm0.below) ) (fun vv8 w3 hR9 hb10 hm4 => ?_))
  obtain ⟨v5, rfl, hg11⟩ := hR9
  obtain ⟨F7, hm12⟩ : ∃ F7, Mm none (fun _ => True) w w3 [.see (Rs eS 1 ((parts_m s).1) v5) F7] := Mm.tookS hm0 hb10 hg11
  clear hm4 hg11 hb10
  have hf13 : (parts_m s).1.length ≤ 201 ∧ (join_m (parts_m s).1 [47]).length ≤ s.length ∧ ((parts_m s).2 ≠ 0 ∨ (s.length ≤ 200 ∧ 1 ≤ s.length ∧ 1 ≤ (parts_m s).1.length ∧ (parts_m s).1.length ≤ 16)) := parts_facts s
  simp only [nz1, nz2, nz3]
  refine lvw 5 (.tuple #[v5, .int .i64 ((parts_m s).2)]) rfl rfl (run_mv rfl rfl) ?_
  simp only [nz1, nz2, nz3]
  refine lvw 8 (v5) rfl rfl (run_ex rfl rfl rfl) ?_
  simp only [nz1, nz2, nz3]
  refine lvw 9 (.int .i64 ((parts_m s).2)) rfl rfl (run_ex rfl rfl rfl) ?_
  simp only [nz1, nz2, nz3]
  refine lvw 3 (v5) rfl rfl (run_as rfl rfl) ?_
  simp only [nz1, nz2, nz3]
  refine lvw 4 (.int .i64 ((parts_m s).2)) rfl rfl (run_as rfl rfl) ?_
  simp only [nz1, nz2, nz3]
  refine wpList_nil ?_
  refine then_n (hK2 _ _ ?_)
  refine wp_seq_k (fun K14 hK14 => ?_)
  refine wp_seq_k (fun K15 hK15 => ?_)
  refine wp_region_lit ?_
  refine lvw 10 (.int .i64 ((parts_m s).2)) rfl rfl (run_mv rfl rfl) ?_
  simp only [nz1, nz2, nz3]
  refine lvb 11 ((parts_m s).2 = 0) rfl rfl (z_eql ((parts_m s).2) 0 rfl rfl rfl) (fun hs16 => ?_) (fun hs16 => ?_)
  rotate_left
  · simp only [nz1, nz2, nz3]
    refine lvw 12 (.bool false) rfl rfl (run_mv rfl rfl) ?_
    simp only [nz1, nz2, nz3]
    refine lst_skip 13 rfl rfl ?_
    simp only [nz1, nz2, nz3]
    refine lst_skip 14 rfl rfl ?_
    simp only [nz1, nz2, nz3]
    refine lst_skip 15 rfl rfl ?_
    simp only [nz1, nz2, nz3]
    refine lvw 16 (.bool false) rfl rfl (run_pickf rfl rfl rfl) ?_
    simp only [nz1, nz2, nz3]
    refine wpList_nil ?_
    refine then_n (hK15 _ _ ?_)
    refine cond_f rfl ?_
    refine wp_skip ?_
    refine then_n (hK14 _ _ ?_)
    refine wp_seq_k (fun K34 hK34 => ?_)
    refine wp_region_lit ?_
    refine lst rfl (m_call hm12 17 (.bool (awake_m)) rfl (run_awake rfl) (awake_any   _  (Laid.below hT hm12.below) ) (fun w35 (hm36 : Mm none (fun _ => True) w w35 [.see (Rs eS 1 ((parts_m s).1) v5) F7]) => ?_))
    simp only [nz1, nz2, nz3]
    by_cases hs37 : awake_m = true
    rotate_left
    · rw [(Bool.eq_false_iff.2 hs37 : awake_m = false)]
      refine lvw 18 (.bool false) rfl rfl (run_mv rfl rfl) ?_
      simp only [nz1, nz2, nz3]
      refine lst_skip 19 rfl rfl ?_
      simp only [nz1, nz2, nz3]
      refine lst_skip 20 rfl rfl ?_
      simp only [nz1, nz2, nz3]
      refine lst_skip 21 rfl rfl ?_
      simp only [nz1, nz2, nz3]
      refine lst_skip 22 rfl rfl ?_
      simp only [nz1, nz2, nz3]
      refine lst_skip 23 rfl rfl ?_
      simp only [nz1, nz2, nz3]
      refine lst_skip 24 rfl rfl ?_
      simp only [nz1, nz2, nz3]
      refine lst_skip 25 rfl rfl ?_
      simp only [nz1, nz2, nz3]
      refine lst_skip 26 rfl rfl ?_
      simp only [nz1, nz2, nz3]
      refine lst_skip 27 rfl rfl ?_
      simp only [nz1, nz2, nz3]
      refine lst_skip 28 rfl rfl ?_
      simp only [nz1, nz2, nz3]
      refine lst_skip 29 rfl rfl ?_
      simp only [nz1, nz2, nz3]
      refine lst_skip 30 rfl rfl ?_
      simp only [nz1, nz2, nz3]
      refine lvw 31 (.bool false) rfl rfl (run_pickf rfl rfl rfl) ?_
      simp only [nz1, nz2, nz3]
      refine lvw 2 (.bool false) rfl rfl (run_as rfl rfl) ?_
      simp only [nz1, nz2, nz3]
      refine wpList_nil ?_
      refine then_n (hK34 _ _ ?_)
      refine wp_ret ?_
      have he45 : targets_m s = false := (show targets_m s = false from by unfold targets_m; rw [if_neg hs16, if_neg hs37] <;> rfl)
      exact ⟨rfl, .bool false, res_t rfl rfl, ⟨by rw [he45], hm36.below⟩⟩
    rw [(hs37 : awake_m = true)]
    refine lvw 18 (.bool true) rfl rfl (run_mv rfl rfl) ?_
    simp only [nz1, nz2, nz3]
    refine lvw 19 (.string (tx s)) rfl rfl (run_mv rfl rfl) ?_
    simp only [nz1, nz2, nz3]
    refine lst rfl (m_call hm36 20 (.bool ((target_m s))) rfl (run_target rfl rfl) (target_any s  _  (Laid.below hT hm36.below) ) (fun w38 (hm39 : Mm none (fun _ => True) w w38 [.see (Rs eS 1 ((parts_m s).1) v5) F7]) => ?_))
    simp only [nz1, nz2, nz3]
    refine lvB 21 (!(target_m s)) rfl rfl (r_not (target_m s) rfl rfl) (fun hs40 => ?_) (fun hs40 => ?_)
    · simp only [nz1, nz2, nz3]
      refine lvw 22 (.bool true) rfl rfl (run_mv rfl rfl) ?_
      simp only [nz1, nz2, nz3]
      refine lst_skip 23 rfl rfl ?_
      simp only [nz1, nz2, nz3]
      refine lst_skip 24 rfl rfl ?_
      simp only [nz1, nz2, nz3]
      refine lst_skip 25 rfl rfl ?_
      simp only [nz1, nz2, nz3]
      refine lst_skip 26 rfl rfl ?_
      simp only [nz1, nz2, nz3]
      refine lst_skip 27 rfl rfl ?_
      simp only [nz1, nz2, nz3]
      refine lst_skip 28 rfl rfl ?_
      simp only [nz1, nz2, nz3]
      refine lst_skip 29 rfl rfl ?_
      simp only [nz1, nz2, nz3]
      refine lvw 30 (.bool true) rfl rfl (run_pick rfl rfl rfl) ?_
      simp only [nz1, nz2, nz3]
      refine lvw 31 (.bool true) rfl rfl (run_pick rfl rfl rfl) ?_
      simp only [nz1, nz2, nz3]
      refine lvw 2 (.bool true) rfl rfl (run_as rfl rfl) ?_
      simp only [nz1, nz2, nz3]
      refine wpList_nil ?_
      refine then_n (hK34 _ _ ?_)
      refine wp_ret ?_
      have he41 : targets_m s = true := (show targets_m s = true from by unfold targets_m; rw [if_neg hs16, if_pos hs37, if_pos hs40] <;> rfl)
      exact ⟨rfl, .bool true, res_t rfl rfl, ⟨by rw [he41], hm39.below⟩⟩
    simp only [nz1, nz2, nz3]
    refine lvw 22 (.bool false) rfl rfl (run_mv rfl rfl) ?_
    simp only [nz1, nz2, nz3]
    refine lvw 23 (.string (tx s)) rfl rfl (run_mv rfl rfl) ?_
    simp only [nz1, nz2, nz3]
    refine lvb 24 (¬ s = []) rfl rfl (t_neq s ([]) rfl rfl rfl) (fun hs42 => ?_) (fun hs42 => ?_)
    · simp only [nz1, nz2, nz3]
      refine lvw 25 (.bool true) rfl rfl (run_mv rfl rfl) ?_
      simp only [nz1, nz2, nz3]
      refine lvw 26 (.string (tx s)) rfl rfl (run_mv rfl rfl) ?_
      simp only [nz1, nz2, nz3]
      refine lvw 27 (.int .i64 ((s.length : Nat) : Int)) rfl rfl (t_len rfl Tryd.underlying9 rfl) ?_
      simp only [nz1, nz2, nz3]
      refine lvw 28 (.bool (decide (s.length ≤ 200))) rfl rfl (r_leq s.length 200 rfl rfl rfl) ?_
      simp only [nz1, nz2, nz3]
      refine lvw 29 (.bool (decide (s.length ≤ 200))) rfl rfl (run_pick rfl rfl rfl) ?_
      simp only [nz1, nz2, nz3]
      refine lvw 30 (.bool (decide (s.length ≤ 200))) rfl rfl (run_pickf rfl rfl rfl) ?_
      simp only [nz1, nz2, nz3]
      refine lvw 31 (.bool (decide (s.length ≤ 200))) rfl rfl (run_pick rfl rfl rfl) ?_
      simp only [nz1, nz2, nz3]
      refine lvw 2 (.bool (decide (s.length ≤ 200))) rfl rfl (run_as rfl rfl) ?_
      simp only [nz1, nz2, nz3]
      refine wpList_nil ?_
      refine then_n (hK34 _ _ ?_)
      refine wp_ret ?_
      have he43 : targets_m s = (decide (s.length ≤ 200)) := (show targets_m s = (decide (s.length ≤ 200)) from by unfold targets_m; rw [if_neg hs16, if_pos hs37, if_neg hs40, if_pos hs42] <;> rfl)
      exact ⟨rfl, .bool (decide (s.length ≤ 200)), res_t rfl rfl, ⟨by rw [he43], hm39.below⟩⟩
    simp only [nz1, nz2, nz3]
    refine lvw 25 (.bool false) rfl rfl (run_mv rfl rfl) ?_
    simp only [nz1, nz2, nz3]
    refine lst_skip 26 rfl rfl ?_
    simp only [nz1, nz2, nz3]
    refine lst_skip 27 rfl rfl ?_
    simp only [nz1, nz2, nz3]
    refine lst_skip 28 rfl rfl ?_
    simp only [nz1, nz2, nz3]
    refine lvw 29 (.bool false) rfl rfl (run_pickf rfl rfl rfl) ?_
    simp only [nz1, nz2, nz3]
    refine lvw 30 (.bool false) rfl rfl (run_pickf rfl rfl rfl) ?_
    simp only [nz1, nz2, nz3]
    refine lvw 31 (.bool false) rfl rfl (run_pick rfl rfl rfl) ?_
    simp only [nz1, nz2, nz3]
    refine lvw 2 (.bool false) rfl rfl (run_as rfl rfl) ?_
    simp only [nz1, nz2, nz3]
    refine wpList_nil ?_
    refine then_n (hK34 _ _ ?_)
    refine wp_ret ?_
    have he44 : targets_m s = false := (show targets_m s = false from by unfold targets_m; rw [if_neg hs16, if_pos hs37, if_neg hs40, if_neg hs42] <;> rfl)
    exact ⟨rfl, .bool false, res_t rfl rfl, ⟨by rw [he44], hm39.below⟩⟩
  simp only [nz1, nz2, nz3]
  refine lvw 12 (.bool true) rfl rfl (run_mv rfl rfl) ?_
  simp only [nz1, nz2, nz3]
  refine lvw 13 (.string (tx s)) rfl rfl (run_mv rfl rfl) ?_
  simp only [nz1, nz2, nz3]
  refine lst rfl (m_call hm12 14 (.bool ((target_m s))) rfl (run_target rfl rfl) (target_any s  _  (Laid.below hT hm12.below) ) (fun w17 (hm18 : Mm none (fun _ => True) w w17 [.see (Rs eS 1 ((parts_m s).1) v5) F7]) => ?_))
  simp only [nz1, nz2, nz3]
  refine lvw 15 (.bool (!(target_m s))) rfl rfl (r_not (target_m s) rfl rfl) ?_
  simp only [nz1, nz2, nz3]
  refine lvw 16 (.bool (!(target_m s))) rfl rfl (run_pick rfl rfl rfl) ?_
  simp only [nz1, nz2, nz3]
  refine wpList_nil ?_
  refine then_n (hK15 _ _ ?_)
  refine cond_B (!(target_m s)) rfl (fun hc19 => ?_) (fun hc19 => ?_)
  · refine wp_seq_k (fun K20 hK20 => ?_)
    refine wp_region_lit ?_
    refine lvw 2 (.bool false) rfl rfl (run_as rfl rfl) ?_
    simp only [nz1, nz2, nz3]
    refine wpList_nil ?_
    refine then_n (hK20 _ _ ?_)
    refine wp_ret ?_
    refine then_r ?_
    have he21 : targets_m s = false := (show targets_m s = false from by unfold targets_m; rw [if_pos hs16, if_pos hc19] <;> rfl)
    exact ⟨rfl, .bool false, res_t rfl rfl, ⟨by rw [he21], hm18.below⟩⟩
  refine wp_skip ?_
  refine then_n (hK14 _ _ ?_)
  refine wp_seq_k (fun K22 hK22 => ?_)
  refine wp_region_lit ?_
  refine lst rfl (m_call hm18 17 (.bool (awake_m)) rfl (run_awake rfl) (awake_any   _  (Laid.below hT hm18.below) ) (fun w23 (hm24 : Mm none (fun _ => True) w w23 [.see (Rs eS 1 ((parts_m s).1) v5) F7]) => ?_))
  simp only [nz1, nz2, nz3]
  by_cases hs25 : awake_m = true
  rotate_left
  · rw [(Bool.eq_false_iff.2 hs25 : awake_m = false)]
    refine lvw 18 (.bool false) rfl rfl (run_mv rfl rfl) ?_
    simp only [nz1, nz2, nz3]
    refine lst_skip 19 rfl rfl ?_
    simp only [nz1, nz2, nz3]
    refine lst_skip 20 rfl rfl ?_
    simp only [nz1, nz2, nz3]
    refine lst_skip 21 rfl rfl ?_
    simp only [nz1, nz2, nz3]
    refine lst_skip 22 rfl rfl ?_
    simp only [nz1, nz2, nz3]
    refine lst_skip 23 rfl rfl ?_
    simp only [nz1, nz2, nz3]
    refine lst_skip 24 rfl rfl ?_
    simp only [nz1, nz2, nz3]
    refine lst_skip 25 rfl rfl ?_
    simp only [nz1, nz2, nz3]
    refine lst_skip 26 rfl rfl ?_
    simp only [nz1, nz2, nz3]
    refine lst_skip 27 rfl rfl ?_
    simp only [nz1, nz2, nz3]
    refine lst_skip 28 rfl rfl ?_
    simp only [nz1, nz2, nz3]
    refine lst_skip 29 rfl rfl ?_
    simp only [nz1, nz2, nz3]
    refine lst_skip 30 rfl rfl ?_
    simp only [nz1, nz2, nz3]
    refine lvw 31 (.bool false) rfl rfl (run_pickf rfl rfl rfl) ?_
    simp only [nz1, nz2, nz3]
    refine lvw 2 (.bool false) rfl rfl (run_as rfl rfl) ?_
    simp only [nz1, nz2, nz3]
    refine wpList_nil ?_
    refine then_n (hK22 _ _ ?_)
    refine wp_ret ?_
    have he33 : targets_m s = false := (show targets_m s = false from by unfold targets_m; rw [if_pos hs16, if_neg hc19, if_neg hs25] <;> rfl)
    exact ⟨rfl, .bool false, res_t rfl rfl, ⟨by rw [he33], hm24.below⟩⟩
  rw [(hs25 : awake_m = true)]
  refine lvw 18 (.bool true) rfl rfl (run_mv rfl rfl) ?_
  simp only [nz1, nz2, nz3]
  refine lvw 19 (.string (tx s)) rfl rfl (run_mv rfl rfl) ?_
  simp only [nz1, nz2, nz3]
  refine lst rfl (m_call hm24 20 (.bool ((target_m s))) rfl (run_target rfl rfl) (target_any s  _  (Laid.below hT hm24.below) ) (fun w26 (hm27 : Mm none (fun _ => True) w w26 [.see (Rs eS 1 ((parts_m s).1) v5) F7]) => ?_))
  simp only [nz1, nz2, nz3]
  refine lvB 21 (!(target_m s)) rfl rfl (r_not (target_m s) rfl rfl) (fun hs28 => ?_) (fun hs28 => ?_)
  · simp only [nz1, nz2, nz3]
    refine lvw 22 (.bool true) rfl rfl (run_mv rfl rfl) ?_
    simp only [nz1, nz2, nz3]
    refine lst_skip 23 rfl rfl ?_
    simp only [nz1, nz2, nz3]
    refine lst_skip 24 rfl rfl ?_
    simp only [nz1, nz2, nz3]
    refine lst_skip 25 rfl rfl ?_
    simp only [nz1, nz2, nz3]
    refine lst_skip 26 rfl rfl ?_
    simp only [nz1, nz2, nz3]
    refine lst_skip 27 rfl rfl ?_
    simp only [nz1, nz2, nz3]
    refine lst_skip 28 rfl rfl ?_
    simp only [nz1, nz2, nz3]
    refine lst_skip 29 rfl rfl ?_
    simp only [nz1, nz2, nz3]
    refine lvw 30 (.bool true) rfl rfl (run_pick rfl rfl rfl) ?_
    simp only [nz1, nz2, nz3]
    refine lvw 31 (.bool true) rfl rfl (run_pick rfl rfl rfl) ?_
    simp only [nz1, nz2, nz3]
    refine lvw 2 (.bool true) rfl rfl (run_as rfl rfl) ?_
    simp only [nz1, nz2, nz3]
    refine wpList_nil ?_
    refine then_n (hK22 _ _ ?_)
    refine wp_ret ?_
    have he29 : targets_m s = true := (show targets_m s = true from by unfold targets_m; rw [if_pos hs16, if_neg hc19, if_pos hs25, if_pos hs28] <;> rfl)
    exact ⟨rfl, .bool true, res_t rfl rfl, ⟨by rw [he29], hm27.below⟩⟩
  simp only [nz1, nz2, nz3]
  refine lvw 22 (.bool false) rfl rfl (run_mv rfl rfl) ?_
  simp only [nz1, nz2, nz3]
  refine lvw 23 (.string (tx s)) rfl rfl (run_mv rfl rfl) ?_
  simp only [nz1, nz2, nz3]
  refine lvb 24 (¬ s = []) rfl rfl (t_neq s ([]) rfl rfl rfl) (fun hs30 => ?_) (fun hs30 => ?_)
  · simp only [nz1, nz2, nz3]
    refine lvw 25 (.bool true) rfl rfl (run_mv rfl rfl) ?_
    simp only [nz1, nz2, nz3]
    refine lvw 26 (.string (tx s)) rfl rfl (run_mv rfl rfl) ?_
    simp only [nz1, nz2, nz3]
    refine lvw 27 (.int .i64 ((s.length : Nat) : Int)) rfl rfl (t_len rfl Tryd.underlying9 rfl) ?_
    simp only [nz1, nz2, nz3]
    refine lvw 28 (.bool (decide (s.length ≤ 200))) rfl rfl (r_leq s.length 200 rfl rfl rfl) ?_
    simp only [nz1, nz2, nz3]
    refine lvw 29 (.bool (decide (s.length ≤ 200))) rfl rfl (run_pick rfl rfl rfl) ?_
    simp only [nz1, nz2, nz3]
    refine lvw 30 (.bool (decide (s.length ≤ 200))) rfl rfl (run_pickf rfl rfl rfl) ?_
    simp only [nz1, nz2, nz3]
    refine lvw 31 (.bool (decide (s.length ≤ 200))) rfl rfl (run_pick rfl rfl rfl) ?_
    simp only [nz1, nz2, nz3]
    refine lvw 2 (.bool (decide (s.length ≤ 200))) rfl rfl (run_as rfl rfl) ?_
    simp only [nz1, nz2, nz3]
    refine wpList_nil ?_
    refine then_n (hK22 _ _ ?_)
    refine wp_ret ?_
    have he31 : targets_m s = (decide (s.length ≤ 200)) := (show targets_m s = (decide (s.length ≤ 200)) from by unfold targets_m; rw [if_pos hs16, if_neg hc19, if_pos hs25, if_neg hs28, if_pos hs30] <;> rfl)
    exact ⟨rfl, .bool (decide (s.length ≤ 200)), res_t rfl rfl, ⟨by rw [he31], hm27.below⟩⟩
  simp only [nz1, nz2, nz3]
  refine lvw 25 (.bool false) rfl rfl (run_mv rfl rfl) ?_
  simp only [nz1, nz2, nz3]
  refine lst_skip 26 rfl rfl ?_
  simp only [nz1, nz2, nz3]
  refine lst_skip 27 rfl rfl ?_
  simp only [nz1, nz2, nz3]
  refine lst_skip 28 rfl rfl ?_
  simp only [nz1, nz2, nz3]
  refine lvw 29 (.bool false) rfl rfl (run_pickf rfl rfl rfl) ?_
  simp only [nz1, nz2, nz3]
  refine lvw 30 (.bool false) rfl rfl (run_pickf rfl rfl rfl) ?_
  simp only [nz1, nz2, nz3]
  refine lvw 31 (.bool false) rfl rfl (run_pick rfl rfl rfl) ?_
  simp only [nz1, nz2, nz3]
  refine lvw 2 (.bool false) rfl rfl (run_as rfl rfl) ?_
  simp only [nz1, nz2, nz3]
  refine wpList_nil ?_
  refine then_n (hK22 _ _ ?_)
  refine wp_ret ?_
  have he32 : targets_m s = false := (show targets_m s = false from by unfold targets_m; rw [if_pos hs16, if_neg hc19, if_pos hs25, if_neg hs28, if_neg hs30] <;> rfl)
  exact ⟨rfl, .bool false, res_t rfl rfl, ⟨by rw [he32], hm27.below⟩⟩
theorem run_targets {o : Oper} {a : Act} {w : World} {x0 : Operand} {v0 : Value} (ho : o.op = .call { callee := .value (.func 8), args := #[x0], argTypes := #[9] }) (h0 : a.eval x0 = v0) :
    (execOp a.eval o).run Tryd.prog w = .ok (.enter 8 #[v0]) w := by
  unfold execOp
  simp only [ho]
  have hf : a.eval (.func 8) = .func (.func 8) #[] #[] := rfl
  generalize a.eval = f at *
  go_simp
end Go.Proofs.YtdohmmdfenafnaaDoor.Pa
