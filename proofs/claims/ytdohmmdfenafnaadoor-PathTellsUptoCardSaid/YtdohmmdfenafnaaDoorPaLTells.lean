/- Layer 7: PathTells. -/
import Derived.Test.YtdohmmdfenafnaaDoorPaF
namespace Go.Proofs.YtdohmmdfenafnaaDoor.Pa
open Go.RowKit
open Go.Proofs.YtdohmmdfenafnaaDoor.Sym Go.Proofs.YtdohmmdfenafnaaDoor.Mem
open Go.Proofs.YtdohmmdfenafnaaDoor.Sx hiding Mm m_alloc m_store m_put m_call m_callx m_make m_append r_string r_ixS
set_option linter.unusedVariables false
attribute [local irreducible] wpList Oper.wp

def tells_m (s : List UInt8) : Bool :=
  if awake_m = true then
    if ((part_m s) == (rpart_m s)) = true then
      if ((target_m s) == (rtarget_m s)) = true then
        if (same_m ((parts_m s).1) ((rparts_m s).1)) = true then
          if (parts_m s).2 = (rparts_m s).2 then
            if (parent_m s) = (rparent_m s) then
              if ((reserved_m s) == (rreserved_m s)) = true then
                (decide (own_m = rown_m))
              else
                false
            else
              false
          else
            false
        else
          false
      else
        false
    else
      false
  else
    false

set_option maxHeartbeats 4000000 in
set_option maxRecDepth 100000 in
theorem tells_any (s : List UInt8) (w : World)  (hT : Laid w) (hp0 : s.length < 4294967281) : Calls Tryd.prog 3 #[.string (tx s)] w (fun e w' => e = .returned (.bool ((tells_m s))) ∧ Below w.heap.size w w') := by
  go_enter Tryd.func3, Tryd.ntmps3
  have hm00 := Mm.nil none (fun _ => True) w
  have hm0 := hm00
  refine wp_seq_k (fun K1 hK1 => ?_)
  refine wp_region_lit ?_
  refine lvw 2 (.bool false) rfl rfl (run_as rfl rfl) ?_
  simp only [nz1, nz2, nz3]
  refine wpList_nil ?_
  refine then_n (hK1 _ _ ?_)
  refine wp_seq_k (fun K2 hK2 => ?_)
  refine wp_region_lit ?_
  refine lvw 8 (.string (tx s)) rfl rfl (run_mv rfl rfl) ?_
  simp only [nz1, nz2, nz3]
  refine lst rfl (m_callx hm0 9 rfl (run_parts rfl rfl) (parts_any s  (seeS []) _  (Laid.below hT hm0.below) ) (fun vv8 w3 hR9 hb10 hm4 => ?_))
  obtain ⟨v5, rfl, hg11⟩ := hR9
  obtain ⟨F7, hm12⟩ : ∃ F7, Mm none (fun _ => True) w w3 [.see (Rs eS 1 ((parts_m s).1) v5) F7] := Mm.tookS hm0 hb10 hg11
  clear hm4 hg11 hb10
  have hf13 : (parts_m s).1.length ≤ 201 ∧ (join_m (parts_m s).1 [47]).length ≤ s.length ∧ ((parts_m s).2 ≠ 0 ∨ (s.length ≤ 200 ∧ 1 ≤ s.length ∧ 1 ≤ (parts_m s).1.length ∧ (parts_m s).1.length ≤ 16)) := parts_facts s
  simp only [nz1, nz2, nz3]
  refine lvw 7 (.tuple #[v5, .int .i64 ((parts_m s).2)]) rfl rfl (run_mv rfl rfl) ?_
  simp only [nz1, nz2, nz3]
  refine lvw 10 (v5) rfl rfl (run_ex rfl rfl rfl) ?_
  simp only [nz1, nz2, nz3]
  refine lvw 11 (.int .i64 ((parts_m s).2)) rfl rfl (run_ex rfl rfl rfl) ?_
  simp only [nz1, nz2, nz3]
  refine lvw 3 (v5) rfl rfl (run_as rfl rfl) ?_
  simp only [nz1, nz2, nz3]
  refine lvw 4 (.int .i64 ((parts_m s).2)) rfl rfl (run_as rfl rfl) ?_
  simp only [nz1, nz2, nz3]
  refine wpList_nil ?_
  refine then_n (hK2 _ _ ?_)
  refine wp_seq_k (fun K14 hK14 => ?_)
  refine wp_region_lit ?_
  refine lvw 13 (.string (tx s)) rfl rfl (run_mv rfl rfl) ?_
  simp only [nz1, nz2, nz3]
  refine lst rfl (m_callx hm12 14 rfl (run_rparts rfl rfl) (rparts_any s  (seeS [.see (Rs eS 1 ((parts_m s).1) v5) F7]) _  ) (fun vv20 w15 hR21 hb22 hm16 => ?_))
  obtain ⟨v17, rfl, hg23⟩ := hR21
  obtain ⟨F19, hm24⟩ : ∃ F19, Mm none (fun _ => True) w w15 [.see (Rs eS 1 ((parts_m s).1) v5) F7, .see (Rs eS 1 ((rparts_m s).1) v17) F19] := Mm.tookS hm12 hb22 hg23
  clear hm16 hg23 hb22
  simp only [nz1, nz2, nz3]
  refine lvw 12 (.tuple #[v17, .int .i64 ((rparts_m s).2)]) rfl rfl (run_mv rfl rfl) ?_
  simp only [nz1, nz2, nz3]
  refine lvw 15 (v17) rfl rfl (run_ex rfl rfl rfl) ?_
  simp only [nz1, nz2, nz3]
  refine lvw 16 (.int .i64 ((rparts_m s).2)) rfl rfl (run_ex rfl rfl rfl) ?_
  simp only [nz1, nz2, nz3]
  refine lvw 5 (v17) rfl rfl (run_as rfl rfl) ?_
  simp only [nz1, nz2, nz3]
  refine lvw 6 (.int .i64 ((rparts_m s).2)) rfl rfl (run_as rfl rfl) ?_
  simp only [nz1, nz2, nz3]
  refine wpList_nil ?_
  refine then_n (hK14 _ _ ?_)
  refine wp_seq_k (fun K25 hK25 => ?_)
  refine wp_region_lit ?_
  refine lst rfl (m_call hm24 17 (.bool (awake_m)) rfl (run_awake rfl) (awake_any   _  (Laid.below hT hm24.below) ) (fun w26 (hm27 : Mm none (fun _ => True) w w26 [.see (Rs eS 1 ((parts_m s).1) v5) F7, .see (Rs eS 1 ((rparts_m s).1) v17) F19]) => ?_))
  simp only [nz1, nz2, nz3]
  by_cases hs28 : awake_m = true
  rotate_left
  · rw [(Bool.eq_false_iff.2 hs28 : awake_m = false)]
    refine lvw 18 (.bool false) rfl rfl (run_mv rfl rfl) ?_
    simp only [nz1, nz2, nz3]
    refine lst_skip 19 rfl rfl ?_
    simp only [nz1, nz2, nz3]
    refine lst_skip 20 rfl rfl ?_
    simp only [nz1, nz2, nz3]
    refine lst_skip 21 rfl rfl ?_
    simp only [nz1, nz2, nz3]
    refine lst_skip 22 rfl rfl ?_
    simp only [nz1, nz2, nz3]
    refine lst_skip 23 rfl rfl ?_
    simp only [nz1, nz2, nz3]
    refine lvw 24 (.bool false) rfl rfl (run_pickf rfl rfl rfl) ?_
    simp only [nz1, nz2, nz3]
    refine lvw 25 (.bool false) rfl rfl (run_mv rfl rfl) ?_
    simp only [nz1, nz2, nz3]
    refine lst_skip 26 rfl rfl ?_
    simp only [nz1, nz2, nz3]
    refine lst_skip 27 rfl rfl ?_
    simp only [nz1, nz2, nz3]
    refine lst_skip 28 rfl rfl ?_
    simp only [nz1, nz2, nz3]
    refine lst_skip 29 rfl rfl ?_
    simp only [nz1, nz2, nz3]
    refine lst_skip 30 rfl rfl ?_
    simp only [nz1, nz2, nz3]
    refine lvw 31 (.bool false) rfl rfl (run_pickf rfl rfl rfl) ?_
    simp only [nz1, nz2, nz3]
    refine lvw 32 (.bool false) rfl rfl (run_mv rfl rfl) ?_
    simp only [nz1, nz2, nz3]
    refine lst_skip 33 rfl rfl ?_
    simp only [nz1, nz2, nz3]
    refine lst_skip 34 rfl rfl ?_
    simp only [nz1, nz2, nz3]
    refine lst_skip 35 rfl rfl ?_
    simp only [nz1, nz2, nz3]
    refine lvw 36 (.bool false) rfl rfl (run_pickf rfl rfl rfl) ?_
    simp only [nz1, nz2, nz3]
    refine lvw 37 (.bool false) rfl rfl (run_mv rfl rfl) ?_
    simp only [nz1, nz2, nz3]
    refine lst_skip 38 rfl rfl ?_
    simp only [nz1, nz2, nz3]
    refine lst_skip 39 rfl rfl ?_
    simp only [nz1, nz2, nz3]
    refine lst_skip 40 rfl rfl ?_
    simp only [nz1, nz2, nz3]
    refine lvw 41 (.bool false) rfl rfl (run_pickf rfl rfl rfl) ?_
    simp only [nz1, nz2, nz3]
    refine lvw 42 (.bool false) rfl rfl (run_mv rfl rfl) ?_
    simp only [nz1, nz2, nz3]
    refine lst_skip 43 rfl rfl ?_
    simp only [nz1, nz2, nz3]
    refine lst_skip 44 rfl rfl ?_
    simp only [nz1, nz2, nz3]
    refine lst_skip 45 rfl rfl ?_
    simp only [nz1, nz2, nz3]
    refine lst_skip 46 rfl rfl ?_
    simp only [nz1, nz2, nz3]
    refine lst_skip 47 rfl rfl ?_
    simp only [nz1, nz2, nz3]
    refine lvw 48 (.bool false) rfl rfl (run_pickf rfl rfl rfl) ?_
    simp only [nz1, nz2, nz3]
    refine lvw 49 (.bool false) rfl rfl (run_mv rfl rfl) ?_
    simp only [nz1, nz2, nz3]
    refine lst_skip 50 rfl rfl ?_
    simp only [nz1, nz2, nz3]
    refine lst_skip 51 rfl rfl ?_
    simp only [nz1, nz2, nz3]
    refine lst_skip 52 rfl rfl ?_
    simp only [nz1, nz2, nz3]
    refine lst_skip 53 rfl rfl ?_
    simp only [nz1, nz2, nz3]
    refine lst_skip 54 rfl rfl ?_
    simp only [nz1, nz2, nz3]
    refine lvw 55 (.bool false) rfl rfl (run_pickf rfl rfl rfl) ?_
    simp only [nz1, nz2, nz3]
    refine lvw 56 (.bool false) rfl rfl (run_mv rfl rfl) ?_
    simp only [nz1, nz2, nz3]
    refine lst_skip 57 rfl rfl ?_
    simp only [nz1, nz2, nz3]
    refine lst_skip 58 rfl rfl ?_
    simp only [nz1, nz2, nz3]
    refine lst_skip 59 rfl rfl ?_
    simp only [nz1, nz2, nz3]
    refine lvw 60 (.bool false) rfl rfl (run_pickf rfl rfl rfl) ?_
    simp only [nz1, nz2, nz3]
    refine lvw 2 (.bool false) rfl rfl (run_as rfl rfl) ?_
    simp only [nz1, nz2, nz3]
    refine wpList_nil ?_
    refine then_n (hK25 _ _ ?_)
    refine wp_ret ?_
    have he65 : tells_m s = false := (show tells_m s = false from by unfold tells_m; rw [if_neg hs28] <;> rfl)
    exact ⟨rfl, .bool false, res_t rfl rfl, ⟨by rw [he65], hm27.below⟩⟩
  rw [(hs28 : awake_m = true)]
  refine lvw 18 (.bool true) rfl rfl (run_mv rfl rfl) ?_
  simp only [nz1, nz2, nz3]
  refine lvw 19 (.string (tx s)) rfl rfl (run_mv rfl rfl) ?_
  simp only [nz1, nz2, nz3]
  refine lst rfl (m_call hm27 20 (.bool ((part_m s))) rfl (run_part rfl rfl) (part_any s  _  (Laid.below hT hm27.below) ) (fun w29 (hm30 : Mm none (fun _ => True) w w29 [.see (Rs eS 1 ((parts_m s).1) v5) F7, .see (Rs eS 1 ((rparts_m s).1) v17) F19]) => ?_))
  simp only [nz1, nz2, nz3]
  refine lvw 21 (.string (tx s)) rfl rfl (run_mv rfl rfl) ?_
  simp only [nz1, nz2, nz3]
  refine lst rfl (m_call hm30 22 (.bool ((rpart_m s))) rfl (run_rpart rfl rfl) (rpart_any s  _  ) (fun w31 (hm32 : Mm none (fun _ => True) w w31 [.see (Rs eS 1 ((parts_m s).1) v5) F7, .see (Rs eS 1 ((rparts_m s).1) v17) F19]) => ?_))
  simp only [nz1, nz2, nz3]
  refine lvB 23 ((part_m s) == (rpart_m s)) rfl rfl (b_eql (part_m s) (rpart_m s) rfl rfl rfl) (fun hs33 => ?_) (fun hs33 => ?_)
  rotate_left
  · simp only [nz1, nz2, nz3]
    refine lvw 24 (.bool false) rfl rfl (run_pick rfl rfl rfl) ?_
    simp only [nz1, nz2, nz3]
    refine lvw 25 (.bool false) rfl rfl (run_mv rfl rfl) ?_
    simp only [nz1, nz2, nz3]
    refine lst_skip 26 rfl rfl ?_
    simp only [nz1, nz2, nz3]
    refine lst_skip 27 rfl rfl ?_
    simp only [nz1, nz2, nz3]
    refine lst_skip 28 rfl rfl ?_
    simp only [nz1, nz2, nz3]
    refine lst_skip 29 rfl rfl ?_
    simp only [nz1, nz2, nz3]
    refine lst_skip 30 rfl rfl ?_
    simp only [nz1, nz2, nz3]
    refine lvw 31 (.bool false) rfl rfl (run_pickf rfl rfl rfl) ?_
    simp only [nz1, nz2, nz3]
    refine lvw 32 (.bool false) rfl rfl (run_mv rfl rfl) ?_
    simp only [nz1, nz2, nz3]
    refine lst_skip 33 rfl rfl ?_
    simp only [nz1, nz2, nz3]
    refine lst_skip 34 rfl rfl ?_
    simp only [nz1, nz2, nz3]
    refine lst_skip 35 rfl rfl ?_
    simp only [nz1, nz2, nz3]
    refine lvw 36 (.bool false) rfl rfl (run_pickf rfl rfl rfl) ?_
    simp only [nz1, nz2, nz3]
    refine lvw 37 (.bool false) rfl rfl (run_mv rfl rfl) ?_
    simp only [nz1, nz2, nz3]
    refine lst_skip 38 rfl rfl ?_
    simp only [nz1, nz2, nz3]
    refine lst_skip 39 rfl rfl ?_
    simp only [nz1, nz2, nz3]
    refine lst_skip 40 rfl rfl ?_
    simp only [nz1, nz2, nz3]
    refine lvw 41 (.bool false) rfl rfl (run_pickf rfl rfl rfl) ?_
    simp only [nz1, nz2, nz3]
    refine lvw 42 (.bool false) rfl rfl (run_mv rfl rfl) ?_
    simp only [nz1, nz2, nz3]
    refine lst_skip 43 rfl rfl ?_
    simp only [nz1, nz2, nz3]
    refine lst_skip 44 rfl rfl ?_
    simp only [nz1, nz2, nz3]
    refine lst_skip 45 rfl rfl ?_
    simp only [nz1, nz2, nz3]
    refine lst_skip 46 rfl rfl ?_
    simp only [nz1, nz2, nz3]
    refine lst_skip 47 rfl rfl ?_
    simp only [nz1, nz2, nz3]
    refine lvw 48 (.bool false) rfl rfl (run_pickf rfl rfl rfl) ?_
    simp only [nz1, nz2, nz3]
    refine lvw 49 (.bool false) rfl rfl (run_mv rfl rfl) ?_
    simp only [nz1, nz2, nz3]
    refine lst_skip 50 rfl rfl ?_
    simp only [nz1, nz2, nz3]
    refine lst_skip 51 rfl rfl ?_
    simp only [nz1, nz2, nz3]
    refine lst_skip 52 rfl rfl ?_
    simp only [nz1, nz2, nz3]
    refine lst_skip 53 rfl rfl ?_
    simp only [nz1, nz2, nz3]
    refine lst_skip 54 rfl rfl ?_
    simp only [nz1, nz2, nz3]
    refine lvw 55 (.bool false) rfl rfl (run_pickf rfl rfl rfl) ?_
    simp only [nz1, nz2, nz3]
    refine lvw 56 (.bool false) rfl rfl (run_mv rfl rfl) ?_
    simp only [nz1, nz2, nz3]
    refine lst_skip 57 rfl rfl ?_
    simp only [nz1, nz2, nz3]
    refine lst_skip 58 rfl rfl ?_
    simp only [nz1, nz2, nz3]
    refine lst_skip 59 rfl rfl ?_
    simp only [nz1, nz2, nz3]
    refine lvw 60 (.bool false) rfl rfl (run_pickf rfl rfl rfl) ?_
    simp only [nz1, nz2, nz3]
    refine lvw 2 (.bool false) rfl rfl (run_as rfl rfl) ?_
    simp only [nz1, nz2, nz3]
    refine wpList_nil ?_
    refine then_n (hK25 _ _ ?_)
    refine wp_ret ?_
    have he64 : tells_m s = false := (show tells_m s = false from by unfold tells_m; rw [if_pos hs28, if_neg hs33] <;> rfl)
    exact ⟨rfl, .bool false, res_t rfl rfl, ⟨by rw [he64], hm32.below⟩⟩
  simp only [nz1, nz2, nz3]
  refine lvw 24 (.bool true) rfl rfl (run_pick rfl rfl rfl) ?_
  simp only [nz1, nz2, nz3]
  refine lvw 25 (.bool true) rfl rfl (run_mv rfl rfl) ?_
  simp only [nz1, nz2, nz3]
  refine lvw 26 (.string (tx s)) rfl rfl (run_mv rfl rfl) ?_
  simp only [nz1, nz2, nz3]
  refine lst rfl (m_call hm32 27 (.bool ((target_m s))) rfl (run_target rfl rfl) (target_any s  _  (Laid.below hT hm32.below) ) (fun w34 (hm35 : Mm none (fun _ => True) w w34 [.see (Rs eS 1 ((parts_m s).1) v5) F7, .see (Rs eS 1 ((rparts_m s).1) v17) F19]) => ?_))
  simp only [nz1, nz2, nz3]
  refine lvw 28 (.string (tx s)) rfl rfl (run_mv rfl rfl) ?_
  simp only [nz1, nz2, nz3]
  refine lst rfl (m_call hm35 29 (.bool ((rtarget_m s))) rfl (run_rtarget rfl rfl) (rtarget_any s  _  ) (fun w36 (hm37 : Mm none (fun _ => True) w w36 [.see (Rs eS 1 ((parts_m s).1) v5) F7, .see (Rs eS 1 ((rparts_m s).1) v17) F19]) => ?_))
  simp only [nz1, nz2, nz3]
  refine lvB 30 ((target_m s) == (rtarget_m s)) rfl rfl (b_eql (target_m s) (rtarget_m s) rfl rfl rfl) (fun hs38 => ?_) (fun hs38 => ?_)
  rotate_left
  · simp only [nz1, nz2, nz3]
    refine lvw 31 (.bool false) rfl rfl (run_pick rfl rfl rfl) ?_
    simp only [nz1, nz2, nz3]
    refine lvw 32 (.bool false) rfl rfl (run_mv rfl rfl) ?_
    simp only [nz1, nz2, nz3]
    refine lst_skip 33 rfl rfl ?_
    simp only [nz1, nz2, nz3]
    refine lst_skip 34 rfl rfl ?_
    simp only [nz1, nz2, nz3]
    refine lst_skip 35 rfl rfl ?_
    simp only [nz1, nz2, nz3]
    refine lvw 36 (.bool false) rfl rfl (run_pickf rfl rfl rfl) ?_
    simp only [nz1, nz2, nz3]
    refine lvw 37 (.bool false) rfl rfl (run_mv rfl rfl) ?_
    simp only [nz1, nz2, nz3]
    refine lst_skip 38 rfl rfl ?_
    simp only [nz1, nz2, nz3]
    refine lst_skip 39 rfl rfl ?_
    simp only [nz1, nz2, nz3]
    refine lst_skip 40 rfl rfl ?_
    simp only [nz1, nz2, nz3]
    refine lvw 41 (.bool false) rfl rfl (run_pickf rfl rfl rfl) ?_
    simp only [nz1, nz2, nz3]
    refine lvw 42 (.bool false) rfl rfl (run_mv rfl rfl) ?_
    simp only [nz1, nz2, nz3]
    refine lst_skip 43 rfl rfl ?_
    simp only [nz1, nz2, nz3]
    refine lst_skip 44 rfl rfl ?_
    simp only [nz1, nz2, nz3]
    refine lst_skip 45 rfl rfl ?_
    simp only [nz1, nz2, nz3]
    refine lst_skip 46 rfl rfl ?_
    simp only [nz1, nz2, nz3]
    refine lst_skip 47 rfl rfl ?_
    simp only [nz1, nz2, nz3]
    refine lvw 48 (.bool false) rfl rfl (run_pickf rfl rfl rfl) ?_
    simp only [nz1, nz2, nz3]
    refine lvw 49 (.bool false) rfl rfl (run_mv rfl rfl) ?_
    simp only [nz1, nz2, nz3]
    refine lst_skip 50 rfl rfl ?_
    simp only [nz1, nz2, nz3]
    refine lst_skip 51 rfl rfl ?_
    simp only [nz1, nz2, nz3]
    refine lst_skip 52 rfl rfl ?_
    simp only [nz1, nz2, nz3]
    refine lst_skip 53 rfl rfl ?_
    simp only [nz1, nz2, nz3]
    refine lst_skip 54 rfl rfl ?_
    simp only [nz1, nz2, nz3]
    refine lvw 55 (.bool false) rfl rfl (run_pickf rfl rfl rfl) ?_
    simp only [nz1, nz2, nz3]
    refine lvw 56 (.bool false) rfl rfl (run_mv rfl rfl) ?_
    simp only [nz1, nz2, nz3]
    refine lst_skip 57 rfl rfl ?_
    simp only [nz1, nz2, nz3]
    refine lst_skip 58 rfl rfl ?_
    simp only [nz1, nz2, nz3]
    refine lst_skip 59 rfl rfl ?_
    simp only [nz1, nz2, nz3]
    refine lvw 60 (.bool false) rfl rfl (run_pickf rfl rfl rfl) ?_
    simp only [nz1, nz2, nz3]
    refine lvw 2 (.bool false) rfl rfl (run_as rfl rfl) ?_
    simp only [nz1, nz2, nz3]
    refine wpList_nil ?_
    refine then_n (hK25 _ _ ?_)
    refine wp_ret ?_
    have he63 : tells_m s = false := (show tells_m s = false from by unfold tells_m; rw [if_pos hs28, if_pos hs33, if_neg hs38] <;> rfl)
    exact ⟨rfl, .bool false, res_t rfl rfl, ⟨by rw [he63], hm37.below⟩⟩
  simp only [nz1, nz2, nz3]
  refine lvw 31 (.bool true) rfl rfl (run_pick rfl rfl rfl) ?_
  simp only [nz1, nz2, nz3]
  refine lvw 32 (.bool true) rfl rfl (run_mv rfl rfl) ?_
  simp only [nz1, nz2, nz3]
  refine lvw 33 (v5) rfl rfl (run_mv rfl rfl) ?_
  simp only [nz1, nz2, nz3]
  refine lvw 34 (v17) rfl rfl (run_mv rfl rfl) ?_
  simp only [nz1, nz2, nz3]
  refine lst rfl (m_call hm37 35 (.bool ((same_m ((parts_m s).1) ((rparts_m s).1)))) rfl (run_same rfl rfl rfl) (same_any ((parts_m s).1) ((rparts_m s).1) v5 v17 _ (hm37.see 0 rfl) (hm37.see 1 rfl) (by first | omega | assumption | decide | (simp; done) | (simp; omega))) (fun w39 (hm40 : Mm none (fun _ => True) w w39 [.see (Rs eS 1 ((parts_m s).1) v5) F7, .see (Rs eS 1 ((rparts_m s).1) v17) F19]) => ?_))
  simp only [nz1, nz2, nz3]
  by_cases hs41 : (same_m ((parts_m s).1) ((rparts_m s).1)) = true
  rotate_left
  · rw [(Bool.eq_false_iff.2 hs41 : (same_m ((parts_m s).1) ((rparts_m s).1)) = false)]
    refine lvw 36 (.bool false) rfl rfl (run_pick rfl rfl rfl) ?_
    simp only [nz1, nz2, nz3]
    refine lvw 37 (.bool false) rfl rfl (run_mv rfl rfl) ?_
    simp only [nz1, nz2, nz3]
    refine lst_skip 38 rfl rfl ?_
    simp only [nz1, nz2, nz3]
    refine lst_skip 39 rfl rfl ?_
    simp only [nz1, nz2, nz3]
    refine lst_skip 40 rfl rfl ?_
    simp only [nz1, nz2, nz3]
    refine lvw 41 (.bool false) rfl rfl (run_pickf rfl rfl rfl) ?_
    simp only [nz1, nz2, nz3]
    refine lvw 42 (.bool false) rfl rfl (run_mv rfl rfl) ?_
    simp only [nz1, nz2, nz3]
    refine lst_skip 43 rfl rfl ?_
    simp only [nz1, nz2, nz3]
    refine lst_skip 44 rfl rfl ?_
    simp only [nz1, nz2, nz3]
    refine lst_skip 45 rfl rfl ?_
    simp only [nz1, nz2, nz3]
    refine lst_skip 46 rfl rfl ?_
    simp only [nz1, nz2, nz3]
    refine lst_skip 47 rfl rfl ?_
    simp only [nz1, nz2, nz3]
    refine lvw 48 (.bool false) rfl rfl (run_pickf rfl rfl rfl) ?_
    simp only [nz1, nz2, nz3]
    refine lvw 49 (.bool false) rfl rfl (run_mv rfl rfl) ?_
    simp only [nz1, nz2, nz3]
    refine lst_skip 50 rfl rfl ?_
    simp only [nz1, nz2, nz3]
    refine lst_skip 51 rfl rfl ?_
    simp only [nz1, nz2, nz3]
    refine lst_skip 52 rfl rfl ?_
    simp only [nz1, nz2, nz3]
    refine lst_skip 53 rfl rfl ?_
    simp only [nz1, nz2, nz3]
    refine lst_skip 54 rfl rfl ?_
    simp only [nz1, nz2, nz3]
    refine lvw 55 (.bool false) rfl rfl (run_pickf rfl rfl rfl) ?_
    simp only [nz1, nz2, nz3]
    refine lvw 56 (.bool false) rfl rfl (run_mv rfl rfl) ?_
    simp only [nz1, nz2, nz3]
    refine lst_skip 57 rfl rfl ?_
    simp only [nz1, nz2, nz3]
    refine lst_skip 58 rfl rfl ?_
    simp only [nz1, nz2, nz3]
    refine lst_skip 59 rfl rfl ?_
    simp only [nz1, nz2, nz3]
    refine lvw 60 (.bool false) rfl rfl (run_pickf rfl rfl rfl) ?_
    simp only [nz1, nz2, nz3]
    refine lvw 2 (.bool false) rfl rfl (run_as rfl rfl) ?_
    simp only [nz1, nz2, nz3]
    refine wpList_nil ?_
    refine then_n (hK25 _ _ ?_)
    refine wp_ret ?_
    have he62 : tells_m s = false := (show tells_m s = false from by unfold tells_m; rw [if_pos hs28, if_pos hs33, if_pos hs38, if_neg hs41] <;> rfl)
    exact ⟨rfl, .bool false, res_t rfl rfl, ⟨by rw [he62], hm40.below⟩⟩
  rw [(hs41 : (same_m ((parts_m s).1) ((rparts_m s).1)) = true)]
  refine lvw 36 (.bool true) rfl rfl (run_pick rfl rfl rfl) ?_
  simp only [nz1, nz2, nz3]
  refine lvw 37 (.bool true) rfl rfl (run_mv rfl rfl) ?_
  simp only [nz1, nz2, nz3]
  refine lvw 38 (.int .i64 ((parts_m s).2)) rfl rfl (run_mv rfl rfl) ?_
  simp only [nz1, nz2, nz3]
  refine lvw 39 (.int .i64 ((rparts_m s).2)) rfl rfl (run_mv rfl rfl) ?_
  simp only [nz1, nz2, nz3]
  refine lvb 40 ((parts_m s).2 = (rparts_m s).2) rfl rfl (z_eql ((parts_m s).2) ((rparts_m s).2) rfl rfl rfl) (fun hs42 => ?_) (fun hs42 => ?_)
  rotate_left
  · simp only [nz1, nz2, nz3]
    refine lvw 41 (.bool false) rfl rfl (run_pick rfl rfl rfl) ?_
    simp only [nz1, nz2, nz3]
    refine lvw 42 (.bool false) rfl rfl (run_mv rfl rfl) ?_
    simp only [nz1, nz2, nz3]
    refine lst_skip 43 rfl rfl ?_
    simp only [nz1, nz2, nz3]
    refine lst_skip 44 rfl rfl ?_
    simp only [nz1, nz2, nz3]
    refine lst_skip 45 rfl rfl ?_
    simp only [nz1, nz2, nz3]
    refine lst_skip 46 rfl rfl ?_
    simp only [nz1, nz2, nz3]
    refine lst_skip 47 rfl rfl ?_
    simp only [nz1, nz2, nz3]
    refine lvw 48 (.bool false) rfl rfl (run_pickf rfl rfl rfl) ?_
    simp only [nz1, nz2, nz3]
    refine lvw 49 (.bool false) rfl rfl (run_mv rfl rfl) ?_
    simp only [nz1, nz2, nz3]
    refine lst_skip 50 rfl rfl ?_
    simp only [nz1, nz2, nz3]
    refine lst_skip 51 rfl rfl ?_
    simp only [nz1, nz2, nz3]
    refine lst_skip 52 rfl rfl ?_
    simp only [nz1, nz2, nz3]
    refine lst_skip 53 rfl rfl ?_
    simp only [nz1, nz2, nz3]
    refine lst_skip 54 rfl rfl ?_
    simp only [nz1, nz2, nz3]
    refine lvw 55 (.bool false) rfl rfl (run_pickf rfl rfl rfl) ?_
    simp only [nz1, nz2, nz3]
    refine lvw 56 (.bool false) rfl rfl (run_mv rfl rfl) ?_
    simp only [nz1, nz2, nz3]
    refine lst_skip 57 rfl rfl ?_
    simp only [nz1, nz2, nz3]
    refine lst_skip 58 rfl rfl ?_
    simp only [nz1, nz2, nz3]
    refine lst_skip 59 rfl rfl ?_
    simp only [nz1, nz2, nz3]
    refine lvw 60 (.bool false) rfl rfl (run_pickf rfl rfl rfl) ?_
    simp only [nz1, nz2, nz3]
    refine lvw 2 (.bool false) rfl rfl (run_as rfl rfl) ?_
    simp only [nz1, nz2, nz3]
    refine wpList_nil ?_
    refine then_n (hK25 _ _ ?_)
    refine wp_ret ?_
    have he61 : tells_m s = false := (show tells_m s = false from by unfold tells_m; rw [if_pos hs28, if_pos hs33, if_pos hs38, if_pos hs41, if_neg hs42] <;> rfl)
    exact ⟨rfl, .bool false, res_t rfl rfl, ⟨by rw [he61], hm40.below⟩⟩
  simp only [nz1, nz2, nz3]
  refine lvw 41 (.bool true) rfl rfl (run_pick rfl rfl rfl) ?_
  simp only [nz1, nz2, nz3]
  refine lvw 42 (.bool true) rfl rfl (run_mv rfl rfl) ?_
  simp only [nz1, nz2, nz3]
  refine lvw 43 (.string (tx s)) rfl rfl (run_mv rfl rfl) ?_
  simp only [nz1, nz2, nz3]
  refine lst rfl (m_call hm40 44 (.string (tx (parent_m s))) rfl (run_parent rfl rfl) (parent_any s  _  (by first | omega | assumption | decide | (simp; done) | (simp; omega))) (fun w43 (hm44 : Mm none (fun _ => True) w w43 [.see (Rs eS 1 ((parts_m s).1) v5) F7, .see (Rs eS 1 ((rparts_m s).1) v17) F19]) => ?_))
  have hf45 : (parent_m s).length ≤ s.length := parent_len s
  simp only [nz1, nz2, nz3]
  refine lvw 45 (.string (tx s)) rfl rfl (run_mv rfl rfl) ?_
  simp only [nz1, nz2, nz3]
  refine lst rfl (m_call hm44 46 (.string (tx (rparent_m s))) rfl (run_rparent rfl rfl) (rparent_any s  _  (by first | omega | assumption | decide | (simp; done) | (simp; omega))) (fun w46 (hm47 : Mm none (fun _ => True) w w46 [.see (Rs eS 1 ((parts_m s).1) v5) F7, .see (Rs eS 1 ((rparts_m s).1) v17) F19]) => ?_))
  simp only [nz1, nz2, nz3]
  refine lvb 47 ((parent_m s) = (rparent_m s)) rfl rfl (t_eql (parent_m s) (rparent_m s) rfl rfl rfl) (fun hs48 => ?_) (fun hs48 => ?_)
  rotate_left
  · simp only [nz1, nz2, nz3]
    refine lvw 48 (.bool false) rfl rfl (run_pick rfl rfl rfl) ?_
    simp only [nz1, nz2, nz3]
    refine lvw 49 (.bool false) rfl rfl (run_mv rfl rfl) ?_
    simp only [nz1, nz2, nz3]
    refine lst_skip 50 rfl rfl ?_
    simp only [nz1, nz2, nz3]
    refine lst_skip 51 rfl rfl ?_
    simp only [nz1, nz2, nz3]
    refine lst_skip 52 rfl rfl ?_
    simp only [nz1, nz2, nz3]
    refine lst_skip 53 rfl rfl ?_
    simp only [nz1, nz2, nz3]
    refine lst_skip 54 rfl rfl ?_
    simp only [nz1, nz2, nz3]
    refine lvw 55 (.bool false) rfl rfl (run_pickf rfl rfl rfl) ?_
    simp only [nz1, nz2, nz3]
    refine lvw 56 (.bool false) rfl rfl (run_mv rfl rfl) ?_
    simp only [nz1, nz2, nz3]
    refine lst_skip 57 rfl rfl ?_
    simp only [nz1, nz2, nz3]
    refine lst_skip 58 rfl rfl ?_
    simp only [nz1, nz2, nz3]
    refine lst_skip 59 rfl rfl ?_
    simp only [nz1, nz2, nz3]
    refine lvw 60 (.bool false) rfl rfl (run_pickf rfl rfl rfl) ?_
    simp only [nz1, nz2, nz3]
    refine lvw 2 (.bool false) rfl rfl (run_as rfl rfl) ?_
    simp only [nz1, nz2, nz3]
    refine wpList_nil ?_
    refine then_n (hK25 _ _ ?_)
    refine wp_ret ?_
    have he60 : tells_m s = false := (show tells_m s = false from by unfold tells_m; rw [if_pos hs28, if_pos hs33, if_pos hs38, if_pos hs41, if_pos hs42, if_neg hs48] <;> rfl)
    exact ⟨rfl, .bool false, res_t rfl rfl, ⟨by rw [he60], hm47.below⟩⟩
  simp only [nz1, nz2, nz3]
  refine lvw 48 (.bool true) rfl rfl (run_pick rfl rfl rfl) ?_
  simp only [nz1, nz2, nz3]
  refine lvw 49 (.bool true) rfl rfl (run_mv rfl rfl) ?_
  simp only [nz1, nz2, nz3]
  refine lvw 50 (.string (tx s)) rfl rfl (run_mv rfl rfl) ?_
  simp only [nz1, nz2, nz3]
  refine lst rfl (m_call hm47 51 (.bool ((reserved_m s))) rfl (run_reserved rfl rfl) (reserved_any s  _  (Laid.below hT hm47.below) (by first | omega | assumption | decide | (simp; done) | (simp; omega))) (fun w49 (hm50 : Mm none (fun _ => True) w w49 [.see (Rs eS 1 ((parts_m s).1) v5) F7, .see (Rs eS 1 ((rparts_m s).1) v17) F19]) => ?_))
  simp only [nz1, nz2, nz3]
  refine lvw 52 (.string (tx s)) rfl rfl (run_mv rfl rfl) ?_
  simp only [nz1, nz2, nz3]
  refine lst rfl (m_call hm50 53 (.bool ((rreserved_m s))) rfl (run_rreserved rfl rfl) (rreserved_any s  _  (by first | omega | assumption | decide | (simp; done) | (simp; omega))) (fun w51 (hm52 : Mm none (fun _ => True) w w51 [.see (Rs eS 1 ((parts_m s).1) v5) F7, .see (Rs eS 1 ((rparts_m s).1) v17) F19]) => ?_))
  simp only [nz1, nz2, nz3]
  refine lvB 54 ((reserved_m s) == (rreserved_m s)) rfl rfl (b_eql (reserved_m s) (rreserved_m s) rfl rfl rfl) (fun hs53 => ?_) (fun hs53 => ?_)
  · simp only [nz1, nz2, nz3]
    refine lvw 55 (.bool true) rfl rfl (run_pick rfl rfl rfl) ?_
    simp only [nz1, nz2, nz3]
    refine lvw 56 (.bool true) rfl rfl (run_mv rfl rfl) ?_
    simp only [nz1, nz2, nz3]
    refine lst rfl (m_call hm52 57 (.string (tx own_m)) rfl (run_own rfl) (own_any   _  ) (fun w54 (hm55 : Mm none (fun _ => True) w w54 [.see (Rs eS 1 ((parts_m s).1) v5) F7, .see (Rs eS 1 ((rparts_m s).1) v17) F19]) => ?_))
    simp only [nz1, nz2, nz3]
    refine lst rfl (m_call hm55 58 (.string (tx rown_m)) rfl (run_rown rfl) (rown_any   _  ) (fun w56 (hm57 : Mm none (fun _ => True) w w56 [.see (Rs eS 1 ((parts_m s).1) v5) F7, .see (Rs eS 1 ((rparts_m s).1) v17) F19]) => ?_))
    simp only [nz1, nz2, nz3]
    refine lvw 59 (.bool (decide (own_m = rown_m))) rfl rfl (t_eql own_m rown_m rfl rfl rfl) ?_
    simp only [nz1, nz2, nz3]
    refine lvw 60 (.bool (decide (own_m = rown_m))) rfl rfl (run_pick rfl rfl rfl) ?_
    simp only [nz1, nz2, nz3]
    refine lvw 2 (.bool (decide (own_m = rown_m))) rfl rfl (run_as rfl rfl) ?_
    simp only [nz1, nz2, nz3]
    refine wpList_nil ?_
    refine then_n (hK25 _ _ ?_)
    refine wp_ret ?_
    have he58 : tells_m s = (decide (own_m = rown_m)) := (show tells_m s = (decide (own_m = rown_m)) from by unfold tells_m; rw [if_pos hs28, if_pos hs33, if_pos hs38, if_pos hs41, if_pos hs42, if_pos hs48, if_pos hs53] <;> rfl)
    exact ⟨rfl, .bool (decide (own_m = rown_m)), res_t rfl rfl, ⟨by rw [he58], hm57.below⟩⟩
  simp only [nz1, nz2, nz3]
  refine lvw 55 (.bool false) rfl rfl (run_pick rfl rfl rfl) ?_
  simp only [nz1, nz2, nz3]
  refine lvw 56 (.bool false) rfl rfl (run_mv rfl rfl) ?_
  simp only [nz1, nz2, nz3]
  refine lst_skip 57 rfl rfl ?_
  simp only [nz1, nz2, nz3]
  refine lst_skip 58 rfl rfl ?_
  simp only [nz1, nz2, nz3]
  refine lst_skip 59 rfl rfl ?_
  simp only [nz1, nz2, nz3]
  refine lvw 60 (.bool false) rfl rfl (run_pickf rfl rfl rfl) ?_
  simp only [nz1, nz2, nz3]
  refine lvw 2 (.bool false) rfl rfl (run_as rfl rfl) ?_
  simp only [nz1, nz2, nz3]
  refine wpList_nil ?_
  refine then_n (hK25 _ _ ?_)
  refine wp_ret ?_
  have he59 : tells_m s = false := (show tells_m s = false from by unfold tells_m; rw [if_pos hs28, if_pos hs33, if_pos hs38, if_pos hs41, if_pos hs42, if_pos hs48, if_neg hs53] <;> rfl)
  exact ⟨rfl, .bool false, res_t rfl rfl, ⟨by rw [he59], hm52.below⟩⟩
theorem run_tells {o : Oper} {a : Act} {w : World} {x0 : Operand} {v0 : Value} (ho : o.op = .call { callee := .value (.func 3), args := #[x0], argTypes := #[9] }) (h0 : a.eval x0 = v0) :
    (execOp a.eval o).run Tryd.prog w = .ok (.enter 3 #[v0]) w := by
  unfold execOp
  simp only [ho]
  have hf : a.eval (.func 3) = .func (.func 3) #[] #[] := rfl
  generalize a.eval = f at *
  go_simp
end Go.Proofs.YtdohmmdfenafnaaDoor.Pa
