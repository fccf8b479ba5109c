/- Layer 7: PathUnder. -/
import Derived.Test.YtdohmmdfenafnaaDoorPaF
namespace Go.Proofs.YtdohmmdfenafnaaDoor.Pa
open Go.RowKit
open Go.Proofs.YtdohmmdfenafnaaDoor.Sym Go.Proofs.YtdohmmdfenafnaaDoor.Mem
open Go.Proofs.YtdohmmdfenafnaaDoor.Sx hiding Mm m_alloc m_store m_put m_call m_callx m_make m_append r_string r_ixS
set_option linter.unusedVariables false
attribute [local irreducible] wpList Oper.wp

def under_m (s : List UInt8) (part : List UInt8) : Bool :=
  if ¬ (parts_m s).2 = 0 then
    awake_m
  else
    if (!(part_m part)) = true then
      awake_m
    else
      if ((parts_m s).1).length = 16 then
        if awake_m = true then
          if (parts_m ((s ++ [47]) ++ part)).2 = 3 then
            (decide (((parts_m ((s ++ [47]) ++ part)).1).length = 0))
          else
            false
        else
          false
      else
        if 200 < ((s.length + 1) + part.length) then
          if awake_m = true then
            if (parts_m ((s ++ [47]) ++ part)).2 = 3 then
              (decide (((parts_m ((s ++ [47]) ++ part)).1).length = 0))
            else
              false
          else
            false
        else
          if awake_m = true then
            if (parts_m ((s ++ [47]) ++ part)).2 = 0 then
              if ((parts_m ((s ++ [47]) ++ part)).1).length = ((((parts_m s).1).length) + 1) then
                if (((parts_m ((s ++ [47]) ++ part)).1).getD (((parts_m s).1).length) []) = part then
                  (decide ((parent_m ((s ++ [47]) ++ part)) = s))
                else
                  false
              else
                false
            else
              false
          else
            false

set_option maxHeartbeats 4000000 in
set_option maxRecDepth 100000 in
theorem under_any (s : List UInt8) (part : List UInt8) (w : World)  (hT : Laid w) (hp0 : s.length ≤ 140737488351232) (hp1 : part.length ≤ 140737488351232) : Calls Tryd.prog 9 #[.string (tx s), .string (tx part)] w (fun e w' => e = .returned (.bool ((under_m s part))) ∧ Below w.heap.size w w') := by
  go_enter Tryd.func9, Tryd.ntmps9
  have hm00 := Mm.nil none (fun _ => True) w
  have hm0 := hm00
  refine wp_seq_k (fun K1 hK1 => ?_)
  refine wp_region_lit ?_
  refine lvw 4 (.bool false) rfl rfl (run_as rfl rfl) ?_
  simp only [nz1, nz2, nz3]
  refine wpList_nil ?_
  refine then_n (hK1 _ _ ?_)
  refine wp_seq_k (fun K2 hK2 => ?_)
  refine wp_region_lit ?_
  refine lvw 10 (.string (tx s)) rfl rfl (run_mv rfl rfl) ?_
  simp only [nz1, nz2, nz3]
  refine lst rfl (m_callx hm0 11 rfl (run_parts rfl rfl) (parts_any s  (seeS []) _  (Laid.below hT hm0.below) ) (fun vv8 w3 hR9 hb10 hm4 => ?_))
  obtain ⟨v5, rfl, hg11⟩ := hR9
  obtain ⟨F7, hm12⟩ : ∃ F7, Mm none (fun _ => True) w w3 [.see (Rs eS 1 ((parts_m s).1) v5) F7] := Mm.tookS hm0 hb10 hg11
  clear hm4 hg11 hb10
  have hf13 : (parts_m s).1.length ≤ 201 ∧ (join_m (parts_m s).1 [47]).length ≤ s.length ∧ ((parts_m s).2 ≠ 0 ∨ (s.length ≤ 200 ∧ 1 ≤ s.length ∧ 1 ≤ (parts_m s).1.length ∧ (parts_m s).1.length ≤ 16)) := parts_facts s
  simp only [nz1, nz2, nz3]
  refine lvw 9 (.tuple #[v5, .int .i64 ((parts_m s).2)]) rfl rfl (run_mv rfl rfl) ?_
  simp only [nz1, nz2, nz3]
  refine lvw 12 (v5) rfl rfl (run_ex rfl rfl rfl) ?_
  simp only [nz1, nz2, nz3]
  refine lvw 13 (.int .i64 ((parts_m s).2)) rfl rfl (run_ex rfl rfl rfl) ?_
  simp only [nz1, nz2, nz3]
  refine lvw 5 (v5) rfl rfl (run_as rfl rfl) ?_
  simp only [nz1, nz2, nz3]
  refine lvw 6 (.int .i64 ((parts_m s).2)) rfl rfl (run_as rfl rfl) ?_
  simp only [nz1, nz2, nz3]
  refine wpList_nil ?_
  refine then_n (hK2 _ _ ?_)
  refine wp_seq_k (fun K14 hK14 => ?_)
  refine wp_seq_k (fun K15 hK15 => ?_)
  refine wp_region_lit ?_
  refine lvw 14 (.int .i64 ((parts_m s).2)) rfl rfl (run_mv rfl rfl) ?_
  simp only [nz1, nz2, nz3]
  refine lvb 15 (¬ (parts_m s).2 = 0) rfl rfl (z_neq ((parts_m s).2) 0 rfl rfl rfl) (fun hs16 => ?_) (fun hs16 => ?_)
  · simp only [nz1, nz2, nz3]
    refine lvw 16 (.bool true) rfl rfl (run_mv rfl rfl) ?_
    simp only [nz1, nz2, nz3]
    refine lst_skip 17 rfl rfl ?_
    simp only [nz1, nz2, nz3]
    refine lst_skip 18 rfl rfl ?_
    simp only [nz1, nz2, nz3]
    refine lst_skip 19 rfl rfl ?_
    simp only [nz1, nz2, nz3]
    refine lvw 20 (.bool true) rfl rfl (run_pick rfl rfl rfl) ?_
    simp only [nz1, nz2, nz3]
    refine wpList_nil ?_
    refine then_n (hK15 _ _ ?_)
    refine cond_t rfl ?_
    refine wp_seq_k (fun K17 hK17 => ?_)
    refine wp_region_lit ?_
    refine lst rfl (m_call hm12 21 (.bool (awake_m)) rfl (run_awake rfl) (awake_any   _  (Laid.below hT hm12.below) ) (fun w18 (hm19 : Mm none (fun _ => True) w w18 [.see (Rs eS 1 ((parts_m s).1) v5) F7]) => ?_))
    simp only [nz1, nz2, nz3]
    refine lvw 4 (.bool (awake_m)) rfl rfl (run_as rfl rfl) ?_
    simp only [nz1, nz2, nz3]
    refine wpList_nil ?_
    refine then_n (hK17 _ _ ?_)
    refine wp_ret ?_
    refine then_r ?_
    have he20 : under_m s part = awake_m := (show under_m s part = awake_m from by unfold under_m; rw [if_pos hs16] <;> rfl)
    exact ⟨rfl, .bool (awake_m), res_t rfl rfl, ⟨by rw [he20], hm19.below⟩⟩
  simp only [nz1, nz2, nz3]
  refine lvw 16 (.bool false) rfl rfl (run_mv rfl rfl) ?_
  simp only [nz1, nz2, nz3]
  refine lvw 17 (.string (tx part)) rfl rfl (run_mv rfl rfl) ?_
  simp only [nz1, nz2, nz3]
  refine lst rfl (m_call hm12 18 (.bool ((part_m part))) rfl (run_part rfl rfl) (part_any part  _  (Laid.below hT hm12.below) ) (fun w21 (hm22 : Mm none (fun _ => True) w w21 [.see (Rs eS 1 ((parts_m s).1) v5) F7]) => ?_))
  simp only [nz1, nz2, nz3]
  refine lvw 19 (.bool (!(part_m part))) rfl rfl (r_not (part_m part) rfl rfl) ?_
  simp only [nz1, nz2, nz3]
  refine lvw 20 (.bool (!(part_m part))) rfl rfl (run_pickf rfl rfl rfl) ?_
  simp only [nz1, nz2, nz3]
  refine wpList_nil ?_
  refine then_n (hK15 _ _ ?_)
  refine cond_B (!(part_m part)) rfl (fun hc23 => ?_) (fun hc23 => ?_)
  · refine wp_seq_k (fun K24 hK24 => ?_)
    refine wp_region_lit ?_
    refine lst rfl (m_call hm22 21 (.bool (awake_m)) rfl (run_awake rfl) (awake_any   _  (Laid.below hT hm22.below) ) (fun w25 (hm26 : Mm none (fun _ => True) w w25 [.see (Rs eS 1 ((parts_m s).1) v5) F7]) => ?_))
    simp only [nz1, nz2, nz3]
    refine lvw 4 (.bool (awake_m)) rfl rfl (run_as rfl rfl) ?_
    simp only [nz1, nz2, nz3]
    refine wpList_nil ?_
    refine then_n (hK24 _ _ ?_)
    refine wp_ret ?_
    refine then_r ?_
    have he27 : under_m s part = awake_m := (show under_m s part = awake_m from by unfold under_m; rw [if_neg hs16, if_pos hc23] <;> rfl)
    exact ⟨rfl, .bool (awake_m), res_t rfl rfl, ⟨by rw [he27], hm26.below⟩⟩
  refine wp_skip ?_
  refine then_n (hK14 _ _ ?_)
  refine wp_seq_k (fun K28 hK28 => ?_)
  refine wp_region_lit ?_
  refine lvw 23 (.string (tx s)) rfl rfl (run_mv rfl rfl) ?_
  simp only [nz1, nz2, nz3]
  refine lvw 24 (.string (tx (s ++ [47]))) rfl rfl (t_cat s ([47]) (by first | omega | (simp; omega)) rfl rfl rfl) ?_
  simp only [nz1, nz2, nz3]
  refine lvw 25 (.string (tx part)) rfl rfl (run_mv rfl rfl) ?_
  simp only [nz1, nz2, nz3]
  refine lvw 26 (.string (tx ((s ++ [47]) ++ part))) rfl rfl (t_cat (s ++ [47]) part (by first | omega | (simp; omega)) rfl rfl rfl) ?_
  simp only [nz1, nz2, nz3]
  refine lst rfl (m_callx hm22 27 rfl (run_parts rfl rfl) (parts_any ((s ++ [47]) ++ part)  (seeS [.see (Rs eS 1 ((parts_m s).1) v5) F7]) _  (Laid.below hT hm22.below) ) (fun vv34 w29 hR35 hb36 hm30 => ?_))
  obtain ⟨v31, rfl, hg37⟩ := hR35
  obtain ⟨F33, hm38⟩ : ∃ F33, Mm none (fun _ => True) w w29 [.see (Rs eS 1 ((parts_m s).1) v5) F7, .see (Rs eS 1 ((parts_m ((s ++ [47]) ++ part)).1) v31) F33] := Mm.tookS hm22 hb36 hg37
  clear hm30 hg37 hb36
  have hf39 : (parts_m ((s ++ [47]) ++ part)).1.length ≤ 201 ∧ (join_m (parts_m ((s ++ [47]) ++ part)).1 [47]).length ≤ ((s ++ [47]) ++ part).length ∧ ((parts_m ((s ++ [47]) ++ part)).2 ≠ 0 ∨ (((s ++ [47]) ++ part).length ≤ 200 ∧ 1 ≤ ((s ++ [47]) ++ part).length ∧ 1 ≤ (parts_m ((s ++ [47]) ++ part)).1.length ∧ (parts_m ((s ++ [47]) ++ part)).1.length ≤ 16)) := parts_facts ((s ++ [47]) ++ part)
  simp only [nz1, nz2, nz3]
  refine lvw 22 (.tuple #[v31, .int .i64 ((parts_m ((s ++ [47]) ++ part)).2)]) rfl rfl (run_mv rfl rfl) ?_
  simp only [nz1, nz2, nz3]
  refine lvw 28 (v31) rfl rfl (run_ex rfl rfl rfl) ?_
  simp only [nz1, nz2, nz3]
  refine lvw 29 (.int .i64 ((parts_m ((s ++ [47]) ++ part)).2)) rfl rfl (run_ex rfl rfl rfl) ?_
  simp only [nz1, nz2, nz3]
  refine lvw 7 (v31) rfl rfl (run_as rfl rfl) ?_
  simp only [nz1, nz2, nz3]
  refine lvw 8 (.int .i64 ((parts_m ((s ++ [47]) ++ part)).2)) rfl rfl (run_as rfl rfl) ?_
  simp only [nz1, nz2, nz3]
  refine wpList_nil ?_
  refine then_n (hK28 _ _ ?_)
  refine wp_seq_k (fun K40 hK40 => ?_)
  refine wp_seq_k (fun K41 hK41 => ?_)
  refine wp_region_lit ?_
  refine lvw 30 (v5) rfl rfl (run_mv rfl rfl) ?_
  simp only [nz1, nz2, nz3]
  refine lvw 31 (.int .i64 ((((parts_m s).1).length : Nat) : Int)) rfl rfl (s_len ((hm38.see 0 rfl)) rfl Tryd.underlying22 rfl) ?_
  simp only [nz1, nz2, nz3]
  refine lvb 32 (((parts_m s).1).length = 16) rfl rfl (r_eql (((parts_m s).1).length) 16 rfl rfl rfl) (fun hs42 => ?_) (fun hs42 => ?_)
  · simp only [nz1, nz2, nz3]
    refine lvw 33 (.bool true) rfl rfl (run_mv rfl rfl) ?_
    simp only [nz1, nz2, nz3]
    refine lst_skip 34 rfl rfl ?_
    simp only [nz1, nz2, nz3]
    refine lst_skip 35 rfl rfl ?_
    simp only [nz1, nz2, nz3]
    refine lst_skip 36 rfl rfl ?_
    simp only [nz1, nz2, nz3]
    refine lst_skip 37 rfl rfl ?_
    simp only [nz1, nz2, nz3]
    refine lst_skip 38 rfl rfl ?_
    simp only [nz1, nz2, nz3]
    refine lst_skip 39 rfl rfl ?_
    simp only [nz1, nz2, nz3]
    refine lst_skip 40 rfl rfl ?_
    simp only [nz1, nz2, nz3]
    refine lvw 41 (.bool true) rfl rfl (run_pick rfl rfl rfl) ?_
    simp only [nz1, nz2, nz3]
    refine wpList_nil ?_
    refine then_n (hK41 _ _ ?_)
    refine cond_t rfl ?_
    refine wp_seq_k (fun K43 hK43 => ?_)
    refine wp_region_lit ?_
    refine lst rfl (m_call hm38 42 (.bool (awake_m)) rfl (run_awake rfl) (awake_any   _  (Laid.below hT hm38.below) ) (fun w44 (hm45 : Mm none (fun _ => True) w w44 [.see (Rs eS 1 ((parts_m s).1) v5) F7, .see (Rs eS 1 ((parts_m ((s ++ [47]) ++ part)).1) v31) F33]) => ?_))
    simp only [nz1, nz2, nz3]
    by_cases hs46 : awake_m = true
    rotate_left
    · rw [(Bool.eq_false_iff.2 hs46 : awake_m = false)]
      refine lvw 43 (.bool false) rfl rfl (run_mv rfl rfl) ?_
      simp only [nz1, nz2, nz3]
      refine lst_skip 44 rfl rfl ?_
      simp only [nz1, nz2, nz3]
      refine lst_skip 45 rfl rfl ?_
      simp only [nz1, nz2, nz3]
      refine lvw 46 (.bool false) rfl rfl (run_pickf rfl rfl rfl) ?_
      simp only [nz1, nz2, nz3]
      refine lvw 47 (.bool false) rfl rfl (run_mv rfl rfl) ?_
      simp only [nz1, nz2, nz3]
      refine lst_skip 48 rfl rfl ?_
      simp only [nz1, nz2, nz3]
      refine lst_skip 49 rfl rfl ?_
      simp only [nz1, nz2, nz3]
      refine lst_skip 50 rfl rfl ?_
      simp only [nz1, nz2, nz3]
      refine lvw 51 (.bool false) rfl rfl (run_pickf rfl rfl rfl) ?_
      simp only [nz1, nz2, nz3]
      refine lvw 4 (.bool false) rfl rfl (run_as rfl rfl) ?_
      simp only [nz1, nz2, nz3]
      refine wpList_nil ?_
      refine then_n (hK43 _ _ ?_)
      refine wp_ret ?_
      refine then_r ?_
      have he50 : under_m s part = false := (show under_m s part = false from by unfold under_m; rw [if_neg hs16, if_neg hc23, if_pos hs42, if_neg hs46] <;> rfl)
      exact ⟨rfl, .bool false, res_t rfl rfl, ⟨by rw [he50], hm45.below⟩⟩
    rw [(hs46 : awake_m = true)]
    refine lvw 43 (.bool true) rfl rfl (run_mv rfl rfl) ?_
    simp only [nz1, nz2, nz3]
    refine lvw 44 (.int .i64 ((parts_m ((s ++ [47]) ++ part)).2)) rfl rfl (run_mv rfl rfl) ?_
    simp only [nz1, nz2, nz3]
    refine lvb 45 ((parts_m ((s ++ [47]) ++ part)).2 = 3) rfl rfl (z_eql ((parts_m ((s ++ [47]) ++ part)).2) 3 rfl rfl rfl) (fun hs47 => ?_) (fun hs47 => ?_)
    · simp only [nz1, nz2, nz3]
      refine lvw 46 (.bool true) rfl rfl (run_pick rfl rfl rfl) ?_
      simp only [nz1, nz2, nz3]
      refine lvw 47 (.bool true) rfl rfl (run_mv rfl rfl) ?_
      simp only [nz1, nz2, nz3]
      refine lvw 48 (v31) rfl rfl (run_mv rfl rfl) ?_
      simp only [nz1, nz2, nz3]
      refine lvw 49 (.int .i64 ((((parts_m ((s ++ [47]) ++ part)).1).length : Nat) : Int)) rfl rfl (s_len ((hm45.see 1 rfl)) rfl Tryd.underlying22 rfl) ?_
      simp only [nz1, nz2, nz3]
      refine lvw 50 (.bool (decide (((parts_m ((s ++ [47]) ++ part)).1).length = 0))) rfl rfl (r_eql (((parts_m ((s ++ [47]) ++ part)).1).length) 0 rfl rfl rfl) ?_
      simp only [nz1, nz2, nz3]
      refine lvw 51 (.bool (decide (((parts_m ((s ++ [47]) ++ part)).1).length = 0))) rfl rfl (run_pick rfl rfl rfl) ?_
      simp only [nz1, nz2, nz3]
      refine lvw 4 (.bool (decide (((parts_m ((s ++ [47]) ++ part)).1).length = 0))) rfl rfl (run_as rfl rfl) ?_
      simp only [nz1, nz2, nz3]
      refine wpList_nil ?_
      refine then_n (hK43 _ _ ?_)
      refine wp_ret ?_
      refine then_r ?_
      have he48 : under_m s part = (decide (((parts_m ((s ++ [47]) ++ part)).1).length = 0)) := (show under_m s part = (decide (((parts_m ((s ++ [47]) ++ part)).1).length = 0)) from by unfold under_m; rw [if_neg hs16, if_neg hc23, if_pos hs42, if_pos hs46, if_pos hs47] <;> rfl)
      exact ⟨rfl, .bool (decide (((parts_m ((s ++ [47]) ++ part)).1).length = 0)), res_t rfl rfl, ⟨by rw [he48], hm45.below⟩⟩
    simp only [nz1, nz2, nz3]
    refine lvw 46 (.bool false) rfl rfl (run_pick rfl rfl rfl) ?_
    simp only [nz1, nz2, nz3]
    refine lvw 47 (.bool false) rfl rfl (run_mv rfl rfl) ?_
    simp only [nz1, nz2, nz3]
    refine lst_skip 48 rfl rfl ?_
    simp only [nz1, nz2, nz3]
    refine lst_skip 49 rfl rfl ?_
    simp only [nz1, nz2, nz3]
    refine lst_skip 50 rfl rfl ?_
    simp only [nz1, nz2, nz3]
    refine lvw 51 (.bool false) rfl rfl (run_pickf rfl rfl rfl) ?_
    simp only [nz1, nz2, nz3]
    refine lvw 4 (.bool false) rfl rfl (run_as rfl rfl) ?_
    simp only [nz1, nz2, nz3]
    refine wpList_nil ?_
    refine then_n (hK43 _ _ ?_)
    refine wp_ret ?_
    refine then_r ?_
    have he49 : under_m s part = false := (show under_m s part = false from by unfold under_m; rw [if_neg hs16, if_neg hc23, if_pos hs42, if_pos hs46, if_neg hs47] <;> rfl)
    exact ⟨rfl, .bool false, res_t rfl rfl, ⟨by rw [he49], hm45.below⟩⟩
  simp only [nz1, nz2, nz3]
  refine lvw 33 (.bool false) rfl rfl (run_mv rfl rfl) ?_
  simp only [nz1, nz2, nz3]
  refine lvw 34 (.string (tx s)) rfl rfl (run_mv rfl rfl) ?_
  simp only [nz1, nz2, nz3]
  refine lvw 35 (.int .i64 ((s.length : Nat) : Int)) rfl rfl (t_len rfl Tryd.underlying9 rfl) ?_
  simp only [nz1, nz2, nz3]
  refine lvw 36 (.int .i64 (((s.length + 1) : Nat) : Int)) rfl rfl (r_add s.length 1 (show (s.length + 1) < 9223372036854775808 from by omega) rfl rfl rfl) ?_
  simp only [nz1, nz2, nz3]
  refine lvw 37 (.string (tx part)) rfl rfl (run_mv rfl rfl) ?_
  simp only [nz1, nz2, nz3]
  refine lvw 38 (.int .i64 ((part.length : Nat) : Int)) rfl rfl (t_len rfl Tryd.underlying9 rfl) ?_
  simp only [nz1, nz2, nz3]
  refine lvw 39 (.int .i64 ((((s.length + 1) + part.length) : Nat) : Int)) rfl rfl (r_add (s.length + 1) part.length (show ((s.length + 1) + part.length) < 9223372036854775808 from by omega) rfl rfl rfl) ?_
  simp only [nz1, nz2, nz3]
  refine lvw 40 (.bool (decide (200 < ((s.length + 1) + part.length)))) rfl rfl (r_gtr ((s.length + 1) + part.length) 200 rfl rfl rfl) ?_
  simp only [nz1, nz2, nz3]
  refine lvw 41 (.bool (decide (200 < ((s.length + 1) + part.length)))) rfl rfl (run_pickf rfl rfl rfl) ?_
  simp only [nz1, nz2, nz3]
  refine wpList_nil ?_
  refine then_n (hK41 _ _ ?_)
  refine cond_d (200 < ((s.length + 1) + part.length)) rfl (fun hc51 => ?_) (fun hc51 => ?_)
  · refine wp_seq_k (fun K52 hK52 => ?_)
    refine wp_region_lit ?_
    refine lst rfl (m_call hm38 42 (.bool (awake_m)) rfl (run_awake rfl) (awake_any   _  (Laid.below hT hm38.below) ) (fun w53 (hm54 : Mm none (fun _ => True) w w53 [.see (Rs eS 1 ((parts_m s).1) v5) F7, .see (Rs eS 1 ((parts_m ((s ++ [47]) ++ part)).1) v31) F33]) => ?_))
    simp only [nz1, nz2, nz3]
    by_cases hs55 : awake_m = true
    rotate_left
    · rw [(Bool.eq_false_iff.2 hs55 : awake_m = false)]
      refine lvw 43 (.bool false) rfl rfl (run_mv rfl rfl) ?_
      simp only [nz1, nz2, nz3]
      refine lst_skip 44 rfl rfl ?_
      simp only [nz1, nz2, nz3]
      refine lst_skip 45 rfl rfl ?_
      simp only [nz1, nz2, nz3]
      refine lvw 46 (.bool false) rfl rfl (run_pickf rfl rfl rfl) ?_
      simp only [nz1, nz2, nz3]
      refine lvw 47 (.bool false) rfl rfl (run_mv rfl rfl) ?_
      simp only [nz1, nz2, nz3]
      refine lst_skip 48 rfl rfl ?_
      simp only [nz1, nz2, nz3]
      refine lst_skip 49 rfl rfl ?_
      simp only [nz1, nz2, nz3]
      refine lst_skip 50 rfl rfl ?_
      simp only [nz1, nz2, nz3]
      refine lvw 51 (.bool false) rfl rfl (run_pickf rfl rfl rfl) ?_
      simp only [nz1, nz2, nz3]
      refine lvw 4 (.bool false) rfl rfl (run_as rfl rfl) ?_
      simp only [nz1, nz2, nz3]
      refine wpList_nil ?_
      refine then_n (hK52 _ _ ?_)
      refine wp_ret ?_
      refine then_r ?_
      have he59 : under_m s part = false := (show under_m s part = false from by unfold under_m; rw [if_neg hs16, if_neg hc23, if_neg hs42, if_pos hc51, if_neg hs55] <;> rfl)
      exact ⟨rfl, .bool false, res_t rfl rfl, ⟨by rw [he59], hm54.below⟩⟩
    rw [(hs55 : awake_m = true)]
    refine lvw 43 (.bool true) rfl rfl (run_mv rfl rfl) ?_
    simp only [nz1, nz2, nz3]
    refine lvw 44 (.int .i64 ((parts_m ((s ++ [47]) ++ part)).2)) rfl rfl (run_mv rfl rfl) ?_
    simp only [nz1, nz2, nz3]
    refine lvb 45 ((parts_m ((s ++ [47]) ++ part)).2 = 3) rfl rfl (z_eql ((parts_m ((s ++ [47]) ++ part)).2) 3 rfl rfl rfl) (fun hs56 => ?_) (fun hs56 => ?_)
    · simp only [nz1, nz2, nz3]
      refine lvw 46 (.bool true) rfl rfl (run_pick rfl rfl rfl) ?_
      simp only [nz1, nz2, nz3]
      refine lvw 47 (.bool true) rfl rfl (run_mv rfl rfl) ?_
      simp only [nz1, nz2, nz3]
      refine lvw 48 (v31) rfl rfl (run_mv rfl rfl) ?_
      simp only [nz1, nz2, nz3]
      refine lvw 49 (.int .i64 ((((parts_m ((s ++ [47]) ++ part)).1).length : Nat) : Int)) rfl rfl (s_len ((hm54.see 1 rfl)) rfl Tryd.underlying22 rfl) ?_
      simp only [nz1, nz2, nz3]
      refine lvw 50 (.bool (decide (((parts_m ((s ++ [47]) ++ part)).1).length = 0))) rfl rfl (r_eql (((parts_m ((s ++ [47]) ++ part)).1).length) 0 rfl rfl rfl) ?_
      simp only [nz1, nz2, nz3]
      refine lvw 51 (.bool (decide (((parts_m ((s ++ [47]) ++ part)).1).length = 0))) rfl rfl (run_pick rfl rfl rfl) ?_
      simp only [nz1, nz2, nz3]
      refine lvw 4 (.bool (decide (((parts_m ((s ++ [47]) ++ part)).1).length = 0))) rfl rfl (run_as rfl rfl) ?_
      simp only [nz1, nz2, nz3]
      refine wpList_nil ?_
      refine then_n (hK52 _ _ ?_)
      refine wp_ret ?_
      refine then_r ?_
      have he57 : under_m s part = (decide (((parts_m ((s ++ [47]) ++ part)).1).length = 0)) := (show under_m s part = (decide (((parts_m ((s ++ [47]) ++ part)).1).length = 0)) from by unfold under_m; rw [if_neg hs16, if_neg hc23, if_neg hs42, if_pos hc51, if_pos hs55, if_pos hs56] <;> rfl)
      exact ⟨rfl, .bool (decide (((parts_m ((s ++ [47]) ++ part)).1).length = 0)), res_t rfl rfl, ⟨by rw [he57], hm54.below⟩⟩
    simp only [nz1, nz2, nz3]
    refine lvw 46 (.bool false) rfl rfl (run_pick rfl rfl rfl) ?_
    simp only [nz1, nz2, nz3]
    refine lvw 47 (.bool false) rfl rfl (run_mv rfl rfl) ?_
    simp only [nz1, nz2, nz3]
    refine lst_skip 48 rfl rfl ?_
    simp only [nz1, nz2, nz3]
    refine lst_skip 49 rfl rfl ?_
    simp only [nz1, nz2, nz3]
    refine lst_skip 50 rfl rfl ?_
    simp only [nz1, nz2, nz3]
    refine lvw 51 (.bool false) rfl rfl (run_pickf rfl rfl rfl) ?_
    simp only [nz1, nz2, nz3]
    refine lvw 4 (.bool false) rfl rfl (run_as rfl rfl) ?_
    simp only [nz1, nz2, nz3]
    refine wpList_nil ?_
    refine then_n (hK52 _ _ ?_)
    refine wp_ret ?_
    refine then_r ?_
    have he58 : under_m s part = false := (show under_m s part = false from by unfold under_m; rw [if_neg hs16, if_neg hc23, if_neg hs42, if_pos hc51, if_pos hs55, if_neg hs56] <;> rfl)
    exact ⟨rfl, .bool false, res_t rfl rfl, ⟨by rw [he58], hm54.below⟩⟩
  refine wp_skip ?_
  refine then_n (hK40 _ _ ?_)
  refine wp_seq_k (fun K60 hK60 => ?_)
  refine wp_region_lit ?_
  refine lst rfl (m_call hm38 52 (.bool (awake_m)) rfl (run_awake rfl) (awake_any   _  (Laid.below hT hm38.below) ) (fun w61 (hm62 : Mm none (fun _ => True) w w61 [.see (Rs eS 1 ((parts_m s).1) v5) F7, .see (Rs eS 1 ((parts_m ((s ++ [47]) ++ part)).1) v31) F33]) => ?_))
  simp only [nz1, nz2, nz3]
  by_cases hs63 : awake_m = true
  rotate_left
  · rw [(Bool.eq_false_iff.2 hs63 : awake_m = false)]
    refine lvw 53 (.bool false) rfl rfl (run_mv rfl rfl) ?_
    simp only [nz1, nz2, nz3]
    refine lst_skip 54 rfl rfl ?_
    simp only [nz1, nz2, nz3]
    refine lst_skip 55 rfl rfl ?_
    simp only [nz1, nz2, nz3]
    refine lvw 56 (.bool false) rfl rfl (run_pickf rfl rfl rfl) ?_
    simp only [nz1, nz2, nz3]
    refine lvw 57 (.bool false) rfl rfl (run_mv rfl rfl) ?_
    simp only [nz1, nz2, nz3]
    refine lst_skip 58 rfl rfl ?_
    simp only [nz1, nz2, nz3]
    refine lst_skip 59 rfl rfl ?_
    simp only [nz1, nz2, nz3]
    refine lst_skip 60 rfl rfl ?_
    simp only [nz1, nz2, nz3]
    refine lst_skip 61 rfl rfl ?_
    simp only [nz1, nz2, nz3]
    refine lst_skip 62 rfl rfl ?_
    simp only [nz1, nz2, nz3]
    refine lst_skip 63 rfl rfl ?_
    simp only [nz1, nz2, nz3]
    refine lvw 64 (.bool false) rfl rfl (run_pickf rfl rfl rfl) ?_
    simp only [nz1, nz2, nz3]
    refine lvw 65 (.bool false) rfl rfl (run_mv rfl rfl) ?_
    simp only [nz1, nz2, nz3]
    refine lst_skip 66 rfl rfl ?_
    simp only [nz1, nz2, nz3]
    refine lst_skip 67 rfl rfl ?_
    simp only [nz1, nz2, nz3]
    refine lst_skip 68 rfl rfl ?_
    simp only [nz1, nz2, nz3]
    refine lst_skip 69 rfl rfl ?_
    simp only [nz1, nz2, nz3]
    refine lst_skip 70 rfl rfl ?_
    simp only [nz1, nz2, nz3]
    refine lst_skip 71 rfl rfl ?_
    simp only [nz1, nz2, nz3]
    refine lst_skip 72 rfl rfl ?_
    simp only [nz1, nz2, nz3]
    refine lvw 73 (.bool false) rfl rfl (run_pickf rfl rfl rfl) ?_
    simp only [nz1, nz2, nz3]
    refine lvw 74 (.bool false) rfl rfl (run_mv rfl rfl) ?_
    simp only [nz1, nz2, nz3]
    refine lst_skip 75 rfl rfl ?_
    simp only [nz1, nz2, nz3]
    refine lst_skip 76 rfl rfl ?_
    simp only [nz1, nz2, nz3]
    refine lst_skip 77 rfl rfl ?_
    simp only [nz1, nz2, nz3]
    refine lst_skip 78 rfl rfl ?_
    simp only [nz1, nz2, nz3]
    refine lst_skip 79 rfl rfl ?_
    simp only [nz1, nz2, nz3]
    refine lst_skip 80 rfl rfl ?_
    simp only [nz1, nz2, nz3]
    refine lst_skip 81 rfl rfl ?_
    simp only [nz1, nz2, nz3]
    refine lvw 82 (.bool false) rfl rfl (run_pickf rfl rfl rfl) ?_
    simp only [nz1, nz2, nz3]
    refine lvw 4 (.bool false) rfl rfl (run_as rfl rfl) ?_
    simp only [nz1, nz2, nz3]
    refine wpList_nil ?_
    refine then_n (hK60 _ _ ?_)
    refine wp_ret ?_
    have he74 : under_m s part = false := (show under_m s part = false from by unfold under_m; rw [if_neg hs16, if_neg hc23, if_neg hs42, if_neg hc51, if_neg hs63] <;> rfl)
    exact ⟨rfl, .bool false, res_t rfl rfl, ⟨by rw [he74], hm62.below⟩⟩
  rw [(hs63 : awake_m = true)]
  refine lvw 53 (.bool true) rfl rfl (run_mv rfl rfl) ?_
  simp only [nz1, nz2, nz3]
  refine lvw 54 (.int .i64 ((parts_m ((s ++ [47]) ++ part)).2)) rfl rfl (run_mv rfl rfl) ?_
  simp only [nz1, nz2, nz3]
  refine lvb 55 ((parts_m ((s ++ [47]) ++ part)).2 = 0) rfl rfl (z_eql ((parts_m ((s ++ [47]) ++ part)).2) 0 rfl rfl rfl) (fun hs64 => ?_) (fun hs64 => ?_)
  rotate_left
  · simp only [nz1, nz2, nz3]
    refine lvw 56 (.bool false) rfl rfl (run_pick rfl rfl rfl) ?_
    simp only [nz1, nz2, nz3]
    refine lvw 57 (.bool false) rfl rfl (run_mv rfl rfl) ?_
    simp only [nz1, nz2, nz3]
    refine lst_skip 58 rfl rfl ?_
    simp only [nz1, nz2, nz3]
    refine lst_skip 59 rfl rfl ?_
    simp only [nz1, nz2, nz3]
    refine lst_skip 60 rfl rfl ?_
    simp only [nz1, nz2, nz3]
    refine lst_skip 61 rfl rfl ?_
    simp only [nz1, nz2, nz3]
    refine lst_skip 62 rfl rfl ?_
    simp only [nz1, nz2, nz3]
    refine lst_skip 63 rfl rfl ?_
    simp only [nz1, nz2, nz3]
    refine lvw 64 (.bool false) rfl rfl (run_pickf rfl rfl rfl) ?_
    simp only [nz1, nz2, nz3]
    refine lvw 65 (.bool false) rfl rfl (run_mv rfl rfl) ?_
    simp only [nz1, nz2, nz3]
    refine lst_skip 66 rfl rfl ?_
    simp only [nz1, nz2, nz3]
    refine lst_skip 67 rfl rfl ?_
    simp only [nz1, nz2, nz3]
    refine lst_skip 68 rfl rfl ?_
    simp only [nz1, nz2, nz3]
    refine lst_skip 69 rfl rfl ?_
    simp only [nz1, nz2, nz3]
    refine lst_skip 70 rfl rfl ?_
    simp only [nz1, nz2, nz3]
    refine lst_skip 71 rfl rfl ?_
    simp only [nz1, nz2, nz3]
    refine lst_skip 72 rfl rfl ?_
    simp only [nz1, nz2, nz3]
    refine lvw 73 (.bool false) rfl rfl (run_pickf rfl rfl rfl) ?_
    simp only [nz1, nz2, nz3]
    refine lvw 74 (.bool false) rfl rfl (run_mv rfl rfl) ?_
    simp only [nz1, nz2, nz3]
    refine lst_skip 75 rfl rfl ?_
    simp only [nz1, nz2, nz3]
    refine lst_skip 76 rfl rfl ?_
    simp only [nz1, nz2, nz3]
    refine lst_skip 77 rfl rfl ?_
    simp only [nz1, nz2, nz3]
    refine lst_skip 78 rfl rfl ?_
    simp only [nz1, nz2, nz3]
    refine lst_skip 79 rfl rfl ?_
    simp only [nz1, nz2, nz3]
    refine lst_skip 80 rfl rfl ?_
    simp only [nz1, nz2, nz3]
    refine lst_skip 81 rfl rfl ?_
    simp only [nz1, nz2, nz3]
    refine lvw 82 (.bool false) rfl rfl (run_pickf rfl rfl rfl) ?_
    simp only [nz1, nz2, nz3]
    refine lvw 4 (.bool false) rfl rfl (run_as rfl rfl) ?_
    simp only [nz1, nz2, nz3]
    refine wpList_nil ?_
    refine then_n (hK60 _ _ ?_)
    refine wp_ret ?_
    have he73 : under_m s part = false := (show under_m s part = false from by unfold under_m; rw [if_neg hs16, if_neg hc23, if_neg hs42, if_neg hc51, if_pos hs63, if_neg hs64] <;> rfl)
    exact ⟨rfl, .bool false, res_t rfl rfl, ⟨by rw [he73], hm62.below⟩⟩
  simp only [nz1, nz2, nz3]
  refine lvw 56 (.bool true) rfl rfl (run_pick rfl rfl rfl) ?_
  simp only [nz1, nz2, nz3]
  refine lvw 57 (.bool true) rfl rfl (run_mv rfl rfl) ?_
  simp only [nz1, nz2, nz3]
  refine lvw 58 (v31) rfl rfl (run_mv rfl rfl) ?_
  simp only [nz1, nz2, nz3]
  refine lvw 59 (.int .i64 ((((parts_m ((s ++ [47]) ++ part)).1).length : Nat) : Int)) rfl rfl (s_len ((hm62.see 1 rfl)) rfl Tryd.underlying22 rfl) ?_
  simp only [nz1, nz2, nz3]
  refine lvw 60 (v5) rfl rfl (run_mv rfl rfl) ?_
  simp only [nz1, nz2, nz3]
  refine lvw 61 (.int .i64 ((((parts_m s).1).length : Nat) : Int)) rfl rfl (s_len ((hm62.see 0 rfl)) rfl Tryd.underlying22 rfl) ?_
  simp only [nz1, nz2, nz3]
  refine lvw 62 (.int .i64 ((((((parts_m s).1).length) + 1) : Nat) : Int)) rfl rfl (r_add (((parts_m s).1).length) 1 (show ((((parts_m s).1).length) + 1) < 9223372036854775808 from by omega) rfl rfl rfl) ?_
  simp only [nz1, nz2, nz3]
  refine lvb 63 (((parts_m ((s ++ [47]) ++ part)).1).length = ((((parts_m s).1).length) + 1)) rfl rfl (r_eql (((parts_m ((s ++ [47]) ++ part)).1).length) ((((parts_m s).1).length) + 1) rfl rfl rfl) (fun hs65 => ?_) (fun hs65 => ?_)
  rotate_left
  · simp only [nz1, nz2, nz3]
    refine lvw 64 (.bool false) rfl rfl (run_pick rfl rfl rfl) ?_
    simp only [nz1, nz2, nz3]
    refine lvw 65 (.bool false) rfl rfl (run_mv rfl rfl) ?_
    simp only [nz1, nz2, nz3]
    refine lst_skip 66 rfl rfl ?_
    simp only [nz1, nz2, nz3]
    refine lst_skip 67 rfl rfl ?_
    simp only [nz1, nz2, nz3]
    refine lst_skip 68 rfl rfl ?_
    simp only [nz1, nz2, nz3]
    refine lst_skip 69 rfl rfl ?_
    simp only [nz1, nz2, nz3]
    refine lst_skip 70 rfl rfl ?_
    simp only [nz1, nz2, nz3]
    refine lst_skip 71 rfl rfl ?_
    simp only [nz1, nz2, nz3]
    refine lst_skip 72 rfl rfl ?_
    simp only [nz1, nz2, nz3]
    refine lvw 73 (.bool false) rfl rfl (run_pickf rfl rfl rfl) ?_
    simp only [nz1, nz2, nz3]
    refine lvw 74 (.bool false) rfl rfl (run_mv rfl rfl) ?_
    simp only [nz1, nz2, nz3]
    refine lst_skip 75 rfl rfl ?_
    simp only [nz1, nz2, nz3]
    refine lst_skip 76 rfl rfl ?_
    simp only [nz1, nz2, nz3]
    refine lst_skip 77 rfl rfl ?_
    simp only [nz1, nz2, nz3]
    refine lst_skip 78 rfl rfl ?_
    simp only [nz1, nz2, nz3]
    refine lst_skip 79 rfl rfl ?_
    simp only [nz1, nz2, nz3]
    refine lst_skip 80 rfl rfl ?_
    simp only [nz1, nz2, nz3]
    refine lst_skip 81 rfl rfl ?_
    simp only [nz1, nz2, nz3]
    refine lvw 82 (.bool false) rfl rfl (run_pickf rfl rfl rfl) ?_
    simp only [nz1, nz2, nz3]
    refine lvw 4 (.bool false) rfl rfl (run_as rfl rfl) ?_
    simp only [nz1, nz2, nz3]
    refine wpList_nil ?_
    refine then_n (hK60 _ _ ?_)
    refine wp_ret ?_
    have he72 : under_m s part = false := (show under_m s part = false from by unfold under_m; rw [if_neg hs16, if_neg hc23, if_neg hs42, if_neg hc51, if_pos hs63, if_pos hs64, if_neg hs65] <;> rfl)
    exact ⟨rfl, .bool false, res_t rfl rfl, ⟨by rw [he72], hm62.below⟩⟩
  simp only [nz1, nz2, nz3]
  refine lvw 64 (.bool true) rfl rfl (run_pick rfl rfl rfl) ?_
  simp only [nz1, nz2, nz3]
  refine lvw 65 (.bool true) rfl rfl (run_mv rfl rfl) ?_
  simp only [nz1, nz2, nz3]
  refine lvw 66 (v31) rfl rfl (run_mv rfl rfl) ?_
  simp only [nz1, nz2, nz3]
  refine lvw 67 (v5) rfl rfl (run_mv rfl rfl) ?_
  simp only [nz1, nz2, nz3]
  refine lvw 68 (.int .i64 ((((parts_m s).1).length : Nat) : Int)) rfl rfl (s_len ((hm62.see 0 rfl)) rfl Tryd.underlying22 rfl) ?_
  simp only [nz1, nz2, nz3]
  refine lvw 69 (.pointer (some ⟨(bk v31), (po v31 + (((parts_m s).1).length) * 1), none⟩)) rfl rfl (r_ixv ((hm62.see 1 rfl)) (((parts_m s).1).length) (by omega) Tryd.underlying22 sz_9 rfl rfl rfl) ?_
  simp only [nz1, nz2, nz3]
  refine lvw 70 (.string (tx (((parts_m ((s ++ [47]) ++ part)).1).getD (((parts_m s).1).length) []))) rfl rfl (r_cellw (Rs.cell ((hm62.see 1 rfl)) eS_len [] (((parts_m s).1).length) (by omega) 0 _ rfl) Tryd.underlying9 rfl rfl rfl) ?_
  simp only [nz1, nz2, nz3]
  refine lvw 71 (.string (tx part)) rfl rfl (run_mv rfl rfl) ?_
  simp only [nz1, nz2, nz3]
  refine lvb 72 ((((parts_m ((s ++ [47]) ++ part)).1).getD (((parts_m s).1).length) []) = part) rfl rfl (t_eql (((parts_m ((s ++ [47]) ++ part)).1).getD (((parts_m s).1).length) []) part rfl rfl rfl) (fun hs66 => ?_) (fun hs66 => ?_)
  rotate_left
  · simp only [nz1, nz2, nz3]
    refine lvw 73 (.bool false) rfl rfl (run_pick rfl rfl rfl) ?_
    simp only [nz1, nz2, nz3]
    refine lvw 74 (.bool false) rfl rfl (run_mv rfl rfl) ?_
    simp only [nz1, nz2, nz3]
    refine lst_skip 75 rfl rfl ?_
    simp only [nz1, nz2, nz3]
    refine lst_skip 76 rfl rfl ?_
    simp only [nz1, nz2, nz3]
    refine lst_skip 77 rfl rfl ?_
    simp only [nz1, nz2, nz3]
    refine lst_skip 78 rfl rfl ?_
    simp only [nz1, nz2, nz3]
    refine lst_skip 79 rfl rfl ?_
    simp only [nz1, nz2, nz3]
    refine lst_skip 80 rfl rfl ?_
    simp only [nz1, nz2, nz3]
    refine lst_skip 81 rfl rfl ?_
    simp only [nz1, nz2, nz3]
    refine lvw 82 (.bool false) rfl rfl (run_pickf rfl rfl rfl) ?_
    simp only [nz1, nz2, nz3]
    refine lvw 4 (.bool false) rfl rfl (run_as rfl rfl) ?_
    simp only [nz1, nz2, nz3]
    refine wpList_nil ?_
    refine then_n (hK60 _ _ ?_)
    refine wp_ret ?_
    have he71 : under_m s part = false := (show under_m s part = false from by unfold under_m; rw [if_neg hs16, if_neg hc23, if_neg hs42, if_neg hc51, if_pos hs63, if_pos hs64, if_pos hs65, if_neg hs66] <;> rfl)
    exact ⟨rfl, .bool false, res_t rfl rfl, ⟨by rw [he71], hm62.below⟩⟩
  simp only [nz1, nz2, nz3]
  refine lvw 73 (.bool true) rfl rfl (run_pick rfl rfl rfl) ?_
  simp only [nz1, nz2, nz3]
  refine lvw 74 (.bool true) rfl rfl (run_mv rfl rfl) ?_
  simp only [nz1, nz2, nz3]
  refine lvw 75 (.string (tx s)) rfl rfl (run_mv rfl rfl) ?_
  simp only [nz1, nz2, nz3]
  refine lvw 76 (.string (tx (s ++ [47]))) rfl rfl (t_cat s ([47]) (by first | omega | (simp; omega)) rfl rfl rfl) ?_
  simp only [nz1, nz2, nz3]
  refine lvw 77 (.string (tx part)) rfl rfl (run_mv rfl rfl) ?_
  simp only [nz1, nz2, nz3]
  refine lvw 78 (.string (tx ((s ++ [47]) ++ part))) rfl rfl (t_cat (s ++ [47]) part (by first | omega | (simp; omega)) rfl rfl rfl) ?_
  simp only [nz1, nz2, nz3]
  refine lst rfl (m_call hm62 79 (.string (tx (parent_m ((s ++ [47]) ++ part)))) rfl (run_parent rfl rfl) (parent_any ((s ++ [47]) ++ part)  _  (by first | omega | assumption | decide | (simp; done) | (simp; omega))) (fun w67 (hm68 : Mm none (fun _ => True) w w67 [.see (Rs eS 1 ((parts_m s).1) v5) F7, .see (Rs eS 1 ((parts_m ((s ++ [47]) ++ part)).1) v31) F33]) => ?_))
  have hf69 : (parent_m ((s ++ [47]) ++ part)).length ≤ ((s ++ [47]) ++ part).length := parent_len ((s ++ [47]) ++ part)
  simp only [nz1, nz2, nz3]
  refine lvw 80 (.string (tx s)) rfl rfl (run_mv rfl rfl) ?_
  simp only [nz1, nz2, nz3]
  refine lvw 81 (.bool (decide ((parent_m ((s ++ [47]) ++ part)) = s))) rfl rfl (t_eql (parent_m ((s ++ [47]) ++ part)) s rfl rfl rfl) ?_
  simp only [nz1, nz2, nz3]
  refine lvw 82 (.bool (decide ((parent_m ((s ++ [47]) ++ part)) = s))) rfl rfl (run_pick rfl rfl rfl) ?_
  simp only [nz1, nz2, nz3]
  refine lvw 4 (.bool (decide ((parent_m ((s ++ [47]) ++ part)) = s))) rfl rfl (run_as rfl rfl) ?_
  simp only [nz1, nz2, nz3]
  refine wpList_nil ?_
  refine then_n (hK60 _ _ ?_)
  refine wp_ret ?_
  have he70 : under_m s part = (decide ((parent_m ((s ++ [47]) ++ part)) = s)) := (show under_m s part = (decide ((parent_m ((s ++ [47]) ++ part)) = s)) from by unfold under_m; rw [if_neg hs16, if_neg hc23, if_neg hs42, if_neg hc51, if_pos hs63, if_pos hs64, if_pos hs65, if_pos hs66] <;> rfl)
  exact ⟨rfl, .bool (decide ((parent_m ((s ++ [47]) ++ part)) = s)), res_t rfl rfl, ⟨by rw [he70], hm68.below⟩⟩
theorem run_under {o : Oper} {a : Act} {w : World} {x0 x1 : Operand} {v0 v1 : Value} (ho : o.op = .call { callee := .value (.func 9), args := #[x0, x1], argTypes := #[9, 9] }) (h0 : a.eval x0 = v0) (h1 : a.eval x1 = v1) :
    (execOp a.eval o).run Tryd.prog w = .ok (.enter 9 #[v0, v1]) w := by
  unfold execOp
  simp only [ho]
  have hf : a.eval (.func 9) = .func (.func 9) #[] #[] := rfl
  generalize a.eval = f at *
  go_simp
end Go.Proofs.YtdohmmdfenafnaaDoor.Pa
