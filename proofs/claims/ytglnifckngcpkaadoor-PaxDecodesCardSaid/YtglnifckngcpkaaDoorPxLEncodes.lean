/- Layer 10: PaxEncodes. -/
import Derived.Test.YtglnifckngcpkaaDoorPxP
namespace Go.Proofs.YtglnifckngcpkaaDoor.Px
open Go.RowKit
open Go.Proofs.YtglnifckngcpkaaDoor.Sym Go.Proofs.YtglnifckngcpkaaDoor.Mem
open Go.Proofs.YtglnifckngcpkaaDoor.Sx hiding Mm m_alloc m_store m_put m_call m_callx m_make m_append r_string r_ixS
set_option linter.unusedVariables false
attribute [local irreducible] plen_m itoa_m atoi_v atoi_ok cut_m key_m pdig_m ib_m record_m first_m
attribute [local irreducible] encode_m decode_m last_m rencode_m rdecode_m rlast_m same_m great_m rkey_m
attribute [local irreducible] wpList Oper.wp

def lencodes_m (l : List Par) (key : List UInt8) : Bool :=
  if (great_m l) = true then
    pawake_m
  else
    if 20000 < key.length then
      pawake_m
    else
      if pawake_m = true then
        if (encode_m l).1 = (rencode_m l).1 then
          if (encode_m l).2 = (rencode_m l).2 then
            if (last_m l key).1 = (rlast_m l key).1 then
              if (((last_m l key).2) == ((rlast_m l key).2)) = true then
                ((key_m key) == (rkey_m key))
              else
                false
            else
              false
          else
            false
        else
          false
      else
        false

set_option maxHeartbeats 4000000 in
set_option maxRecDepth 100000 in
theorem lencodes_any (l : List Par) (key : List UInt8) (lv0 : Value) (w : World) (hl : Rs ePar 2 l lv0 w) (hT : Laid w) (hp0 : l.length ≤ 4398046511104) : Calls Tryd.prog 8 #[lv0, .string (tx key)] w (fun e w' => e = .returned (.bool ((lencodes_m l key))) ∧ Below w.heap.size w w') := by
  go_enter Tryd.func8, Tryd.ntmps8
  have hm00 := Mm.nil none (fun _ => True) w
  obtain ⟨Fl, hm01⟩ : ∃ Fl, Mm none (fun _ => True) w w [.see (Rs ePar 2 l lv0) Fl] := hm00.come (Rs.all hl)
  have hm0 := hm01
  refine wp_seq_k (fun K1 hK1 => ?_)
  refine wp_region_lit ?_
  refine lvw 4 (.bool false) rfl rfl (run_as rfl rfl) ?_
  simp only [nz1, nz2, nz3]
  refine wpList_nil ?_
  refine then_n (hK1 _ _ ?_)
  refine wp_seq_k (fun K2 hK2 => ?_)
  refine wp_seq_k (fun K3 hK3 => ?_)
  refine wp_region_lit ?_
  refine lvw 13 (lv0) rfl rfl (run_mv rfl rfl) ?_
  simp only [nz1, nz2, nz3]
  refine lst rfl (m_call hm0 14 (.bool ((great_m l))) rfl (run_great rfl rfl) (great_any l lv0 _ (hm0.see 0 rfl) (by first | omega | assumption | (intro i; exact great_keys (by assumption) i) | (simp; done) | (simp; omega) | (simp only [List.length_append, List.length_cons, List.length_nil]; omega) | (simp only [List.length_append, List.length_cons, List.length_nil] at *; omega) | decide)) (fun w4 (hm5 : Mm none (fun _ => True) w w4 [.see (Rs ePar 2 l lv0) Fl]) => ?_))
  simp only [nz1, nz2, nz3]
  by_cases hs6 : (great_m l) = true
  · rw [(hs6 : (great_m l) = true)]
    refine lvw 15 (.bool true) rfl rfl (run_mv rfl rfl) ?_
    simp only [nz1, nz2, nz3]
    refine lst_skip 16 rfl rfl ?_
    simp only [nz1, nz2, nz3]
    refine lst_skip 17 rfl rfl ?_
    simp only [nz1, nz2, nz3]
    refine lst_skip 18 rfl rfl ?_
    simp only [nz1, nz2, nz3]
    refine lvw 19 (.bool true) rfl rfl (run_pick rfl rfl rfl) ?_
    simp only [nz1, nz2, nz3]
    refine wpList_nil ?_
    refine then_n (hK3 _ _ ?_)
    refine cond_t rfl ?_
    refine wp_seq_k (fun K7 hK7 => ?_)
    refine wp_region_lit ?_
    refine lst rfl (m_call hm5 20 (.bool (pawake_m)) rfl (run_pawake rfl) (pawake_any   _  (Laid.below hT hm5.below) ) (fun w8 (hm9 : Mm none (fun _ => True) w w8 [.see (Rs ePar 2 l lv0) Fl]) => ?_))
    simp only [nz1, nz2, nz3]
    refine lvw 4 (.bool (pawake_m)) rfl rfl (run_as rfl rfl) ?_
    simp only [nz1, nz2, nz3]
    refine wpList_nil ?_
    refine then_n (hK7 _ _ ?_)
    refine wp_ret ?_
    refine then_r ?_
    have he10 : lencodes_m l key = pawake_m := (show lencodes_m l key = pawake_m from by unfold lencodes_m; rw [if_pos hs6] <;> rfl)
    exact ⟨rfl, .bool (pawake_m), res_t rfl rfl, ⟨by rw [he10], hm9.below⟩⟩
  rw [(Bool.eq_false_iff.2 hs6 : (great_m l) = false)]
  refine lvw 15 (.bool false) rfl rfl (run_mv rfl rfl) ?_
  simp only [nz1, nz2, nz3]
  refine lvw 16 (.string (tx key)) rfl rfl (run_mv rfl rfl) ?_
  simp only [nz1, nz2, nz3]
  refine lvw 17 (.int .i64 ((key.length : Nat) : Int)) rfl rfl (t_len rfl Tryd.underlying9 rfl) ?_
  simp only [nz1, nz2, nz3]
  refine lvw 18 (.bool (decide (20000 < key.length))) rfl rfl (r_gtr key.length 20000 rfl rfl rfl) ?_
  simp only [nz1, nz2, nz3]
  refine lvw 19 (.bool (decide (20000 < key.length))) rfl rfl (run_pickf rfl rfl rfl) ?_
  simp only [nz1, nz2, nz3]
  refine wpList_nil ?_
  refine then_n (hK3 _ _ ?_)
  refine cond_d (20000 < key.length) rfl (fun hc11 => ?_) (fun hc11 => ?_)
  · refine wp_seq_k (fun K12 hK12 => ?_)
    refine wp_region_lit ?_
    refine lst rfl (m_call hm5 20 (.bool (pawake_m)) rfl (run_pawake rfl) (pawake_any   _  (Laid.below hT hm5.below) ) (fun w13 (hm14 : Mm none (fun _ => True) w w13 [.see (Rs ePar 2 l lv0) Fl]) => ?_))
    simp only [nz1, nz2, nz3]
    refine lvw 4 (.bool (pawake_m)) rfl rfl (run_as rfl rfl) ?_
    simp only [nz1, nz2, nz3]
    refine wpList_nil ?_
    refine then_n (hK12 _ _ ?_)
    refine wp_ret ?_
    refine then_r ?_
    have he15 : lencodes_m l key = pawake_m := (show lencodes_m l key = pawake_m from by unfold lencodes_m; rw [if_neg hs6, if_pos hc11] <;> rfl)
    exact ⟨rfl, .bool (pawake_m), res_t rfl rfl, ⟨by rw [he15], hm14.below⟩⟩
  refine wp_skip ?_
  refine then_n (hK2 _ _ ?_)
  refine wp_seq_k (fun K16 hK16 => ?_)
  refine wp_region_lit ?_
  refine lvw 22 (lv0) rfl rfl (run_mv rfl rfl) ?_
  simp only [nz1, nz2, nz3]
  refine lst rfl (m_call hm5 23 (.tuple #[.string (tx ((encode_m l).1)), .int .i64 ((encode_m l).2)]) rfl (run_encode rfl rfl) (encode_any l lv0 _ (hm5.see 0 rfl) (Laid.below hT hm5.below) (by first | omega | assumption | (intro i; exact great_keys (by assumption) i) | (simp; done) | (simp; omega) | (simp only [List.length_append, List.length_cons, List.length_nil]; omega) | (simp only [List.length_append, List.length_cons, List.length_nil] at *; omega) | decide)) (fun w17 (hm18 : Mm none (fun _ => True) w w17 [.see (Rs ePar 2 l lv0) Fl]) => ?_))
  have hf19 : (encode_m l).1.length ≤ 1048576 := encode_len l
  simp only [nz1, nz2, nz3]
  refine lvw 21 (.tuple #[.string (tx ((encode_m l).1)), .int .i64 ((encode_m l).2)]) rfl rfl (run_mv rfl rfl) ?_
  simp only [nz1, nz2, nz3]
  refine lvw 24 (.string (tx ((encode_m l).1))) rfl rfl (run_ex rfl rfl rfl) ?_
  simp only [nz1, nz2, nz3]
  refine lvw 25 (.int .i64 ((encode_m l).2)) rfl rfl (run_ex rfl rfl rfl) ?_
  simp only [nz1, nz2, nz3]
  refine lvw 5 (.string (tx ((encode_m l).1))) rfl rfl (run_as rfl rfl) ?_
  simp only [nz1, nz2, nz3]
  refine lvw 6 (.int .i64 ((encode_m l).2)) rfl rfl (run_as rfl rfl) ?_
  simp only [nz1, nz2, nz3]
  refine wpList_nil ?_
  refine then_n (hK16 _ _ ?_)
  refine wp_seq_k (fun K20 hK20 => ?_)
  refine wp_region_lit ?_
  refine lvw 27 (lv0) rfl rfl (run_mv rfl rfl) ?_
  simp only [nz1, nz2, nz3]
  refine lst rfl (m_call hm18 28 (.tuple #[.string (tx ((rencode_m l).1)), .int .i64 ((rencode_m l).2)]) rfl (run_rencode rfl rfl) (rencode_any l lv0 _ (hm18.see 0 rfl) (by first | omega | assumption | (intro i; exact great_keys (by assumption) i) | (simp; done) | (simp; omega) | (simp only [List.length_append, List.length_cons, List.length_nil]; omega) | (simp only [List.length_append, List.length_cons, List.length_nil] at *; omega) | decide) (by first | omega | assumption | (intro i; exact great_keys (by assumption) i) | (simp; done) | (simp; omega) | (simp only [List.length_append, List.length_cons, List.length_nil]; omega) | (simp only [List.length_append, List.length_cons, List.length_nil] at *; omega) | decide)) (fun w21 (hm22 : Mm none (fun _ => True) w w21 [.see (Rs ePar 2 l lv0) Fl]) => ?_))
  simp only [nz1, nz2, nz3]
  refine lvw 26 (.tuple #[.string (tx ((rencode_m l).1)), .int .i64 ((rencode_m l).2)]) rfl rfl (run_mv rfl rfl) ?_
  simp only [nz1, nz2, nz3]
  refine lvw 29 (.string (tx ((rencode_m l).1))) rfl rfl (run_ex rfl rfl rfl) ?_
  simp only [nz1, nz2, nz3]
  refine lvw 30 (.int .i64 ((rencode_m l).2)) rfl rfl (run_ex rfl rfl rfl) ?_
  simp only [nz1, nz2, nz3]
  refine lvw 7 (.string (tx ((rencode_m l).1))) rfl rfl (run_as rfl rfl) ?_
  simp only [nz1, nz2, nz3]
  refine lvw 8 (.int .i64 ((rencode_m l).2)) rfl rfl (run_as rfl rfl) ?_
  simp only [nz1, nz2, nz3]
  refine wpList_nil ?_
  refine then_n (hK20 _ _ ?_)
  refine wp_seq_k (fun K23 hK23 => ?_)
  refine wp_region_lit ?_
  refine lvw 32 (lv0) rfl rfl (run_mv rfl rfl) ?_
  simp only [nz1, nz2, nz3]
  refine lvw 33 (.string (tx key)) rfl rfl (run_mv rfl rfl) ?_
  simp only [nz1, nz2, nz3]
  refine lst rfl (m_call hm22 34 (.tuple #[.string (tx ((last_m l key).1)), .bool ((last_m l key).2)]) rfl (run_last rfl rfl rfl) (last_any l key lv0 _ (hm22.see 0 rfl) (by first | omega | assumption | (intro i; exact great_keys (by assumption) i) | (simp; done) | (simp; omega) | (simp only [List.length_append, List.length_cons, List.length_nil]; omega) | (simp only [List.length_append, List.length_cons, List.length_nil] at *; omega) | decide)) (fun w24 (hm25 : Mm none (fun _ => True) w w24 [.see (Rs ePar 2 l lv0) Fl]) => ?_))
  simp only [nz1, nz2, nz3]
  refine lvw 31 (.tuple #[.string (tx ((last_m l key).1)), .bool ((last_m l key).2)]) rfl rfl (run_mv rfl rfl) ?_
  simp only [nz1, nz2, nz3]
  refine lvw 35 (.string (tx ((last_m l key).1))) rfl rfl (run_ex rfl rfl rfl) ?_
  simp only [nz1, nz2, nz3]
  refine lvw 36 (.bool ((last_m l key).2)) rfl rfl (run_ex rfl rfl rfl) ?_
  simp only [nz1, nz2, nz3]
  refine lvw 9 (.string (tx ((last_m l key).1))) rfl rfl (run_as rfl rfl) ?_
  simp only [nz1, nz2, nz3]
  refine lvw 10 (.bool ((last_m l key).2)) rfl rfl (run_as rfl rfl) ?_
  simp only [nz1, nz2, nz3]
  refine wpList_nil ?_
  refine then_n (hK23 _ _ ?_)
  refine wp_seq_k (fun K26 hK26 => ?_)
  refine wp_region_lit ?_
  refine lvw 38 (lv0) rfl rfl (run_mv rfl rfl) ?_
  simp only [nz1, nz2, nz3]
  refine lvw 39 (.string (tx key)) rfl rfl (run_mv rfl rfl) ?_
  simp only [nz1, nz2, nz3]
  refine lst rfl (m_call hm25 40 (.tuple #[.string (tx ((rlast_m l key).1)), .bool ((rlast_m l key).2)]) rfl (run_rlast rfl rfl rfl) (rlast_any l key lv0 _ (hm25.see 0 rfl) (by first | omega | assumption | (intro i; exact great_keys (by assumption) i) | (simp; done) | (simp; omega) | (simp only [List.length_append, List.length_cons, List.length_nil]; omega) | (simp only [List.length_append, List.length_cons, List.length_nil] at *; omega) | decide)) (fun w27 (hm28 : Mm none (fun _ => True) w w27 [.see (Rs ePar 2 l lv0) Fl]) => ?_))
  simp only [nz1, nz2, nz3]
  refine lvw 37 (.tuple #[.string (tx ((rlast_m l key).1)), .bool ((rlast_m l key).2)]) rfl rfl (run_mv rfl rfl) ?_
  simp only [nz1, nz2, nz3]
  refine lvw 41 (.string (tx ((rlast_m l key).1))) rfl rfl (run_ex rfl rfl rfl) ?_
  simp only [nz1, nz2, nz3]
  refine lvw 42 (.bool ((rlast_m l key).2)) rfl rfl (run_ex rfl rfl rfl) ?_
  simp only [nz1, nz2, nz3]
  refine lvw 11 (.string (tx ((rlast_m l key).1))) rfl rfl (run_as rfl rfl) ?_
  simp only [nz1, nz2, nz3]
  refine lvw 12 (.bool ((rlast_m l key).2)) rfl rfl (run_as rfl rfl) ?_
  simp only [nz1, nz2, nz3]
  refine wpList_nil ?_
  refine then_n (hK26 _ _ ?_)
  refine wp_seq_k (fun K29 hK29 => ?_)
  refine wp_region_lit ?_
  refine lst rfl (m_call hm28 43 (.bool (pawake_m)) rfl (run_pawake rfl) (pawake_any   _  (Laid.below hT hm28.below) ) (fun w30 (hm31 : Mm none (fun _ => True) w w30 [.see (Rs ePar 2 l lv0) Fl]) => ?_))
  simp only [nz1, nz2, nz3]
  by_cases hs32 : pawake_m = true
  rotate_left
  · rw [(Bool.eq_false_iff.2 hs32 : pawake_m = false)]
    refine lvw 44 (.bool false) rfl rfl (run_mv rfl rfl) ?_
    simp only [nz1, nz2, nz3]
    refine lst_skip 45 rfl rfl ?_
    simp only [nz1, nz2, nz3]
    refine lst_skip 46 rfl rfl ?_
    simp only [nz1, nz2, nz3]
    refine lst_skip 47 rfl rfl ?_
    simp only [nz1, nz2, nz3]
    refine lvw 48 (.bool false) rfl rfl (run_pickf rfl rfl rfl) ?_
    simp only [nz1, nz2, nz3]
    refine lvw 49 (.bool false) rfl rfl (run_mv rfl rfl) ?_
    simp only [nz1, nz2, nz3]
    refine lst_skip 50 rfl rfl ?_
    simp only [nz1, nz2, nz3]
    refine lst_skip 51 rfl rfl ?_
    simp only [nz1, nz2, nz3]
    refine lst_skip 52 rfl rfl ?_
    simp only [nz1, nz2, nz3]
    refine lvw 53 (.bool false) rfl rfl (run_pickf rfl rfl rfl) ?_
    simp only [nz1, nz2, nz3]
    refine lvw 54 (.bool false) rfl rfl (run_mv rfl rfl) ?_
    simp only [nz1, nz2, nz3]
    refine lst_skip 55 rfl rfl ?_
    simp only [nz1, nz2, nz3]
    refine lst_skip 56 rfl rfl ?_
    simp only [nz1, nz2, nz3]
    refine lst_skip 57 rfl rfl ?_
    simp only [nz1, nz2, nz3]
    refine lvw 58 (.bool false) rfl rfl (run_pickf rfl rfl rfl) ?_
    simp only [nz1, nz2, nz3]
    refine lvw 59 (.bool false) rfl rfl (run_mv rfl rfl) ?_
    simp only [nz1, nz2, nz3]
    refine lst_skip 60 rfl rfl ?_
    simp only [nz1, nz2, nz3]
    refine lst_skip 61 rfl rfl ?_
    simp only [nz1, nz2, nz3]
    refine lst_skip 62 rfl rfl ?_
    simp only [nz1, nz2, nz3]
    refine lvw 63 (.bool false) rfl rfl (run_pickf rfl rfl rfl) ?_
    simp only [nz1, nz2, nz3]
    refine lvw 64 (.bool false) rfl rfl (run_mv rfl rfl) ?_
    simp only [nz1, nz2, nz3]
    refine lst_skip 65 rfl rfl ?_
    simp only [nz1, nz2, nz3]
    refine lst_skip 66 rfl rfl ?_
    simp only [nz1, nz2, nz3]
    refine lst_skip 67 rfl rfl ?_
    simp only [nz1, nz2, nz3]
    refine lst_skip 68 rfl rfl ?_
    simp only [nz1, nz2, nz3]
    refine lst_skip 69 rfl rfl ?_
    simp only [nz1, nz2, nz3]
    refine lvw 70 (.bool false) rfl rfl (run_pickf rfl rfl rfl) ?_
    simp only [nz1, nz2, nz3]
    refine lvw 4 (.bool false) rfl rfl (run_as rfl rfl) ?_
    simp only [nz1, nz2, nz3]
    refine wpList_nil ?_
    refine then_n (hK29 _ _ ?_)
    refine wp_ret ?_
    have he46 : lencodes_m l key = false := (show lencodes_m l key = false from by unfold lencodes_m; rw [if_neg hs6, if_neg hc11, if_neg hs32] <;> rfl)
    exact ⟨rfl, .bool false, res_t rfl rfl, ⟨by rw [he46], hm31.below⟩⟩
  rw [(hs32 : pawake_m = true)]
  refine lvw 44 (.bool true) rfl rfl (run_mv rfl rfl) ?_
  simp only [nz1, nz2, nz3]
  refine lvw 45 (.string (tx ((encode_m l).1))) rfl rfl (run_mv rfl rfl) ?_
  simp only [nz1, nz2, nz3]
  refine lvw 46 (.string (tx ((rencode_m l).1))) rfl rfl (run_mv rfl rfl) ?_
  simp only [nz1, nz2, nz3]
  refine lvb 47 ((encode_m l).1 = (rencode_m l).1) rfl rfl (t_eql ((encode_m l).1) ((rencode_m l).1) rfl rfl rfl) (fun hs33 => ?_) (fun hs33 => ?_)
  rotate_left
  · simp only [nz1, nz2, nz3]
    refine lvw 48 (.bool false) rfl rfl (run_pick rfl rfl rfl) ?_
    simp only [nz1, nz2, nz3]
    refine lvw 49 (.bool false) rfl rfl (run_mv rfl rfl) ?_
    simp only [nz1, nz2, nz3]
    refine lst_skip 50 rfl rfl ?_
    simp only [nz1, nz2, nz3]
    refine lst_skip 51 rfl rfl ?_
    simp only [nz1, nz2, nz3]
    refine lst_skip 52 rfl rfl ?_
    simp only [nz1, nz2, nz3]
    refine lvw 53 (.bool false) rfl rfl (run_pickf rfl rfl rfl) ?_
    simp only [nz1, nz2, nz3]
    refine lvw 54 (.bool false) rfl rfl (run_mv rfl rfl) ?_
    simp only [nz1, nz2, nz3]
    refine lst_skip 55 rfl rfl ?_
    simp only [nz1, nz2, nz3]
    refine lst_skip 56 rfl rfl ?_
    simp only [nz1, nz2, nz3]
    refine lst_skip 57 rfl rfl ?_
    simp only [nz1, nz2, nz3]
    refine lvw 58 (.bool false) rfl rfl (run_pickf rfl rfl rfl) ?_
    simp only [nz1, nz2, nz3]
    refine lvw 59 (.bool false) rfl rfl (run_mv rfl rfl) ?_
    simp only [nz1, nz2, nz3]
    refine lst_skip 60 rfl rfl ?_
    simp only [nz1, nz2, nz3]
    refine lst_skip 61 rfl rfl ?_
    simp only [nz1, nz2, nz3]
    refine lst_skip 62 rfl rfl ?_
    simp only [nz1, nz2, nz3]
    refine lvw 63 (.bool false) rfl rfl (run_pickf rfl rfl rfl) ?_
    simp only [nz1, nz2, nz3]
    refine lvw 64 (.bool false) rfl rfl (run_mv rfl rfl) ?_
    simp only [nz1, nz2, nz3]
    refine lst_skip 65 rfl rfl ?_
    simp only [nz1, nz2, nz3]
    refine lst_skip 66 rfl rfl ?_
    simp only [nz1, nz2, nz3]
    refine lst_skip 67 rfl rfl ?_
    simp only [nz1, nz2, nz3]
    refine lst_skip 68 rfl rfl ?_
    simp only [nz1, nz2, nz3]
    refine lst_skip 69 rfl rfl ?_
    simp only [nz1, nz2, nz3]
    refine lvw 70 (.bool false) rfl rfl (run_pickf rfl rfl rfl) ?_
    simp only [nz1, nz2, nz3]
    refine lvw 4 (.bool false) rfl rfl (run_as rfl rfl) ?_
    simp only [nz1, nz2, nz3]
    refine wpList_nil ?_
    refine then_n (hK29 _ _ ?_)
    refine wp_ret ?_
    have he45 : lencodes_m l key = false := (show lencodes_m l key = false from by unfold lencodes_m; rw [if_neg hs6, if_neg hc11, if_pos hs32, if_neg hs33] <;> rfl)
    exact ⟨rfl, .bool false, res_t rfl rfl, ⟨by rw [he45], hm31.below⟩⟩
  simp only [nz1, nz2, nz3]
  refine lvw 48 (.bool true) rfl rfl (run_pick rfl rfl rfl) ?_
  simp only [nz1, nz2, nz3]
  refine lvw 49 (.bool true) rfl rfl (run_mv rfl rfl) ?_
  simp only [nz1, nz2, nz3]
  refine lvw 50 (.int .i64 ((encode_m l).2)) rfl rfl (run_mv rfl rfl) ?_
  simp only [nz1, nz2, nz3]
  refine lvw 51 (.int .i64 ((rencode_m l).2)) rfl rfl (run_mv rfl rfl) ?_
  simp only [nz1, nz2, nz3]
  refine lvb 52 ((encode_m l).2 = (rencode_m l).2) rfl rfl (z_eql ((encode_m l).2) ((rencode_m l).2) rfl rfl rfl) (fun hs34 => ?_) (fun hs34 => ?_)
  rotate_left
  · simp only [nz1, nz2, nz3]
    refine lvw 53 (.bool false) rfl rfl (run_pick rfl rfl rfl) ?_
    simp only [nz1, nz2, nz3]
    refine lvw 54 (.bool false) rfl rfl (run_mv rfl rfl) ?_
    simp only [nz1, nz2, nz3]
    refine lst_skip 55 rfl rfl ?_
    simp only [nz1, nz2, nz3]
    refine lst_skip 56 rfl rfl ?_
    simp only [nz1, nz2, nz3]
    refine lst_skip 57 rfl rfl ?_
    simp only [nz1, nz2, nz3]
    refine lvw 58 (.bool false) rfl rfl (run_pickf rfl rfl rfl) ?_
    simp only [nz1, nz2, nz3]
    refine lvw 59 (.bool false) rfl rfl (run_mv rfl rfl) ?_
    simp only [nz1, nz2, nz3]
    refine lst_skip 60 rfl rfl ?_
    simp only [nz1, nz2, nz3]
    refine lst_skip 61 rfl rfl ?_
    simp only [nz1, nz2, nz3]
    refine lst_skip 62 rfl rfl ?_
    simp only [nz1, nz2, nz3]
    refine lvw 63 (.bool false) rfl rfl (run_pickf rfl rfl rfl) ?_
    simp only [nz1, nz2, nz3]
    refine lvw 64 (.bool false) rfl rfl (run_mv rfl rfl) ?_
    simp only [nz1, nz2, nz3]
    refine lst_skip 65 rfl rfl ?_
    simp only [nz1, nz2, nz3]
    refine lst_skip 66 rfl rfl ?_
    simp only [nz1, nz2, nz3]
    refine lst_skip 67 rfl rfl ?_
    simp only [nz1, nz2, nz3]
    refine lst_skip 68 rfl rfl ?_
    simp only [nz1, nz2, nz3]
    refine lst_skip 69 rfl rfl ?_
    simp only [nz1, nz2, nz3]
    refine lvw 70 (.bool false) rfl rfl (run_pickf rfl rfl rfl) ?_
    simp only [nz1, nz2, nz3]
    refine lvw 4 (.bool false) rfl rfl (run_as rfl rfl) ?_
    simp only [nz1, nz2, nz3]
    refine wpList_nil ?_
    refine then_n (hK29 _ _ ?_)
    refine wp_ret ?_
    have he44 : lencodes_m l key = false := (show lencodes_m l key = false from by unfold lencodes_m; rw [if_neg hs6, if_neg hc11, if_pos hs32, if_pos hs33, if_neg hs34] <;> rfl)
    exact ⟨rfl, .bool false, res_t rfl rfl, ⟨by rw [he44], hm31.below⟩⟩
  simp only [nz1, nz2, nz3]
  refine lvw 53 (.bool true) rfl rfl (run_pick rfl rfl rfl) ?_
  simp only [nz1, nz2, nz3]
  refine lvw 54 (.bool true) rfl rfl (run_mv rfl rfl) ?_
  simp only [nz1, nz2, nz3]
  refine lvw 55 (.string (tx ((last_m l key).1))) rfl rfl (run_mv rfl rfl) ?_
  simp only [nz1, nz2, nz3]
  refine lvw 56 (.string (tx ((rlast_m l key).1))) rfl rfl (run_mv rfl rfl) ?_
  simp only [nz1, nz2, nz3]
  refine lvb 57 ((last_m l key).1 = (rlast_m l key).1) rfl rfl (t_eql ((last_m l key).1) ((rlast_m l key).1) rfl rfl rfl) (fun hs35 => ?_) (fun hs35 => ?_)
  rotate_left
  · simp only [nz1, nz2, nz3]
    refine lvw 58 (.bool false) rfl rfl (run_pick rfl rfl rfl) ?_
    simp only [nz1, nz2, nz3]
    refine lvw 59 (.bool false) rfl rfl (run_mv rfl rfl) ?_
    simp only [nz1, nz2, nz3]
    refine lst_skip 60 rfl rfl ?_
    simp only [nz1, nz2, nz3]
    refine lst_skip 61 rfl rfl ?_
    simp only [nz1, nz2, nz3]
    refine lst_skip 62 rfl rfl ?_
    simp only [nz1, nz2, nz3]
    refine lvw 63 (.bool false) rfl rfl (run_pickf rfl rfl rfl) ?_
    simp only [nz1, nz2, nz3]
    refine lvw 64 (.bool false) rfl rfl (run_mv rfl rfl) ?_
    simp only [nz1, nz2, nz3]
    refine lst_skip 65 rfl rfl ?_
    simp only [nz1, nz2, nz3]
    refine lst_skip 66 rfl rfl ?_
    simp only [nz1, nz2, nz3]
    refine lst_skip 67 rfl rfl ?_
    simp only [nz1, nz2, nz3]
    refine lst_skip 68 rfl rfl ?_
    simp only [nz1, nz2, nz3]
    refine lst_skip 69 rfl rfl ?_
    simp only [nz1, nz2, nz3]
    refine lvw 70 (.bool false) rfl rfl (run_pickf rfl rfl rfl) ?_
    simp only [nz1, nz2, nz3]
    refine lvw 4 (.bool false) rfl rfl (run_as rfl rfl) ?_
    simp only [nz1, nz2, nz3]
    refine wpList_nil ?_
    refine then_n (hK29 _ _ ?_)
    refine wp_ret ?_
    have he43 : lencodes_m l key = false := (show lencodes_m l key = false from by unfold lencodes_m; rw [if_neg hs6, if_neg hc11, if_pos hs32, if_pos hs33, if_pos hs34, if_neg hs35] <;> rfl)
    exact ⟨rfl, .bool false, res_t rfl rfl, ⟨by rw [he43], hm31.below⟩⟩
  simp only [nz1, nz2, nz3]
  refine lvw 58 (.bool true) rfl rfl (run_pick rfl rfl rfl) ?_
  simp only [nz1, nz2, nz3]
  refine lvw 59 (.bool true) rfl rfl (run_mv rfl rfl) ?_
  simp only [nz1, nz2, nz3]
  refine lvw 60 (.bool ((last_m l key).2)) rfl rfl (run_mv rfl rfl) ?_
  simp only [nz1, nz2, nz3]
  refine lvw 61 (.bool ((rlast_m l key).2)) rfl rfl (run_mv rfl rfl) ?_
  simp only [nz1, nz2, nz3]
  refine lvB 62 (((last_m l key).2) == ((rlast_m l key).2)) rfl rfl (b_eql ((last_m l key).2) ((rlast_m l key).2) rfl rfl rfl) (fun hs36 => ?_) (fun hs36 => ?_)
  · simp only [nz1, nz2, nz3]
    refine lvw 63 (.bool true) rfl rfl (run_pick rfl rfl rfl) ?_
    simp only [nz1, nz2, nz3]
    refine lvw 64 (.bool true) rfl rfl (run_mv rfl rfl) ?_
    simp only [nz1, nz2, nz3]
    refine lvw 65 (.string (tx key)) rfl rfl (run_mv rfl rfl) ?_
    simp only [nz1, nz2, nz3]
    refine lst rfl (m_call hm31 66 (.bool ((key_m key))) rfl (run_key rfl rfl) (key_any key  _  ) (fun w37 (hm38 : Mm none (fun _ => True) w w37 [.see (Rs ePar 2 l lv0) Fl]) => ?_))
    simp only [nz1, nz2, nz3]
    refine lvw 67 (.string (tx key)) rfl rfl (run_mv rfl rfl) ?_
    simp only [nz1, nz2, nz3]
    refine lst rfl (m_call hm38 68 (.bool ((rkey_m key))) rfl (run_rkey rfl rfl) (rkey_any key  _  (by first | omega | assumption | (intro i; exact great_keys (by assumption) i) | (simp; done) | (simp; omega) | (simp only [List.length_append, List.length_cons, List.length_nil]; omega) | (simp only [List.length_append, List.length_cons, List.length_nil] at *; omega) | decide)) (fun w39 (hm40 : Mm none (fun _ => True) w w39 [.see (Rs ePar 2 l lv0) Fl]) => ?_))
    simp only [nz1, nz2, nz3]
    refine lvw 69 (.bool ((key_m key) == (rkey_m key))) rfl rfl (b_eql (key_m key) (rkey_m key) rfl rfl rfl) ?_
    simp only [nz1, nz2, nz3]
    refine lvw 70 (.bool ((key_m key) == (rkey_m key))) rfl rfl (run_pick rfl rfl rfl) ?_
    simp only [nz1, nz2, nz3]
    refine lvw 4 (.bool ((key_m key) == (rkey_m key))) rfl rfl (run_as rfl rfl) ?_
    simp only [nz1, nz2, nz3]
    refine wpList_nil ?_
    refine then_n (hK29 _ _ ?_)
    refine wp_ret ?_
    have he41 : lencodes_m l key = ((key_m key) == (rkey_m key)) := (show lencodes_m l key = ((key_m key) == (rkey_m key)) from by unfold lencodes_m; rw [if_neg hs6, if_neg hc11, if_pos hs32, if_pos hs33, if_pos hs34, if_pos hs35, if_pos hs36] <;> rfl)
    exact ⟨rfl, .bool ((key_m key) == (rkey_m key)), res_t rfl rfl, ⟨by rw [he41], hm40.below⟩⟩
  simp only [nz1, nz2, nz3]
  refine lvw 63 (.bool false) rfl rfl (run_pick rfl rfl rfl) ?_
  simp only [nz1, nz2, nz3]
  refine lvw 64 (.bool false) rfl rfl (run_mv rfl rfl) ?_
  simp only [nz1, nz2, nz3]
  refine lst_skip 65 rfl rfl ?_
  simp only [nz1, nz2, nz3]
  refine lst_skip 66 rfl rfl ?_
  simp only [nz1, nz2, nz3]
  refine lst_skip 67 rfl rfl ?_
  simp only [nz1, nz2, nz3]
  refine lst_skip 68 rfl rfl ?_
  simp only [nz1, nz2, nz3]
  refine lst_skip 69 rfl rfl ?_
  simp only [nz1, nz2, nz3]
  refine lvw 70 (.bool false) rfl rfl (run_pickf rfl rfl rfl) ?_
  simp only [nz1, nz2, nz3]
  refine lvw 4 (.bool false) rfl rfl (run_as rfl rfl) ?_
  simp only [nz1, nz2, nz3]
  refine wpList_nil ?_
  refine then_n (hK29 _ _ ?_)
  refine wp_ret ?_
  have he42 : lencodes_m l key = false := (show lencodes_m l key = false from by unfold lencodes_m; rw [if_neg hs6, if_neg hc11, if_pos hs32, if_pos hs33, if_pos hs34, if_pos hs35, if_neg hs36] <;> rfl)
  exact ⟨rfl, .bool false, res_t rfl rfl, ⟨by rw [he42], hm31.below⟩⟩
theorem run_lencodes {o : Oper} {a : Act} {w : World} {x0 x1 : Operand} {v0 v1 : Value} (ho : o.op = .call { callee := .value (.func 8), args := #[x0, x1], argTypes := #[36, 9] }) (h0 : a.eval x0 = v0) (h1 : a.eval x1 = v1) :
    (execOp a.eval o).run Tryd.prog w = .ok (.enter 8 #[v0, v1]) w := by
  unfold execOp
  simp only [ho]
  have hf : a.eval (.func 8) = .func (.func 8) #[] #[] := rfl
  generalize a.eval = f at *
  go_simp
end Go.Proofs.YtglnifckngcpkaaDoor.Px
