/- Layer 10: PaxBack. -/
import Derived.Test.YtglnifckngcpkaaDoorPxP
namespace Go.Proofs.YtglnifckngcpkaaDoor.Px
open Go.RowKit
open Go.Proofs.YtglnifckngcpkaaDoor.Sym Go.Proofs.YtglnifckngcpkaaDoor.Mem
open Go.Proofs.YtglnifckngcpkaaDoor.Sx hiding Mm m_alloc m_store m_put m_call m_callx m_make m_append r_string r_ixS
set_option linter.unusedVariables false
attribute [local irreducible] plen_m itoa_m atoi_v atoi_ok cut_m key_m pdig_m ib_m record_m first_m
attribute [local irreducible] encode_m decode_m last_m rencode_m rdecode_m rlast_m same_m great_m rkey_m
attribute [local irreducible] wpList Oper.wp

def lback_m (l : List Par) (s : List UInt8) : Bool :=
  if (great_m l) = true then
    pawake_m
  else
    if 20000 < s.length then
      pawake_m
    else
      if (encode_m l).2 = 0 then
        if ¬ (decode_m ((encode_m l).1)).2 = 0 then
          false
        else
          if (!(same_m l ((decode_m ((encode_m l).1)).1))) = true then
            false
          else
            if pawake_m = true then
              if ¬ (decode_m s).2 = 0 then
                true
              else
                if (encode_m ((decode_m s).1)).2 = 0 then
                  (decide ((encode_m ((decode_m s).1)).1 = s))
                else
                  false
            else
              false
      else
        if pawake_m = true then
          if ¬ (decode_m s).2 = 0 then
            true
          else
            if (encode_m ((decode_m s).1)).2 = 0 then
              (decide ((encode_m ((decode_m s).1)).1 = s))
            else
              false
        else
          false

set_option maxHeartbeats 4000000 in
set_option maxRecDepth 100000 in
theorem lback_any (l : List Par) (s : List UInt8) (lv0 : Value) (w : World) (hl : Rs ePar 2 l lv0 w) (hT : Laid w) (hp0 : l.length ≤ 4398046511104) : Calls Tryd.prog 10 #[lv0, .string (tx s)] w (fun e w' => e = .returned (.bool ((lback_m l s))) ∧ Below w.heap.size w w') := by
  go_enter Tryd.func10, Tryd.ntmps10
  have hm00 := Mm.nil none (fun _ => True) w
  obtain ⟨Fl, hm01⟩ : ∃ Fl, Mm none (fun _ => True) w w [.see (Rs ePar 2 l lv0) Fl] := hm00.come (Rs.all hl)
  have hm0 := hm01
  refine wp_seq_k (fun K1 hK1 => ?_)
  refine wp_region_lit ?_
  refine lvw 4 (.bool false) rfl rfl (run_as rfl rfl) ?_
  simp only [nz1, nz2, nz3]
  refine wpList_nil ?_
  refine then_n (hK1 _ _ ?_)
  refine wp_seq_k (fun K2 hK2 => ?_)
  refine wp_seq_k (fun K3 hK3 => ?_)
  refine wp_region_lit ?_
  refine lvw 13 (lv0) rfl rfl (run_mv rfl rfl) ?_
  simp only [nz1, nz2, nz3]
  refine lst rfl (m_call hm0 14 (.bool ((great_m l))) rfl (run_great rfl rfl) (great_any l lv0 _ (hm0.see 0 rfl) (by first | omega | assumption | (simp; done) | (simp; omega) | (simp only [List.length_append, List.length_cons, List.length_nil]; omega) | (simp only [List.length_append, List.length_cons, List.length_nil] at *; omega) | decide)) (fun w4 (hm5 : Mm none (fun _ => True) w w4 [.see (Rs ePar 2 l lv0) Fl]) => ?_))
  simp only [nz1, nz2, nz3]
  by_cases hs6 : (great_m l) = true
  · rw [(hs6 : (great_m l) = true)]
    refine lvw 15 (.bool true) rfl rfl (run_mv rfl rfl) ?_
    simp only [nz1, nz2, nz3]
    refine lst_skip 16 rfl rfl ?_
    simp only [nz1, nz2, nz3]
    refine lst_skip 17 rfl rfl ?_
    simp only [nz1, nz2, nz3]
    refine lst_skip 18 rfl rfl ?_
    simp only [nz1, nz2, nz3]
    refine lvw 19 (.bool true) rfl rfl (run_pick rfl rfl rfl) ?_
    simp only [nz1, nz2, nz3]
    refine wpList_nil ?_
    refine then_n (hK3 _ _ ?_)
    refine cond_t rfl ?_
    refine wp_seq_k (fun K7 hK7 => ?_)
    refine wp_region_lit ?_
    refine lst rfl (m_call hm5 20 (.bool (pawake_m)) rfl (run_pawake rfl) (pawake_any   _  (Laid.below hT hm5.below) ) (fun w8 (hm9 : Mm none (fun _ => True) w w8 [.see (Rs ePar 2 l lv0) Fl]) => ?_))
    simp only [nz1, nz2, nz3]
    refine lvw 4 (.bool (pawake_m)) rfl rfl (run_as rfl rfl) ?_
    simp only [nz1, nz2, nz3]
    refine wpList_nil ?_
    refine then_n (hK7 _ _ ?_)
    refine wp_ret ?_
    refine then_r ?_
    have he10 : lback_m l s = pawake_m := (show lback_m l s = pawake_m from by unfold lback_m; rw [if_pos hs6] <;> rfl)
    exact ⟨rfl, .bool (pawake_m), res_t rfl rfl, ⟨by rw [he10], hm9.below⟩⟩
  rw [(Bool.eq_false_iff.2 hs6 : (great_m l) = false)]
  refine lvw 15 (.bool false) rfl rfl (run_mv rfl rfl) ?_
  simp only [nz1, nz2, nz3]
  refine lvw 16 (.string (tx s)) rfl rfl (run_mv rfl rfl) ?_
  simp only [nz1, nz2, nz3]
  refine lvw 17 (.int .i64 ((s.length : Nat) : Int)) rfl rfl (t_len rfl Tryd.underlying9 rfl) ?_
  simp only [nz1, nz2, nz3]
  refine lvw 18 (.bool (decide (20000 < s.length))) rfl rfl (r_gtr s.length 20000 rfl rfl rfl) ?_
  simp only [nz1, nz2, nz3]
  refine lvw 19 (.bool (decide (20000 < s.length))) rfl rfl (run_pickf rfl rfl rfl) ?_
  simp only [nz1, nz2, nz3]
  refine wpList_nil ?_
  refine then_n (hK3 _ _ ?_)
  refine cond_d (20000 < s.length) rfl (fun hc11 => ?_) (fun hc11 => ?_)
  · refine wp_seq_k (fun K12 hK12 => ?_)
    refine wp_region_lit ?_
    refine lst rfl (m_call hm5 20 (.bool (pawake_m)) rfl (run_pawake rfl) (pawake_any   _  (Laid.below hT hm5.below) ) (fun w13 (hm14 : Mm none (fun _ => True) w w13 [.see (Rs ePar 2 l lv0) Fl]) => ?_))
    simp only [nz1, nz2, nz3]
    refine lvw 4 (.bool (pawake_m)) rfl rfl (run_as rfl rfl) ?_
    simp only [nz1, nz2, nz3]
    refine wpList_nil ?_
    refine then_n (hK12 _ _ ?_)
    refine wp_ret ?_
    refine then_r ?_
    have he15 : lback_m l s = pawake_m := (show lback_m l s = pawake_m from by unfold lback_m; rw [if_neg hs6, if_pos hc11] <;> rfl)
    exact ⟨rfl, .bool (pawake_m), res_t rfl rfl, ⟨by rw [he15], hm14.below⟩⟩
  refine wp_skip ?_
  refine then_n (hK2 _ _ ?_)
  refine wp_seq_k (fun K16 hK16 => ?_)
  refine wp_region_lit ?_
  refine lvw 22 (lv0) rfl rfl (run_mv rfl rfl) ?_
  simp only [nz1, nz2, nz3]
  refine lst rfl (m_call hm5 23 (.tuple #[.string (tx ((encode_m l).1)), .int .i64 ((encode_m l).2)]) rfl (run_encode rfl rfl) (encode_any l lv0 _ (hm5.see 0 rfl) (Laid.below hT hm5.below) (by first | omega | assumption | (simp; done) | (simp; omega) | (simp only [List.length_append, List.length_cons, List.length_nil]; omega) | (simp only [List.length_append, List.length_cons, List.length_nil] at *; omega) | decide)) (fun w17 (hm18 : Mm none (fun _ => True) w w17 [.see (Rs ePar 2 l lv0) Fl]) => ?_))
  have hf19 : (encode_m l).1.length ≤ 1048576 := encode_len l
  simp only [nz1, nz2, nz3]
  refine lvw 21 (.tuple #[.string (tx ((encode_m l).1)), .int .i64 ((encode_m l).2)]) rfl rfl (run_mv rfl rfl) ?_
  simp only [nz1, nz2, nz3]
  refine lvw 24 (.string (tx ((encode_m l).1))) rfl rfl (run_ex rfl rfl rfl) ?_
  simp only [nz1, nz2, nz3]
  refine lvw 25 (.int .i64 ((encode_m l).2)) rfl rfl (run_ex rfl rfl rfl) ?_
  simp only [nz1, nz2, nz3]
  refine lvw 5 (.string (tx ((encode_m l).1))) rfl rfl (run_as rfl rfl) ?_
  simp only [nz1, nz2, nz3]
  refine lvw 6 (.int .i64 ((encode_m l).2)) rfl rfl (run_as rfl rfl) ?_
  simp only [nz1, nz2, nz3]
  refine wpList_nil ?_
  refine then_n (hK16 _ _ ?_)
  refine wp_seq_k (fun K20 hK20 => ?_)
  refine wp_region_lit ?_
  refine lvw 27 (.string (tx ((encode_m l).1))) rfl rfl (run_mv rfl rfl) ?_
  simp only [nz1, nz2, nz3]
  refine lst rfl (m_callx hm18 28 rfl (run_decode rfl rfl) (decode_any ((encode_m l).1)  (seeS [.see (Rs ePar 2 l lv0) Fl]) _  (Laid.below hT hm18.below) ) (fun vv26 w21 hR27 hb28 hm22 => ?_))
  obtain ⟨v23, rfl, hg29⟩ := hR27
  obtain ⟨F25, hm30⟩ : ∃ F25, Mm none (fun _ => True) w w21 [.see (Rs ePar 2 l lv0) Fl, .see (Rs ePar 2 ((decode_m ((encode_m l).1)).1) v23) F25] := Mm.tookS hm18 hb28 hg29
  clear hm22 hg29 hb28
  have hf31 : (decode_m ((encode_m l).1)).1.length ≤ 1048576 := decode_len ((encode_m l).1)
  simp only [nz1, nz2, nz3]
  refine lvw 26 (.tuple #[v23, .int .i64 ((decode_m ((encode_m l).1)).2)]) rfl rfl (run_mv rfl rfl) ?_
  simp only [nz1, nz2, nz3]
  refine lvw 29 (v23) rfl rfl (run_ex rfl rfl rfl) ?_
  simp only [nz1, nz2, nz3]
  refine lvw 30 (.int .i64 ((decode_m ((encode_m l).1)).2)) rfl rfl (run_ex rfl rfl rfl) ?_
  simp only [nz1, nz2, nz3]
  refine lvw 7 (v23) rfl rfl (run_as rfl rfl) ?_
  simp only [nz1, nz2, nz3]
  refine lvw 8 (.int .i64 ((decode_m ((encode_m l).1)).2)) rfl rfl (run_as rfl rfl) ?_
  simp only [nz1, nz2, nz3]
  refine wpList_nil ?_
  refine then_n (hK20 _ _ ?_)
  refine wp_seq_k (fun K32 hK32 => ?_)
  refine wp_seq_k (fun K33 hK33 => ?_)
  refine wp_region_lit ?_
  refine lvw 31 (.int .i64 ((encode_m l).2)) rfl rfl (run_mv rfl rfl) ?_
  simp only [nz1, nz2, nz3]
  refine lvb 32 ((encode_m l).2 = 0) rfl rfl (z_eql ((encode_m l).2) 0 rfl rfl rfl) (fun hs34 => ?_) (fun hs34 => ?_)
  rotate_left
  · simp only [nz1, nz2, nz3]
    refine lvw 33 (.bool false) rfl rfl (run_mv rfl rfl) ?_
    simp only [nz1, nz2, nz3]
    refine lst_skip 34 rfl rfl ?_
    simp only [nz1, nz2, nz3]
    refine lst_skip 35 rfl rfl ?_
    simp only [nz1, nz2, nz3]
    refine lst_skip 36 rfl rfl ?_
    simp only [nz1, nz2, nz3]
    refine lst_skip 37 rfl rfl ?_
    simp only [nz1, nz2, nz3]
    refine lst_skip 38 rfl rfl ?_
    simp only [nz1, nz2, nz3]
    refine lst_skip 39 rfl rfl ?_
    simp only [nz1, nz2, nz3]
    refine lst_skip 40 rfl rfl ?_
    simp only [nz1, nz2, nz3]
    refine lst_skip 41 rfl rfl ?_
    simp only [nz1, nz2, nz3]
    refine lvw 42 (.bool false) rfl rfl (run_pickf rfl rfl rfl) ?_
    simp only [nz1, nz2, nz3]
    refine wpList_nil ?_
    refine then_n (hK33 _ _ ?_)
    refine cond_f rfl ?_
    refine wp_skip ?_
    refine then_n (hK32 _ _ ?_)
    refine wp_seq_k (fun K69 hK69 => ?_)
    refine wp_region_lit ?_
    refine lvw 44 (.string (tx s)) rfl rfl (run_mv rfl rfl) ?_
    simp only [nz1, nz2, nz3]
    refine lst rfl (m_callx hm30 45 rfl (run_decode rfl rfl) (decode_any s  (seeS [.see (Rs ePar 2 l lv0) Fl, .see (Rs ePar 2 ((decode_m ((encode_m l).1)).1) v23) F25]) _  (Laid.below hT hm30.below) ) (fun vv75 w70 hR76 hb77 hm71 => ?_))
    obtain ⟨v72, rfl, hg78⟩ := hR76
    obtain ⟨F74, hm79⟩ : ∃ F74, Mm none (fun _ => True) w w70 [.see (Rs ePar 2 l lv0) Fl, .see (Rs ePar 2 ((decode_m ((encode_m l).1)).1) v23) F25, .see (Rs ePar 2 ((decode_m s).1) v72) F74] := Mm.tookS hm30 hb77 hg78
    clear hm71 hg78 hb77
    have hf80 : (decode_m s).1.length ≤ 1048576 := decode_len s
    simp only [nz1, nz2, nz3]
    refine lvw 43 (.tuple #[v72, .int .i64 ((decode_m s).2)]) rfl rfl (run_mv rfl rfl) ?_
    simp only [nz1, nz2, nz3]
    refine lvw 46 (v72) rfl rfl (run_ex rfl rfl rfl) ?_
    simp only [nz1, nz2, nz3]
    refine lvw 47 (.int .i64 ((decode_m s).2)) rfl rfl (run_ex rfl rfl rfl) ?_
    simp only [nz1, nz2, nz3]
    refine lvw 9 (v72) rfl rfl (run_as rfl rfl) ?_
    simp only [nz1, nz2, nz3]
    refine lvw 10 (.int .i64 ((decode_m s).2)) rfl rfl (run_as rfl rfl) ?_
    simp only [nz1, nz2, nz3]
    refine wpList_nil ?_
    refine then_n (hK69 _ _ ?_)
    refine wp_seq_k (fun K81 hK81 => ?_)
    refine wp_region_lit ?_
    refine lvw 49 (v72) rfl rfl (run_mv rfl rfl) ?_
    simp only [nz1, nz2, nz3]
    refine lst rfl (m_call hm79 50 (.tuple #[.string (tx ((encode_m ((decode_m s).1)).1)), .int .i64 ((encode_m ((decode_m s).1)).2)]) rfl (run_encode rfl rfl) (encode_any ((decode_m s).1) v72 _ (hm79.see 2 rfl) (Laid.below hT hm79.below) (by first | omega | assumption | (simp; done) | (simp; omega) | (simp only [List.length_append, List.length_cons, List.length_nil]; omega) | (simp only [List.length_append, List.length_cons, List.length_nil] at *; omega) | decide)) (fun w82 (hm83 : Mm none (fun _ => True) w w82 [.see (Rs ePar 2 l lv0) Fl, .see (Rs ePar 2 ((decode_m ((encode_m l).1)).1) v23) F25, .see (Rs ePar 2 ((decode_m s).1) v72) F74]) => ?_))
    have hf84 : (encode_m ((decode_m s).1)).1.length ≤ 1048576 := encode_len ((decode_m s).1)
    simp only [nz1, nz2, nz3]
    refine lvw 48 (.tuple #[.string (tx ((encode_m ((decode_m s).1)).1)), .int .i64 ((encode_m ((decode_m s).1)).2)]) rfl rfl (run_mv rfl rfl) ?_
    simp only [nz1, nz2, nz3]
    refine lvw 51 (.string (tx ((encode_m ((decode_m s).1)).1))) rfl rfl (run_ex rfl rfl rfl) ?_
    simp only [nz1, nz2, nz3]
    refine lvw 52 (.int .i64 ((encode_m ((decode_m s).1)).2)) rfl rfl (run_ex rfl rfl rfl) ?_
    simp only [nz1, nz2, nz3]
    refine lvw 11 (.string (tx ((encode_m ((decode_m s).1)).1))) rfl rfl (run_as rfl rfl) ?_
    simp only [nz1, nz2, nz3]
    refine lvw 12 (.int .i64 ((encode_m ((decode_m s).1)).2)) rfl rfl (run_as rfl rfl) ?_
    simp only [nz1, nz2, nz3]
    refine wpList_nil ?_
    refine then_n (hK81 _ _ ?_)
    refine wp_seq_k (fun K85 hK85 => ?_)
    refine wp_region_lit ?_
    refine lst rfl (m_call hm83 53 (.bool (pawake_m)) rfl (run_pawake rfl) (pawake_any   _  (Laid.below hT hm83.below) ) (fun w86 (hm87 : Mm none (fun _ => True) w w86 [.see (Rs ePar 2 l lv0) Fl, .see (Rs ePar 2 ((decode_m ((encode_m l).1)).1) v23) F25, .see (Rs ePar 2 ((decode_m s).1) v72) F74]) => ?_))
    simp only [nz1, nz2, nz3]
    by_cases hs88 : pawake_m = true
    rotate_left
    · rw [(Bool.eq_false_iff.2 hs88 : pawake_m = false)]
      refine lvw 54 (.bool false) rfl rfl (run_mv rfl rfl) ?_
      simp only [nz1, nz2, nz3]
      refine lst_skip 55 rfl rfl ?_
      simp only [nz1, nz2, nz3]
      refine lst_skip 56 rfl rfl ?_
      simp only [nz1, nz2, nz3]
      refine lst_skip 57 rfl rfl ?_
      simp only [nz1, nz2, nz3]
      refine lst_skip 58 rfl rfl ?_
      simp only [nz1, nz2, nz3]
      refine lst_skip 59 rfl rfl ?_
      simp only [nz1, nz2, nz3]
      refine lst_skip 60 rfl rfl ?_
      simp only [nz1, nz2, nz3]
      refine lst_skip 61 rfl rfl ?_
      simp only [nz1, nz2, nz3]
      refine lst_skip 62 rfl rfl ?_
      simp only [nz1, nz2, nz3]
      refine lst_skip 63 rfl rfl ?_
      simp only [nz1, nz2, nz3]
      refine lst_skip 64 rfl rfl ?_
      simp only [nz1, nz2, nz3]
      refine lst_skip 65 rfl rfl ?_
      simp only [nz1, nz2, nz3]
      refine lvw 66 (.bool false) rfl rfl (run_pickf rfl rfl rfl) ?_
      simp only [nz1, nz2, nz3]
      refine lvw 4 (.bool false) rfl rfl (run_as rfl rfl) ?_
      simp only [nz1, nz2, nz3]
      refine wpList_nil ?_
      refine then_n (hK85 _ _ ?_)
      refine wp_ret ?_
      have he94 : lback_m l s = false := (show lback_m l s = false from by unfold lback_m; rw [if_neg hs6, if_neg hc11, if_neg hs34, if_neg hs88] <;> rfl)
      exact ⟨rfl, .bool false, res_t rfl rfl, ⟨by rw [he94], hm87.below⟩⟩
    rw [(hs88 : pawake_m = true)]
    refine lvw 54 (.bool true) rfl rfl (run_mv rfl rfl) ?_
    simp only [nz1, nz2, nz3]
    refine lvw 55 (.int .i64 ((decode_m s).2)) rfl rfl (run_mv rfl rfl) ?_
    simp only [nz1, nz2, nz3]
    refine lvb 56 (¬ (decode_m s).2 = 0) rfl rfl (z_neq ((decode_m s).2) 0 rfl rfl rfl) (fun hs89 => ?_) (fun hs89 => ?_)
    · simp only [nz1, nz2, nz3]
      refine lvw 57 (.bool true) rfl rfl (run_mv rfl rfl) ?_
      simp only [nz1, nz2, nz3]
      refine lst_skip 58 rfl rfl ?_
      simp only [nz1, nz2, nz3]
      refine lst_skip 59 rfl rfl ?_
      simp only [nz1, nz2, nz3]
      refine lst_skip 60 rfl rfl ?_
      simp only [nz1, nz2, nz3]
      refine lst_skip 61 rfl rfl ?_
      simp only [nz1, nz2, nz3]
      refine lst_skip 62 rfl rfl ?_
      simp only [nz1, nz2, nz3]
      refine lst_skip 63 rfl rfl ?_
      simp only [nz1, nz2, nz3]
      refine lst_skip 64 rfl rfl ?_
      simp only [nz1, nz2, nz3]
      refine lvw 65 (.bool true) rfl rfl (run_pick rfl rfl rfl) ?_
      simp only [nz1, nz2, nz3]
      refine lvw 66 (.bool true) rfl rfl (run_pick rfl rfl rfl) ?_
      simp only [nz1, nz2, nz3]
      refine lvw 4 (.bool true) rfl rfl (run_as rfl rfl) ?_
      simp only [nz1, nz2, nz3]
      refine wpList_nil ?_
      refine then_n (hK85 _ _ ?_)
      refine wp_ret ?_
      have he90 : lback_m l s = true := (show lback_m l s = true from by unfold lback_m; rw [if_neg hs6, if_neg hc11, if_neg hs34, if_pos hs88, if_pos hs89] <;> rfl)
      exact ⟨rfl, .bool true, res_t rfl rfl, ⟨by rw [he90], hm87.below⟩⟩
    simp only [nz1, nz2, nz3]
    refine lvw 57 (.bool false) rfl rfl (run_mv rfl rfl) ?_
    simp only [nz1, nz2, nz3]
    refine lvw 58 (.int .i64 ((encode_m ((decode_m s).1)).2)) rfl rfl (run_mv rfl rfl) ?_
    simp only [nz1, nz2, nz3]
    refine lvb 59 ((encode_m ((decode_m s).1)).2 = 0) rfl rfl (z_eql ((encode_m ((decode_m s).1)).2) 0 rfl rfl rfl) (fun hs91 => ?_) (fun hs91 => ?_)
    · simp only [nz1, nz2, nz3]
      refine lvw 60 (.bool true) rfl rfl (run_mv rfl rfl) ?_
      simp only [nz1, nz2, nz3]
      refine lvw 61 (.string (tx ((encode_m ((decode_m s).1)).1))) rfl rfl (run_mv rfl rfl) ?_
      simp only [nz1, nz2, nz3]
      refine lvw 62 (.string (tx s)) rfl rfl (run_mv rfl rfl) ?_
      simp only [nz1, nz2, nz3]
      refine lvw 63 (.bool (decide ((encode_m ((decode_m s).1)).1 = s))) rfl rfl (t_eql ((encode_m ((decode_m s).1)).1) s rfl rfl rfl) ?_
      simp only [nz1, nz2, nz3]
      refine lvw 64 (.bool (decide ((encode_m ((decode_m s).1)).1 = s))) rfl rfl (run_pick rfl rfl rfl) ?_
      simp only [nz1, nz2, nz3]
      refine lvw 65 (.bool (decide ((encode_m ((decode_m s).1)).1 = s))) rfl rfl (run_pickf rfl rfl rfl) ?_
      simp only [nz1, nz2, nz3]
      refine lvw 66 (.bool (decide ((encode_m ((decode_m s).1)).1 = s))) rfl rfl (run_pick rfl rfl rfl) ?_
      simp only [nz1, nz2, nz3]
      refine lvw 4 (.bool (decide ((encode_m ((decode_m s).1)).1 = s))) rfl rfl (run_as rfl rfl) ?_
      simp only [nz1, nz2, nz3]
      refine wpList_nil ?_
      refine then_n (hK85 _ _ ?_)
      refine wp_ret ?_
      have he92 : lback_m l s = (decide ((encode_m ((decode_m s).1)).1 = s)) := (show lback_m l s = (decide ((encode_m ((decode_m s).1)).1 = s)) from by unfold lback_m; rw [if_neg hs6, if_neg hc11, if_neg hs34, if_pos hs88, if_neg hs89, if_pos hs91] <;> rfl)
      exact ⟨rfl, .bool (decide ((encode_m ((decode_m s).1)).1 = s)), res_t rfl rfl, ⟨by rw [he92], hm87.below⟩⟩
    simp only [nz1, nz2, nz3]
    refine lvw 60 (.bool false) rfl rfl (run_mv rfl rfl) ?_
    simp only [nz1, nz2, nz3]
    refine lst_skip 61 rfl rfl ?_
    simp only [nz1, nz2, nz3]
    refine lst_skip 62 rfl rfl ?_
    simp only [nz1, nz2, nz3]
    refine lst_skip 63 rfl rfl ?_
    simp only [nz1, nz2, nz3]
    refine lvw 64 (.bool false) rfl rfl (run_pickf rfl rfl rfl) ?_
    simp only [nz1, nz2, nz3]
    refine lvw 65 (.bool false) rfl rfl (run_pickf rfl rfl rfl) ?_
    simp only [nz1, nz2, nz3]
    refine lvw 66 (.bool false) rfl rfl (run_pick rfl rfl rfl) ?_
    simp only [nz1, nz2, nz3]
    refine lvw 4 (.bool false) rfl rfl (run_as rfl rfl) ?_
    simp only [nz1, nz2, nz3]
    refine wpList_nil ?_
    refine then_n (hK85 _ _ ?_)
    refine wp_ret ?_
    have he93 : lback_m l s = false := (show lback_m l s = false from by unfold lback_m; rw [if_neg hs6, if_neg hc11, if_neg hs34, if_pos hs88, if_neg hs89, if_neg hs91] <;> rfl)
    exact ⟨rfl, .bool false, res_t rfl rfl, ⟨by rw [he93], hm87.below⟩⟩
  simp only [nz1, nz2, nz3]
  refine lvw 33 (.bool true) rfl rfl (run_mv rfl rfl) ?_
  simp only [nz1, nz2, nz3]
  refine lvw 34 (.int .i64 ((decode_m ((encode_m l).1)).2)) rfl rfl (run_mv rfl rfl) ?_
  simp only [nz1, nz2, nz3]
  refine lvb 35 (¬ (decode_m ((encode_m l).1)).2 = 0) rfl rfl (z_neq ((decode_m ((encode_m l).1)).2) 0 rfl rfl rfl) (fun hs35 => ?_) (fun hs35 => ?_)
  · simp only [nz1, nz2, nz3]
    refine lvw 36 (.bool true) rfl rfl (run_mv rfl rfl) ?_
    simp only [nz1, nz2, nz3]
    refine lst_skip 37 rfl rfl ?_
    simp only [nz1, nz2, nz3]
    refine lst_skip 38 rfl rfl ?_
    simp only [nz1, nz2, nz3]
    refine lst_skip 39 rfl rfl ?_
    simp only [nz1, nz2, nz3]
    refine lst_skip 40 rfl rfl ?_
    simp only [nz1, nz2, nz3]
    refine lvw 41 (.bool true) rfl rfl (run_pick rfl rfl rfl) ?_
    simp only [nz1, nz2, nz3]
    refine lvw 42 (.bool true) rfl rfl (run_pick rfl rfl rfl) ?_
    simp only [nz1, nz2, nz3]
    refine wpList_nil ?_
    refine then_n (hK33 _ _ ?_)
    refine cond_t rfl ?_
    refine wp_seq_k (fun K36 hK36 => ?_)
    refine wp_region_lit ?_
    refine lvw 4 (.bool false) rfl rfl (run_as rfl rfl) ?_
    simp only [nz1, nz2, nz3]
    refine wpList_nil ?_
    refine then_n (hK36 _ _ ?_)
    refine wp_ret ?_
    refine then_r ?_
    have he37 : lback_m l s = false := (show lback_m l s = false from by unfold lback_m; rw [if_neg hs6, if_neg hc11, if_pos hs34, if_pos hs35] <;> rfl)
    exact ⟨rfl, .bool false, res_t rfl rfl, ⟨by rw [he37], hm30.below⟩⟩
  simp only [nz1, nz2, nz3]
  refine lvw 36 (.bool false) rfl rfl (run_mv rfl rfl) ?_
  simp only [nz1, nz2, nz3]
  refine lvw 37 (lv0) rfl rfl (run_mv rfl rfl) ?_
  simp only [nz1, nz2, nz3]
  refine lvw 38 (v23) rfl rfl (run_mv rfl rfl) ?_
  simp only [nz1, nz2, nz3]
  refine lst rfl (m_call hm30 39 (.bool ((same_m l ((decode_m ((encode_m l).1)).1)))) rfl (run_same rfl rfl rfl) (same_any l ((decode_m ((encode_m l).1)).1) lv0 v23 _ (hm30.see 0 rfl) (hm30.see 1 rfl) (by first | omega | assumption | (simp; done) | (simp; omega) | (simp only [List.length_append, List.length_cons, List.length_nil]; omega) | (simp only [List.length_append, List.length_cons, List.length_nil] at *; omega) | decide)) (fun w38 (hm39 : Mm none (fun _ => True) w w38 [.see (Rs ePar 2 l lv0) Fl, .see (Rs ePar 2 ((decode_m ((encode_m l).1)).1) v23) F25]) => ?_))
  simp only [nz1, nz2, nz3]
  refine lvw 40 (.bool (!(same_m l ((decode_m ((encode_m l).1)).1)))) rfl rfl (r_not (same_m l ((decode_m ((encode_m l).1)).1)) rfl rfl) ?_
  simp only [nz1, nz2, nz3]
  refine lvw 41 (.bool (!(same_m l ((decode_m ((encode_m l).1)).1)))) rfl rfl (run_pickf rfl rfl rfl) ?_
  simp only [nz1, nz2, nz3]
  refine lvw 42 (.bool (!(same_m l ((decode_m ((encode_m l).1)).1)))) rfl rfl (run_pick rfl rfl rfl) ?_
  simp only [nz1, nz2, nz3]
  refine wpList_nil ?_
  refine then_n (hK33 _ _ ?_)
  refine cond_B (!(same_m l ((decode_m ((encode_m l).1)).1))) rfl (fun hc40 => ?_) (fun hc40 => ?_)
  · refine wp_seq_k (fun K41 hK41 => ?_)
    refine wp_region_lit ?_
    refine lvw 4 (.bool false) rfl rfl (run_as rfl rfl) ?_
    simp only [nz1, nz2, nz3]
    refine wpList_nil ?_
    refine then_n (hK41 _ _ ?_)
    refine wp_ret ?_
    refine then_r ?_
    have he42 : lback_m l s = false := (show lback_m l s = false from by unfold lback_m; rw [if_neg hs6, if_neg hc11, if_pos hs34, if_neg hs35, if_pos hc40] <;> rfl)
    exact ⟨rfl, .bool false, res_t rfl rfl, ⟨by rw [he42], hm39.below⟩⟩
  refine wp_skip ?_
  refine then_n (hK32 _ _ ?_)
  refine wp_seq_k (fun K43 hK43 => ?_)
  refine wp_region_lit ?_
  refine lvw 44 (.string (tx s)) rfl rfl (run_mv rfl rfl) ?_
  simp only [nz1, nz2, nz3]
  refine lst rfl (m_callx hm39 45 rfl (run_decode rfl rfl) (decode_any s  (seeS [.see (Rs ePar 2 l lv0) Fl, .see (Rs ePar 2 ((decode_m ((encode_m l).1)).1) v23) F25]) _  (Laid.below hT hm39.below) ) (fun vv49 w44 hR50 hb51 hm45 => ?_))
  obtain ⟨v46, rfl, hg52⟩ := hR50
  obtain ⟨F48, hm53⟩ : ∃ F48, Mm none (fun _ => True) w w44 [.see (Rs ePar 2 l lv0) Fl, .see (Rs ePar 2 ((decode_m ((encode_m l).1)).1) v23) F25, .see (Rs ePar 2 ((decode_m s).1) v46) F48] := Mm.tookS hm39 hb51 hg52
  clear hm45 hg52 hb51
  have hf54 : (decode_m s).1.length ≤ 1048576 := decode_len s
  simp only [nz1, nz2, nz3]
  refine lvw 43 (.tuple #[v46, .int .i64 ((decode_m s).2)]) rfl rfl (run_mv rfl rfl) ?_
  simp only [nz1, nz2, nz3]
  refine lvw 46 (v46) rfl rfl (run_ex rfl rfl rfl) ?_
  simp only [nz1, nz2, nz3]
  refine lvw 47 (.int .i64 ((decode_m s).2)) rfl rfl (run_ex rfl rfl rfl) ?_
  simp only [nz1, nz2, nz3]
  refine lvw 9 (v46) rfl rfl (run_as rfl rfl) ?_
  simp only [nz1, nz2, nz3]
  refine lvw 10 (.int .i64 ((decode_m s).2)) rfl rfl (run_as rfl rfl) ?_
  simp only [nz1, nz2, nz3]
  refine wpList_nil ?_
  refine then_n (hK43 _ _ ?_)
  refine wp_seq_k (fun K55 hK55 => ?_)
  refine wp_region_lit ?_
  refine lvw 49 (v46) rfl rfl (run_mv rfl rfl) ?_
  simp only [nz1, nz2, nz3]
  refine lst rfl (m_call hm53 50 (.tuple #[.string (tx ((encode_m ((decode_m s).1)).1)), .int .i64 ((encode_m ((decode_m s).1)).2)]) rfl (run_encode rfl rfl) (encode_any ((decode_m s).1) v46 _ (hm53.see 2 rfl) (Laid.below hT hm53.below) (by first | omega | assumption | (simp; done) | (simp; omega) | (simp only [List.length_append, List.length_cons, List.length_nil]; omega) | (simp only [List.length_append, List.length_cons, List.length_nil] at *; omega) | decide)) (fun w56 (hm57 : Mm none (fun _ => True) w w56 [.see (Rs ePar 2 l lv0) Fl, .see (Rs ePar 2 ((decode_m ((encode_m l).1)).1) v23) F25, .see (Rs ePar 2 ((decode_m s).1) v46) F48]) => ?_))
  have hf58 : (encode_m ((decode_m s).1)).1.length ≤ 1048576 := encode_len ((decode_m s).1)
  simp only [nz1, nz2, nz3]
  refine lvw 48 (.tuple #[.string (tx ((encode_m ((decode_m s).1)).1)), .int .i64 ((encode_m ((decode_m s).1)).2)]) rfl rfl (run_mv rfl rfl) ?_
  simp only [nz1, nz2, nz3]
  refine lvw 51 (.string (tx ((encode_m ((decode_m s).1)).1))) rfl rfl (run_ex rfl rfl rfl) ?_
  simp only [nz1, nz2, nz3]
  refine lvw 52 (.int .i64 ((encode_m ((decode_m s).1)).2)) rfl rfl (run_ex rfl rfl rfl) ?_
  simp only [nz1, nz2, nz3]
  refine lvw 11 (.string (tx ((encode_m ((decode_m s).1)).1))) rfl rfl (run_as rfl rfl) ?_
  simp only [nz1, nz2, nz3]
  refine lvw 12 (.int .i64 ((encode_m ((decode_m s).1)).2)) rfl rfl (run_as rfl rfl) ?_
  simp only [nz1, nz2, nz3]
  refine wpList_nil ?_
  refine then_n (hK55 _ _ ?_)
  refine wp_seq_k (fun K59 hK59 => ?_)
  refine wp_region_lit ?_
  refine lst rfl (m_call hm57 53 (.bool (pawake_m)) rfl (run_pawake rfl) (pawake_any   _  (Laid.below hT hm57.below) ) (fun w60 (hm61 : Mm none (fun _ => True) w w60 [.see (Rs ePar 2 l lv0) Fl, .see (Rs ePar 2 ((decode_m ((encode_m l).1)).1) v23) F25, .see (Rs ePar 2 ((decode_m s).1) v46) F48]) => ?_))
  simp only [nz1, nz2, nz3]
  by_cases hs62 : pawake_m = true
  rotate_left
  · rw [(Bool.eq_false_iff.2 hs62 : pawake_m = false)]
    refine lvw 54 (.bool false) rfl rfl (run_mv rfl rfl) ?_
    simp only [nz1, nz2, nz3]
    refine lst_skip 55 rfl rfl ?_
    simp only [nz1, nz2, nz3]
    refine lst_skip 56 rfl rfl ?_
    simp only [nz1, nz2, nz3]
    refine lst_skip 57 rfl rfl ?_
    simp only [nz1, nz2, nz3]
    refine lst_skip 58 rfl rfl ?_
    simp only [nz1, nz2, nz3]
    refine lst_skip 59 rfl rfl ?_
    simp only [nz1, nz2, nz3]
    refine lst_skip 60 rfl rfl ?_
    simp only [nz1, nz2, nz3]
    refine lst_skip 61 rfl rfl ?_
    simp only [nz1, nz2, nz3]
    refine lst_skip 62 rfl rfl ?_
    simp only [nz1, nz2, nz3]
    refine lst_skip 63 rfl rfl ?_
    simp only [nz1, nz2, nz3]
    refine lst_skip 64 rfl rfl ?_
    simp only [nz1, nz2, nz3]
    refine lst_skip 65 rfl rfl ?_
    simp only [nz1, nz2, nz3]
    refine lvw 66 (.bool false) rfl rfl (run_pickf rfl rfl rfl) ?_
    simp only [nz1, nz2, nz3]
    refine lvw 4 (.bool false) rfl rfl (run_as rfl rfl) ?_
    simp only [nz1, nz2, nz3]
    refine wpList_nil ?_
    refine then_n (hK59 _ _ ?_)
    refine wp_ret ?_
    have he68 : lback_m l s = false := (show lback_m l s = false from by unfold lback_m; rw [if_neg hs6, if_neg hc11, if_pos hs34, if_neg hs35, if_neg hc40, if_neg hs62] <;> rfl)
    exact ⟨rfl, .bool false, res_t rfl rfl, ⟨by rw [he68], hm61.below⟩⟩
  rw [(hs62 : pawake_m = true)]
  refine lvw 54 (.bool true) rfl rfl (run_mv rfl rfl) ?_
  simp only [nz1, nz2, nz3]
  refine lvw 55 (.int .i64 ((decode_m s).2)) rfl rfl (run_mv rfl rfl) ?_
  simp only [nz1, nz2, nz3]
  refine lvb 56 (¬ (decode_m s).2 = 0) rfl rfl (z_neq ((decode_m s).2) 0 rfl rfl rfl) (fun hs63 => ?_) (fun hs63 => ?_)
  · simp only [nz1, nz2, nz3]
    refine lvw 57 (.bool true) rfl rfl (run_mv rfl rfl) ?_
    simp only [nz1, nz2, nz3]
    refine lst_skip 58 rfl rfl ?_
    simp only [nz1, nz2, nz3]
    refine lst_skip 59 rfl rfl ?_
    simp only [nz1, nz2, nz3]
    refine lst_skip 60 rfl rfl ?_
    simp only [nz1, nz2, nz3]
    refine lst_skip 61 rfl rfl ?_
    simp only [nz1, nz2, nz3]
    refine lst_skip 62 rfl rfl ?_
    simp only [nz1, nz2, nz3]
    refine lst_skip 63 rfl rfl ?_
    simp only [nz1, nz2, nz3]
    refine lst_skip 64 rfl rfl ?_
    simp only [nz1, nz2, nz3]
    refine lvw 65 (.bool true) rfl rfl (run_pick rfl rfl rfl) ?_
    simp only [nz1, nz2, nz3]
    refine lvw 66 (.bool true) rfl rfl (run_pick rfl rfl rfl) ?_
    simp only [nz1, nz2, nz3]
    refine lvw 4 (.bool true) rfl rfl (run_as rfl rfl) ?_
    simp only [nz1, nz2, nz3]
    refine wpList_nil ?_
    refine then_n (hK59 _ _ ?_)
    refine wp_ret ?_
    have he64 : lback_m l s = true := (show lback_m l s = true from by unfold lback_m; rw [if_neg hs6, if_neg hc11, if_pos hs34, if_neg hs35, if_neg hc40, if_pos hs62, if_pos hs63] <;> rfl)
    exact ⟨rfl, .bool true, res_t rfl rfl, ⟨by rw [he64], hm61.below⟩⟩
  simp only [nz1, nz2, nz3]
  refine lvw 57 (.bool false) rfl rfl (run_mv rfl rfl) ?_
  simp only [nz1, nz2, nz3]
  refine lvw 58 (.int .i64 ((encode_m ((decode_m s).1)).2)) rfl rfl (run_mv rfl rfl) ?_
  simp only [nz1, nz2, nz3]
  refine lvb 59 ((encode_m ((decode_m s).1)).2 = 0) rfl rfl (z_eql ((encode_m ((decode_m s).1)).2) 0 rfl rfl rfl) (fun hs65 => ?_) (fun hs65 => ?_)
  · simp only [nz1, nz2, nz3]
    refine lvw 60 (.bool true) rfl rfl (run_mv rfl rfl) ?_
    simp only [nz1, nz2, nz3]
    refine lvw 61 (.string (tx ((encode_m ((decode_m s).1)).1))) rfl rfl (run_mv rfl rfl) ?_
    simp only [nz1, nz2, nz3]
    refine lvw 62 (.string (tx s)) rfl rfl (run_mv rfl rfl) ?_
    simp only [nz1, nz2, nz3]
    refine lvw 63 (.bool (decide ((encode_m ((decode_m s).1)).1 = s))) rfl rfl (t_eql ((encode_m ((decode_m s).1)).1) s rfl rfl rfl) ?_
    simp only [nz1, nz2, nz3]
    refine lvw 64 (.bool (decide ((encode_m ((decode_m s).1)).1 = s))) rfl rfl (run_pick rfl rfl rfl) ?_
    simp only [nz1, nz2, nz3]
    refine lvw 65 (.bool (decide ((encode_m ((decode_m s).1)).1 = s))) rfl rfl (run_pickf rfl rfl rfl) ?_
    simp only [nz1, nz2, nz3]
    refine lvw 66 (.bool (decide ((encode_m ((decode_m s).1)).1 = s))) rfl rfl (run_pick rfl rfl rfl) ?_
    simp only [nz1, nz2, nz3]
    refine lvw 4 (.bool (decide ((encode_m ((decode_m s).1)).1 = s))) rfl rfl (run_as rfl rfl) ?_
    simp only [nz1, nz2, nz3]
    refine wpList_nil ?_
    refine then_n (hK59 _ _ ?_)
    refine wp_ret ?_
    have he66 : lback_m l s = (decide ((encode_m ((decode_m s).1)).1 = s)) := (show lback_m l s = (decide ((encode_m ((decode_m s).1)).1 = s)) from by unfold lback_m; rw [if_neg hs6, if_neg hc11, if_pos hs34, if_neg hs35, if_neg hc40, if_pos hs62, if_neg hs63, if_pos hs65] <;> rfl)
    exact ⟨rfl, .bool (decide ((encode_m ((decode_m s).1)).1 = s)), res_t rfl rfl, ⟨by rw [he66], hm61.below⟩⟩
  simp only [nz1, nz2, nz3]
  refine lvw 60 (.bool false) rfl rfl (run_mv rfl rfl) ?_
  simp only [nz1, nz2, nz3]
  refine lst_skip 61 rfl rfl ?_
  simp only [nz1, nz2, nz3]
  refine lst_skip 62 rfl rfl ?_
  simp only [nz1, nz2, nz3]
  refine lst_skip 63 rfl rfl ?_
  simp only [nz1, nz2, nz3]
  refine lvw 64 (.bool false) rfl rfl (run_pickf rfl rfl rfl) ?_
  simp only [nz1, nz2, nz3]
  refine lvw 65 (.bool false) rfl rfl (run_pickf rfl rfl rfl) ?_
  simp only [nz1, nz2, nz3]
  refine lvw 66 (.bool false) rfl rfl (run_pick rfl rfl rfl) ?_
  simp only [nz1, nz2, nz3]
  refine lvw 4 (.bool false) rfl rfl (run_as rfl rfl) ?_
  simp only [nz1, nz2, nz3]
  refine wpList_nil ?_
  refine then_n (hK59 _ _ ?_)
  refine wp_ret ?_
  have he67 : lback_m l s = false := (show lback_m l s = false from by unfold lback_m; rw [if_neg hs6, if_neg hc11, if_pos hs34, if_neg hs35, if_neg hc40, if_pos hs62, if_neg hs63, if_neg hs65] <;> rfl)
  exact ⟨rfl, .bool false, res_t rfl rfl, ⟨by rw [he67], hm61.below⟩⟩
theorem run_lback {o : Oper} {a : Act} {w : World} {x0 x1 : Operand} {v0 v1 : Value} (ho : o.op = .call { callee := .value (.func 10), args := #[x0, x1], argTypes := #[36, 9] }) (h0 : a.eval x0 = v0) (h1 : a.eval x1 = v1) :
    (execOp a.eval o).run Tryd.prog w = .ok (.enter 10 #[v0, v1]) w := by
  unfold execOp
  simp only [ho]
  have hf : a.eval (.func 10) = .func (.func 10) #[] #[] := rfl
  generalize a.eval = f at *
  go_simp
end Go.Proofs.YtglnifckngcpkaaDoor.Px
