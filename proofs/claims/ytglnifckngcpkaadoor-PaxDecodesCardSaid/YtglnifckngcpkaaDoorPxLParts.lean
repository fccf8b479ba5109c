/- Layer 10: PaxParts. -/
import Derived.Test.YtglnifckngcpkaaDoorPxP
namespace Go.Proofs.YtglnifckngcpkaaDoor.Px
open Go.RowKit
open Go.Proofs.YtglnifckngcpkaaDoor.Sym Go.Proofs.YtglnifckngcpkaaDoor.Mem
open Go.Proofs.YtglnifckngcpkaaDoor.Sx hiding Mm m_alloc m_store m_put m_call m_callx m_make m_append r_string r_ixS
set_option linter.unusedVariables false
attribute [local irreducible] plen_m itoa_m atoi_v atoi_ok cut_m key_m pdig_m ib_m record_m first_m
attribute [local irreducible] encode_m decode_m last_m rencode_m rdecode_m rlast_m same_m great_m rkey_m
attribute [local irreducible] wpList Oper.wp

def lparts_m (s : List UInt8) (t : List UInt8) : Bool :=
  if 20000 < s.length then
    pawake_m
  else
    if 20000 < t.length then
      pawake_m
    else
      if ¬ (decode_m s).2 = 0 then
        if pawake_m = true then
          (decide (((decode_m s).1).length = 0))
        else
          false
      else
        if pawake_m = true then
          if (decode_m (s ++ t)).2 = (decode_m t).2 then
            if ¬ (decode_m (s ++ t)).2 = 0 then
              true
            else
              (same_m ((decode_m (s ++ t)).1) ((([] : List Par) ++ (decode_m s).1) ++ (decode_m t).1))
          else
            false
        else
          false

set_option maxHeartbeats 4000000 in
set_option maxRecDepth 100000 in
theorem lparts_any (s : List UInt8) (t : List UInt8) (w : World)  (hT : Laid w)  : Calls Tryd.prog 11 #[.string (tx s), .string (tx t)] w (fun e w' => e = .returned (.bool ((lparts_m s t))) ∧ Below w.heap.size w w') := by
  go_enter Tryd.func11, Tryd.ntmps11
  have hm00 := Mm.nil none (fun _ => True) w
  have hm0 := hm00
  refine wp_seq_k (fun K1 hK1 => ?_)
  refine wp_region_lit ?_
  refine lvw 4 (.bool false) rfl rfl (run_as rfl rfl) ?_
  simp only [nz1, nz2, nz3]
  refine wpList_nil ?_
  refine then_n (hK1 _ _ ?_)
  refine wp_seq_k (fun K2 hK2 => ?_)
  refine wp_seq_k (fun K3 hK3 => ?_)
  refine wp_region_lit ?_
  refine lvw 11 (.string (tx s)) rfl rfl (run_mv rfl rfl) ?_
  simp only [nz1, nz2, nz3]
  refine lvw 12 (.int .i64 ((s.length : Nat) : Int)) rfl rfl (t_len rfl Tryd.underlying9 rfl) ?_
  simp only [nz1, nz2, nz3]
  refine lvb 13 (20000 < s.length) rfl rfl (r_gtr s.length 20000 rfl rfl rfl) (fun hs4 => ?_) (fun hs4 => ?_)
  · simp only [nz1, nz2, nz3]
    refine lvw 14 (.bool true) rfl rfl (run_mv rfl rfl) ?_
    simp only [nz1, nz2, nz3]
    refine lst_skip 15 rfl rfl ?_
    simp only [nz1, nz2, nz3]
    refine lst_skip 16 rfl rfl ?_
    simp only [nz1, nz2, nz3]
    refine lst_skip 17 rfl rfl ?_
    simp only [nz1, nz2, nz3]
    refine lvw 18 (.bool true) rfl rfl (run_pick rfl rfl rfl) ?_
    simp only [nz1, nz2, nz3]
    refine wpList_nil ?_
    refine then_n (hK3 _ _ ?_)
    refine cond_t rfl ?_
    refine wp_seq_k (fun K5 hK5 => ?_)
    refine wp_region_lit ?_
    refine lst rfl (m_call hm0 19 (.bool (pawake_m)) rfl (run_pawake rfl) (pawake_any   _  (Laid.below hT hm0.below) ) (fun w6 (hm7 : Mm none (fun _ => True) w w6 []) => ?_))
    simp only [nz1, nz2, nz3]
    refine lvw 4 (.bool (pawake_m)) rfl rfl (run_as rfl rfl) ?_
    simp only [nz1, nz2, nz3]
    refine wpList_nil ?_
    refine then_n (hK5 _ _ ?_)
    refine wp_ret ?_
    refine then_r ?_
    have he8 : lparts_m s t = pawake_m := (show lparts_m s t = pawake_m from by unfold lparts_m; rw [if_pos hs4] <;> rfl)
    exact ⟨rfl, .bool (pawake_m), res_t rfl rfl, ⟨by rw [he8], hm7.below⟩⟩
  simp only [nz1, nz2, nz3]
  refine lvw 14 (.bool false) rfl rfl (run_mv rfl rfl) ?_
  simp only [nz1, nz2, nz3]
  refine lvw 15 (.string (tx t)) rfl rfl (run_mv rfl rfl) ?_
  simp only [nz1, nz2, nz3]
  refine lvw 16 (.int .i64 ((t.length : Nat) : Int)) rfl rfl (t_len rfl Tryd.underlying9 rfl) ?_
  simp only [nz1, nz2, nz3]
  refine lvw 17 (.bool (decide (20000 < t.length))) rfl rfl (r_gtr t.length 20000 rfl rfl rfl) ?_
  simp only [nz1, nz2, nz3]
  refine lvw 18 (.bool (decide (20000 < t.length))) rfl rfl (run_pickf rfl rfl rfl) ?_
  simp only [nz1, nz2, nz3]
  refine wpList_nil ?_
  refine then_n (hK3 _ _ ?_)
  refine cond_d (20000 < t.length) rfl (fun hc9 => ?_) (fun hc9 => ?_)
  · refine wp_seq_k (fun K10 hK10 => ?_)
    refine wp_region_lit ?_
    refine lst rfl (m_call hm0 19 (.bool (pawake_m)) rfl (run_pawake rfl) (pawake_any   _  (Laid.below hT hm0.below) ) (fun w11 (hm12 : Mm none (fun _ => True) w w11 []) => ?_))
    simp only [nz1, nz2, nz3]
    refine lvw 4 (.bool (pawake_m)) rfl rfl (run_as rfl rfl) ?_
    simp only [nz1, nz2, nz3]
    refine wpList_nil ?_
    refine then_n (hK10 _ _ ?_)
    refine wp_ret ?_
    refine then_r ?_
    have he13 : lparts_m s t = pawake_m := (show lparts_m s t = pawake_m from by unfold lparts_m; rw [if_neg hs4, if_pos hc9] <;> rfl)
    exact ⟨rfl, .bool (pawake_m), res_t rfl rfl, ⟨by rw [he13], hm12.below⟩⟩
  refine wp_skip ?_
  refine then_n (hK2 _ _ ?_)
  refine wp_seq_k (fun K14 hK14 => ?_)
  refine wp_region_lit ?_
  refine lvw 21 (.string (tx s)) rfl rfl (run_mv rfl rfl) ?_
  simp only [nz1, nz2, nz3]
  refine lst rfl (m_callx hm0 22 rfl (run_decode rfl rfl) (decode_any s  (seeS []) _  (Laid.below hT hm0.below) ) (fun vv20 w15 hR21 hb22 hm16 => ?_))
  obtain ⟨v17, rfl, hg23⟩ := hR21
  obtain ⟨F19, hm24⟩ : ∃ F19, Mm none (fun _ => True) w w15 [.see (Rs ePar 2 ((decode_m s).1) v17) F19] := Mm.tookS hm0 hb22 hg23
  clear hm16 hg23 hb22
  have hf25 : (decode_m s).1.length ≤ 1048576 := decode_len s
  simp only [nz1, nz2, nz3]
  refine lvw 20 (.tuple #[v17, .int .i64 ((decode_m s).2)]) rfl rfl (run_mv rfl rfl) ?_
  simp only [nz1, nz2, nz3]
  refine lvw 23 (v17) rfl rfl (run_ex rfl rfl rfl) ?_
  simp only [nz1, nz2, nz3]
  refine lvw 24 (.int .i64 ((decode_m s).2)) rfl rfl (run_ex rfl rfl rfl) ?_
  simp only [nz1, nz2, nz3]
  refine lvw 5 (v17) rfl rfl (run_as rfl rfl) ?_
  simp only [nz1, nz2, nz3]
  refine lvw 6 (.int .i64 ((decode_m s).2)) rfl rfl (run_as rfl rfl) ?_
  simp only [nz1, nz2, nz3]
  refine wpList_nil ?_
  refine then_n (hK14 _ _ ?_)
  refine wp_seq_k (fun K26 hK26 => ?_)
  refine wp_region_lit ?_
  refine lvw 26 (.string (tx t)) rfl rfl (run_mv rfl rfl) ?_
  simp only [nz1, nz2, nz3]
  refine lst rfl (m_callx hm24 27 rfl (run_decode rfl rfl) (decode_any t  (seeS [.see (Rs ePar 2 ((decode_m s).1) v17) F19]) _  (Laid.below hT hm24.below) ) (fun vv32 w27 hR33 hb34 hm28 => ?_))
  obtain ⟨v29, rfl, hg35⟩ := hR33
  obtain ⟨F31, hm36⟩ : ∃ F31, Mm none (fun _ => True) w w27 [.see (Rs ePar 2 ((decode_m s).1) v17) F19, .see (Rs ePar 2 ((decode_m t).1) v29) F31] := Mm.tookS hm24 hb34 hg35
  clear hm28 hg35 hb34
  have hf37 : (decode_m t).1.length ≤ 1048576 := decode_len t
  simp only [nz1, nz2, nz3]
  refine lvw 25 (.tuple #[v29, .int .i64 ((decode_m t).2)]) rfl rfl (run_mv rfl rfl) ?_
  simp only [nz1, nz2, nz3]
  refine lvw 28 (v29) rfl rfl (run_ex rfl rfl rfl) ?_
  simp only [nz1, nz2, nz3]
  refine lvw 29 (.int .i64 ((decode_m t).2)) rfl rfl (run_ex rfl rfl rfl) ?_
  simp only [nz1, nz2, nz3]
  refine lvw 7 (v29) rfl rfl (run_as rfl rfl) ?_
  simp only [nz1, nz2, nz3]
  refine lvw 8 (.int .i64 ((decode_m t).2)) rfl rfl (run_as rfl rfl) ?_
  simp only [nz1, nz2, nz3]
  refine wpList_nil ?_
  refine then_n (hK26 _ _ ?_)
  refine wp_seq_k (fun K38 hK38 => ?_)
  refine wp_region_lit ?_
  refine lvw 31 (.string (tx s)) rfl rfl (run_mv rfl rfl) ?_
  simp only [nz1, nz2, nz3]
  refine lvw 32 (.string (tx t)) rfl rfl (run_mv rfl rfl) ?_
  simp only [nz1, nz2, nz3]
  refine lvw 33 (.string (tx (s ++ t))) rfl rfl (t_cat s t (by first | omega | (simp; omega)) rfl rfl rfl) ?_
  simp only [nz1, nz2, nz3]
  refine lst rfl (m_callx hm36 34 rfl (run_decode rfl rfl) (decode_any (s ++ t)  (seeS [.see (Rs ePar 2 ((decode_m s).1) v17) F19, .see (Rs ePar 2 ((decode_m t).1) v29) F31]) _  (Laid.below hT hm36.below) ) (fun vv44 w39 hR45 hb46 hm40 => ?_))
  obtain ⟨v41, rfl, hg47⟩ := hR45
  obtain ⟨F43, hm48⟩ : ∃ F43, Mm none (fun _ => True) w w39 [.see (Rs ePar 2 ((decode_m s).1) v17) F19, .see (Rs ePar 2 ((decode_m t).1) v29) F31, .see (Rs ePar 2 ((decode_m (s ++ t)).1) v41) F43] := Mm.tookS hm36 hb46 hg47
  clear hm40 hg47 hb46
  have hf49 : (decode_m (s ++ t)).1.length ≤ 1048576 := decode_len (s ++ t)
  simp only [nz1, nz2, nz3]
  refine lvw 30 (.tuple #[v41, .int .i64 ((decode_m (s ++ t)).2)]) rfl rfl (run_mv rfl rfl) ?_
  simp only [nz1, nz2, nz3]
  refine lvw 35 (v41) rfl rfl (run_ex rfl rfl rfl) ?_
  simp only [nz1, nz2, nz3]
  refine lvw 36 (.int .i64 ((decode_m (s ++ t)).2)) rfl rfl (run_ex rfl rfl rfl) ?_
  simp only [nz1, nz2, nz3]
  refine lvw 9 (v41) rfl rfl (run_as rfl rfl) ?_
  simp only [nz1, nz2, nz3]
  refine lvw 10 (.int .i64 ((decode_m (s ++ t)).2)) rfl rfl (run_as rfl rfl) ?_
  simp only [nz1, nz2, nz3]
  refine wpList_nil ?_
  refine then_n (hK38 _ _ ?_)
  refine wp_seq_k (fun K50 hK50 => ?_)
  refine wp_seq_k (fun K51 hK51 => ?_)
  refine wp_region_lit ?_
  refine lvw 37 (.int .i64 ((decode_m s).2)) rfl rfl (run_mv rfl rfl) ?_
  simp only [nz1, nz2, nz3]
  refine lvw 38 (.bool (decide (¬ (decode_m s).2 = 0))) rfl rfl (z_neq ((decode_m s).2) 0 rfl rfl rfl) ?_
  simp only [nz1, nz2, nz3]
  refine wpList_nil ?_
  refine then_n (hK51 _ _ ?_)
  refine cond_d (¬ (decode_m s).2 = 0) rfl (fun hc52 => ?_) (fun hc52 => ?_)
  · refine wp_seq_k (fun K53 hK53 => ?_)
    refine wp_region_lit ?_
    refine lst rfl (m_call hm48 39 (.bool (pawake_m)) rfl (run_pawake rfl) (pawake_any   _  (Laid.below hT hm48.below) ) (fun w54 (hm55 : Mm none (fun _ => True) w w54 [.see (Rs ePar 2 ((decode_m s).1) v17) F19, .see (Rs ePar 2 ((decode_m t).1) v29) F31, .see (Rs ePar 2 ((decode_m (s ++ t)).1) v41) F43]) => ?_))
    simp only [nz1, nz2, nz3]
    by_cases hs56 : pawake_m = true
    · rw [(hs56 : pawake_m = true)]
      refine lvw 40 (.bool true) rfl rfl (run_mv rfl rfl) ?_
      simp only [nz1, nz2, nz3]
      refine lvw 41 (v17) rfl rfl (run_mv rfl rfl) ?_
      simp only [nz1, nz2, nz3]
      refine lvw 42 (.int .i64 ((((decode_m s).1).length : Nat) : Int)) rfl rfl (s_len ((hm55.see 0 rfl)) rfl Tryd.underlying36 rfl) ?_
      simp only [nz1, nz2, nz3]
      refine lvw 43 (.bool (decide (((decode_m s).1).length = 0))) rfl rfl (r_eql (((decode_m s).1).length) 0 rfl rfl rfl) ?_
      simp only [nz1, nz2, nz3]
      refine lvw 44 (.bool (decide (((decode_m s).1).length = 0))) rfl rfl (run_pick rfl rfl rfl) ?_
      simp only [nz1, nz2, nz3]
      refine lvw 4 (.bool (decide (((decode_m s).1).length = 0))) rfl rfl (run_as rfl rfl) ?_
      simp only [nz1, nz2, nz3]
      refine wpList_nil ?_
      refine then_n (hK53 _ _ ?_)
      refine wp_ret ?_
      refine then_r ?_
      have he57 : lparts_m s t = (decide (((decode_m s).1).length = 0)) := (show lparts_m s t = (decide (((decode_m s).1).length = 0)) from by unfold lparts_m; rw [if_neg hs4, if_neg hc9, if_pos hc52, if_pos hs56] <;> rfl)
      exact ⟨rfl, .bool (decide (((decode_m s).1).length = 0)), res_t rfl rfl, ⟨by rw [he57], hm55.below⟩⟩
    rw [(Bool.eq_false_iff.2 hs56 : pawake_m = false)]
    refine lvw 40 (.bool false) rfl rfl (run_mv rfl rfl) ?_
    simp only [nz1, nz2, nz3]
    refine lst_skip 41 rfl rfl ?_
    simp only [nz1, nz2, nz3]
    refine lst_skip 42 rfl rfl ?_
    simp only [nz1, nz2, nz3]
    refine lst_skip 43 rfl rfl ?_
    simp only [nz1, nz2, nz3]
    refine lvw 44 (.bool false) rfl rfl (run_pickf rfl rfl rfl) ?_
    simp only [nz1, nz2, nz3]
    refine lvw 4 (.bool false) rfl rfl (run_as rfl rfl) ?_
    simp only [nz1, nz2, nz3]
    refine wpList_nil ?_
    refine then_n (hK53 _ _ ?_)
    refine wp_ret ?_
    refine then_r ?_
    have he58 : lparts_m s t = false := (show lparts_m s t = false from by unfold lparts_m; rw [if_neg hs4, if_neg hc9, if_pos hc52, if_neg hs56] <;> rfl)
    exact ⟨rfl, .bool false, res_t rfl rfl, ⟨by rw [he58], hm55.below⟩⟩
  refine wp_skip ?_
  refine then_n (hK50 _ _ ?_)
  refine wp_seq_k (fun K59 hK59 => ?_)
  refine wp_region_lit ?_
  refine lst rfl (m_call hm48 45 (.bool (pawake_m)) rfl (run_pawake rfl) (pawake_any   _  (Laid.below hT hm48.below) ) (fun w60 (hm61 : Mm none (fun _ => True) w w60 [.see (Rs ePar 2 ((decode_m s).1) v17) F19, .see (Rs ePar 2 ((decode_m t).1) v29) F31, .see (Rs ePar 2 ((decode_m (s ++ t)).1) v41) F43]) => ?_))
  simp only [nz1, nz2, nz3]
  by_cases hs62 : pawake_m = true
  rotate_left
  · rw [(Bool.eq_false_iff.2 hs62 : pawake_m = false)]
    refine lvw 46 (.bool false) rfl rfl (run_mv rfl rfl) ?_
    simp only [nz1, nz2, nz3]
    refine lst_skip 47 rfl rfl ?_
    simp only [nz1, nz2, nz3]
    refine lst_skip 48 rfl rfl ?_
    simp only [nz1, nz2, nz3]
    refine lst_skip 49 rfl rfl ?_
    simp only [nz1, nz2, nz3]
    refine lvw 50 (.bool false) rfl rfl (run_pickf rfl rfl rfl) ?_
    simp only [nz1, nz2, nz3]
    refine lvw 51 (.bool false) rfl rfl (run_mv rfl rfl) ?_
    simp only [nz1, nz2, nz3]
    refine lst_skip 52 rfl rfl ?_
    simp only [nz1, nz2, nz3]
    refine lst_skip 53 rfl rfl ?_
    simp only [nz1, nz2, nz3]
    refine lst_skip 54 rfl rfl ?_
    simp only [nz1, nz2, nz3]
    refine lst_skip 55 rfl rfl ?_
    simp only [nz1, nz2, nz3]
    refine lst_skip 56 rfl rfl ?_
    simp only [nz1, nz2, nz3]
    refine lst_skip 57 rfl rfl ?_
    simp only [nz1, nz2, nz3]
    refine lst_skip 58 rfl rfl ?_
    simp only [nz1, nz2, nz3]
    refine lst_skip 59 rfl rfl ?_
    simp only [nz1, nz2, nz3]
    refine lst_skip 60 rfl rfl ?_
    simp only [nz1, nz2, nz3]
    refine lst_skip 61 rfl rfl ?_
    simp only [nz1, nz2, nz3]
    refine lst_skip 62 rfl rfl ?_
    simp only [nz1, nz2, nz3]
    refine lvw 63 (.bool false) rfl rfl (run_pickf rfl rfl rfl) ?_
    simp only [nz1, nz2, nz3]
    refine lvw 4 (.bool false) rfl rfl (run_as rfl rfl) ?_
    simp only [nz1, nz2, nz3]
    refine wpList_nil ?_
    refine then_n (hK59 _ _ ?_)
    refine wp_ret ?_
    have he79 : lparts_m s t = false := (show lparts_m s t = false from by unfold lparts_m; rw [if_neg hs4, if_neg hc9, if_neg hc52, if_neg hs62] <;> rfl)
    exact ⟨rfl, .bool false, res_t rfl rfl, ⟨by rw [he79], hm61.below⟩⟩
  rw [(hs62 : pawake_m = true)]
  refine lvw 46 (.bool true) rfl rfl (run_mv rfl rfl) ?_
  simp only [nz1, nz2, nz3]
  refine lvw 47 (.int .i64 ((decode_m (s ++ t)).2)) rfl rfl (run_mv rfl rfl) ?_
  simp only [nz1, nz2, nz3]
  refine lvw 48 (.int .i64 ((decode_m t).2)) rfl rfl (run_mv rfl rfl) ?_
  simp only [nz1, nz2, nz3]
  refine lvb 49 ((decode_m (s ++ t)).2 = (decode_m t).2) rfl rfl (z_eql ((decode_m (s ++ t)).2) ((decode_m t).2) rfl rfl rfl) (fun hs63 => ?_) (fun hs63 => ?_)
  rotate_left
  · simp only [nz1, nz2, nz3]
    refine lvw 50 (.bool false) rfl rfl (run_pick rfl rfl rfl) ?_
    simp only [nz1, nz2, nz3]
    refine lvw 51 (.bool false) rfl rfl (run_mv rfl rfl) ?_
    simp only [nz1, nz2, nz3]
    refine lst_skip 52 rfl rfl ?_
    simp only [nz1, nz2, nz3]
    refine lst_skip 53 rfl rfl ?_
    simp only [nz1, nz2, nz3]
    refine lst_skip 54 rfl rfl ?_
    simp only [nz1, nz2, nz3]
    refine lst_skip 55 rfl rfl ?_
    simp only [nz1, nz2, nz3]
    refine lst_skip 56 rfl rfl ?_
    simp only [nz1, nz2, nz3]
    refine lst_skip 57 rfl rfl ?_
    simp only [nz1, nz2, nz3]
    refine lst_skip 58 rfl rfl ?_
    simp only [nz1, nz2, nz3]
    refine lst_skip 59 rfl rfl ?_
    simp only [nz1, nz2, nz3]
    refine lst_skip 60 rfl rfl ?_
    simp only [nz1, nz2, nz3]
    refine lst_skip 61 rfl rfl ?_
    simp only [nz1, nz2, nz3]
    refine lst_skip 62 rfl rfl ?_
    simp only [nz1, nz2, nz3]
    refine lvw 63 (.bool false) rfl rfl (run_pickf rfl rfl rfl) ?_
    simp only [nz1, nz2, nz3]
    refine lvw 4 (.bool false) rfl rfl (run_as rfl rfl) ?_
    simp only [nz1, nz2, nz3]
    refine wpList_nil ?_
    refine then_n (hK59 _ _ ?_)
    refine wp_ret ?_
    have he78 : lparts_m s t = false := (show lparts_m s t = false from by unfold lparts_m; rw [if_neg hs4, if_neg hc9, if_neg hc52, if_pos hs62, if_neg hs63] <;> rfl)
    exact ⟨rfl, .bool false, res_t rfl rfl, ⟨by rw [he78], hm61.below⟩⟩
  simp only [nz1, nz2, nz3]
  refine lvw 50 (.bool true) rfl rfl (run_pick rfl rfl rfl) ?_
  simp only [nz1, nz2, nz3]
  refine lvw 51 (.bool true) rfl rfl (run_mv rfl rfl) ?_
  simp only [nz1, nz2, nz3]
  refine lvw 52 (.int .i64 ((decode_m (s ++ t)).2)) rfl rfl (run_mv rfl rfl) ?_
  simp only [nz1, nz2, nz3]
  refine lvb 53 (¬ (decode_m (s ++ t)).2 = 0) rfl rfl (z_neq ((decode_m (s ++ t)).2) 0 rfl rfl rfl) (fun hs64 => ?_) (fun hs64 => ?_)
  · simp only [nz1, nz2, nz3]
    refine lvw 54 (.bool true) rfl rfl (run_mv rfl rfl) ?_
    simp only [nz1, nz2, nz3]
    refine lst_skip 55 rfl rfl ?_
    simp only [nz1, nz2, nz3]
    refine lst_skip 56 rfl rfl ?_
    simp only [nz1, nz2, nz3]
    refine lst_skip 57 rfl rfl ?_
    simp only [nz1, nz2, nz3]
    refine lst_skip 58 rfl rfl ?_
    simp only [nz1, nz2, nz3]
    refine lst_skip 59 rfl rfl ?_
    simp only [nz1, nz2, nz3]
    refine lst_skip 60 rfl rfl ?_
    simp only [nz1, nz2, nz3]
    refine lst_skip 61 rfl rfl ?_
    simp only [nz1, nz2, nz3]
    refine lvw 62 (.bool true) rfl rfl (run_pick rfl rfl rfl) ?_
    simp only [nz1, nz2, nz3]
    refine lvw 63 (.bool true) rfl rfl (run_pick rfl rfl rfl) ?_
    simp only [nz1, nz2, nz3]
    refine lvw 4 (.bool true) rfl rfl (run_as rfl rfl) ?_
    simp only [nz1, nz2, nz3]
    refine wpList_nil ?_
    refine then_n (hK59 _ _ ?_)
    refine wp_ret ?_
    have he65 : lparts_m s t = true := (show lparts_m s t = true from by unfold lparts_m; rw [if_neg hs4, if_neg hc9, if_neg hc52, if_pos hs62, if_pos hs63, if_pos hs64] <;> rfl)
    exact ⟨rfl, .bool true, res_t rfl rfl, ⟨by rw [he65], hm61.below⟩⟩
  simp only [nz1, nz2, nz3]
  refine lvw 54 (.bool false) rfl rfl (run_mv rfl rfl) ?_
  simp only [nz1, nz2, nz3]
  refine lvw 55 (v41) rfl rfl (run_mv rfl rfl) ?_
  simp only [nz1, nz2, nz3]
  refine lst rfl (m_lit0 (α := Par) (enc := ePar) (size := 2) (e := 47) hm61 56 rfl (by unfold execOp; go_simp; try rfl) (fun v68 w66 (hm67 : Mm none (fun _ => True) w w66 [.see (Rs ePar 2 ((decode_m s).1) v17) F19, .see (Rs ePar 2 ((decode_m t).1) v29) F31, .see (Rs ePar 2 ((decode_m (s ++ t)).1) v41) F43, .row v68 ([] : List Par).length (([] : List Par).flatMap ePar) 47 2]) => ?_))
  simp only [nz1, nz2, nz3]
  refine lvw 57 (v17) rfl rfl (run_mv rfl rfl) ?_
  simp only [nz1, nz2, nz3]
  obtain ⟨iq, hiq, hz1, hz2, hz3⟩ := inf_47
  refine lst rfl (m_appendR 3 (l := ([] : List Par)) (l2 := (decode_m s).1) iq _ _ _ (v17) hm67 rfl 58 rfl rfl Tryd.underlying36 hiq hz1 hz2 hz3 ePar_len ePar_one rfl (by decide) rfl rfl (hm67.see 0 rfl) (by first | omega | (simp; omega)) (by first | omega | (simp; omega)) (fun v71 w69 (hm70 : Mm none (fun _ => True) w w69 [.see (Rs ePar 2 ((decode_m s).1) v17) F19, .see (Rs ePar 2 ((decode_m t).1) v29) F31, .see (Rs ePar 2 ((decode_m (s ++ t)).1) v41) F43, .row v71 (([] : List Par) ++ (decode_m s).1).length ((([] : List Par) ++ (decode_m s).1).flatMap ePar) 47 2]) => ?_))
  simp only [nz1, nz2, nz3]
  refine lvw 59 (v29) rfl rfl (run_mv rfl rfl) ?_
  simp only [nz1, nz2, nz3]
  obtain ⟨iq, hiq, hz1, hz2, hz3⟩ := inf_47
  refine lst rfl (m_appendR 3 (l := (([] : List Par) ++ (decode_m s).1)) (l2 := (decode_m t).1) iq _ _ _ (v29) hm70 rfl 60 rfl rfl Tryd.underlying36 hiq hz1 hz2 hz3 ePar_len ePar_one rfl (by decide) rfl rfl (hm70.see 1 rfl) (by first | omega | (simp; omega)) (by first | omega | (simp; omega)) (fun v74 w72 (hm73 : Mm none (fun _ => True) w w72 [.see (Rs ePar 2 ((decode_m s).1) v17) F19, .see (Rs ePar 2 ((decode_m t).1) v29) F31, .see (Rs ePar 2 ((decode_m (s ++ t)).1) v41) F43, .row v74 ((([] : List Par) ++ (decode_m s).1) ++ (decode_m t).1).length (((([] : List Par) ++ (decode_m s).1) ++ (decode_m t).1).flatMap ePar) 47 2]) => ?_))
  simp only [nz1, nz2, nz3]
  refine lst rfl (m_call hm73 61 (.bool ((same_m ((decode_m (s ++ t)).1) ((([] : List Par) ++ (decode_m s).1) ++ (decode_m t).1)))) rfl (run_same rfl rfl rfl) (same_any ((decode_m (s ++ t)).1) ((([] : List Par) ++ (decode_m s).1) ++ (decode_m t).1) v41 v74 _ (hm73.see 2 rfl) (Rs.row (hm73.row 3 rfl)) (by first | omega | assumption | (simp; done) | (simp; omega) | (simp only [List.length_append, List.length_cons, List.length_nil]; omega) | (simp only [List.length_append, List.length_cons, List.length_nil] at *; omega) | decide)) (fun w75 (hm76 : Mm none (fun _ => True) w w75 [.see (Rs ePar 2 ((decode_m s).1) v17) F19, .see (Rs ePar 2 ((decode_m t).1) v29) F31, .see (Rs ePar 2 ((decode_m (s ++ t)).1) v41) F43, .row v74 ((([] : List Par) ++ (decode_m s).1) ++ (decode_m t).1).length (((([] : List Par) ++ (decode_m s).1) ++ (decode_m t).1).flatMap ePar) 47 2]) => ?_))
  simp only [nz1, nz2, nz3]
  refine lvw 62 (.bool ((same_m ((decode_m (s ++ t)).1) ((([] : List Par) ++ (decode_m s).1) ++ (decode_m t).1)))) rfl rfl (run_pickf rfl rfl rfl) ?_
  simp only [nz1, nz2, nz3]
  refine lvw 63 (.bool ((same_m ((decode_m (s ++ t)).1) ((([] : List Par) ++ (decode_m s).1) ++ (decode_m t).1)))) rfl rfl (run_pick rfl rfl rfl) ?_
  simp only [nz1, nz2, nz3]
  refine lvw 4 (.bool ((same_m ((decode_m (s ++ t)).1) ((([] : List Par) ++ (decode_m s).1) ++ (decode_m t).1)))) rfl rfl (run_as rfl rfl) ?_
  simp only [nz1, nz2, nz3]
  refine wpList_nil ?_
  refine then_n (hK59 _ _ ?_)
  refine wp_ret ?_
  have he77 : lparts_m s t = (same_m ((decode_m (s ++ t)).1) ((([] : List Par) ++ (decode_m s).1) ++ (decode_m t).1)) := (show lparts_m s t = (same_m ((decode_m (s ++ t)).1) ((([] : List Par) ++ (decode_m s).1) ++ (decode_m t).1)) from by unfold lparts_m; rw [if_neg hs4, if_neg hc9, if_neg hc52, if_pos hs62, if_pos hs63, if_neg hs64] <;> rfl)
  exact ⟨rfl, .bool ((same_m ((decode_m (s ++ t)).1) ((([] : List Par) ++ (decode_m s).1) ++ (decode_m t).1))), res_t rfl rfl, ⟨by rw [he77], hm76.below⟩⟩
theorem run_lparts {o : Oper} {a : Act} {w : World} {x0 x1 : Operand} {v0 v1 : Value} (ho : o.op = .call { callee := .value (.func 11), args := #[x0, x1], argTypes := #[9, 9] }) (h0 : a.eval x0 = v0) (h1 : a.eval x1 = v1) :
    (execOp a.eval o).run Tryd.prog w = .ok (.enter 11 #[v0, v1]) w := by
  unfold execOp
  simp only [ho]
  have hf : a.eval (.func 11) = .func (.func 11) #[] #[] := rfl
  generalize a.eval = f at *
  go_simp
end Go.Proofs.YtglnifckngcpkaaDoor.Px
