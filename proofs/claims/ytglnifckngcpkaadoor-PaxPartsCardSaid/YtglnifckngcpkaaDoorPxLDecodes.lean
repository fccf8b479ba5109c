/- Layer 10: PaxDecodes. -/
import Derived.Test.YtglnifckngcpkaaDoorPxP
namespace Go.Proofs.YtglnifckngcpkaaDoor.Px
open Go.RowKit
open Go.Proofs.YtglnifckngcpkaaDoor.Sym Go.Proofs.YtglnifckngcpkaaDoor.Mem
open Go.Proofs.YtglnifckngcpkaaDoor.Sx hiding Mm m_alloc m_store m_put m_call m_callx m_make m_append r_string r_ixS
set_option linter.unusedVariables false
attribute [local irreducible] plen_m itoa_m atoi_v atoi_ok cut_m key_m pdig_m ib_m record_m first_m
attribute [local irreducible] encode_m decode_m last_m rencode_m rdecode_m rlast_m same_m great_m rkey_m
attribute [local irreducible] wpList Oper.wp

def ldecodes_m (s : List UInt8) : Bool :=
  if 20000 < s.length then
    pawake_m
  else
    if pawake_m = true then
      if (same_m ((decode_m s).1) ((rdecode_m s).1)) = true then
        (decide ((decode_m s).2 = (rdecode_m s).2))
      else
        false
    else
      false

set_option maxHeartbeats 4000000 in
set_option maxRecDepth 100000 in
theorem ldecodes_any (s : List UInt8) (w : World)  (hT : Laid w)  : Calls Tryd.prog 9 #[.string (tx s)] w (fun e w' => e = .returned (.bool ((ldecodes_m s))) ∧ Below w.heap.size w w') := by
  go_enter Tryd.func9, Tryd.ntmps9
  have hm00 := Mm.nil none (fun _ => True) w
  have hm0 := hm00
  refine wp_seq_k (fun K1 hK1 => ?_)
  refine wp_region_lit ?_
  refine lvw 2 (.bool false) rfl rfl (run_as rfl rfl) ?_
  simp only [nz1, nz2, nz3]
  refine wpList_nil ?_
  refine then_n (hK1 _ _ ?_)
  refine wp_seq_k (fun K2 hK2 => ?_)
  refine wp_seq_k (fun K3 hK3 => ?_)
  refine wp_region_lit ?_
  refine lvw 7 (.string (tx s)) rfl rfl (run_mv rfl rfl) ?_
  simp only [nz1, nz2, nz3]
  refine lvw 8 (.int .i64 ((s.length : Nat) : Int)) rfl rfl (t_len rfl Tryd.underlying9 rfl) ?_
  simp only [nz1, nz2, nz3]
  refine lvw 9 (.bool (decide (20000 < s.length))) rfl rfl (r_gtr s.length 20000 rfl rfl rfl) ?_
  simp only [nz1, nz2, nz3]
  refine wpList_nil ?_
  refine then_n (hK3 _ _ ?_)
  refine cond_d (20000 < s.length) rfl (fun hc4 => ?_) (fun hc4 => ?_)
  · refine wp_seq_k (fun K5 hK5 => ?_)
    refine wp_region_lit ?_
    refine lst rfl (m_call hm0 10 (.bool (pawake_m)) rfl (run_pawake rfl) (pawake_any   _  (Laid.below hT hm0.below) ) (fun w6 (hm7 : Mm none (fun _ => True) w w6 []) => ?_))
    simp only [nz1, nz2, nz3]
    refine lvw 2 (.bool (pawake_m)) rfl rfl (run_as rfl rfl) ?_
    simp only [nz1, nz2, nz3]
    refine wpList_nil ?_
    refine then_n (hK5 _ _ ?_)
    refine wp_ret ?_
    refine then_r ?_
    have he8 : ldecodes_m s = pawake_m := (show ldecodes_m s = pawake_m from by unfold ldecodes_m; rw [if_pos hc4] <;> rfl)
    exact ⟨rfl, .bool (pawake_m), res_t rfl rfl, ⟨by rw [he8], hm7.below⟩⟩
  refine wp_skip ?_
  refine then_n (hK2 _ _ ?_)
  refine wp_seq_k (fun K9 hK9 => ?_)
  refine wp_region_lit ?_
  refine lvw 12 (.string (tx s)) rfl rfl (run_mv rfl rfl) ?_
  simp only [nz1, nz2, nz3]
  refine lst rfl (m_callx hm0 13 rfl (run_decode rfl rfl) (decode_any s  (seeS []) _  (Laid.below hT hm0.below) ) (fun vv15 w10 hR16 hb17 hm11 => ?_))
  obtain ⟨v12, rfl, hg18⟩ := hR16
  obtain ⟨F14, hm19⟩ : ∃ F14, Mm none (fun _ => True) w w10 [.see (Rs ePar 2 ((decode_m s).1) v12) F14] := Mm.tookS hm0 hb17 hg18
  clear hm11 hg18 hb17
  have hf20 : (decode_m s).1.length ≤ 1048576 := decode_len s
  simp only [nz1, nz2, nz3]
  refine lvw 11 (.tuple #[v12, .int .i64 ((decode_m s).2)]) rfl rfl (run_mv rfl rfl) ?_
  simp only [nz1, nz2, nz3]
  refine lvw 14 (v12) rfl rfl (run_ex rfl rfl rfl) ?_
  simp only [nz1, nz2, nz3]
  refine lvw 15 (.int .i64 ((decode_m s).2)) rfl rfl (run_ex rfl rfl rfl) ?_
  simp only [nz1, nz2, nz3]
  refine lvw 3 (v12) rfl rfl (run_as rfl rfl) ?_
  simp only [nz1, nz2, nz3]
  refine lvw 4 (.int .i64 ((decode_m s).2)) rfl rfl (run_as rfl rfl) ?_
  simp only [nz1, nz2, nz3]
  refine wpList_nil ?_
  refine then_n (hK9 _ _ ?_)
  refine wp_seq_k (fun K21 hK21 => ?_)
  refine wp_region_lit ?_
  refine lvw 17 (.string (tx s)) rfl rfl (run_mv rfl rfl) ?_
  simp only [nz1, nz2, nz3]
  refine lst rfl (m_callx hm19 18 rfl (run_rdecode rfl rfl) (rdecode_any s  (seeS [.see (Rs ePar 2 ((decode_m s).1) v12) F14]) _  ) (fun vv27 w22 hR28 hb29 hm23 => ?_))
  obtain ⟨v24, rfl, hg30⟩ := hR28
  obtain ⟨F26, hm31⟩ : ∃ F26, Mm none (fun _ => True) w w22 [.see (Rs ePar 2 ((decode_m s).1) v12) F14, .see (Rs ePar 2 ((rdecode_m s).1) v24) F26] := Mm.tookS hm19 hb29 hg30
  clear hm23 hg30 hb29
  have hf32 : (rdecode_m s).1.length ≤ 1048576 := rdecode_len s
  simp only [nz1, nz2, nz3]
  refine lvw 16 (.tuple #[v24, .int .i64 ((rdecode_m s).2)]) rfl rfl (run_mv rfl rfl) ?_
  simp only [nz1, nz2, nz3]
  refine lvw 19 (v24) rfl rfl (run_ex rfl rfl rfl) ?_
  simp only [nz1, nz2, nz3]
  refine lvw 20 (.int .i64 ((rdecode_m s).2)) rfl rfl (run_ex rfl rfl rfl) ?_
  simp only [nz1, nz2, nz3]
  refine lvw 5 (v24) rfl rfl (run_as rfl rfl) ?_
  simp only [nz1, nz2, nz3]
  refine lvw 6 (.int .i64 ((rdecode_m s).2)) rfl rfl (run_as rfl rfl) ?_
  simp only [nz1, nz2, nz3]
  refine wpList_nil ?_
  refine then_n (hK21 _ _ ?_)
  refine wp_seq_k (fun K33 hK33 => ?_)
  refine wp_region_lit ?_
  refine lst rfl (m_call hm31 21 (.bool (pawake_m)) rfl (run_pawake rfl) (pawake_any   _  (Laid.below hT hm31.below) ) (fun w34 (hm35 : Mm none (fun _ => True) w w34 [.see (Rs ePar 2 ((decode_m s).1) v12) F14, .see (Rs ePar 2 ((rdecode_m s).1) v24) F26]) => ?_))
  simp only [nz1, nz2, nz3]
  by_cases hs36 : pawake_m = true
  rotate_left
  · rw [(Bool.eq_false_iff.2 hs36 : pawake_m = false)]
    refine lvw 22 (.bool false) rfl rfl (run_mv rfl rfl) ?_
    simp only [nz1, nz2, nz3]
    refine lst_skip 23 rfl rfl ?_
    simp only [nz1, nz2, nz3]
    refine lst_skip 24 rfl rfl ?_
    simp only [nz1, nz2, nz3]
    refine lst_skip 25 rfl rfl ?_
    simp only [nz1, nz2, nz3]
    refine lvw 26 (.bool false) rfl rfl (run_pickf rfl rfl rfl) ?_
    simp only [nz1, nz2, nz3]
    refine lvw 27 (.bool false) rfl rfl (run_mv rfl rfl) ?_
    simp only [nz1, nz2, nz3]
    refine lst_skip 28 rfl rfl ?_
    simp only [nz1, nz2, nz3]
    refine lst_skip 29 rfl rfl ?_
    simp only [nz1, nz2, nz3]
    refine lst_skip 30 rfl rfl ?_
    simp only [nz1, nz2, nz3]
    refine lvw 31 (.bool false) rfl rfl (run_pickf rfl rfl rfl) ?_
    simp only [nz1, nz2, nz3]
    refine lvw 2 (.bool false) rfl rfl (run_as rfl rfl) ?_
    simp only [nz1, nz2, nz3]
    refine wpList_nil ?_
    refine then_n (hK33 _ _ ?_)
    refine wp_ret ?_
    have he42 : ldecodes_m s = false := (show ldecodes_m s = false from by unfold ldecodes_m; rw [if_neg hc4, if_neg hs36] <;> rfl)
    exact ⟨rfl, .bool false, res_t rfl rfl, ⟨by rw [he42], hm35.below⟩⟩
  rw [(hs36 : pawake_m = true)]
  refine lvw 22 (.bool true) rfl rfl (run_mv rfl rfl) ?_
  simp only [nz1, nz2, nz3]
  refine lvw 23 (v12) rfl rfl (run_mv rfl rfl) ?_
  simp only [nz1, nz2, nz3]
  refine lvw 24 (v24) rfl rfl (run_mv rfl rfl) ?_
  simp only [nz1, nz2, nz3]
  refine lst rfl (m_call hm35 25 (.bool ((same_m ((decode_m s).1) ((rdecode_m s).1)))) rfl (run_same rfl rfl rfl) (same_any ((decode_m s).1) ((rdecode_m s).1) v12 v24 _ (hm35.see 0 rfl) (hm35.see 1 rfl) (by first | omega | assumption | (simp; done) | (simp; omega) | (simp only [List.length_append, List.length_cons, List.length_nil]; omega) | (simp only [List.length_append, List.length_cons, List.length_nil] at *; omega) | decide)) (fun w37 (hm38 : Mm none (fun _ => True) w w37 [.see (Rs ePar 2 ((decode_m s).1) v12) F14, .see (Rs ePar 2 ((rdecode_m s).1) v24) F26]) => ?_))
  simp only [nz1, nz2, nz3]
  by_cases hs39 : (same_m ((decode_m s).1) ((rdecode_m s).1)) = true
  · rw [(hs39 : (same_m ((decode_m s).1) ((rdecode_m s).1)) = true)]
    refine lvw 26 (.bool true) rfl rfl (run_pick rfl rfl rfl) ?_
    simp only [nz1, nz2, nz3]
    refine lvw 27 (.bool true) rfl rfl (run_mv rfl rfl) ?_
    simp only [nz1, nz2, nz3]
    refine lvw 28 (.int .i64 ((decode_m s).2)) rfl rfl (run_mv rfl rfl) ?_
    simp only [nz1, nz2, nz3]
    refine lvw 29 (.int .i64 ((rdecode_m s).2)) rfl rfl (run_mv rfl rfl) ?_
    simp only [nz1, nz2, nz3]
    refine lvw 30 (.bool (decide ((decode_m s).2 = (rdecode_m s).2))) rfl rfl (z_eql ((decode_m s).2) ((rdecode_m s).2) rfl rfl rfl) ?_
    simp only [nz1, nz2, nz3]
    refine lvw 31 (.bool (decide ((decode_m s).2 = (rdecode_m s).2))) rfl rfl (run_pick rfl rfl rfl) ?_
    simp only [nz1, nz2, nz3]
    refine lvw 2 (.bool (decide ((decode_m s).2 = (rdecode_m s).2))) rfl rfl (run_as rfl rfl) ?_
    simp only [nz1, nz2, nz3]
    refine wpList_nil ?_
    refine then_n (hK33 _ _ ?_)
    refine wp_ret ?_
    have he40 : ldecodes_m s = (decide ((decode_m s).2 = (rdecode_m s).2)) := (show ldecodes_m s = (decide ((decode_m s).2 = (rdecode_m s).2)) from by unfold ldecodes_m; rw [if_neg hc4, if_pos hs36, if_pos hs39] <;> rfl)
    exact ⟨rfl, .bool (decide ((decode_m s).2 = (rdecode_m s).2)), res_t rfl rfl, ⟨by rw [he40], hm38.below⟩⟩
  rw [(Bool.eq_false_iff.2 hs39 : (same_m ((decode_m s).1) ((rdecode_m s).1)) = false)]
  refine lvw 26 (.bool false) rfl rfl (run_pick rfl rfl rfl) ?_
  simp only [nz1, nz2, nz3]
  refine lvw 27 (.bool false) rfl rfl (run_mv rfl rfl) ?_
  simp only [nz1, nz2, nz3]
  refine lst_skip 28 rfl rfl ?_
  simp only [nz1, nz2, nz3]
  refine lst_skip 29 rfl rfl ?_
  simp only [nz1, nz2, nz3]
  refine lst_skip 30 rfl rfl ?_
  simp only [nz1, nz2, nz3]
  refine lvw 31 (.bool false) rfl rfl (run_pickf rfl rfl rfl) ?_
  simp only [nz1, nz2, nz3]
  refine lvw 2 (.bool false) rfl rfl (run_as rfl rfl) ?_
  simp only [nz1, nz2, nz3]
  refine wpList_nil ?_
  refine then_n (hK33 _ _ ?_)
  refine wp_ret ?_
  have he41 : ldecodes_m s = false := (show ldecodes_m s = false from by unfold ldecodes_m; rw [if_neg hc4, if_pos hs36, if_neg hs39] <;> rfl)
  exact ⟨rfl, .bool false, res_t rfl rfl, ⟨by rw [he41], hm38.below⟩⟩
theorem run_ldecodes {o : Oper} {a : Act} {w : World} {x0 : Operand} {v0 : Value} (ho : o.op = .call { callee := .value (.func 9), args := #[x0], argTypes := #[9] }) (h0 : a.eval x0 = v0) :
    (execOp a.eval o).run Tryd.prog w = .ok (.enter 9 #[v0]) w := by
  unfold execOp
  simp only [ho]
  have hf : a.eval (.func 9) = .func (.func 9) #[] #[] := rfl
  generalize a.eval = f at *
  go_simp
end Go.Proofs.YtglnifckngcpkaaDoor.Px
