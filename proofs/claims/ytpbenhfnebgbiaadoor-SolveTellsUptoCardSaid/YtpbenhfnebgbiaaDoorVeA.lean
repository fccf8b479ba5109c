/- Layer 12: signs of versions. -/
import Derived.Test.YtpbenhfnebgbiaaDoorVeL
namespace Go.Proofs.YtpbenhfnebgbiaaDoor.Ve
open Go.RowKit
open Go.Proofs.YtpbenhfnebgbiaaDoor.Sym Go.Proofs.YtpbenhfnebgbiaaDoor.Mem
open Go.Proofs.YtpbenhfnebgbiaaDoor.Sx hiding Mm m_alloc m_store m_put m_call m_callx m_make m_append r_string r_ixS
set_option linter.unusedVariables false
open Go.Proofs.YtpbenhfnebgbiaaDoor.Pa
attribute [local irreducible] wpList Oper.wp

theorem run_nans {o : Oper} {a : Act} {w : World} {x0 : Operand} {v0 : Value} (ho : o.op = .call { callee := .value (.func 56), args := #[x0], argTypes := #[9] }) (h0 : a.eval x0 = v0) :
    (execOp a.eval o).run Tryd.prog w = .ok (.enter 56 #[v0]) w := by
  unfold execOp
  simp only [ho]
  have hf : a.eval (.func 56) = .func (.func 56) #[] #[] := rfl
  generalize a.eval = f at *
  go_simp
theorem run_crune {o : Oper} {a : Act} {w : World} {x0 x1 : Operand} {v0 v1 : Value} (ho : o.op = .call { callee := .value (.func 55), args := #[x0, x1], argTypes := #[9, 21] }) (h0 : a.eval x0 = v0) (h1 : a.eval x1 = v1) :
    (execOp a.eval o).run Tryd.prog w = .ok (.enter 55 #[v0, v1]) w := by
  unfold execOp
  simp only [ho]
  have hf : a.eval (.func 55) = .func (.func 55) #[] #[] := rfl
  generalize a.eval = f at *
  go_simp
theorem run_cmpi {o : Oper} {a : Act} {w : World} {x0 x1 : Operand} {v0 v1 : Value} (ho : o.op = .call { callee := .value (.func 58), args := #[x0, x1], argTypes := #[3, 3] }) (h0 : a.eval x0 = v0) (h1 : a.eval x1 = v1) :
    (execOp a.eval o).run Tryd.prog w = .ok (.enter 58 #[v0, v1]) w := by
  unfold execOp
  simp only [ho]
  have hf : a.eval (.func 58) = .func (.func 58) #[] #[] := rfl
  generalize a.eval = f at *
  go_simp
theorem run_trimz {o : Oper} {a : Act} {w : World} {x0 x1 : Operand} {v0 v1 : Value} (ho : o.op = .call { callee := .value (.func 60), args := #[x0, x1], argTypes := #[9, 9] }) (h0 : a.eval x0 = v0) (h1 : a.eval x1 = v1) :
    (execOp a.eval o).run Tryd.prog w = .ok (.enter 60 #[v0, v1]) w := by
  unfold execOp
  simp only [ho]
  have hf : a.eval (.func 60) = .func (.func 60) #[] #[] := rfl
  generalize a.eval = f at *
  go_simp
def cmps_m (x : List UInt8) (y : List UInt8) : Int :=
  if (nans_m x) = true then
    if (nans_m y) = true then
      0
    else
      -1
  else
    if (nans_m y) = true then
      1
    else
      if (lt' x y) = true then
        -1
      else
        if (!lt' x y && !decide (x = y)) = true then
          1
        else
          0

set_option maxHeartbeats 4000000 in
set_option maxRecDepth 100000 in
theorem cmps_any (x : List UInt8) (y : List UInt8) (w : World)   : Calls Tryd.prog 30 #[.string (tx x), .string (tx y)] w (fun e w' => e = .returned (.int .i64 ((cmps_m x y))) ∧ Below w.heap.size w w') := by
  go_enter Tryd.func30, Tryd.ntmps30
  have hm00 := Mm.nil none (fun _ => True) w
  have hm0 := hm00
  refine wp_seq_k (fun K1 hK1 => ?_)
  refine wp_region_lit ?_
  refine lvw 4 (.int .i64 0) rfl rfl (run_as rfl rfl) ?_
  simp only [nz1, nz2, nz3]
  refine wpList_nil ?_
  refine then_n (hK1 _ _ ?_)
  refine wp_seq_k (fun K2 hK2 => ?_)
  refine wp_region_lit ?_
  refine lvw 7 (.string (tx x)) rfl rfl (run_mv rfl rfl) ?_
  simp only [nz1, nz2, nz3]
  refine lst rfl (m_call hm0 8 (.bool ((nans_m x))) rfl (run_nans rfl rfl) (nans_any x  _  ) (fun w3 (hm4 : Mm none (fun _ => True) w w3 []) => ?_))
  simp only [nz1, nz2, nz3]
  refine lvw 5 (.bool ((nans_m x))) rfl rfl (run_as rfl rfl) ?_
  simp only [nz1, nz2, nz3]
  refine wpList_nil ?_
  refine then_n (hK2 _ _ ?_)
  refine wp_seq_k (fun K5 hK5 => ?_)
  refine wp_region_lit ?_
  refine lvw 9 (.string (tx y)) rfl rfl (run_mv rfl rfl) ?_
  simp only [nz1, nz2, nz3]
  refine lst rfl (m_call hm4 10 (.bool ((nans_m y))) rfl (run_nans rfl rfl) (nans_any y  _  ) (fun w6 (hm7 : Mm none (fun _ => True) w w6 []) => ?_))
  simp only [nz1, nz2, nz3]
  refine lvw 6 (.bool ((nans_m y))) rfl rfl (run_as rfl rfl) ?_
  simp only [nz1, nz2, nz3]
  refine wpList_nil ?_
  refine then_n (hK5 _ _ ?_)
  refine wp_seq_k (fun K8 hK8 => ?_)
  refine wp_seq_k (fun K9 hK9 => ?_)
  refine wp_region_lit ?_
  refine lvw 11 (.bool ((nans_m x))) rfl rfl (run_mv rfl rfl) ?_
  simp only [nz1, nz2, nz3]
  refine wpList_nil ?_
  refine then_n (hK9 _ _ ?_)
  refine cond_B (nans_m x) rfl (fun hc10 => ?_) (fun hc10 => ?_)
  · refine wp_seq_k (fun K11 hK11 => ?_)
    refine wp_seq_k (fun K12 hK12 => ?_)
    refine wp_region_lit ?_
    refine lvw 12 (.bool ((nans_m y))) rfl rfl (run_mv rfl rfl) ?_
    simp only [nz1, nz2, nz3]
    refine wpList_nil ?_
    refine then_n (hK12 _ _ ?_)
    refine cond_B (nans_m y) rfl (fun hc13 => ?_) (fun hc13 => ?_)
    · refine wp_seq_k (fun K14 hK14 => ?_)
      refine wp_region_lit ?_
      refine lvw 4 (.int .i64 0) rfl rfl (run_as rfl rfl) ?_
      simp only [nz1, nz2, nz3]
      refine wpList_nil ?_
      refine then_n (hK14 _ _ ?_)
      refine wp_ret ?_
      refine then_r ?_
      refine then_r ?_
      have he15 : cmps_m x y = 0 := (show cmps_m x y = 0 from by unfold cmps_m; rw [if_pos hc10, if_pos hc13] <;> rfl)
      exact ⟨rfl, .int .i64 0, res_t rfl rfl, ⟨by (rw [he15]; try rfl), hm7.below⟩⟩
    refine wp_skip ?_
    refine then_n (hK11 _ _ ?_)
    refine wp_seq_k (fun K16 hK16 => ?_)
    refine wp_region_lit ?_
    refine lvw 4 (.int .i64 (-1)) rfl rfl (run_as rfl rfl) ?_
    simp only [nz1, nz2, nz3]
    refine wpList_nil ?_
    refine then_n (hK16 _ _ ?_)
    refine wp_ret ?_
    refine then_r ?_
    have he17 : cmps_m x y = -1 := (show cmps_m x y = -1 from by unfold cmps_m; rw [if_pos hc10, if_neg hc13] <;> rfl)
    exact ⟨rfl, .int .i64 (-1), res_t rfl rfl, ⟨by (rw [he17]; try rfl), hm7.below⟩⟩
  refine wp_skip ?_
  refine then_n (hK8 _ _ ?_)
  refine wp_seq_k (fun K18 hK18 => ?_)
  refine wp_seq_k (fun K19 hK19 => ?_)
  refine wp_region_lit ?_
  refine lvw 13 (.bool ((nans_m y))) rfl rfl (run_mv rfl rfl) ?_
  simp only [nz1, nz2, nz3]
  refine wpList_nil ?_
  refine then_n (hK19 _ _ ?_)
  refine cond_B (nans_m y) rfl (fun hc20 => ?_) (fun hc20 => ?_)
  · refine wp_seq_k (fun K21 hK21 => ?_)
    refine wp_region_lit ?_
    refine lvw 4 (.int .i64 1) rfl rfl (run_as rfl rfl) ?_
    simp only [nz1, nz2, nz3]
    refine wpList_nil ?_
    refine then_n (hK21 _ _ ?_)
    refine wp_ret ?_
    refine then_r ?_
    have he22 : cmps_m x y = 1 := (show cmps_m x y = 1 from by unfold cmps_m; rw [if_neg hc10, if_pos hc20] <;> rfl)
    exact ⟨rfl, .int .i64 1, res_t rfl rfl, ⟨by (rw [he22]; try rfl), hm7.below⟩⟩
  refine wp_skip ?_
  refine then_n (hK18 _ _ ?_)
  refine wp_seq_k (fun K23 hK23 => ?_)
  refine wp_seq_k (fun K24 hK24 => ?_)
  refine wp_region_lit ?_
  refine lvw 14 (.string (tx x)) rfl rfl (run_mv rfl rfl) ?_
  simp only [nz1, nz2, nz3]
  refine lvw 15 (.string (tx y)) rfl rfl (run_mv rfl rfl) ?_
  simp only [nz1, nz2, nz3]
  refine lvw 16 (.bool (lt' x y)) rfl rfl (t_lss x y rfl rfl rfl) ?_
  simp only [nz1, nz2, nz3]
  refine wpList_nil ?_
  refine then_n (hK24 _ _ ?_)
  refine cond_B (lt' x y) rfl (fun hc25 => ?_) (fun hc25 => ?_)
  · refine wp_seq_k (fun K26 hK26 => ?_)
    refine wp_region_lit ?_
    refine lvw 4 (.int .i64 (-1)) rfl rfl (run_as rfl rfl) ?_
    simp only [nz1, nz2, nz3]
    refine wpList_nil ?_
    refine then_n (hK26 _ _ ?_)
    refine wp_ret ?_
    refine then_r ?_
    have he27 : cmps_m x y = -1 := (show cmps_m x y = -1 from by unfold cmps_m; rw [if_neg hc10, if_neg hc20, if_pos hc25] <;> rfl)
    exact ⟨rfl, .int .i64 (-1), res_t rfl rfl, ⟨by (rw [he27]; try rfl), hm7.below⟩⟩
  refine wp_skip ?_
  refine then_n (hK23 _ _ ?_)
  refine wp_seq_k (fun K28 hK28 => ?_)
  refine wp_seq_k (fun K29 hK29 => ?_)
  refine wp_region_lit ?_
  refine lvw 17 (.string (tx x)) rfl rfl (run_mv rfl rfl) ?_
  simp only [nz1, nz2, nz3]
  refine lvw 18 (.string (tx y)) rfl rfl (run_mv rfl rfl) ?_
  simp only [nz1, nz2, nz3]
  refine lvw 19 (.bool ((!lt' x y && !decide (x = y)))) rfl rfl (t_gtr x y rfl rfl rfl) ?_
  simp only [nz1, nz2, nz3]
  refine wpList_nil ?_
  refine then_n (hK29 _ _ ?_)
  refine cond_B (!lt' x y && !decide (x = y)) rfl (fun hc30 => ?_) (fun hc30 => ?_)
  · refine wp_seq_k (fun K31 hK31 => ?_)
    refine wp_region_lit ?_
    refine lvw 4 (.int .i64 1) rfl rfl (run_as rfl rfl) ?_
    simp only [nz1, nz2, nz3]
    refine wpList_nil ?_
    refine then_n (hK31 _ _ ?_)
    refine wp_ret ?_
    refine then_r ?_
    have he32 : cmps_m x y = 1 := (show cmps_m x y = 1 from by unfold cmps_m; rw [if_neg hc10, if_neg hc20, if_neg hc25, if_pos hc30] <;> rfl)
    exact ⟨rfl, .int .i64 1, res_t rfl rfl, ⟨by (rw [he32]; try rfl), hm7.below⟩⟩
  refine wp_skip ?_
  refine then_n (hK28 _ _ ?_)
  refine wp_seq_k (fun K33 hK33 => ?_)
  refine wp_region_lit ?_
  refine lvw 4 (.int .i64 0) rfl rfl (run_as rfl rfl) ?_
  simp only [nz1, nz2, nz3]
  refine wpList_nil ?_
  refine then_n (hK33 _ _ ?_)
  refine wp_ret ?_
  have he34 : cmps_m x y = 0 := (show cmps_m x y = 0 from by unfold cmps_m; rw [if_neg hc10, if_neg hc20, if_neg hc25, if_neg hc30] <;> rfl)
  exact ⟨rfl, .int .i64 0, res_t rfl rfl, ⟨by (rw [he34]; try rfl), hm7.below⟩⟩
theorem run_cmps {o : Oper} {a : Act} {w : World} {x0 x1 : Operand} {v0 v1 : Value} (ho : o.op = .call { callee := .value (.func 30), args := #[x0, x1], argTypes := #[9, 9] }) (h0 : a.eval x0 = v0) (h1 : a.eval x1 = v1) :
    (execOp a.eval o).run Tryd.prog w = .ok (.enter 30 #[v0, v1]) w := by
  unfold execOp
  simp only [ho]
  have hf : a.eval (.func 30) = .func (.func 30) #[] #[] := rfl
  generalize a.eval = f at *
  go_simp
def digit_m (r : Int) : Bool :=
  if 48 ≤ r then
    (decide (r ≤ 57))
  else
    false

set_option maxHeartbeats 4000000 in
set_option maxRecDepth 100000 in
theorem digit_any (r : Int) (w : World)   : Calls Tryd.prog 53 #[.int .i32 (r)] w (fun e w' => e = .returned (.bool ((digit_m r))) ∧ Below w.heap.size w w') := by
  go_enter Tryd.func53, Tryd.ntmps53
  have hm00 := Mm.nil none (fun _ => True) w
  have hm0 := hm00
  refine wp_seq_k (fun K1 hK1 => ?_)
  refine wp_region_lit ?_
  refine lvw 2 (.bool false) rfl rfl (run_as rfl rfl) ?_
  simp only [nz1, nz2, nz3]
  refine wpList_nil ?_
  refine then_n (hK1 _ _ ?_)
  refine wp_seq_k (fun K2 hK2 => ?_)
  refine wp_region_lit ?_
  refine lvw 3 (.int .i32 (r)) rfl rfl (run_mv rfl rfl) ?_
  simp only [nz1, nz2, nz3]
  refine lvb 4 (48 ≤ r) rfl rfl (z_geq r 48 rfl rfl rfl) (fun hs3 => ?_) (fun hs3 => ?_)
  · simp only [nz1, nz2, nz3]
    refine lvw 5 (.bool true) rfl rfl (run_mv rfl rfl) ?_
    simp only [nz1, nz2, nz3]
    refine lvw 6 (.int .i32 (r)) rfl rfl (run_mv rfl rfl) ?_
    simp only [nz1, nz2, nz3]
    refine lvw 7 (.bool (decide (r ≤ 57))) rfl rfl (z_leq r 57 rfl rfl rfl) ?_
    simp only [nz1, nz2, nz3]
    refine lvw 8 (.bool (decide (r ≤ 57))) rfl rfl (run_pick rfl rfl rfl) ?_
    simp only [nz1, nz2, nz3]
    refine lvw 2 (.bool (decide (r ≤ 57))) rfl rfl (run_as rfl rfl) ?_
    simp only [nz1, nz2, nz3]
    refine wpList_nil ?_
    refine then_n (hK2 _ _ ?_)
    refine wp_ret ?_
    have he4 : digit_m r = (decide (r ≤ 57)) := (show digit_m r = (decide (r ≤ 57)) from by unfold digit_m; rw [if_pos hs3] <;> rfl)
    exact ⟨rfl, .bool (decide (r ≤ 57)), res_t rfl rfl, ⟨by (rw [he4]; try rfl), hm0.below⟩⟩
  simp only [nz1, nz2, nz3]
  refine lvw 5 (.bool false) rfl rfl (run_mv rfl rfl) ?_
  simp only [nz1, nz2, nz3]
  refine lst_skip 6 rfl rfl ?_
  simp only [nz1, nz2, nz3]
  refine lst_skip 7 rfl rfl ?_
  simp only [nz1, nz2, nz3]
  refine lvw 8 (.bool false) rfl rfl (run_pickf rfl rfl rfl) ?_
  simp only [nz1, nz2, nz3]
  refine lvw 2 (.bool false) rfl rfl (run_as rfl rfl) ?_
  simp only [nz1, nz2, nz3]
  refine wpList_nil ?_
  refine then_n (hK2 _ _ ?_)
  refine wp_ret ?_
  have he5 : digit_m r = false := (show digit_m r = false from by unfold digit_m; rw [if_neg hs3] <;> rfl)
  exact ⟨rfl, .bool false, res_t rfl rfl, ⟨by (rw [he5]; try rfl), hm0.below⟩⟩
theorem run_digit {o : Oper} {a : Act} {w : World} {x0 : Operand} {v0 : Value} (ho : o.op = .call { callee := .value (.func 53), args := #[x0], argTypes := #[21] }) (h0 : a.eval x0 = v0) :
    (execOp a.eval o).run Tryd.prog w = .ok (.enter 53 #[v0]) w := by
  unfold execOp
  simp only [ho]
  have hf : a.eval (.func 53) = .func (.func 53) #[] #[] := rfl
  generalize a.eval = f at *
  go_simp
def letter_m (r : Int) : Bool :=
  if 97 ≤ r then
    if r ≤ 122 then
      true
    else
      if 65 ≤ r then
        (decide (r ≤ 90))
      else
        false
  else
    if 65 ≤ r then
      (decide (r ≤ 90))
    else
      false

set_option maxHeartbeats 4000000 in
set_option maxRecDepth 100000 in
theorem letter_any (r : Int) (w : World)   : Calls Tryd.prog 54 #[.int .i32 (r)] w (fun e w' => e = .returned (.bool ((letter_m r))) ∧ Below w.heap.size w w') := by
  go_enter Tryd.func54, Tryd.ntmps54
  have hm00 := Mm.nil none (fun _ => True) w
  have hm0 := hm00
  refine wp_seq_k (fun K1 hK1 => ?_)
  refine wp_region_lit ?_
  refine lvw 2 (.bool false) rfl rfl (run_as rfl rfl) ?_
  simp only [nz1, nz2, nz3]
  refine wpList_nil ?_
  refine then_n (hK1 _ _ ?_)
  refine wp_seq_k (fun K2 hK2 => ?_)
  refine wp_region_lit ?_
  refine lvw 3 (.int .i32 (r)) rfl rfl (run_mv rfl rfl) ?_
  simp only [nz1, nz2, nz3]
  refine lvb 4 (97 ≤ r) rfl rfl (z_geq r 97 rfl rfl rfl) (fun hs3 => ?_) (fun hs3 => ?_)
  rotate_left
  · simp only [nz1, nz2, nz3]
    refine lvw 5 (.bool false) rfl rfl (run_mv rfl rfl) ?_
    simp only [nz1, nz2, nz3]
    refine lst_skip 6 rfl rfl ?_
    simp only [nz1, nz2, nz3]
    refine lst_skip 7 rfl rfl ?_
    simp only [nz1, nz2, nz3]
    refine lvw 8 (.bool false) rfl rfl (run_pickf rfl rfl rfl) ?_
    simp only [nz1, nz2, nz3]
    refine lvw 9 (.bool false) rfl rfl (run_mv rfl rfl) ?_
    simp only [nz1, nz2, nz3]
    refine lvw 10 (.int .i32 (r)) rfl rfl (run_mv rfl rfl) ?_
    simp only [nz1, nz2, nz3]
    refine lvb 11 (65 ≤ r) rfl rfl (z_geq r 65 rfl rfl rfl) (fun hs9 => ?_) (fun hs9 => ?_)
    · simp only [nz1, nz2, nz3]
      refine lvw 12 (.bool true) rfl rfl (run_mv rfl rfl) ?_
      simp only [nz1, nz2, nz3]
      refine lvw 13 (.int .i32 (r)) rfl rfl (run_mv rfl rfl) ?_
      simp only [nz1, nz2, nz3]
      refine lvw 14 (.bool (decide (r ≤ 90))) rfl rfl (z_leq r 90 rfl rfl rfl) ?_
      simp only [nz1, nz2, nz3]
      refine lvw 15 (.bool (decide (r ≤ 90))) rfl rfl (run_pick rfl rfl rfl) ?_
      simp only [nz1, nz2, nz3]
      refine lvw 16 (.bool (decide (r ≤ 90))) rfl rfl (run_pickf rfl rfl rfl) ?_
      simp only [nz1, nz2, nz3]
      refine lvw 2 (.bool (decide (r ≤ 90))) rfl rfl (run_as rfl rfl) ?_
      simp only [nz1, nz2, nz3]
      refine wpList_nil ?_
      refine then_n (hK2 _ _ ?_)
      refine wp_ret ?_
      have he10 : letter_m r = (decide (r ≤ 90)) := (show letter_m r = (decide (r ≤ 90)) from by unfold letter_m; rw [if_neg hs3, if_pos hs9] <;> rfl)
      exact ⟨rfl, .bool (decide (r ≤ 90)), res_t rfl rfl, ⟨by (rw [he10]; try rfl), hm0.below⟩⟩
    simp only [nz1, nz2, nz3]
    refine lvw 12 (.bool false) rfl rfl (run_mv rfl rfl) ?_
    simp only [nz1, nz2, nz3]
    refine lst_skip 13 rfl rfl ?_
    simp only [nz1, nz2, nz3]
    refine lst_skip 14 rfl rfl ?_
    simp only [nz1, nz2, nz3]
    refine lvw 15 (.bool false) rfl rfl (run_pickf rfl rfl rfl) ?_
    simp only [nz1, nz2, nz3]
    refine lvw 16 (.bool false) rfl rfl (run_pickf rfl rfl rfl) ?_
    simp only [nz1, nz2, nz3]
    refine lvw 2 (.bool false) rfl rfl (run_as rfl rfl) ?_
    simp only [nz1, nz2, nz3]
    refine wpList_nil ?_
    refine then_n (hK2 _ _ ?_)
    refine wp_ret ?_
    have he11 : letter_m r = false := (show letter_m r = false from by unfold letter_m; rw [if_neg hs3, if_neg hs9] <;> rfl)
    exact ⟨rfl, .bool false, res_t rfl rfl, ⟨by (rw [he11]; try rfl), hm0.below⟩⟩
  simp only [nz1, nz2, nz3]
  refine lvw 5 (.bool true) rfl rfl (run_mv rfl rfl) ?_
  simp only [nz1, nz2, nz3]
  refine lvw 6 (.int .i32 (r)) rfl rfl (run_mv rfl rfl) ?_
  simp only [nz1, nz2, nz3]
  refine lvb 7 (r ≤ 122) rfl rfl (z_leq r 122 rfl rfl rfl) (fun hs4 => ?_) (fun hs4 => ?_)
  · simp only [nz1, nz2, nz3]
    refine lvw 8 (.bool true) rfl rfl (run_pick rfl rfl rfl) ?_
    simp only [nz1, nz2, nz3]
    refine lvw 9 (.bool true) rfl rfl (run_mv rfl rfl) ?_
    simp only [nz1, nz2, nz3]
    refine lst_skip 10 rfl rfl ?_
    simp only [nz1, nz2, nz3]
    refine lst_skip 11 rfl rfl ?_
    simp only [nz1, nz2, nz3]
    refine lst_skip 12 rfl rfl ?_
    simp only [nz1, nz2, nz3]
    refine lst_skip 13 rfl rfl ?_
    simp only [nz1, nz2, nz3]
    refine lst_skip 14 rfl rfl ?_
    simp only [nz1, nz2, nz3]
    refine lst_skip 15 rfl rfl ?_
    simp only [nz1, nz2, nz3]
    refine lvw 16 (.bool true) rfl rfl (run_pick rfl rfl rfl) ?_
    simp only [nz1, nz2, nz3]
    refine lvw 2 (.bool true) rfl rfl (run_as rfl rfl) ?_
    simp only [nz1, nz2, nz3]
    refine wpList_nil ?_
    refine then_n (hK2 _ _ ?_)
    refine wp_ret ?_
    have he5 : letter_m r = true := (show letter_m r = true from by unfold letter_m; rw [if_pos hs3, if_pos hs4] <;> rfl)
    exact ⟨rfl, .bool true, res_t rfl rfl, ⟨by (rw [he5]; try rfl), hm0.below⟩⟩
  simp only [nz1, nz2, nz3]
  refine lvw 8 (.bool false) rfl rfl (run_pick rfl rfl rfl) ?_
  simp only [nz1, nz2, nz3]
  refine lvw 9 (.bool false) rfl rfl (run_mv rfl rfl) ?_
  simp only [nz1, nz2, nz3]
  refine lvw 10 (.int .i32 (r)) rfl rfl (run_mv rfl rfl) ?_
  simp only [nz1, nz2, nz3]
  refine lvb 11 (65 ≤ r) rfl rfl (z_geq r 65 rfl rfl rfl) (fun hs6 => ?_) (fun hs6 => ?_)
  · simp only [nz1, nz2, nz3]
    refine lvw 12 (.bool true) rfl rfl (run_mv rfl rfl) ?_
    simp only [nz1, nz2, nz3]
    refine lvw 13 (.int .i32 (r)) rfl rfl (run_mv rfl rfl) ?_
    simp only [nz1, nz2, nz3]
    refine lvw 14 (.bool (decide (r ≤ 90))) rfl rfl (z_leq r 90 rfl rfl rfl) ?_
    simp only [nz1, nz2, nz3]
    refine lvw 15 (.bool (decide (r ≤ 90))) rfl rfl (run_pick rfl rfl rfl) ?_
    simp only [nz1, nz2, nz3]
    refine lvw 16 (.bool (decide (r ≤ 90))) rfl rfl (run_pickf rfl rfl rfl) ?_
    simp only [nz1, nz2, nz3]
    refine lvw 2 (.bool (decide (r ≤ 90))) rfl rfl (run_as rfl rfl) ?_
    simp only [nz1, nz2, nz3]
    refine wpList_nil ?_
    refine then_n (hK2 _ _ ?_)
    refine wp_ret ?_
    have he7 : letter_m r = (decide (r ≤ 90)) := (show letter_m r = (decide (r ≤ 90)) from by unfold letter_m; rw [if_pos hs3, if_neg hs4, if_pos hs6] <;> rfl)
    exact ⟨rfl, .bool (decide (r ≤ 90)), res_t rfl rfl, ⟨by (rw [he7]; try rfl), hm0.below⟩⟩
  simp only [nz1, nz2, nz3]
  refine lvw 12 (.bool false) rfl rfl (run_mv rfl rfl) ?_
  simp only [nz1, nz2, nz3]
  refine lst_skip 13 rfl rfl ?_
  simp only [nz1, nz2, nz3]
  refine lst_skip 14 rfl rfl ?_
  simp only [nz1, nz2, nz3]
  refine lvw 15 (.bool false) rfl rfl (run_pickf rfl rfl rfl) ?_
  simp only [nz1, nz2, nz3]
  refine lvw 16 (.bool false) rfl rfl (run_pickf rfl rfl rfl) ?_
  simp only [nz1, nz2, nz3]
  refine lvw 2 (.bool false) rfl rfl (run_as rfl rfl) ?_
  simp only [nz1, nz2, nz3]
  refine wpList_nil ?_
  refine then_n (hK2 _ _ ?_)
  refine wp_ret ?_
  have he8 : letter_m r = false := (show letter_m r = false from by unfold letter_m; rw [if_pos hs3, if_neg hs4, if_neg hs6] <;> rfl)
  exact ⟨rfl, .bool false, res_t rfl rfl, ⟨by (rw [he8]; try rfl), hm0.below⟩⟩
theorem run_letter {o : Oper} {a : Act} {w : World} {x0 : Operand} {v0 : Value} (ho : o.op = .call { callee := .value (.func 54), args := #[x0], argTypes := #[21] }) (h0 : a.eval x0 = v0) :
    (execOp a.eval o).run Tryd.prog w = .ok (.enter 54 #[v0]) w := by
  unfold execOp
  simp only [ho]
  have hf : a.eval (.func 54) = .func (.func 54) #[] #[] := rfl
  generalize a.eval = f at *
  go_simp
def check_m_b0 (s : List UInt8) (rec : Nat → Sum (Nat) (Bool)) (p15 : Nat) : Sum (Nat) (Bool) :=
  if p15 < s.length then
    if (!(digit_m (((dec s p15).1 : Nat) : Int))) = true then
      if (!(letter_m (((dec s p15).1 : Nat) : Int))) = true then
        if p15 = 0 then
          .inr false
        else
          if (!(crune_m ([46, 45, 43, 126, 95]) (((dec s p15).1 : Nat) : Int))) = true then
            .inr false
          else
            rec (nxp s p15)
      else
        rec (nxp s p15)
    else
      rec (nxp s p15)
  else
    .inl (nxp s p15)
def check_m_l0 (s : List UInt8) : Nat → Nat → Sum (Nat) (Bool)
  | 0, zz => .inl zz
  | nq + 1, zz => check_m_b0 s (check_m_l0 s nq) zz

def check_m_k0 (s : List UInt8) (y19 : Nat) : Bool :=
  true

def check_m (s : List UInt8) : Bool :=
  if s = [] then
    false
  else
    if 24 < s.length then
      false
    else
      fin (check_m_l0 s ((s.length - 0) + 1) 0) (fun r => r) (fun zz => check_m_k0 s zz)

set_option maxHeartbeats 4000000 in
set_option maxRecDepth 100000 in
theorem check_any (s : List UInt8) (w : World)   : Calls Tryd.prog 29 #[.string (tx s)] w (fun e w' => e = .returned (.bool ((check_m s))) ∧ Below w.heap.size w w') := by
  go_enter Tryd.func29, Tryd.ntmps29
  have hm00 := Mm.nil none (fun _ => True) w
  have hm0 := hm00
  refine wp_seq_k (fun K1 hK1 => ?_)
  refine wp_region_lit ?_
  refine lvw 2 (.bool false) rfl rfl (run_as rfl rfl) ?_
  simp only [nz1, nz2, nz3]
  refine wpList_nil ?_
  refine then_n (hK1 _ _ ?_)
  refine wp_seq_k (fun K2 hK2 => ?_)
  refine wp_seq_k (fun K3 hK3 => ?_)
  refine wp_region_lit ?_
  refine lvw 5 (.string (tx s)) rfl rfl (run_mv rfl rfl) ?_
  simp only [nz1, nz2, nz3]
  refine lvb 6 (s = []) rfl rfl (t_eql s ([]) rfl rfl rfl) (fun hs4 => ?_) (fun hs4 => ?_)
  · simp only [nz1, nz2, nz3]
    refine lvw 7 (.bool true) rfl rfl (run_mv rfl rfl) ?_
    simp only [nz1, nz2, nz3]
    refine lst_skip 8 rfl rfl ?_
    simp only [nz1, nz2, nz3]
    refine lst_skip 9 rfl rfl ?_
    simp only [nz1, nz2, nz3]
    refine lst_skip 10 rfl rfl ?_
    simp only [nz1, nz2, nz3]
    refine lvw 11 (.bool true) rfl rfl (run_pick rfl rfl rfl) ?_
    simp only [nz1, nz2, nz3]
    refine wpList_nil ?_
    refine then_n (hK3 _ _ ?_)
    refine cond_t rfl ?_
    refine wp_seq_k (fun K5 hK5 => ?_)
    refine wp_region_lit ?_
    refine lvw 2 (.bool false) rfl rfl (run_as rfl rfl) ?_
    simp only [nz1, nz2, nz3]
    refine wpList_nil ?_
    refine then_n (hK5 _ _ ?_)
    refine wp_ret ?_
    refine then_r ?_
    have he6 : check_m s = false := (show check_m s = false from by unfold check_m; rw [if_pos hs4] <;> rfl)
    exact ⟨rfl, .bool false, res_t rfl rfl, ⟨by (rw [he6]; try rfl), hm0.below⟩⟩
  simp only [nz1, nz2, nz3]
  refine lvw 7 (.bool false) rfl rfl (run_mv rfl rfl) ?_
  simp only [nz1, nz2, nz3]
  refine lvw 8 (.string (tx s)) rfl rfl (run_mv rfl rfl) ?_
  simp only [nz1, nz2, nz3]
  refine lvw 9 (.int .i64 ((s.length : Nat) : Int)) rfl rfl (t_len rfl Tryd.underlying9 rfl) ?_
  simp only [nz1, nz2, nz3]
  refine lvw 10 (.bool (decide (24 < s.length))) rfl rfl (r_gtr s.length 24 rfl rfl rfl) ?_
  simp only [nz1, nz2, nz3]
  refine lvw 11 (.bool (decide (24 < s.length))) rfl rfl (run_pickf rfl rfl rfl) ?_
  simp only [nz1, nz2, nz3]
  refine wpList_nil ?_
  refine then_n (hK3 _ _ ?_)
  refine cond_d (24 < s.length) rfl (fun hc7 => ?_) (fun hc7 => ?_)
  · refine wp_seq_k (fun K8 hK8 => ?_)
    refine wp_region_lit ?_
    refine lvw 2 (.bool false) rfl rfl (run_as rfl rfl) ?_
    simp only [nz1, nz2, nz3]
    refine wpList_nil ?_
    refine then_n (hK8 _ _ ?_)
    refine wp_ret ?_
    refine then_r ?_
    have he9 : check_m s = false := (show check_m s = false from by unfold check_m; rw [if_neg hs4, if_pos hc7] <;> rfl)
    exact ⟨rfl, .bool false, res_t rfl rfl, ⟨by (rw [he9]; try rfl), hm0.below⟩⟩
  refine wp_skip ?_
  refine then_n (hK2 _ _ ?_)
  refine wp_seq_k (fun K10 hK10 => ?_)
  refine wp_seq_k (fun K11 hK11 => ?_)
  refine wp_region_lit ?_
  refine lvw 12 (.string (tx s)) rfl rfl (run_mv rfl rfl) ?_
  simp only [nz1, nz2, nz3]
  refine lst rfl (m_range s hm0 13 rfl rfl Tryd.underlying9 rfl (fun g14 w12 (hm13 : Mm none (fun _ => True) w w12 [.itr g14 (tx s) 0]) => ?_))
  simp only [nz1, nz2, nz3]
  refine wpList_nil ?_
  refine then_n (hK11 _ _ ?_)
  refine wp_cutK (fun a' w' => ∃ (y19 : Nat) (yu0 : Nat → Value), check_m_l0 s ((s.length - 0) + 1) 0 = .inl y19 ∧ a' = ⟨#[.string (tx s), undef, yu0 0, yu0 1, yu0 2, .string (tx s), .bool false, .bool false, .string (tx s), .int .i64 ((s.length : Nat) : Int), .bool (decide (24 < s.length)), .bool (decide (24 < s.length)), .string (tx s), .pointer (some ⟨g14, 0, none⟩), yu0 3, yu0 4, yu0 5, yu0 6, yu0 7, yu0 8, yu0 9, yu0 10, yu0 11, yu0 12, yu0 13, yu0 14, yu0 15, yu0 16, yu0 17, yu0 18, yu0 19, yu0 20, yu0 21, yu0 22, yu0 23], []⟩ ∧ Mm none (fun _ => True) w w' [.itr g14 (tx s) y19]) ?_ ?_
  · refine wp_block ?_
    refine wp_loop_n (fun n' a' w' => ∃ (n16 : Nat) (p15 : Nat) (u0 : Nat → Value), n' = n16 ∧ (s.length - p15) < n16 ∧ check_m_l0 s ((s.length - 0) + 1) 0 = check_m_l0 s n16 p15 ∧ a' = ⟨#[.string (tx s), undef, u0 0, u0 1, u0 2, .string (tx s), .bool false, .bool false, .string (tx s), .int .i64 ((s.length : Nat) : Int), .bool (decide (24 < s.length)), .bool (decide (24 < s.length)), .string (tx s), .pointer (some ⟨g14, 0, none⟩), u0 3, u0 4, u0 5, u0 6, u0 7, u0 8, u0 9, u0 10, u0 11, u0 12, u0 13, u0 14, u0 15, u0 16, u0 17, u0 18, u0 19, u0 20, u0 21, u0 22, u0 23], []⟩ ∧ Mm none (fun _ => True) w w' [.itr g14 (tx s) p15]) ⟨((s.length - 0) + 1), 0, (fun qq => List.getD [.bool false, undef, undef, undef, undef, undef, undef, undef, undef, undef, undef, undef, undef, undef, undef, undef, undef, undef, undef, undef, undef, undef, undef, undef] qq undef), rfl, Nat.lt_succ_self _, rfl, rfl, hm13⟩ ?_
    rintro n16 _ w21 ⟨_, p15, u0, rfl, hl25, hi18, rfl, hm22⟩ R23 hR23
    obtain ⟨k17, rfl⟩ : ∃ k, n16 = k + 1 := ⟨n16 - 1, by omega⟩
    refine wp_seq_k (fun K26 hK26 => ?_)
    refine wp_region_lit ?_
    have hf29 : (p15 < s.length ∧ p15 < nxp s p15 ∧ nxp s p15 ≤ p15 + 4 ∧ nxp s p15 ≤ s.length) ∨ (s.length ≤ p15 ∧ nxp s p15 = p15) := nxp_or s p15
    have hf30 : (dec s p15).1 ≤ 1114111 := dec_max s p15
    refine lst rfl (m_next s 0 hm22 rfl 14 rfl rfl rfl (fun w27 (hm28 : Mm none (fun _ => True) w w27 [.itr g14 (tx s) (nxp s p15)]) => ?_))
    simp only [nz1, nz2, nz3]
    refine lvw 15 (.bool (decide (p15 < s.length))) rfl rfl (r_ext0 s p15 rfl rfl) ?_
    simp only [nz1, nz2, nz3]
    refine wpList_nil ?_
    refine then_n (hK26 _ _ ?_)
    refine wp_seq_k (fun K31 hK31 => ?_)
    refine cond_d (p15 < s.length) rfl (fun hc32 => ?_) (fun hc32 => ?_)
    rotate_left
    · refine wp_exit ?_
      refine then_x ?_
      refine then_x ?_
      refine blk_x ?_
      refine then_n ?_
      exact ⟨(nxp s p15), (fun qq => List.getD [u0 0, u0 1, u0 2, nxv s p15, .bool (decide (p15 < s.length)), u0 5, u0 6, u0 7, u0 8, u0 9, u0 10, u0 11, u0 12, u0 13, u0 14, u0 15, u0 16, u0 17, u0 18, u0 19, u0 20, u0 21, u0 22, u0 23] qq undef), (hi18.trans (show check_m_b0 s (check_m_l0 s k17) p15 = .inl (nxp s p15) from by unfold check_m_b0; rw [if_neg hc32] <;> rfl)), rfl, hm28⟩
    refine wp_skip ?_
    refine then_n (hK31 _ _ ?_)
    refine wp_block ?_
    refine wp_seq_k (fun K33 hK33 => ?_)
    refine wp_region_lit ?_
    refine lvw 16 (.int .i64 ((p15 : Nat) : Int)) rfl rfl (r_ext1 (s := s) (i := p15) (by first | assumption | omega) rfl rfl) ?_
    simp only [nz1, nz2, nz3]
    refine lvw 17 (.int .i32 (((dec s p15).1 : Nat) : Int)) rfl rfl (r_ext2 (s := s) (i := p15) (by first | assumption | omega) rfl rfl) ?_
    simp only [nz1, nz2, nz3]
    refine lvw 3 (.int .i64 ((p15 : Nat) : Int)) rfl rfl (run_as rfl rfl) ?_
    simp only [nz1, nz2, nz3]
    refine lvw 4 (.int .i32 (((dec s p15).1 : Nat) : Int)) rfl rfl (run_as rfl rfl) ?_
    simp only [nz1, nz2, nz3]
    refine wpList_nil ?_
    refine then_n (hK33 _ _ ?_)
    refine wp_seq_k (fun K34 hK34 => ?_)
    refine wp_region_lit ?_
    refine lvw 18 (.int .i32 (((dec s p15).1 : Nat) : Int)) rfl rfl (run_mv rfl rfl) ?_
    simp only [nz1, nz2, nz3]
    refine lst rfl (m_call hm28 19 (.bool ((digit_m (((dec s p15).1 : Nat) : Int)))) rfl (run_digit rfl rfl) (digit_any (((dec s p15).1 : Nat) : Int)  _  ) (fun w35 (hm36 : Mm none (fun _ => True) w w35 [.itr g14 (tx s) (nxp s p15)]) => ?_))
    simp only [nz1, nz2, nz3]
    refine lvB 20 (!(digit_m (((dec s p15).1 : Nat) : Int))) rfl rfl (r_not (digit_m (((dec s p15).1 : Nat) : Int)) rfl rfl) (fun hs37 => ?_) (fun hs37 => ?_)
    rotate_left
    · simp only [nz1, nz2, nz3]
      refine lvw 21 (.bool false) rfl rfl (run_mv rfl rfl) ?_
      simp only [nz1, nz2, nz3]
      refine lst_skip 22 rfl rfl ?_
      simp only [nz1, nz2, nz3]
      refine lst_skip 23 rfl rfl ?_
      simp only [nz1, nz2, nz3]
      refine lst_skip 24 rfl rfl ?_
      simp only [nz1, nz2, nz3]
      refine lvw 25 (.bool false) rfl rfl (run_pickf rfl rfl rfl) ?_
      simp only [nz1, nz2, nz3]
      refine lvw 26 (.bool false) rfl rfl (run_mv rfl rfl) ?_
      simp only [nz1, nz2, nz3]
      refine lst_skip 27 rfl rfl ?_
      simp only [nz1, nz2, nz3]
      refine lst_skip 28 rfl rfl ?_
      simp only [nz1, nz2, nz3]
      refine lst_skip 29 rfl rfl ?_
      simp only [nz1, nz2, nz3]
      refine lst_skip 30 rfl rfl ?_
      simp only [nz1, nz2, nz3]
      refine lst_skip 31 rfl rfl ?_
      simp only [nz1, nz2, nz3]
      refine lst_skip 32 rfl rfl ?_
      simp only [nz1, nz2, nz3]
      refine lst_skip 33 rfl rfl ?_
      simp only [nz1, nz2, nz3]
      refine lvw 34 (.bool false) rfl rfl (run_pickf rfl rfl rfl) ?_
      simp only [nz1, nz2, nz3]
      refine wpList_nil ?_
      refine then_n (hK34 _ _ ?_)
      refine cond_f rfl ?_
      refine wp_skip ?_
      refine blk_n ?_
      refine then_n (hR23 _ _ _ ⟨k17, (nxp s p15), (fun qq => List.getD [u0 0, .int .i64 ((p15 : Nat) : Int), .int .i32 (((dec s p15).1 : Nat) : Int), nxv s p15, .bool (decide (p15 < s.length)), .int .i64 ((p15 : Nat) : Int), .int .i32 (((dec s p15).1 : Nat) : Int), .int .i32 (((dec s p15).1 : Nat) : Int), .bool ((digit_m (((dec s p15).1 : Nat) : Int))), .bool false, .bool false, undef, undef, undef, .bool false, .bool false, undef, undef, undef, undef, undef, undef, undef, .bool false] qq undef), rfl, (by first | omega | (simp; omega) | (simp at *; omega)), (hi18.trans (show check_m_b0 s (check_m_l0 s k17) p15 = check_m_l0 s k17 (nxp s p15) from by unfold check_m_b0; rw [if_pos hc32, if_neg hs37] <;> rfl)), rfl, hm36⟩ ?_)
      omega
    simp only [nz1, nz2, nz3]
    refine lvw 21 (.bool true) rfl rfl (run_mv rfl rfl) ?_
    simp only [nz1, nz2, nz3]
    refine lvw 22 (.int .i32 (((dec s p15).1 : Nat) : Int)) rfl rfl (run_mv rfl rfl) ?_
    simp only [nz1, nz2, nz3]
    refine lst rfl (m_call hm36 23 (.bool ((letter_m (((dec s p15).1 : Nat) : Int)))) rfl (run_letter rfl rfl) (letter_any (((dec s p15).1 : Nat) : Int)  _  ) (fun w38 (hm39 : Mm none (fun _ => True) w w38 [.itr g14 (tx s) (nxp s p15)]) => ?_))
    simp only [nz1, nz2, nz3]
    refine lvB 24 (!(letter_m (((dec s p15).1 : Nat) : Int))) rfl rfl (r_not (letter_m (((dec s p15).1 : Nat) : Int)) rfl rfl) (fun hs40 => ?_) (fun hs40 => ?_)
    rotate_left
    · simp only [nz1, nz2, nz3]
      refine lvw 25 (.bool false) rfl rfl (run_pick rfl rfl rfl) ?_
      simp only [nz1, nz2, nz3]
      refine lvw 26 (.bool false) rfl rfl (run_mv rfl rfl) ?_
      simp only [nz1, nz2, nz3]
      refine lst_skip 27 rfl rfl ?_
      simp only [nz1, nz2, nz3]
      refine lst_skip 28 rfl rfl ?_
      simp only [nz1, nz2, nz3]
      refine lst_skip 29 rfl rfl ?_
      simp only [nz1, nz2, nz3]
      refine lst_skip 30 rfl rfl ?_
      simp only [nz1, nz2, nz3]
      refine lst_skip 31 rfl rfl ?_
      simp only [nz1, nz2, nz3]
      refine lst_skip 32 rfl rfl ?_
      simp only [nz1, nz2, nz3]
      refine lst_skip 33 rfl rfl ?_
      simp only [nz1, nz2, nz3]
      refine lvw 34 (.bool false) rfl rfl (run_pickf rfl rfl rfl) ?_
      simp only [nz1, nz2, nz3]
      refine wpList_nil ?_
      refine then_n (hK34 _ _ ?_)
      refine cond_f rfl ?_
      refine wp_skip ?_
      refine blk_n ?_
      refine then_n (hR23 _ _ _ ⟨k17, (nxp s p15), (fun qq => List.getD [u0 0, .int .i64 ((p15 : Nat) : Int), .int .i32 (((dec s p15).1 : Nat) : Int), nxv s p15, .bool (decide (p15 < s.length)), .int .i64 ((p15 : Nat) : Int), .int .i32 (((dec s p15).1 : Nat) : Int), .int .i32 (((dec s p15).1 : Nat) : Int), .bool ((digit_m (((dec s p15).1 : Nat) : Int))), .bool true, .bool true, .int .i32 (((dec s p15).1 : Nat) : Int), .bool ((letter_m (((dec s p15).1 : Nat) : Int))), .bool false, .bool false, .bool false, undef, undef, undef, undef, undef, undef, undef, .bool false] qq undef), rfl, (by first | omega | (simp; omega) | (simp at *; omega)), (hi18.trans (show check_m_b0 s (check_m_l0 s k17) p15 = check_m_l0 s k17 (nxp s p15) from by unfold check_m_b0; rw [if_pos hc32, if_pos hs37, if_neg hs40] <;> rfl)), rfl, hm39⟩ ?_)
      omega
    simp only [nz1, nz2, nz3]
    refine lvw 25 (.bool true) rfl rfl (run_pick rfl rfl rfl) ?_
    simp only [nz1, nz2, nz3]
    refine lvw 26 (.bool true) rfl rfl (run_mv rfl rfl) ?_
    simp only [nz1, nz2, nz3]
    refine lvw 27 (.int .i64 ((p15 : Nat) : Int)) rfl rfl (run_mv rfl rfl) ?_
    simp only [nz1, nz2, nz3]
    refine lvb 28 (p15 = 0) rfl rfl (r_eql p15 0 rfl rfl rfl) (fun hs41 => ?_) (fun hs41 => ?_)
    · simp only [nz1, nz2, nz3]
      refine lvw 29 (.bool true) rfl rfl (run_mv rfl rfl) ?_
      simp only [nz1, nz2, nz3]
      refine lst_skip 30 rfl rfl ?_
      simp only [nz1, nz2, nz3]
      refine lst_skip 31 rfl rfl ?_
      simp only [nz1, nz2, nz3]
      refine lst_skip 32 rfl rfl ?_
      simp only [nz1, nz2, nz3]
      refine lvw 33 (.bool true) rfl rfl (run_pick rfl rfl rfl) ?_
      simp only [nz1, nz2, nz3]
      refine lvw 34 (.bool true) rfl rfl (run_pick rfl rfl rfl) ?_
      simp only [nz1, nz2, nz3]
      refine wpList_nil ?_
      refine then_n (hK34 _ _ ?_)
      refine cond_t rfl ?_
      refine wp_seq_k (fun K42 hK42 => ?_)
      refine wp_region_lit ?_
      refine lvw 2 (.bool false) rfl rfl (run_as rfl rfl) ?_
      simp only [nz1, nz2, nz3]
      refine wpList_nil ?_
      refine then_n (hK42 _ _ ?_)
      refine wp_ret ?_
      refine blk_r ?_
      refine then_r ?_
      refine blk_r ?_
      refine then_r ?_
      refine then_r ?_
      have he43 : check_m_l0 s ((s.length - 0) + 1) 0 = .inr false := (hi18.trans (show check_m_b0 s (check_m_l0 s k17) p15 = .inr false from by unfold check_m_b0; rw [if_pos hc32, if_pos hs37, if_pos hs40, if_pos hs41] <;> rfl))
      have he44 : check_m s = false := (show check_m s = false from by unfold check_m; rw [if_neg hs4, if_neg hc7, he43] <;> rfl)
      exact ⟨rfl, .bool false, res_t rfl rfl, ⟨by (rw [he44]; try rfl), hm39.below⟩⟩
    simp only [nz1, nz2, nz3]
    refine lvw 29 (.bool false) rfl rfl (run_mv rfl rfl) ?_
    simp only [nz1, nz2, nz3]
    refine lvw 30 (.int .i32 (((dec s p15).1 : Nat) : Int)) rfl rfl (run_mv rfl rfl) ?_
    simp only [nz1, nz2, nz3]
    refine lst rfl (m_call hm39 31 (.bool ((crune_m ([46, 45, 43, 126, 95]) (((dec s p15).1 : Nat) : Int)))) rfl (run_crune rfl rfl rfl) (crune_any ([46, 45, 43, 126, 95]) (((dec s p15).1 : Nat) : Int)  _  (by first | omega | assumption | (simp; done) | (simp; omega) | (simp only [List.length_append, List.length_cons, List.length_nil]; omega) | (simp only [List.length_append, List.length_cons, List.length_nil] at *; omega) | decide)) (fun w45 (hm46 : Mm none (fun _ => True) w w45 [.itr g14 (tx s) (nxp s p15)]) => ?_))
    simp only [nz1, nz2, nz3]
    refine lvw 32 (.bool (!(crune_m ([46, 45, 43, 126, 95]) (((dec s p15).1 : Nat) : Int)))) rfl rfl (r_not (crune_m ([46, 45, 43, 126, 95]) (((dec s p15).1 : Nat) : Int)) rfl rfl) ?_
    simp only [nz1, nz2, nz3]
    refine lvw 33 (.bool (!(crune_m ([46, 45, 43, 126, 95]) (((dec s p15).1 : Nat) : Int)))) rfl rfl (run_pickf rfl rfl rfl) ?_
    simp only [nz1, nz2, nz3]
    refine lvw 34 (.bool (!(crune_m ([46, 45, 43, 126, 95]) (((dec s p15).1 : Nat) : Int)))) rfl rfl (run_pick rfl rfl rfl) ?_
    simp only [nz1, nz2, nz3]
    refine wpList_nil ?_
    refine then_n (hK34 _ _ ?_)
    refine cond_B (!(crune_m ([46, 45, 43, 126, 95]) (((dec s p15).1 : Nat) : Int))) rfl (fun hc47 => ?_) (fun hc47 => ?_)
    rotate_left
    · refine wp_skip ?_
      refine blk_n ?_
      refine then_n (hR23 _ _ _ ⟨k17, (nxp s p15), (fun qq => List.getD [u0 0, .int .i64 ((p15 : Nat) : Int), .int .i32 (((dec s p15).1 : Nat) : Int), nxv s p15, .bool (decide (p15 < s.length)), .int .i64 ((p15 : Nat) : Int), .int .i32 (((dec s p15).1 : Nat) : Int), .int .i32 (((dec s p15).1 : Nat) : Int), .bool ((digit_m (((dec s p15).1 : Nat) : Int))), .bool true, .bool true, .int .i32 (((dec s p15).1 : Nat) : Int), .bool ((letter_m (((dec s p15).1 : Nat) : Int))), .bool true, .bool true, .bool true, .int .i64 ((p15 : Nat) : Int), .bool false, .bool false, .int .i32 (((dec s p15).1 : Nat) : Int), .bool ((crune_m ([46, 45, 43, 126, 95]) (((dec s p15).1 : Nat) : Int))), .bool (!(crune_m ([46, 45, 43, 126, 95]) (((dec s p15).1 : Nat) : Int))), .bool (!(crune_m ([46, 45, 43, 126, 95]) (((dec s p15).1 : Nat) : Int))), .bool (!(crune_m ([46, 45, 43, 126, 95]) (((dec s p15).1 : Nat) : Int)))] qq undef), rfl, (by first | omega | (simp; omega) | (simp at *; omega)), (hi18.trans (show check_m_b0 s (check_m_l0 s k17) p15 = check_m_l0 s k17 (nxp s p15) from by unfold check_m_b0; rw [if_pos hc32, if_pos hs37, if_pos hs40, if_neg hs41, if_neg hc47] <;> rfl)), rfl, hm46⟩ ?_)
      omega
    refine wp_seq_k (fun K48 hK48 => ?_)
    refine wp_region_lit ?_
    refine lvw 2 (.bool false) rfl rfl (run_as rfl rfl) ?_
    simp only [nz1, nz2, nz3]
    refine wpList_nil ?_
    refine then_n (hK48 _ _ ?_)
    refine wp_ret ?_
    refine blk_r ?_
    refine then_r ?_
    refine blk_r ?_
    refine then_r ?_
    refine then_r ?_
    have he49 : check_m_l0 s ((s.length - 0) + 1) 0 = .inr false := (hi18.trans (show check_m_b0 s (check_m_l0 s k17) p15 = .inr false from by unfold check_m_b0; rw [if_pos hc32, if_pos hs37, if_pos hs40, if_neg hs41, if_pos hc47] <;> rfl))
    have he50 : check_m s = false := (show check_m s = false from by unfold check_m; rw [if_neg hs4, if_neg hc7, he49] <;> rfl)
    exact ⟨rfl, .bool false, res_t rfl rfl, ⟨by (rw [he50]; try rfl), hm46.below⟩⟩
  rintro _ w51 ⟨y19, yu0, hx20, rfl, hm52⟩
  have hq53 : check_m s = check_m_k0 s y19 := (show check_m s = check_m_k0 s y19 from by unfold check_m; rw [if_neg hs4, if_neg hc7, hx20] <;> rfl)
  refine then_n (hK10 _ _ ?_)
  refine wp_seq_k (fun K54 hK54 => ?_)
  refine wp_region_lit ?_
  refine lvw 2 (.bool true) rfl rfl (run_as rfl rfl) ?_
  simp only [nz1, nz2, nz3]
  refine wpList_nil ?_
  refine then_n (hK54 _ _ ?_)
  refine wp_ret ?_
  have he55 : check_m s = true := (hq53.trans (show check_m_k0 s y19 = true from by unfold check_m_k0; rfl))
  exact ⟨rfl, .bool true, res_t rfl rfl, ⟨by (rw [he55]; try rfl), hm52.below⟩⟩
theorem run_check {o : Oper} {a : Act} {w : World} {x0 : Operand} {v0 : Value} (ho : o.op = .call { callee := .value (.func 29), args := #[x0], argTypes := #[9] }) (h0 : a.eval x0 = v0) :
    (execOp a.eval o).run Tryd.prog w = .ok (.enter 29 #[v0]) w := by
  unfold execOp
  simp only [ho]
  have hf : a.eval (.func 29) = .func (.func 29) #[] #[] := rfl
  generalize a.eval = f at *
  go_simp
def weight_m (r : Int) : Int :=
  if r = 126 then
    -1
  else
    if (letter_m r) = true then
      r
    else
      ((2097152 : Int) + r)

set_option maxHeartbeats 4000000 in
set_option maxRecDepth 100000 in
theorem weight_any (r : Int) (w : World)  (hp0 : 0 ≤ r) (hp1 : r ≤ 1114111) : Calls Tryd.prog 57 #[.int .i32 (r)] w (fun e w' => e = .returned (.int .i64 ((weight_m r))) ∧ Below w.heap.size w w') := by
  go_enter Tryd.func57, Tryd.ntmps57
  have hm00 := Mm.nil none (fun _ => True) w
  have hm0 := hm00
  refine wp_seq_k (fun K1 hK1 => ?_)
  refine wp_region_lit ?_
  refine lvw 2 (.int .i64 0) rfl rfl (run_as rfl rfl) ?_
  simp only [nz1, nz2, nz3]
  refine wpList_nil ?_
  refine then_n (hK1 _ _ ?_)
  refine wp_seq_k (fun K2 hK2 => ?_)
  refine wp_block ?_
  refine wp_seq_k (fun K3 hK3 => ?_)
  refine wp_region_lit ?_
  refine lvw 4 (.int .i32 (r)) rfl rfl (run_mv rfl rfl) ?_
  simp only [nz1, nz2, nz3]
  refine lvw 5 (.bool (decide (r = 126))) rfl rfl (z_eql r 126 rfl rfl rfl) ?_
  simp only [nz1, nz2, nz3]
  refine lvw 3 (.bool (decide (r = 126))) rfl rfl (run_as rfl rfl) ?_
  simp only [nz1, nz2, nz3]
  refine wpList_nil ?_
  refine then_n (hK3 _ _ ?_)
  refine cond_d (r = 126) rfl (fun hc4 => ?_) (fun hc4 => ?_)
  · refine wp_seq_k (fun K5 hK5 => ?_)
    refine wp_region_lit ?_
    refine lvw 2 (.int .i64 (-1)) rfl rfl (run_as rfl rfl) ?_
    simp only [nz1, nz2, nz3]
    refine wpList_nil ?_
    refine then_n (hK5 _ _ ?_)
    refine wp_ret ?_
    refine blk_r ?_
    refine then_r ?_
    have he6 : weight_m r = -1 := (show weight_m r = -1 from by unfold weight_m; rw [if_pos hc4] <;> rfl)
    exact ⟨rfl, .int .i64 (-1), res_t rfl rfl, ⟨by (rw [he6]; try rfl), hm0.below⟩⟩
  refine wp_seq_k (fun K7 hK7 => ?_)
  refine wp_region_lit ?_
  refine lvw 7 (.int .i32 (r)) rfl rfl (run_mv rfl rfl) ?_
  simp only [nz1, nz2, nz3]
  refine lst rfl (m_call hm0 8 (.bool ((letter_m r))) rfl (run_letter rfl rfl) (letter_any r  _  ) (fun w8 (hm9 : Mm none (fun _ => True) w w8 []) => ?_))
  simp only [nz1, nz2, nz3]
  refine lvw 6 (.bool ((letter_m r))) rfl rfl (run_as rfl rfl) ?_
  simp only [nz1, nz2, nz3]
  refine wpList_nil ?_
  refine then_n (hK7 _ _ ?_)
  refine cond_B (letter_m r) rfl (fun hc10 => ?_) (fun hc10 => ?_)
  · refine wp_seq_k (fun K11 hK11 => ?_)
    refine wp_region_lit ?_
    refine lvw 9 (.int .i32 (r)) rfl rfl (run_mv rfl rfl) ?_
    simp only [nz1, nz2, nz3]
    refine lvw 10 (.int .i64 (r)) rfl rfl (z_conv (k' := .i64) r r some_21 Tryd.underlying3 (by rw [IntKind.wrap_i64]; omega) rfl rfl) ?_
    simp only [nz1, nz2, nz3]
    refine lvw 2 (.int .i64 (r)) rfl rfl (run_as rfl rfl) ?_
    simp only [nz1, nz2, nz3]
    refine wpList_nil ?_
    refine then_n (hK11 _ _ ?_)
    refine wp_ret ?_
    refine blk_r ?_
    refine then_r ?_
    have he12 : weight_m r = r := (show weight_m r = r from by unfold weight_m; rw [if_neg hc4, if_pos hc10] <;> rfl)
    exact ⟨rfl, .int .i64 (r), res_t rfl rfl, ⟨by (rw [he12]; try rfl), hm9.below⟩⟩
  refine wp_skip ?_
  refine blk_n ?_
  refine then_n (hK2 _ _ ?_)
  refine wp_seq_k (fun K13 hK13 => ?_)
  refine wp_region_lit ?_
  refine lvw 11 (.int .i32 (r)) rfl rfl (run_mv rfl rfl) ?_
  simp only [nz1, nz2, nz3]
  refine lvw 12 (.int .i64 (r)) rfl rfl (z_conv (k' := .i64) r r some_21 Tryd.underlying3 (by rw [IntKind.wrap_i64]; omega) rfl rfl) ?_
  simp only [nz1, nz2, nz3]
  refine lvw 13 (.int .i64 (((2097152 : Int) + r))) rfl rfl (z_add (2097152 : Int) r _ (by rw [IntKind.wrap_i64]; omega) rfl rfl rfl) ?_
  simp only [nz1, nz2, nz3]
  refine lvw 2 (.int .i64 (((2097152 : Int) + r))) rfl rfl (run_as rfl rfl) ?_
  simp only [nz1, nz2, nz3]
  refine wpList_nil ?_
  refine then_n (hK13 _ _ ?_)
  refine wp_ret ?_
  have he14 : weight_m r = ((2097152 : Int) + r) := (show weight_m r = ((2097152 : Int) + r) from by unfold weight_m; rw [if_neg hc4, if_neg hc10] <;> rfl)
  exact ⟨rfl, .int .i64 (((2097152 : Int) + r)), res_t rfl rfl, ⟨by (rw [he14]; try rfl), hm9.below⟩⟩
theorem run_weight {o : Oper} {a : Act} {w : World} {x0 : Operand} {v0 : Value} (ho : o.op = .call { callee := .value (.func 57), args := #[x0], argTypes := #[21] }) (h0 : a.eval x0 = v0) :
    (execOp a.eval o).run Tryd.prog w = .ok (.enter 57 #[v0]) w := by
  unfold execOp
  simp only [ho]
  have hf : a.eval (.func 57) = .func (.func 57) #[] #[] := rfl
  generalize a.eval = f at *
  go_simp
def weights_m_b0 (s : List UInt8) (rec : Nat × (List Int) → Sum (Nat × (List Int)) ((List Int))) (p10 : Nat) (l11 : List Int) : Sum (Nat × (List Int)) ((List Int)) :=
  if p10 < s.length then
    if (digit_m (((dec s p10).1 : Nat) : Int)) = true then
      .inl ((nxp s p10), l11)
    else
      rec ((nxp s p10), (l11 ++ [(weight_m (((dec s p10).1 : Nat) : Int))]))
  else
    .inl ((nxp s p10), l11)
def weights_m_l0 (s : List UInt8) : Nat → Nat × (List Int) → Sum (Nat × (List Int)) ((List Int))
  | 0, zz => .inl zz
  | nq + 1, zz => weights_m_b0 s (weights_m_l0 s nq) zz.1 zz.2

def weights_m_k0 (s : List UInt8) (y16 : Nat) (y17 : List Int) : (List Int) :=
  y17

def weights_m (s : List UInt8) : (List Int) :=
  fin (weights_m_l0 s ((s.length - 0) + 1) (0, ([] : List Int))) (fun r => r) (fun zz => weights_m_k0 s zz.1 zz.2)

set_option maxHeartbeats 4000000 in
set_option maxRecDepth 100000 in
theorem weights_any (s : List UInt8) (w : World)  (hp0 : s.length ≤ 1000) : Calls Tryd.prog 31 #[.string (tx s)] w (fun e w' => (∃ v, e = .returned v ∧ ∃ o0 : Value, v = o0 ∧ w'.ownsRow w.heap.size 3 1 o0 (weights_m s).length ((weights_m s).flatMap eI)) ∧ Below w.heap.size w w') := by
  go_enter Tryd.func31, Tryd.ntmps31
  have hm00 := Mm.nil none (fun _ => True) w
  have hm0 := hm00
  refine wp_seq_k (fun K1 hK1 => ?_)
  refine wp_region_lit ?_
  refine lvw 2 (.slice none 0 0) rfl rfl (run_as rfl rfl) ?_
  simp only [nz1, nz2, nz3]
  refine wpList_nil ?_
  refine then_n (hK1 _ _ ?_)
  refine wp_seq_k (fun K2 hK2 => ?_)
  refine wp_region_lit ?_
  refine lvw 3 (.slice none 0 0) rfl rfl (run_as rfl rfl) ?_
  simp only [nz1, nz2, nz3]
  refine wpList_nil ?_
  refine then_n (hK2 _ _ ?_)
  refine wp_seq_k (fun K3 hK3 => ?_)
  refine wp_seq_k (fun K4 hK4 => ?_)
  refine wp_region_lit ?_
  refine lvw 6 (.string (tx s)) rfl rfl (run_mv rfl rfl) ?_
  simp only [nz1, nz2, nz3]
  refine lst rfl (m_range s hm0 7 rfl rfl Tryd.underlying9 rfl (fun g7 w5 (hm6 : Mm none (fun _ => True) w w5 [.itr g7 (tx s) 0]) => ?_))
  simp only [nz1, nz2, nz3]
  refine wpList_nil ?_
  refine then_n (hK4 _ _ ?_)
  have hm9 : Mm none (fun _ => True) w w5 [.itr g7 (tx s) 0, .row (.slice none 0 0) ([] : List Int).length (([] : List Int).flatMap eI) 3 1] := hm6.nilrow 3 1
  refine wp_cutK (fun a' w' => ∃ (y16 : Nat) (y17 : List Int) (v18 : Value) (yu0 : Nat → Value), weights_m_l0 s ((s.length - 0) + 1) (0, ([] : List Int)) = .inl (y16, y17) ∧ (y17.length ≤ y16 ∧ y16 ≤ s.length) ∧ a' = ⟨#[.string (tx s), undef, .slice none 0 0, v18, undef, yu0 0, .string (tx s), .pointer (some ⟨g7, 0, none⟩), yu0 1, yu0 2, yu0 3, yu0 4, yu0 5, yu0 6, yu0 7, yu0 8, yu0 9, yu0 10, undef], []⟩ ∧ Mm none (fun _ => True) w w' [.itr g7 (tx s) y16, .row v18 y17.length (y17.flatMap eI) 3 1]) ?_ ?_
  · refine wp_block ?_
    refine wp_loop_n (fun n' a' w' => ∃ (n13 : Nat) (p10 : Nat) (l11 : List Int) (v12 : Value) (u0 : Nat → Value), n' = n13 ∧ (s.length - p10) < n13 ∧ weights_m_l0 s ((s.length - 0) + 1) (0, ([] : List Int)) = weights_m_l0 s n13 (p10, l11) ∧ (l11.length ≤ p10 ∧ p10 ≤ s.length) ∧ a' = ⟨#[.string (tx s), undef, .slice none 0 0, v12, undef, u0 0, .string (tx s), .pointer (some ⟨g7, 0, none⟩), u0 1, u0 2, u0 3, u0 4, u0 5, u0 6, u0 7, u0 8, u0 9, u0 10, undef], []⟩ ∧ Mm none (fun _ => True) w w' [.itr g7 (tx s) p10, .row v12 l11.length (l11.flatMap eI) 3 1]) ⟨((s.length - 0) + 1), 0, ([] : List Int), .slice none 0 0, (fun qq => List.getD [undef, undef, undef, undef, undef, undef, undef, undef, undef, undef, undef] qq undef), rfl, Nat.lt_succ_self _, rfl, (by first | omega | (simp; done) | (simp; omega) | (simp at *; omega)), rfl, hm9⟩ ?_
    rintro n13 _ w20 ⟨_, p10, l11, v12, u0, rfl, hl24, hi15, hwl, rfl, hm21⟩ R22 hR22
    obtain ⟨k14, rfl⟩ : ∃ k, n13 = k + 1 := ⟨n13 - 1, by omega⟩
    refine wp_seq_k (fun K25 hK25 => ?_)
    refine wp_region_lit ?_
    have hf28 : (p10 < s.length ∧ p10 < nxp s p10 ∧ nxp s p10 ≤ p10 + 4 ∧ nxp s p10 ≤ s.length) ∨ (s.length ≤ p10 ∧ nxp s p10 = p10) := nxp_or s p10
    have hf29 : (dec s p10).1 ≤ 1114111 := dec_max s p10
    refine lst rfl (m_next s 0 hm21 rfl 8 rfl rfl rfl (fun w26 (hm27 : Mm none (fun _ => True) w w26 [.itr g7 (tx s) (nxp s p10), .row v12 l11.length (l11.flatMap eI) 3 1]) => ?_))
    simp only [nz1, nz2, nz3]
    refine lvw 9 (.bool (decide (p10 < s.length))) rfl rfl (r_ext0 s p10 rfl rfl) ?_
    simp only [nz1, nz2, nz3]
    refine wpList_nil ?_
    refine then_n (hK25 _ _ ?_)
    refine wp_seq_k (fun K30 hK30 => ?_)
    refine cond_d (p10 < s.length) rfl (fun hc31 => ?_) (fun hc31 => ?_)
    rotate_left
    · refine wp_exit ?_
      refine then_x ?_
      refine then_x ?_
      refine blk_x ?_
      refine then_n ?_
      exact ⟨(nxp s p10), l11, v12, (fun qq => List.getD [u0 0, nxv s p10, .bool (decide (p10 < s.length)), u0 3, u0 4, u0 5, u0 6, u0 7, u0 8, u0 9, u0 10] qq undef), (hi15.trans (show weights_m_b0 s (weights_m_l0 s k14) p10 l11 = .inl ((nxp s p10), l11) from by unfold weights_m_b0; rw [if_neg hc31] <;> rfl)), (by first | omega | (simp; done) | (simp; omega) | (simp at *; omega)), rfl, hm27⟩
    refine wp_skip ?_
    refine then_n (hK30 _ _ ?_)
    refine wp_block ?_
    refine wp_seq_k (fun K32 hK32 => ?_)
    refine wp_region_lit ?_
    refine lvw 10 (.int .i32 (((dec s p10).1 : Nat) : Int)) rfl rfl (r_ext2 (s := s) (i := p10) (by first | assumption | omega) rfl rfl) ?_
    simp only [nz1, nz2, nz3]
    refine lvw 5 (.int .i32 (((dec s p10).1 : Nat) : Int)) rfl rfl (run_as rfl rfl) ?_
    simp only [nz1, nz2, nz3]
    refine wpList_nil ?_
    refine then_n (hK32 _ _ ?_)
    refine wp_seq_k (fun K33 hK33 => ?_)
    refine wp_seq_k (fun K34 hK34 => ?_)
    refine wp_region_lit ?_
    refine lvw 11 (.int .i32 (((dec s p10).1 : Nat) : Int)) rfl rfl (run_mv rfl rfl) ?_
    simp only [nz1, nz2, nz3]
    refine lst rfl (m_call hm27 12 (.bool ((digit_m (((dec s p10).1 : Nat) : Int)))) rfl (run_digit rfl rfl) (digit_any (((dec s p10).1 : Nat) : Int)  _  ) (fun w35 (hm36 : Mm none (fun _ => True) w w35 [.itr g7 (tx s) (nxp s p10), .row v12 l11.length (l11.flatMap eI) 3 1]) => ?_))
    simp only [nz1, nz2, nz3]
    refine wpList_nil ?_
    refine then_n (hK34 _ _ ?_)
    refine cond_B (digit_m (((dec s p10).1 : Nat) : Int)) rfl (fun hc37 => ?_) (fun hc37 => ?_)
    · refine wp_exit ?_
      refine then_x ?_
      refine blk_y (by decide) ?_
      refine then_x ?_
      refine blk_x ?_
      refine then_n ?_
      exact ⟨(nxp s p10), l11, v12, (fun qq => List.getD [.int .i32 (((dec s p10).1 : Nat) : Int), nxv s p10, .bool (decide (p10 < s.length)), .int .i32 (((dec s p10).1 : Nat) : Int), .int .i32 (((dec s p10).1 : Nat) : Int), .bool ((digit_m (((dec s p10).1 : Nat) : Int))), u0 6, u0 7, u0 8, u0 9, u0 10] qq undef), (hi15.trans (show weights_m_b0 s (weights_m_l0 s k14) p10 l11 = .inl ((nxp s p10), l11) from by unfold weights_m_b0; rw [if_pos hc31, if_pos hc37] <;> rfl)), (by first | omega | (simp; done) | (simp; omega) | (simp at *; omega)), rfl, hm36⟩
    refine wp_skip ?_
    refine then_n (hK33 _ _ ?_)
    refine wp_region_lit ?_
    refine lvw 13 (v12) rfl rfl (run_mv rfl rfl) ?_
    simp only [nz1, nz2, nz3]
    refine lvw 14 (.int .i32 (((dec s p10).1 : Nat) : Int)) rfl rfl (run_mv rfl rfl) ?_
    simp only [nz1, nz2, nz3]
    refine lst rfl (m_call hm36 15 (.int .i64 ((weight_m (((dec s p10).1 : Nat) : Int)))) rfl (run_weight rfl rfl) (weight_any (((dec s p10).1 : Nat) : Int)  _  (by first | omega | assumption | (simp; done) | (simp; omega) | (simp only [List.length_append, List.length_cons, List.length_nil]; omega) | (simp only [List.length_append, List.length_cons, List.length_nil] at *; omega) | decide) (by first | omega | assumption | (simp; done) | (simp; omega) | (simp only [List.length_append, List.length_cons, List.length_nil]; omega) | (simp only [List.length_append, List.length_cons, List.length_nil] at *; omega) | decide)) (fun w38 (hm39 : Mm none (fun _ => True) w w38 [.itr g7 (tx s) (nxp s p10), .row v12 l11.length (l11.flatMap eI) 3 1]) => ?_))
    simp only [nz1, nz2, nz3]
    refine lst rfl (m_make (c := #[.int .i64 ((weight_m (((dec s p10).1 : Nat) : Int)))]) (T := 3) (fun g => .slice (some ⟨g, 0, none⟩) 1 1) hm39 16 rfl (by unfold execOp; go_simp; try rfl) (fun g42 w40 (hm41 : Mm none (fun _ => True) w w40 [.itr g7 (tx s) (nxp s p10), .row v12 l11.length (l11.flatMap eI) 3 1, .blk g42 #[.int .i64 ((weight_m (((dec s p10).1 : Nat) : Int)))] 3]) => ?_))
    simp only [nz1, nz2, nz3]
    obtain ⟨iq, hiq, hz1, hz2, hz3⟩ := inf_3
    refine lst rfl (m_appendR 1 (l := l11) (l2 := [(weight_m (((dec s p10).1 : Nat) : Int))]) iq _ _ _ (.slice (some ⟨g42, 0, none⟩) 1 1) hm41 rfl 17 rfl rfl Tryd.underlying49 hiq hz1 hz2 hz3 eI_len eI_one rfl (by decide) rfl rfl (Rs.blk (l := [(weight_m (((dec s p10).1 : Nat) : Int))]) (hm41.at 2 rfl) rfl rfl eI_len (Nat.le_refl _)) (by first | omega | (simp; omega)) (by first | omega | (simp; omega)) (fun v45 w43 (hm44 : Mm none (fun _ => True) w w43 [.itr g7 (tx s) (nxp s p10), .row v45 (l11 ++ [(weight_m (((dec s p10).1 : Nat) : Int))]).length ((l11 ++ [(weight_m (((dec s p10).1 : Nat) : Int))]).flatMap eI) 3 1, .blk g42 #[.int .i64 ((weight_m (((dec s p10).1 : Nat) : Int)))] 3]) => ?_))
    simp only [nz1, nz2, nz3]
    refine lvw 3 (v45) rfl rfl (run_as rfl rfl) ?_
    simp only [nz1, nz2, nz3]
    refine wpList_nil ?_
    refine blk_n ?_
    refine then_n (hR22 _ _ _ ⟨k14, (nxp s p10), (l11 ++ [(weight_m (((dec s p10).1 : Nat) : Int))]), v45, (fun qq => List.getD [.int .i32 (((dec s p10).1 : Nat) : Int), nxv s p10, .bool (decide (p10 < s.length)), .int .i32 (((dec s p10).1 : Nat) : Int), .int .i32 (((dec s p10).1 : Nat) : Int), .bool ((digit_m (((dec s p10).1 : Nat) : Int))), v12, .int .i32 (((dec s p10).1 : Nat) : Int), .int .i64 ((weight_m (((dec s p10).1 : Nat) : Int))), .slice (some ⟨g42, 0, none⟩) 1 1, v45] qq undef), rfl, (by first | omega | (simp; omega) | (simp at *; omega)), (hi15.trans (show weights_m_b0 s (weights_m_l0 s k14) p10 l11 = weights_m_l0 s k14 ((nxp s p10), (l11 ++ [(weight_m (((dec s p10).1 : Nat) : Int))])) from by unfold weights_m_b0; rw [if_pos hc31, if_neg hc37] <;> rfl)), (by first | omega | (simp; done) | (simp; omega) | (simp at *; omega)), rfl, (Mm.reorder hm44 [0, 1] (by decide) rfl)⟩ ?_)
    omega
  rintro _ w46 ⟨y16, y17, v18, yu0, hx19, hwl, rfl, hm47⟩
  have hq48 : weights_m s = weights_m_k0 s y16 y17 := (show weights_m s = weights_m_k0 s y16 y17 from by unfold weights_m; rw [hx19] <;> rfl)
  refine then_n (hK3 _ _ ?_)
  refine wp_seq_k (fun K49 hK49 => ?_)
  refine wp_region_lit ?_
  refine lvw 18 (v18) rfl rfl (run_mv rfl rfl) ?_
  simp only [nz1, nz2, nz3]
  refine lvw 2 (v18) rfl rfl (run_as rfl rfl) ?_
  simp only [nz1, nz2, nz3]
  refine wpList_nil ?_
  refine then_n (hK49 _ _ ?_)
  refine wp_ret ?_
  have he50 : weights_m s = y17 := (hq48.trans (show weights_m_k0 s y16 y17 = y17 from by unfold weights_m_k0; rfl))
  exact ⟨rfl, v18, res_t rfl rfl, ⟨⟨_, rfl, v18, (by first | rfl | rw [he50]), by rw [he50]; exact hm47.gives 1 rfl⟩, hm47.below⟩⟩
theorem run_weights {o : Oper} {a : Act} {w : World} {x0 : Operand} {v0 : Value} (ho : o.op = .call { callee := .value (.func 31), args := #[x0], argTypes := #[9] }) (h0 : a.eval x0 = v0) :
    (execOp a.eval o).run Tryd.prog w = .ok (.enter 31 #[v0]) w := by
  unfold execOp
  simp only [ho]
  have hf : a.eval (.func 31) = .func (.func 31) #[] #[] := rfl
  generalize a.eval = f at *
  go_simp
def at_m (l : List Int) (i : Int) : Int :=
  if i < ((l.length : Nat) : Int) then
    (l.getD i.toNat 0)
  else
    0

set_option maxHeartbeats 4000000 in
set_option maxRecDepth 100000 in
theorem at_any (l : List Int) (i : Int) (lv0 : Value) (w : World) (hl : Rs eI 1 l lv0 w) (hp0 : 0 ≤ i) : Calls Tryd.prog 59 #[lv0, .int .i64 (i)] w (fun e w' => e = .returned (.int .i64 ((at_m l i))) ∧ Below w.heap.size w w') := by
  go_enter Tryd.func59, Tryd.ntmps59
  have hm00 := Mm.nil none (fun _ => True) w
  obtain ⟨Fl, hm01⟩ : ∃ Fl, Mm none (fun _ => True) w w [.see (Rs eI 1 l lv0) Fl] := hm00.come (Rs.all hl)
  have hm0 := hm01
  refine wp_seq_k (fun K1 hK1 => ?_)
  refine wp_region_lit ?_
  refine lvw 4 (.int .i64 0) rfl rfl (run_as rfl rfl) ?_
  simp only [nz1, nz2, nz3]
  refine wpList_nil ?_
  refine then_n (hK1 _ _ ?_)
  refine wp_seq_k (fun K2 hK2 => ?_)
  refine wp_seq_k (fun K3 hK3 => ?_)
  refine wp_region_lit ?_
  refine lvw 5 (.int .i64 (i)) rfl rfl (run_mv rfl rfl) ?_
  simp only [nz1, nz2, nz3]
  refine lvw 6 (lv0) rfl rfl (run_mv rfl rfl) ?_
  simp only [nz1, nz2, nz3]
  refine lvw 7 (.int .i64 ((l.length : Nat) : Int)) rfl rfl (s_len ((hm0.see 0 rfl)) rfl Tryd.underlying49 rfl) ?_
  simp only [nz1, nz2, nz3]
  refine lvw 8 (.bool (decide (i < ((l.length : Nat) : Int)))) rfl rfl (z_lss i ((l.length : Nat) : Int) rfl rfl rfl) ?_
  simp only [nz1, nz2, nz3]
  refine wpList_nil ?_
  refine then_n (hK3 _ _ ?_)
  refine cond_d (i < ((l.length : Nat) : Int)) rfl (fun hc4 => ?_) (fun hc4 => ?_)
  rotate_left
  · refine wp_skip ?_
    refine then_n (hK2 _ _ ?_)
    refine wp_seq_k (fun K7 hK7 => ?_)
    refine wp_region_lit ?_
    refine lvw 4 (.int .i64 0) rfl rfl (run_as rfl rfl) ?_
    simp only [nz1, nz2, nz3]
    refine wpList_nil ?_
    refine then_n (hK7 _ _ ?_)
    refine wp_ret ?_
    have he8 : at_m l i = 0 := (show at_m l i = 0 from by unfold at_m; rw [if_neg hc4] <;> rfl)
    exact ⟨rfl, .int .i64 0, res_t rfl rfl, ⟨by (rw [he8]; try rfl), hm0.below⟩⟩
  refine wp_seq_k (fun K5 hK5 => ?_)
  refine wp_region_lit ?_
  refine lvw 9 (lv0) rfl rfl (run_mv rfl rfl) ?_
  simp only [nz1, nz2, nz3]
  refine lvw 10 (.int .i64 (i)) rfl rfl (run_mv rfl rfl) ?_
  simp only [nz1, nz2, nz3]
  refine lvw 11 (.pointer (some ⟨(bk lv0), (po lv0 + i.toNat * 1), none⟩)) rfl rfl (r_ixvZ ((hm0.see 0 rfl)) i (by omega) (by omega) Tryd.underlying49 sz_3 rfl rfl rfl) ?_
  simp only [nz1, nz2, nz3]
  refine lvw 12 (.int .i64 ((l.getD i.toNat 0))) rfl rfl (r_cellw (Rs.cell ((hm0.see 0 rfl)) eI_len 0 i.toNat (by omega) 0 _ rfl) Tryd.underlying3 rfl rfl rfl) ?_
  simp only [nz1, nz2, nz3]
  refine lvw 4 (.int .i64 ((l.getD i.toNat 0))) rfl rfl (run_as rfl rfl) ?_
  simp only [nz1, nz2, nz3]
  refine wpList_nil ?_
  refine then_n (hK5 _ _ ?_)
  refine wp_ret ?_
  refine then_r ?_
  have he6 : at_m l i = (l.getD i.toNat 0) := (show at_m l i = (l.getD i.toNat 0) from by unfold at_m; rw [if_pos hc4] <;> rfl)
  exact ⟨rfl, .int .i64 ((l.getD i.toNat 0)), res_t rfl rfl, ⟨by (rw [he6]; try rfl), hm0.below⟩⟩
theorem run_at {o : Oper} {a : Act} {w : World} {x0 x1 : Operand} {v0 v1 : Value} (ho : o.op = .call { callee := .value (.func 59), args := #[x0, x1], argTypes := #[49, 3] }) (h0 : a.eval x0 = v0) (h1 : a.eval x1 = v1) :
    (execOp a.eval o).run Tryd.prog w = .ok (.enter 59 #[v0, v1]) w := by
  unfold execOp
  simp only [ho]
  have hf : a.eval (.func 59) = .func (.func 59) #[] #[] := rfl
  generalize a.eval = f at *
  go_simp
def vsigns_m_b0 (a : List Int) (b : List Int) (rec : Nat → Sum (Nat) (Int)) (x4 : Nat) : Sum (Nat) (Int) :=
  if x4 < (max a.length b.length) then
    if ¬ (cmpi_m (at_m a ((x4 : Nat) : Int)) (at_m b ((x4 : Nat) : Int))) = 0 then
      .inr (cmpi_m (at_m a ((x4 : Nat) : Int)) (at_m b ((x4 : Nat) : Int)))
    else
      rec (x4 + 1)
  else
    .inl x4
def vsigns_m_l0 (a : List Int) (b : List Int) : Nat → Nat → Sum (Nat) (Int)
  | 0, zz => .inl zz
  | nq + 1, zz => vsigns_m_b0 a b (vsigns_m_l0 a b nq) zz

def vsigns_m_k0 (a : List Int) (b : List Int) (y8 : Nat) : Int :=
  0

def vsigns_m (a : List Int) (b : List Int) : Int :=
  fin (vsigns_m_l0 a b (((max a.length b.length) - 0) + 1) 0) (fun r => r) (fun zz => vsigns_m_k0 a b zz)

set_option maxHeartbeats 4000000 in
set_option maxRecDepth 100000 in
theorem vsigns_any (a : List Int) (b : List Int) (av0 : Value) (bv0 : Value) (w : World) (ha : Rs eI 1 a av0 w) (hb : Rs eI 1 b bv0 w) (hp0 : a.length ≤ 1000) (hp1 : b.length ≤ 1000) : Calls Tryd.prog 32 #[av0, bv0] w (fun e w' => e = .returned (.int .i64 ((vsigns_m a b))) ∧ Below w.heap.size w w') := by
  go_enter Tryd.func32, Tryd.ntmps32
  have hm00 := Mm.nil none (fun _ => True) w
  obtain ⟨Fa, hm01⟩ : ∃ Fa, Mm none (fun _ => True) w w [.see (Rs eI 1 a av0) Fa] := hm00.come (Rs.all ha)
  obtain ⟨Fb, hm02⟩ : ∃ Fb, Mm none (fun _ => True) w w [.see (Rs eI 1 a av0) Fa, .see (Rs eI 1 b bv0) Fb] := hm01.come (Rs.all hb)
  have hm0 := hm02
  refine wp_seq_k (fun K1 hK1 => ?_)
  refine wp_region_lit ?_
  refine lvw 4 (.int .i64 0) rfl rfl (run_as rfl rfl) ?_
  simp only [nz1, nz2, nz3]
  refine wpList_nil ?_
  refine then_n (hK1 _ _ ?_)
  refine wp_seq_k (fun K2 hK2 => ?_)
  refine wp_seq_k (fun K3 hK3 => ?_)
  refine wp_region_lit ?_
  refine lvw 7 (av0) rfl rfl (run_mv rfl rfl) ?_
  simp only [nz1, nz2, nz3]
  refine lvw 8 (.int .i64 ((a.length : Nat) : Int)) rfl rfl (s_len ((hm0.see 0 rfl)) rfl Tryd.underlying49 rfl) ?_
  simp only [nz1, nz2, nz3]
  refine lvw 9 (bv0) rfl rfl (run_mv rfl rfl) ?_
  simp only [nz1, nz2, nz3]
  refine lvw 10 (.int .i64 ((b.length : Nat) : Int)) rfl rfl (s_len ((hm0.see 1 rfl)) rfl Tryd.underlying49 rfl) ?_
  simp only [nz1, nz2, nz3]
  refine lvw 11 (.int .i64 (((max a.length b.length) : Nat) : Int)) rfl rfl (r_maxN (k := .i64) a.length b.length Tryd.underlying3 rfl rfl rfl) ?_
  simp only [nz1, nz2, nz3]
  refine lvw 12 (.int .i64 0) rfl rfl (run_mv rfl rfl) ?_
  simp only [nz1, nz2, nz3]
  refine wpList_nil ?_
  refine then_n (hK3 _ _ ?_)
  refine wp_cutK (fun a' w' => ∃ (y8 : Nat) (yu0 : Nat → Value), vsigns_m_l0 a b (((max a.length b.length) - 0) + 1) 0 = .inl y8 ∧ a' = ⟨#[av0, bv0, undef, undef, yu0 0, yu0 1, yu0 2, av0, .int .i64 ((a.length : Nat) : Int), bv0, .int .i64 ((b.length : Nat) : Int), .int .i64 (((max a.length b.length) : Nat) : Int), .int .i64 ((y8 : Nat) : Int), yu0 3, yu0 4, yu0 5, yu0 6, yu0 7, yu0 8, yu0 9, yu0 10, yu0 11, yu0 12, yu0 13, yu0 14, yu0 15], []⟩ ∧ Mm none (fun _ => True) w w' [.see (Rs eI 1 a av0) Fa, .see (Rs eI 1 b bv0) Fb]) ?_ ?_
  · refine wp_block ?_
    refine wp_loop_n (fun n' a' w' => ∃ (n5 : Nat) (x4 : Nat) (u0 : Nat → Value), n' = n5 ∧ ((max a.length b.length) - x4) < n5 ∧ vsigns_m_l0 a b (((max a.length b.length) - 0) + 1) 0 = vsigns_m_l0 a b n5 x4 ∧ a' = ⟨#[av0, bv0, undef, undef, u0 0, u0 1, u0 2, av0, .int .i64 ((a.length : Nat) : Int), bv0, .int .i64 ((b.length : Nat) : Int), .int .i64 (((max a.length b.length) : Nat) : Int), .int .i64 ((x4 : Nat) : Int), u0 3, u0 4, u0 5, u0 6, u0 7, u0 8, u0 9, u0 10, u0 11, u0 12, u0 13, u0 14, u0 15], []⟩ ∧ Mm none (fun _ => True) w w' [.see (Rs eI 1 a av0) Fa, .see (Rs eI 1 b bv0) Fb]) ⟨(((max a.length b.length) - 0) + 1), 0, (fun qq => List.getD [.int .i64 0, undef, undef, undef, undef, undef, undef, undef, undef, undef, undef, undef, undef, undef, undef, undef] qq undef), rfl, Nat.lt_succ_self _, rfl, rfl, hm0⟩ ?_
    rintro n5 _ w10 ⟨_, x4, u0, rfl, hl14, hi7, rfl, hm11⟩ R12 hR12
    obtain ⟨k6, rfl⟩ : ∃ k, n5 = k + 1 := ⟨n5 - 1, by omega⟩
    refine wp_seq_k (fun K15 hK15 => ?_)
    refine wp_region_lit ?_
    refine lvw 13 (.bool (decide (x4 < (max a.length b.length)))) rfl rfl (r_lss x4 (max a.length b.length) rfl rfl rfl) ?_
    simp only [nz1, nz2, nz3]
    refine wpList_nil ?_
    refine then_n (hK15 _ _ ?_)
    refine wp_seq_k (fun K16 hK16 => ?_)
    refine cond_d (x4 < (max a.length b.length)) rfl (fun hc17 => ?_) (fun hc17 => ?_)
    rotate_left
    · refine wp_exit ?_
      refine then_x ?_
      refine then_x ?_
      refine blk_x ?_
      refine then_n ?_
      exact ⟨x4, (fun qq => List.getD [u0 0, u0 1, u0 2, .bool (decide (x4 < (max a.length b.length))), u0 4, u0 5, u0 6, u0 7, u0 8, u0 9, u0 10, u0 11, u0 12, u0 13, u0 14, u0 15] qq undef), (hi7.trans (show vsigns_m_b0 a b (vsigns_m_l0 a b k6) x4 = .inl x4 from by unfold vsigns_m_b0; rw [if_neg hc17] <;> rfl)), rfl, hm11⟩
    refine wp_skip ?_
    refine then_n (hK16 _ _ ?_)
    refine wp_seq_k (fun K18 hK18 => ?_)
    refine wp_block ?_
    refine wp_seq_k (fun K19 hK19 => ?_)
    refine wp_region_lit ?_
    refine lvw 14 (.int .i64 ((x4 : Nat) : Int)) rfl rfl (run_mv rfl rfl) ?_
    simp only [nz1, nz2, nz3]
    refine lvw 5 (.int .i64 ((x4 : Nat) : Int)) rfl rfl (run_as rfl rfl) ?_
    simp only [nz1, nz2, nz3]
    refine wpList_nil ?_
    refine then_n (hK19 _ _ ?_)
    refine wp_seq_k (fun K20 hK20 => ?_)
    refine wp_region_lit ?_
    refine lvw 15 (av0) rfl rfl (run_mv rfl rfl) ?_
    simp only [nz1, nz2, nz3]
    refine lvw 16 (.int .i64 ((x4 : Nat) : Int)) rfl rfl (run_mv rfl rfl) ?_
    simp only [nz1, nz2, nz3]
    refine lst rfl (m_call hm11 17 (.int .i64 ((at_m a ((x4 : Nat) : Int)))) rfl (run_at rfl rfl rfl) (at_any a ((x4 : Nat) : Int) av0 _ (hm11.see 0 rfl) (by first | omega | assumption | (simp; done) | (simp; omega) | (simp only [List.length_append, List.length_cons, List.length_nil]; omega) | (simp only [List.length_append, List.length_cons, List.length_nil] at *; omega) | decide)) (fun w21 (hm22 : Mm none (fun _ => True) w w21 [.see (Rs eI 1 a av0) Fa, .see (Rs eI 1 b bv0) Fb]) => ?_))
    simp only [nz1, nz2, nz3]
    refine lvw 18 (bv0) rfl rfl (run_mv rfl rfl) ?_
    simp only [nz1, nz2, nz3]
    refine lvw 19 (.int .i64 ((x4 : Nat) : Int)) rfl rfl (run_mv rfl rfl) ?_
    simp only [nz1, nz2, nz3]
    refine lst rfl (m_call hm22 20 (.int .i64 ((at_m b ((x4 : Nat) : Int)))) rfl (run_at rfl rfl rfl) (at_any b ((x4 : Nat) : Int) bv0 _ (hm22.see 1 rfl) (by first | omega | assumption | (simp; done) | (simp; omega) | (simp only [List.length_append, List.length_cons, List.length_nil]; omega) | (simp only [List.length_append, List.length_cons, List.length_nil] at *; omega) | decide)) (fun w23 (hm24 : Mm none (fun _ => True) w w23 [.see (Rs eI 1 a av0) Fa, .see (Rs eI 1 b bv0) Fb]) => ?_))
    simp only [nz1, nz2, nz3]
    refine lst rfl (m_call hm24 21 (.int .i64 ((cmpi_m (at_m a ((x4 : Nat) : Int)) (at_m b ((x4 : Nat) : Int))))) rfl (run_cmpi rfl rfl rfl) (cmpi_any (at_m a ((x4 : Nat) : Int)) (at_m b ((x4 : Nat) : Int))  _  ) (fun w25 (hm26 : Mm none (fun _ => True) w w25 [.see (Rs eI 1 a av0) Fa, .see (Rs eI 1 b bv0) Fb]) => ?_))
    simp only [nz1, nz2, nz3]
    refine lvw 6 (.int .i64 ((cmpi_m (at_m a ((x4 : Nat) : Int)) (at_m b ((x4 : Nat) : Int))))) rfl rfl (run_as rfl rfl) ?_
    simp only [nz1, nz2, nz3]
    refine wpList_nil ?_
    refine then_n (hK20 _ _ ?_)
    refine wp_seq_k (fun K27 hK27 => ?_)
    refine wp_region_lit ?_
    refine lvw 22 (.int .i64 ((cmpi_m (at_m a ((x4 : Nat) : Int)) (at_m b ((x4 : Nat) : Int))))) rfl rfl (run_mv rfl rfl) ?_
    simp only [nz1, nz2, nz3]
    refine lvw 23 (.bool (decide (¬ (cmpi_m (at_m a ((x4 : Nat) : Int)) (at_m b ((x4 : Nat) : Int))) = 0))) rfl rfl (z_neq (cmpi_m (at_m a ((x4 : Nat) : Int)) (at_m b ((x4 : Nat) : Int))) 0 rfl rfl rfl) ?_
    simp only [nz1, nz2, nz3]
    refine wpList_nil ?_
    refine then_n (hK27 _ _ ?_)
    refine cond_d (¬ (cmpi_m (at_m a ((x4 : Nat) : Int)) (at_m b ((x4 : Nat) : Int))) = 0) rfl (fun hc28 => ?_) (fun hc28 => ?_)
    rotate_left
    · refine wp_skip ?_
      refine blk_n ?_
      refine then_n (hK18 _ _ ?_)
      refine wp_region_lit ?_
      refine lvw 25 (.int .i64 (((x4 + 1) : Nat) : Int)) rfl rfl (r_add x4 1 (show (x4 + 1) < 9223372036854775808 from by omega) rfl rfl rfl) ?_
      simp only [nz1, nz2, nz3]
      refine lvw 12 (.int .i64 (((x4 + 1) : Nat) : Int)) rfl rfl (run_mv rfl rfl) ?_
      simp only [nz1, nz2, nz3]
      refine wpList_nil ?_
      refine then_n (hR12 _ _ _ ⟨k6, (x4 + 1), (fun qq => List.getD [u0 0, .int .i64 ((x4 : Nat) : Int), .int .i64 ((cmpi_m (at_m a ((x4 : Nat) : Int)) (at_m b ((x4 : Nat) : Int)))), .bool (decide (x4 < (max a.length b.length))), .int .i64 ((x4 : Nat) : Int), av0, .int .i64 ((x4 : Nat) : Int), .int .i64 ((at_m a ((x4 : Nat) : Int))), bv0, .int .i64 ((x4 : Nat) : Int), .int .i64 ((at_m b ((x4 : Nat) : Int))), .int .i64 ((cmpi_m (at_m a ((x4 : Nat) : Int)) (at_m b ((x4 : Nat) : Int)))), .int .i64 ((cmpi_m (at_m a ((x4 : Nat) : Int)) (at_m b ((x4 : Nat) : Int)))), .bool (decide (¬ (cmpi_m (at_m a ((x4 : Nat) : Int)) (at_m b ((x4 : Nat) : Int))) = 0)), u0 14, .int .i64 (((x4 + 1) : Nat) : Int)] qq undef), rfl, (by first | omega | (simp; omega) | (simp at *; omega)), (hi7.trans (show vsigns_m_b0 a b (vsigns_m_l0 a b k6) x4 = vsigns_m_l0 a b k6 (x4 + 1) from by unfold vsigns_m_b0; rw [if_pos hc17, if_neg hc28] <;> rfl)), rfl, hm26⟩ ?_)
      omega
    refine wp_seq_k (fun K29 hK29 => ?_)
    refine wp_region_lit ?_
    refine lvw 24 (.int .i64 ((cmpi_m (at_m a ((x4 : Nat) : Int)) (at_m b ((x4 : Nat) : Int))))) rfl rfl (run_mv rfl rfl) ?_
    simp only [nz1, nz2, nz3]
    refine lvw 4 (.int .i64 ((cmpi_m (at_m a ((x4 : Nat) : Int)) (at_m b ((x4 : Nat) : Int))))) rfl rfl (run_as rfl rfl) ?_
    simp only [nz1, nz2, nz3]
    refine wpList_nil ?_
    refine then_n (hK29 _ _ ?_)
    refine wp_ret ?_
    refine blk_r ?_
    refine then_r ?_
    refine then_r ?_
    refine blk_r ?_
    refine then_r ?_
    refine then_r ?_
    have he30 : vsigns_m_l0 a b (((max a.length b.length) - 0) + 1) 0 = .inr (cmpi_m (at_m a ((x4 : Nat) : Int)) (at_m b ((x4 : Nat) : Int))) := (hi7.trans (show vsigns_m_b0 a b (vsigns_m_l0 a b k6) x4 = .inr (cmpi_m (at_m a ((x4 : Nat) : Int)) (at_m b ((x4 : Nat) : Int))) from by unfold vsigns_m_b0; rw [if_pos hc17, if_pos hc28] <;> rfl))
    have he31 : vsigns_m a b = (cmpi_m (at_m a ((x4 : Nat) : Int)) (at_m b ((x4 : Nat) : Int))) := (show vsigns_m a b = (cmpi_m (at_m a ((x4 : Nat) : Int)) (at_m b ((x4 : Nat) : Int))) from by unfold vsigns_m; rw [he30] <;> rfl)
    exact ⟨rfl, .int .i64 ((cmpi_m (at_m a ((x4 : Nat) : Int)) (at_m b ((x4 : Nat) : Int)))), res_t rfl rfl, ⟨by (rw [he31]; try rfl), hm26.below⟩⟩
  rintro _ w32 ⟨y8, yu0, hx9, rfl, hm33⟩
  have hq34 : vsigns_m a b = vsigns_m_k0 a b y8 := (show vsigns_m a b = vsigns_m_k0 a b y8 from by unfold vsigns_m; rw [hx9] <;> rfl)
  refine then_n (hK2 _ _ ?_)
  refine wp_seq_k (fun K35 hK35 => ?_)
  refine wp_region_lit ?_
  refine lvw 4 (.int .i64 0) rfl rfl (run_as rfl rfl) ?_
  simp only [nz1, nz2, nz3]
  refine wpList_nil ?_
  refine then_n (hK35 _ _ ?_)
  refine wp_ret ?_
  have he36 : vsigns_m a b = 0 := (hq34.trans (show vsigns_m_k0 a b y8 = 0 from by unfold vsigns_m_k0; rfl))
  exact ⟨rfl, .int .i64 0, res_t rfl rfl, ⟨by (rw [he36]; try rfl), hm33.below⟩⟩
theorem run_vsigns {o : Oper} {a : Act} {w : World} {x0 x1 : Operand} {v0 v1 : Value} (ho : o.op = .call { callee := .value (.func 32), args := #[x0, x1], argTypes := #[49, 49] }) (h0 : a.eval x0 = v0) (h1 : a.eval x1 = v1) :
    (execOp a.eval o).run Tryd.prog w = .ok (.enter 32 #[v0, v1]) w := by
  unfold execOp
  simp only [ho]
  have hf : a.eval (.func 32) = .func (.func 32) #[] #[] := rfl
  generalize a.eval = f at *
  go_simp
def digits_m_b0 (s : List UInt8) (rec : Nat → Sum (Nat) (Int)) (p7 : Nat) : Sum (Nat) (Int) :=
  if p7 < s.length then
    if (!(digit_m (((dec s p7).1 : Nat) : Int))) = true then
      .inr ((p7 : Nat) : Int)
    else
      rec (nxp s p7)
  else
    .inl (nxp s p7)
def digits_m_l0 (s : List UInt8) : Nat → Nat → Sum (Nat) (Int)
  | 0, zz => .inl zz
  | nq + 1, zz => digits_m_b0 s (digits_m_l0 s nq) zz

def digits_m_k0 (s : List UInt8) (y11 : Nat) : Int :=
  ((s.length : Nat) : Int)

def digits_m (s : List UInt8) : Int :=
  fin (digits_m_l0 s ((s.length - 0) + 1) 0) (fun r => r) (fun zz => digits_m_k0 s zz)

set_option maxHeartbeats 4000000 in
set_option maxRecDepth 100000 in
theorem digits_any (s : List UInt8) (w : World)   : Calls Tryd.prog 33 #[.string (tx s)] w (fun e w' => e = .returned (.int .i64 ((digits_m s))) ∧ Below w.heap.size w w') := by
  go_enter Tryd.func33, Tryd.ntmps33
  have hm00 := Mm.nil none (fun _ => True) w
  have hm0 := hm00
  refine wp_seq_k (fun K1 hK1 => ?_)
  refine wp_region_lit ?_
  refine lvw 2 (.int .i64 0) rfl rfl (run_as rfl rfl) ?_
  simp only [nz1, nz2, nz3]
  refine wpList_nil ?_
  refine then_n (hK1 _ _ ?_)
  refine wp_seq_k (fun K2 hK2 => ?_)
  refine wp_seq_k (fun K3 hK3 => ?_)
  refine wp_region_lit ?_
  refine lvw 5 (.string (tx s)) rfl rfl (run_mv rfl rfl) ?_
  simp only [nz1, nz2, nz3]
  refine lst rfl (m_range s hm0 6 rfl rfl Tryd.underlying9 rfl (fun g6 w4 (hm5 : Mm none (fun _ => True) w w4 [.itr g6 (tx s) 0]) => ?_))
  simp only [nz1, nz2, nz3]
  refine wpList_nil ?_
  refine then_n (hK3 _ _ ?_)
  refine wp_cutK (fun a' w' => ∃ (y11 : Nat) (yu0 : Nat → Value), digits_m_l0 s ((s.length - 0) + 1) 0 = .inl y11 ∧ a' = ⟨#[.string (tx s), undef, yu0 0, yu0 1, yu0 2, .string (tx s), .pointer (some ⟨g6, 0, none⟩), yu0 3, yu0 4, yu0 5, yu0 6, yu0 7, yu0 8, yu0 9, yu0 10, undef, undef], []⟩ ∧ Mm none (fun _ => True) w w' [.itr g6 (tx s) y11]) ?_ ?_
  · refine wp_block ?_
    refine wp_loop_n (fun n' a' w' => ∃ (n8 : Nat) (p7 : Nat) (u0 : Nat → Value), n' = n8 ∧ (s.length - p7) < n8 ∧ digits_m_l0 s ((s.length - 0) + 1) 0 = digits_m_l0 s n8 p7 ∧ a' = ⟨#[.string (tx s), undef, u0 0, u0 1, u0 2, .string (tx s), .pointer (some ⟨g6, 0, none⟩), u0 3, u0 4, u0 5, u0 6, u0 7, u0 8, u0 9, u0 10, undef, undef], []⟩ ∧ Mm none (fun _ => True) w w' [.itr g6 (tx s) p7]) ⟨((s.length - 0) + 1), 0, (fun qq => List.getD [.int .i64 0, undef, undef, undef, undef, undef, undef, undef, undef, undef, undef] qq undef), rfl, Nat.lt_succ_self _, rfl, rfl, hm5⟩ ?_
    rintro n8 _ w13 ⟨_, p7, u0, rfl, hl17, hi10, rfl, hm14⟩ R15 hR15
    obtain ⟨k9, rfl⟩ : ∃ k, n8 = k + 1 := ⟨n8 - 1, by omega⟩
    refine wp_seq_k (fun K18 hK18 => ?_)
    refine wp_region_lit ?_
    have hf21 : (p7 < s.length ∧ p7 < nxp s p7 ∧ nxp s p7 ≤ p7 + 4 ∧ nxp s p7 ≤ s.length) ∨ (s.length ≤ p7 ∧ nxp s p7 = p7) := nxp_or s p7
    have hf22 : (dec s p7).1 ≤ 1114111 := dec_max s p7
    refine lst rfl (m_next s 0 hm14 rfl 7 rfl rfl rfl (fun w19 (hm20 : Mm none (fun _ => True) w w19 [.itr g6 (tx s) (nxp s p7)]) => ?_))
    simp only [nz1, nz2, nz3]
    refine lvw 8 (.bool (decide (p7 < s.length))) rfl rfl (r_ext0 s p7 rfl rfl) ?_
    simp only [nz1, nz2, nz3]
    refine wpList_nil ?_
    refine then_n (hK18 _ _ ?_)
    refine wp_seq_k (fun K23 hK23 => ?_)
    refine cond_d (p7 < s.length) rfl (fun hc24 => ?_) (fun hc24 => ?_)
    rotate_left
    · refine wp_exit ?_
      refine then_x ?_
      refine then_x ?_
      refine blk_x ?_
      refine then_n ?_
      exact ⟨(nxp s p7), (fun qq => List.getD [u0 0, u0 1, u0 2, nxv s p7, .bool (decide (p7 < s.length)), u0 5, u0 6, u0 7, u0 8, u0 9, u0 10] qq undef), (hi10.trans (show digits_m_b0 s (digits_m_l0 s k9) p7 = .inl (nxp s p7) from by unfold digits_m_b0; rw [if_neg hc24] <;> rfl)), rfl, hm20⟩
    refine wp_skip ?_
    refine then_n (hK23 _ _ ?_)
    refine wp_block ?_
    refine wp_seq_k (fun K25 hK25 => ?_)
    refine wp_region_lit ?_
    refine lvw 9 (.int .i64 ((p7 : Nat) : Int)) rfl rfl (r_ext1 (s := s) (i := p7) (by first | assumption | omega) rfl rfl) ?_
    simp only [nz1, nz2, nz3]
    refine lvw 10 (.int .i32 (((dec s p7).1 : Nat) : Int)) rfl rfl (r_ext2 (s := s) (i := p7) (by first | assumption | omega) rfl rfl) ?_
    simp only [nz1, nz2, nz3]
    refine lvw 3 (.int .i64 ((p7 : Nat) : Int)) rfl rfl (run_as rfl rfl) ?_
    simp only [nz1, nz2, nz3]
    refine lvw 4 (.int .i32 (((dec s p7).1 : Nat) : Int)) rfl rfl (run_as rfl rfl) ?_
    simp only [nz1, nz2, nz3]
    refine wpList_nil ?_
    refine then_n (hK25 _ _ ?_)
    refine wp_seq_k (fun K26 hK26 => ?_)
    refine wp_region_lit ?_
    refine lvw 11 (.int .i32 (((dec s p7).1 : Nat) : Int)) rfl rfl (run_mv rfl rfl) ?_
    simp only [nz1, nz2, nz3]
    refine lst rfl (m_call hm20 12 (.bool ((digit_m (((dec s p7).1 : Nat) : Int)))) rfl (run_digit rfl rfl) (digit_any (((dec s p7).1 : Nat) : Int)  _  ) (fun w27 (hm28 : Mm none (fun _ => True) w w27 [.itr g6 (tx s) (nxp s p7)]) => ?_))
    simp only [nz1, nz2, nz3]
    refine lvw 13 (.bool (!(digit_m (((dec s p7).1 : Nat) : Int)))) rfl rfl (r_not (digit_m (((dec s p7).1 : Nat) : Int)) rfl rfl) ?_
    simp only [nz1, nz2, nz3]
    refine wpList_nil ?_
    refine then_n (hK26 _ _ ?_)
    refine cond_B (!(digit_m (((dec s p7).1 : Nat) : Int))) rfl (fun hc29 => ?_) (fun hc29 => ?_)
    rotate_left
    · refine wp_skip ?_
      refine blk_n ?_
      refine then_n (hR15 _ _ _ ⟨k9, (nxp s p7), (fun qq => List.getD [u0 0, .int .i64 ((p7 : Nat) : Int), .int .i32 (((dec s p7).1 : Nat) : Int), nxv s p7, .bool (decide (p7 < s.length)), .int .i64 ((p7 : Nat) : Int), .int .i32 (((dec s p7).1 : Nat) : Int), .int .i32 (((dec s p7).1 : Nat) : Int), .bool ((digit_m (((dec s p7).1 : Nat) : Int))), .bool (!(digit_m (((dec s p7).1 : Nat) : Int))), u0 10] qq undef), rfl, (by first | omega | (simp; omega) | (simp at *; omega)), (hi10.trans (show digits_m_b0 s (digits_m_l0 s k9) p7 = digits_m_l0 s k9 (nxp s p7) from by unfold digits_m_b0; rw [if_pos hc24, if_neg hc29] <;> rfl)), rfl, hm28⟩ ?_)
      omega
    refine wp_seq_k (fun K30 hK30 => ?_)
    refine wp_region_lit ?_
    refine lvw 14 (.int .i64 ((p7 : Nat) : Int)) rfl rfl (run_mv rfl rfl) ?_
    simp only [nz1, nz2, nz3]
    refine lvw 2 (.int .i64 ((p7 : Nat) : Int)) rfl rfl (run_as rfl rfl) ?_
    simp only [nz1, nz2, nz3]
    refine wpList_nil ?_
    refine then_n (hK30 _ _ ?_)
    refine wp_ret ?_
    refine blk_r ?_
    refine then_r ?_
    refine blk_r ?_
    refine then_r ?_
    refine then_r ?_
    have he31 : digits_m_l0 s ((s.length - 0) + 1) 0 = .inr ((p7 : Nat) : Int) := (hi10.trans (show digits_m_b0 s (digits_m_l0 s k9) p7 = .inr ((p7 : Nat) : Int) from by unfold digits_m_b0; rw [if_pos hc24, if_pos hc29] <;> rfl))
    have he32 : digits_m s = ((p7 : Nat) : Int) := (show digits_m s = ((p7 : Nat) : Int) from by unfold digits_m; rw [he31] <;> rfl)
    exact ⟨rfl, .int .i64 ((p7 : Nat) : Int), res_t rfl rfl, ⟨by (rw [he32]; try rfl), hm28.below⟩⟩
  rintro _ w33 ⟨y11, yu0, hx12, rfl, hm34⟩
  have hq35 : digits_m s = digits_m_k0 s y11 := (show digits_m s = digits_m_k0 s y11 from by unfold digits_m; rw [hx12] <;> rfl)
  refine then_n (hK2 _ _ ?_)
  refine wp_seq_k (fun K36 hK36 => ?_)
  refine wp_region_lit ?_
  refine lvw 15 (.string (tx s)) rfl rfl (run_mv rfl rfl) ?_
  simp only [nz1, nz2, nz3]
  refine lvw 16 (.int .i64 ((s.length : Nat) : Int)) rfl rfl (t_len rfl Tryd.underlying9 rfl) ?_
  simp only [nz1, nz2, nz3]
  refine lvw 2 (.int .i64 ((s.length : Nat) : Int)) rfl rfl (run_as rfl rfl) ?_
  simp only [nz1, nz2, nz3]
  refine wpList_nil ?_
  refine then_n (hK36 _ _ ?_)
  refine wp_ret ?_
  have he37 : digits_m s = ((s.length : Nat) : Int) := (hq35.trans (show digits_m_k0 s y11 = ((s.length : Nat) : Int) from by unfold digits_m_k0; rfl))
  exact ⟨rfl, .int .i64 ((s.length : Nat) : Int), res_t rfl rfl, ⟨by (rw [he37]; try rfl), hm34.below⟩⟩
theorem run_digits {o : Oper} {a : Act} {w : World} {x0 : Operand} {v0 : Value} (ho : o.op = .call { callee := .value (.func 33), args := #[x0], argTypes := #[9] }) (h0 : a.eval x0 = v0) :
    (execOp a.eval o).run Tryd.prog w = .ok (.enter 33 #[v0]) w := by
  unfold execOp
  simp only [ho]
  have hf : a.eval (.func 33) = .func (.func 33) #[] #[] := rfl
  generalize a.eval = f at *
  go_simp
def numbers_m (a : List UInt8) (b : List UInt8) : Int :=
  if ¬ (cmpi_m (((trimz_m a ([48])).length : Nat) : Int) (((trimz_m b ([48])).length : Nat) : Int)) = 0 then
    (cmpi_m (((trimz_m a ([48])).length : Nat) : Int) (((trimz_m b ([48])).length : Nat) : Int))
  else
    (cmps_m (trimz_m a ([48])) (trimz_m b ([48])))

set_option maxHeartbeats 4000000 in
set_option maxRecDepth 100000 in
theorem numbers_any (a : List UInt8) (b : List UInt8) (w : World)   : Calls Tryd.prog 34 #[.string (tx a), .string (tx b)] w (fun e w' => e = .returned (.int .i64 ((numbers_m a b))) ∧ Below w.heap.size w w') := by
  go_enter Tryd.func34, Tryd.ntmps34
  have hm00 := Mm.nil none (fun _ => True) w
  have hm0 := hm00
  refine wp_seq_k (fun K1 hK1 => ?_)
  refine wp_region_lit ?_
  refine lvw 4 (.int .i64 0) rfl rfl (run_as rfl rfl) ?_
  simp only [nz1, nz2, nz3]
  refine wpList_nil ?_
  refine then_n (hK1 _ _ ?_)
  refine wp_seq_k (fun K2 hK2 => ?_)
  refine wp_region_lit ?_
  refine lvw 6 (.string (tx a)) rfl rfl (run_mv rfl rfl) ?_
  simp only [nz1, nz2, nz3]
  refine lst rfl (m_call hm0 7 (.string (tx (trimz_m a ([48])))) rfl (run_trimz rfl rfl rfl) (trimz_any a ([48])  _  (by first | omega | assumption | (simp; done) | (simp; omega) | (simp only [List.length_append, List.length_cons, List.length_nil]; omega) | (simp only [List.length_append, List.length_cons, List.length_nil] at *; omega) | decide)) (fun w3 (hm4 : Mm none (fun _ => True) w w3 []) => ?_))
  simp only [nz1, nz2, nz3]
  refine lvw 8 (.string (tx b)) rfl rfl (run_mv rfl rfl) ?_
  simp only [nz1, nz2, nz3]
  refine lst rfl (m_call hm4 9 (.string (tx (trimz_m b ([48])))) rfl (run_trimz rfl rfl rfl) (trimz_any b ([48])  _  (by first | omega | assumption | (simp; done) | (simp; omega) | (simp only [List.length_append, List.length_cons, List.length_nil]; omega) | (simp only [List.length_append, List.length_cons, List.length_nil] at *; omega) | decide)) (fun w5 (hm6 : Mm none (fun _ => True) w w5 []) => ?_))
  simp only [nz1, nz2, nz3]
  refine lvw 0 (.string (tx (trimz_m a ([48])))) rfl rfl (run_as rfl rfl) ?_
  simp only [nz1, nz2]
  refine lvw 1 (.string (tx (trimz_m b ([48])))) rfl rfl (run_as rfl rfl) ?_
  simp only [nz1, nz2, nz3]
  refine wpList_nil ?_
  refine then_n (hK2 _ _ ?_)
  refine wp_seq_k (fun K7 hK7 => ?_)
  refine wp_region_lit ?_
  refine lvw 10 (.string (tx (trimz_m a ([48])))) rfl rfl (run_mv rfl rfl) ?_
  simp only [nz1, nz2, nz3]
  refine lvw 11 (.int .i64 (((trimz_m a ([48])).length : Nat) : Int)) rfl rfl (t_len rfl Tryd.underlying9 rfl) ?_
  simp only [nz1, nz2, nz3]
  refine lvw 12 (.string (tx (trimz_m b ([48])))) rfl rfl (run_mv rfl rfl) ?_
  simp only [nz1, nz2, nz3]
  refine lvw 13 (.int .i64 (((trimz_m b ([48])).length : Nat) : Int)) rfl rfl (t_len rfl Tryd.underlying9 rfl) ?_
  simp only [nz1, nz2, nz3]
  refine lst rfl (m_call hm6 14 (.int .i64 ((cmpi_m (((trimz_m a ([48])).length : Nat) : Int) (((trimz_m b ([48])).length : Nat) : Int)))) rfl (run_cmpi rfl rfl rfl) (cmpi_any (((trimz_m a ([48])).length : Nat) : Int) (((trimz_m b ([48])).length : Nat) : Int)  _  ) (fun w8 (hm9 : Mm none (fun _ => True) w w8 []) => ?_))
  simp only [nz1, nz2, nz3]
  refine lvw 5 (.int .i64 ((cmpi_m (((trimz_m a ([48])).length : Nat) : Int) (((trimz_m b ([48])).length : Nat) : Int)))) rfl rfl (run_as rfl rfl) ?_
  simp only [nz1, nz2, nz3]
  refine wpList_nil ?_
  refine then_n (hK7 _ _ ?_)
  refine wp_seq_k (fun K10 hK10 => ?_)
  refine wp_seq_k (fun K11 hK11 => ?_)
  refine wp_region_lit ?_
  refine lvw 15 (.int .i64 ((cmpi_m (((trimz_m a ([48])).length : Nat) : Int) (((trimz_m b ([48])).length : Nat) : Int)))) rfl rfl (run_mv rfl rfl) ?_
  simp only [nz1, nz2, nz3]
  refine lvw 16 (.bool (decide (¬ (cmpi_m (((trimz_m a ([48])).length : Nat) : Int) (((trimz_m b ([48])).length : Nat) : Int)) = 0))) rfl rfl (z_neq (cmpi_m (((trimz_m a ([48])).length : Nat) : Int) (((trimz_m b ([48])).length : Nat) : Int)) 0 rfl rfl rfl) ?_
  simp only [nz1, nz2, nz3]
  refine wpList_nil ?_
  refine then_n (hK11 _ _ ?_)
  refine cond_d (¬ (cmpi_m (((trimz_m a ([48])).length : Nat) : Int) (((trimz_m b ([48])).length : Nat) : Int)) = 0) rfl (fun hc12 => ?_) (fun hc12 => ?_)
  · refine wp_seq_k (fun K13 hK13 => ?_)
    refine wp_region_lit ?_
    refine lvw 17 (.int .i64 ((cmpi_m (((trimz_m a ([48])).length : Nat) : Int) (((trimz_m b ([48])).length : Nat) : Int)))) rfl rfl (run_mv rfl rfl) ?_
    simp only [nz1, nz2, nz3]
    refine lvw 4 (.int .i64 ((cmpi_m (((trimz_m a ([48])).length : Nat) : Int) (((trimz_m b ([48])).length : Nat) : Int)))) rfl rfl (run_as rfl rfl) ?_
    simp only [nz1, nz2, nz3]
    refine wpList_nil ?_
    refine then_n (hK13 _ _ ?_)
    refine wp_ret ?_
    refine then_r ?_
    have he14 : numbers_m a b = (cmpi_m (((trimz_m a ([48])).length : Nat) : Int) (((trimz_m b ([48])).length : Nat) : Int)) := (show numbers_m a b = (cmpi_m (((trimz_m a ([48])).length : Nat) : Int) (((trimz_m b ([48])).length : Nat) : Int)) from by unfold numbers_m; rw [if_pos hc12] <;> rfl)
    exact ⟨rfl, .int .i64 ((cmpi_m (((trimz_m a ([48])).length : Nat) : Int) (((trimz_m b ([48])).length : Nat) : Int))), res_t rfl rfl, ⟨by (rw [he14]; try rfl), hm9.below⟩⟩
  refine wp_skip ?_
  refine then_n (hK10 _ _ ?_)
  refine wp_seq_k (fun K15 hK15 => ?_)
  refine wp_region_lit ?_
  refine lvw 18 (.string (tx (trimz_m a ([48])))) rfl rfl (run_mv rfl rfl) ?_
  simp only [nz1, nz2, nz3]
  refine lvw 19 (.string (tx (trimz_m b ([48])))) rfl rfl (run_mv rfl rfl) ?_
  simp only [nz1, nz2, nz3]
  refine lst rfl (m_call hm9 20 (.int .i64 ((cmps_m (trimz_m a ([48])) (trimz_m b ([48]))))) rfl (run_cmps rfl rfl rfl) (cmps_any (trimz_m a ([48])) (trimz_m b ([48]))  _  ) (fun w16 (hm17 : Mm none (fun _ => True) w w16 []) => ?_))
  simp only [nz1, nz2, nz3]
  refine lvw 4 (.int .i64 ((cmps_m (trimz_m a ([48])) (trimz_m b ([48]))))) rfl rfl (run_as rfl rfl) ?_
  simp only [nz1, nz2, nz3]
  refine wpList_nil ?_
  refine then_n (hK15 _ _ ?_)
  refine wp_ret ?_
  have he18 : numbers_m a b = (cmps_m (trimz_m a ([48])) (trimz_m b ([48]))) := (show numbers_m a b = (cmps_m (trimz_m a ([48])) (trimz_m b ([48]))) from by unfold numbers_m; rw [if_neg hc12] <;> rfl)
  exact ⟨rfl, .int .i64 ((cmps_m (trimz_m a ([48])) (trimz_m b ([48])))), res_t rfl rfl, ⟨by (rw [he18]; try rfl), hm17.below⟩⟩
theorem run_numbers {o : Oper} {a : Act} {w : World} {x0 x1 : Operand} {v0 v1 : Value} (ho : o.op = .call { callee := .value (.func 34), args := #[x0, x1], argTypes := #[9, 9] }) (h0 : a.eval x0 = v0) (h1 : a.eval x1 = v1) :
    (execOp a.eval o).run Tryd.prog w = .ok (.enter 34 #[v0, v1]) w := by
  unfold execOp
  simp only [ho]
  have hf : a.eval (.func 34) = .func (.func 34) #[] #[] := rfl
  generalize a.eval = f at *
  go_simp
end Go.Proofs.YtpbenhfnebgbiaaDoor.Ve
