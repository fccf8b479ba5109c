/- Layer 12: the document's signs and numbers. -/
import Derived.Test.YtpbenhfnebgbiaaDoorVeK
namespace Go.Proofs.YtpbenhfnebgbiaaDoor.Ve
open Go.RowKit
open Go.Proofs.YtpbenhfnebgbiaaDoor.Sym Go.Proofs.YtpbenhfnebgbiaaDoor.Mem
open Go.Proofs.YtpbenhfnebgbiaaDoor.Sx hiding Mm m_alloc m_store m_put m_call m_callx m_make m_append r_string r_ixS
set_option linter.unusedVariables false
open Go.Proofs.YtpbenhfnebgbiaaDoor.Pa
attribute [local irreducible] wpList Oper.wp

def rdigit_m (r : Int) : Bool :=
  if 48 ≤ r then
    (decide (r ≤ 57))
  else
    false

set_option maxHeartbeats 4000000 in
set_option maxRecDepth 100000 in
theorem rdigit_any (r : Int) (w : World)   : Calls Tryd.prog 38 #[.int .i32 (r)] w (fun e w' => e = .returned (.bool ((rdigit_m r))) ∧ Below w.heap.size w w') := by
  go_enter Tryd.func38, Tryd.ntmps38
  have hm00 := Mm.nil none (fun _ => True) w
  have hm0 := hm00
  refine wp_seq_k (fun K1 hK1 => ?_)
  refine wp_region_lit ?_
  refine lvw 2 (.bool false) rfl rfl (run_as rfl rfl) ?_
  simp only [nz1, nz2, nz3]
  refine wpList_nil ?_
  refine then_n (hK1 _ _ ?_)
  refine wp_seq_k (fun K2 hK2 => ?_)
  refine wp_region_lit ?_
  refine lvw 3 (.int .i32 (r)) rfl rfl (run_mv rfl rfl) ?_
  simp only [nz1, nz2, nz3]
  refine lvb 4 (48 ≤ r) rfl rfl (z_geq r 48 rfl rfl rfl) (fun hs3 => ?_) (fun hs3 => ?_)
  · simp only [nz1, nz2, nz3]
    refine lvw 5 (.bool true) rfl rfl (run_mv rfl rfl) ?_
    simp only [nz1, nz2, nz3]
    refine lvw 6 (.int .i32 (r)) rfl rfl (run_mv rfl rfl) ?_
    simp only [nz1, nz2, nz3]
    refine lvw 7 (.bool (decide (r ≤ 57))) rfl rfl (z_leq r 57 rfl rfl rfl) ?_
    simp only [nz1, nz2, nz3]
    refine lvw 8 (.bool (decide (r ≤ 57))) rfl rfl (run_pick rfl rfl rfl) ?_
    simp only [nz1, nz2, nz3]
    refine lvw 2 (.bool (decide (r ≤ 57))) rfl rfl (run_as rfl rfl) ?_
    simp only [nz1, nz2, nz3]
    refine wpList_nil ?_
    refine then_n (hK2 _ _ ?_)
    refine wp_ret ?_
    have he4 : rdigit_m r = (decide (r ≤ 57)) := (show rdigit_m r = (decide (r ≤ 57)) from by unfold rdigit_m; rw [if_pos hs3] <;> rfl)
    exact ⟨rfl, .bool (decide (r ≤ 57)), res_t rfl rfl, ⟨by (rw [he4]; try rfl), hm0.below⟩⟩
  simp only [nz1, nz2, nz3]
  refine lvw 5 (.bool false) rfl rfl (run_mv rfl rfl) ?_
  simp only [nz1, nz2, nz3]
  refine lst_skip 6 rfl rfl ?_
  simp only [nz1, nz2, nz3]
  refine lst_skip 7 rfl rfl ?_
  simp only [nz1, nz2, nz3]
  refine lvw 8 (.bool false) rfl rfl (run_pickf rfl rfl rfl) ?_
  simp only [nz1, nz2, nz3]
  refine lvw 2 (.bool false) rfl rfl (run_as rfl rfl) ?_
  simp only [nz1, nz2, nz3]
  refine wpList_nil ?_
  refine then_n (hK2 _ _ ?_)
  refine wp_ret ?_
  have he5 : rdigit_m r = false := (show rdigit_m r = false from by unfold rdigit_m; rw [if_neg hs3] <;> rfl)
  exact ⟨rfl, .bool false, res_t rfl rfl, ⟨by (rw [he5]; try rfl), hm0.below⟩⟩
theorem run_rdigit {o : Oper} {a : Act} {w : World} {x0 : Operand} {v0 : Value} (ho : o.op = .call { callee := .value (.func 38), args := #[x0], argTypes := #[21] }) (h0 : a.eval x0 = v0) :
    (execOp a.eval o).run Tryd.prog w = .ok (.enter 38 #[v0]) w := by
  unfold execOp
  simp only [ho]
  have hf : a.eval (.func 38) = .func (.func 38) #[] #[] := rfl
  generalize a.eval = f at *
  go_simp
theorem rdigit_is (r : Int) : rdigit_m r = decide (48 ≤ r ∧ r ≤ 57) := by
  unfold rdigit_m
  by_cases h : 48 ≤ r
  · rw [if_pos h]; exact decide_eq_decide.2 ⟨fun h2 => ⟨h, h2⟩, fun h2 => h2.2⟩
  · rw [if_neg h]; exact (decide_eq_false (fun h2 => h h2.1)).symm
theorem rdigd_any (r : Int) (w : World) : Calls Tryd.prog 38 #[.int .i32 r] w (fun e w' => e = .returned (.bool (decide (48 ≤ r ∧ r ≤ 57))) ∧ Below w.heap.size w w') := by
  rw [← rdigit_is]
  exact rdigit_any r w
def rletter_m (r : Int) : Bool :=
  if 97 ≤ r then
    if r ≤ 122 then
      true
    else
      if 65 ≤ r then
        (decide (r ≤ 90))
      else
        false
  else
    if 65 ≤ r then
      (decide (r ≤ 90))
    else
      false

set_option maxHeartbeats 4000000 in
set_option maxRecDepth 100000 in
theorem rletter_any (r : Int) (w : World)   : Calls Tryd.prog 61 #[.int .i32 (r)] w (fun e w' => e = .returned (.bool ((rletter_m r))) ∧ Below w.heap.size w w') := by
  go_enter Tryd.func61, Tryd.ntmps61
  have hm00 := Mm.nil none (fun _ => True) w
  have hm0 := hm00
  refine wp_seq_k (fun K1 hK1 => ?_)
  refine wp_region_lit ?_
  refine lvw 2 (.bool false) rfl rfl (run_as rfl rfl) ?_
  simp only [nz1, nz2, nz3]
  refine wpList_nil ?_
  refine then_n (hK1 _ _ ?_)
  refine wp_seq_k (fun K2 hK2 => ?_)
  refine wp_region_lit ?_
  refine lvw 3 (.int .i32 (r)) rfl rfl (run_mv rfl rfl) ?_
  simp only [nz1, nz2, nz3]
  refine lvb 4 (97 ≤ r) rfl rfl (z_geq r 97 rfl rfl rfl) (fun hs3 => ?_) (fun hs3 => ?_)
  rotate_left
  · simp only [nz1, nz2, nz3]
    refine lvw 5 (.bool false) rfl rfl (run_mv rfl rfl) ?_
    simp only [nz1, nz2, nz3]
    refine lst_skip 6 rfl rfl ?_
    simp only [nz1, nz2, nz3]
    refine lst_skip 7 rfl rfl ?_
    simp only [nz1, nz2, nz3]
    refine lvw 8 (.bool false) rfl rfl (run_pickf rfl rfl rfl) ?_
    simp only [nz1, nz2, nz3]
    refine lvw 9 (.bool false) rfl rfl (run_mv rfl rfl) ?_
    simp only [nz1, nz2, nz3]
    refine lvw 10 (.int .i32 (r)) rfl rfl (run_mv rfl rfl) ?_
    simp only [nz1, nz2, nz3]
    refine lvb 11 (65 ≤ r) rfl rfl (z_geq r 65 rfl rfl rfl) (fun hs9 => ?_) (fun hs9 => ?_)
    · simp only [nz1, nz2, nz3]
      refine lvw 12 (.bool true) rfl rfl (run_mv rfl rfl) ?_
      simp only [nz1, nz2, nz3]
      refine lvw 13 (.int .i32 (r)) rfl rfl (run_mv rfl rfl) ?_
      simp only [nz1, nz2, nz3]
      refine lvw 14 (.bool (decide (r ≤ 90))) rfl rfl (z_leq r 90 rfl rfl rfl) ?_
      simp only [nz1, nz2, nz3]
      refine lvw 15 (.bool (decide (r ≤ 90))) rfl rfl (run_pick rfl rfl rfl) ?_
      simp only [nz1, nz2, nz3]
      refine lvw 16 (.bool (decide (r ≤ 90))) rfl rfl (run_pickf rfl rfl rfl) ?_
      simp only [nz1, nz2, nz3]
      refine lvw 2 (.bool (decide (r ≤ 90))) rfl rfl (run_as rfl rfl) ?_
      simp only [nz1, nz2, nz3]
      refine wpList_nil ?_
      refine then_n (hK2 _ _ ?_)
      refine wp_ret ?_
      have he10 : rletter_m r = (decide (r ≤ 90)) := (show rletter_m r = (decide (r ≤ 90)) from by unfold rletter_m; rw [if_neg hs3, if_pos hs9] <;> rfl)
      exact ⟨rfl, .bool (decide (r ≤ 90)), res_t rfl rfl, ⟨by (rw [he10]; try rfl), hm0.below⟩⟩
    simp only [nz1, nz2, nz3]
    refine lvw 12 (.bool false) rfl rfl (run_mv rfl rfl) ?_
    simp only [nz1, nz2, nz3]
    refine lst_skip 13 rfl rfl ?_
    simp only [nz1, nz2, nz3]
    refine lst_skip 14 rfl rfl ?_
    simp only [nz1, nz2, nz3]
    refine lvw 15 (.bool false) rfl rfl (run_pickf rfl rfl rfl) ?_
    simp only [nz1, nz2, nz3]
    refine lvw 16 (.bool false) rfl rfl (run_pickf rfl rfl rfl) ?_
    simp only [nz1, nz2, nz3]
    refine lvw 2 (.bool false) rfl rfl (run_as rfl rfl) ?_
    simp only [nz1, nz2, nz3]
    refine wpList_nil ?_
    refine then_n (hK2 _ _ ?_)
    refine wp_ret ?_
    have he11 : rletter_m r = false := (show rletter_m r = false from by unfold rletter_m; rw [if_neg hs3, if_neg hs9] <;> rfl)
    exact ⟨rfl, .bool false, res_t rfl rfl, ⟨by (rw [he11]; try rfl), hm0.below⟩⟩
  simp only [nz1, nz2, nz3]
  refine lvw 5 (.bool true) rfl rfl (run_mv rfl rfl) ?_
  simp only [nz1, nz2, nz3]
  refine lvw 6 (.int .i32 (r)) rfl rfl (run_mv rfl rfl) ?_
  simp only [nz1, nz2, nz3]
  refine lvb 7 (r ≤ 122) rfl rfl (z_leq r 122 rfl rfl rfl) (fun hs4 => ?_) (fun hs4 => ?_)
  · simp only [nz1, nz2, nz3]
    refine lvw 8 (.bool true) rfl rfl (run_pick rfl rfl rfl) ?_
    simp only [nz1, nz2, nz3]
    refine lvw 9 (.bool true) rfl rfl (run_mv rfl rfl) ?_
    simp only [nz1, nz2, nz3]
    refine lst_skip 10 rfl rfl ?_
    simp only [nz1, nz2, nz3]
    refine lst_skip 11 rfl rfl ?_
    simp only [nz1, nz2, nz3]
    refine lst_skip 12 rfl rfl ?_
    simp only [nz1, nz2, nz3]
    refine lst_skip 13 rfl rfl ?_
    simp only [nz1, nz2, nz3]
    refine lst_skip 14 rfl rfl ?_
    simp only [nz1, nz2, nz3]
    refine lst_skip 15 rfl rfl ?_
    simp only [nz1, nz2, nz3]
    refine lvw 16 (.bool true) rfl rfl (run_pick rfl rfl rfl) ?_
    simp only [nz1, nz2, nz3]
    refine lvw 2 (.bool true) rfl rfl (run_as rfl rfl) ?_
    simp only [nz1, nz2, nz3]
    refine wpList_nil ?_
    refine then_n (hK2 _ _ ?_)
    refine wp_ret ?_
    have he5 : rletter_m r = true := (show rletter_m r = true from by unfold rletter_m; rw [if_pos hs3, if_pos hs4] <;> rfl)
    exact ⟨rfl, .bool true, res_t rfl rfl, ⟨by (rw [he5]; try rfl), hm0.below⟩⟩
  simp only [nz1, nz2, nz3]
  refine lvw 8 (.bool false) rfl rfl (run_pick rfl rfl rfl) ?_
  simp only [nz1, nz2, nz3]
  refine lvw 9 (.bool false) rfl rfl (run_mv rfl rfl) ?_
  simp only [nz1, nz2, nz3]
  refine lvw 10 (.int .i32 (r)) rfl rfl (run_mv rfl rfl) ?_
  simp only [nz1, nz2, nz3]
  refine lvb 11 (65 ≤ r) rfl rfl (z_geq r 65 rfl rfl rfl) (fun hs6 => ?_) (fun hs6 => ?_)
  · simp only [nz1, nz2, nz3]
    refine lvw 12 (.bool true) rfl rfl (run_mv rfl rfl) ?_
    simp only [nz1, nz2, nz3]
    refine lvw 13 (.int .i32 (r)) rfl rfl (run_mv rfl rfl) ?_
    simp only [nz1, nz2, nz3]
    refine lvw 14 (.bool (decide (r ≤ 90))) rfl rfl (z_leq r 90 rfl rfl rfl) ?_
    simp only [nz1, nz2, nz3]
    refine lvw 15 (.bool (decide (r ≤ 90))) rfl rfl (run_pick rfl rfl rfl) ?_
    simp only [nz1, nz2, nz3]
    refine lvw 16 (.bool (decide (r ≤ 90))) rfl rfl (run_pickf rfl rfl rfl) ?_
    simp only [nz1, nz2, nz3]
    refine lvw 2 (.bool (decide (r ≤ 90))) rfl rfl (run_as rfl rfl) ?_
    simp only [nz1, nz2, nz3]
    refine wpList_nil ?_
    refine then_n (hK2 _ _ ?_)
    refine wp_ret ?_
    have he7 : rletter_m r = (decide (r ≤ 90)) := (show rletter_m r = (decide (r ≤ 90)) from by unfold rletter_m; rw [if_pos hs3, if_neg hs4, if_pos hs6] <;> rfl)
    exact ⟨rfl, .bool (decide (r ≤ 90)), res_t rfl rfl, ⟨by (rw [he7]; try rfl), hm0.below⟩⟩
  simp only [nz1, nz2, nz3]
  refine lvw 12 (.bool false) rfl rfl (run_mv rfl rfl) ?_
  simp only [nz1, nz2, nz3]
  refine lst_skip 13 rfl rfl ?_
  simp only [nz1, nz2, nz3]
  refine lst_skip 14 rfl rfl ?_
  simp only [nz1, nz2, nz3]
  refine lvw 15 (.bool false) rfl rfl (run_pickf rfl rfl rfl) ?_
  simp only [nz1, nz2, nz3]
  refine lvw 16 (.bool false) rfl rfl (run_pickf rfl rfl rfl) ?_
  simp only [nz1, nz2, nz3]
  refine lvw 2 (.bool false) rfl rfl (run_as rfl rfl) ?_
  simp only [nz1, nz2, nz3]
  refine wpList_nil ?_
  refine then_n (hK2 _ _ ?_)
  refine wp_ret ?_
  have he8 : rletter_m r = false := (show rletter_m r = false from by unfold rletter_m; rw [if_pos hs3, if_neg hs4, if_neg hs6] <;> rfl)
  exact ⟨rfl, .bool false, res_t rfl rfl, ⟨by (rw [he8]; try rfl), hm0.below⟩⟩
theorem run_rletter {o : Oper} {a : Act} {w : World} {x0 : Operand} {v0 : Value} (ho : o.op = .call { callee := .value (.func 61), args := #[x0], argTypes := #[21] }) (h0 : a.eval x0 = v0) :
    (execOp a.eval o).run Tryd.prog w = .ok (.enter 61 #[v0]) w := by
  unfold execOp
  simp only [ho]
  have hf : a.eval (.func 61) = .func (.func 61) #[] #[] := rfl
  generalize a.eval = f at *
  go_simp
def rcheck_m_b0 (s : List UInt8) (rec : Nat → Sum (Nat) (Bool)) (p15 : Nat) : Sum (Nat) (Bool) :=
  if p15 < s.length then
    if (dec s p15).1 = 46 then
      if ¬ (48 ≤ (((dec s p15).1 : Nat) : Int) ∧ (((dec s p15).1 : Nat) : Int) ≤ 57) then
        if (!(rletter_m (((dec s p15).1 : Nat) : Int))) = true then
          if p15 = 0 then
            .inr false
          else
            rec (nxp s p15)
        else
          rec (nxp s p15)
      else
        rec (nxp s p15)
    else
      if (dec s p15).1 = 45 then
        if ¬ (48 ≤ (((dec s p15).1 : Nat) : Int) ∧ (((dec s p15).1 : Nat) : Int) ≤ 57) then
          if (!(rletter_m (((dec s p15).1 : Nat) : Int))) = true then
            if p15 = 0 then
              .inr false
            else
              rec (nxp s p15)
          else
            rec (nxp s p15)
        else
          rec (nxp s p15)
      else
        if (dec s p15).1 = 43 then
          if ¬ (48 ≤ (((dec s p15).1 : Nat) : Int) ∧ (((dec s p15).1 : Nat) : Int) ≤ 57) then
            if (!(rletter_m (((dec s p15).1 : Nat) : Int))) = true then
              if p15 = 0 then
                .inr false
              else
                rec (nxp s p15)
            else
              rec (nxp s p15)
          else
            rec (nxp s p15)
        else
          if (dec s p15).1 = 126 then
            if ¬ (48 ≤ (((dec s p15).1 : Nat) : Int) ∧ (((dec s p15).1 : Nat) : Int) ≤ 57) then
              if (!(rletter_m (((dec s p15).1 : Nat) : Int))) = true then
                if p15 = 0 then
                  .inr false
                else
                  rec (nxp s p15)
              else
                rec (nxp s p15)
            else
              rec (nxp s p15)
          else
            if ¬ (48 ≤ (((dec s p15).1 : Nat) : Int) ∧ (((dec s p15).1 : Nat) : Int) ≤ 57) then
              if (!(rletter_m (((dec s p15).1 : Nat) : Int))) = true then
                if ¬ ((dec s p15).1 = 95) then
                  .inr false
                else
                  if p15 = 0 then
                    .inr false
                  else
                    rec (nxp s p15)
              else
                rec (nxp s p15)
            else
              rec (nxp s p15)
  else
    .inl (nxp s p15)
def rcheck_m_l0 (s : List UInt8) : Nat → Nat → Sum (Nat) (Bool)
  | 0, zz => .inl zz
  | nq + 1, zz => rcheck_m_b0 s (rcheck_m_l0 s nq) zz

def rcheck_m_k0 (s : List UInt8) (y19 : Nat) : Bool :=
  true

def rcheck_m (s : List UInt8) : Bool :=
  if s = [] then
    false
  else
    if 24 < s.length then
      false
    else
      fin (rcheck_m_l0 s ((s.length - 0) + 1) 0) (fun r => r) (fun zz => rcheck_m_k0 s zz)

set_option maxHeartbeats 4000000 in
set_option maxRecDepth 100000 in
theorem rcheck_any (s : List UInt8) (w : World)   : Calls Tryd.prog 35 #[.string (tx s)] w (fun e w' => e = .returned (.bool ((rcheck_m s))) ∧ Below w.heap.size w w') := by
  go_enter Tryd.func35, Tryd.ntmps35
  have hm00 := Mm.nil none (fun _ => True) w
  have hm0 := hm00
  refine wp_seq_k (fun K1 hK1 => ?_)
  refine wp_region_lit ?_
  refine lvw 2 (.bool false) rfl rfl (run_as rfl rfl) ?_
  simp only [nz1, nz2, nz3]
  refine wpList_nil ?_
  refine then_n (hK1 _ _ ?_)
  refine wp_seq_k (fun K2 hK2 => ?_)
  refine wp_seq_k (fun K3 hK3 => ?_)
  refine wp_region_lit ?_
  refine lvw 6 (.string (tx s)) rfl rfl (run_mv rfl rfl) ?_
  simp only [nz1, nz2, nz3]
  refine lvb 7 (s = []) rfl rfl (t_eql s ([]) rfl rfl rfl) (fun hs4 => ?_) (fun hs4 => ?_)
  · simp only [nz1, nz2, nz3]
    refine lvw 8 (.bool true) rfl rfl (run_mv rfl rfl) ?_
    simp only [nz1, nz2, nz3]
    refine lst_skip 9 rfl rfl ?_
    simp only [nz1, nz2, nz3]
    refine lst_skip 10 rfl rfl ?_
    simp only [nz1, nz2, nz3]
    refine lst_skip 11 rfl rfl ?_
    simp only [nz1, nz2, nz3]
    refine lvw 12 (.bool true) rfl rfl (run_pick rfl rfl rfl) ?_
    simp only [nz1, nz2, nz3]
    refine wpList_nil ?_
    refine then_n (hK3 _ _ ?_)
    refine cond_t rfl ?_
    refine wp_seq_k (fun K5 hK5 => ?_)
    refine wp_region_lit ?_
    refine lvw 2 (.bool false) rfl rfl (run_as rfl rfl) ?_
    simp only [nz1, nz2, nz3]
    refine wpList_nil ?_
    refine then_n (hK5 _ _ ?_)
    refine wp_ret ?_
    refine then_r ?_
    have he6 : rcheck_m s = false := (show rcheck_m s = false from by unfold rcheck_m; rw [if_pos hs4] <;> rfl)
    exact ⟨rfl, .bool false, res_t rfl rfl, ⟨by (rw [he6]; try rfl), hm0.below⟩⟩
  simp only [nz1, nz2, nz3]
  refine lvw 8 (.bool false) rfl rfl (run_mv rfl rfl) ?_
  simp only [nz1, nz2, nz3]
  refine lvw 9 (.string (tx s)) rfl rfl (run_mv rfl rfl) ?_
  simp only [nz1, nz2, nz3]
  refine lvw 10 (.int .i64 ((s.length : Nat) : Int)) rfl rfl (t_len rfl Tryd.underlying9 rfl) ?_
  simp only [nz1, nz2, nz3]
  refine lvw 11 (.bool (decide (24 < s.length))) rfl rfl (r_gtr s.length 24 rfl rfl rfl) ?_
  simp only [nz1, nz2, nz3]
  refine lvw 12 (.bool (decide (24 < s.length))) rfl rfl (run_pickf rfl rfl rfl) ?_
  simp only [nz1, nz2, nz3]
  refine wpList_nil ?_
  refine then_n (hK3 _ _ ?_)
  refine cond_d (24 < s.length) rfl (fun hc7 => ?_) (fun hc7 => ?_)
  · refine wp_seq_k (fun K8 hK8 => ?_)
    refine wp_region_lit ?_
    refine lvw 2 (.bool false) rfl rfl (run_as rfl rfl) ?_
    simp only [nz1, nz2, nz3]
    refine wpList_nil ?_
    refine then_n (hK8 _ _ ?_)
    refine wp_ret ?_
    refine then_r ?_
    have he9 : rcheck_m s = false := (show rcheck_m s = false from by unfold rcheck_m; rw [if_neg hs4, if_pos hc7] <;> rfl)
    exact ⟨rfl, .bool false, res_t rfl rfl, ⟨by (rw [he9]; try rfl), hm0.below⟩⟩
  refine wp_skip ?_
  refine then_n (hK2 _ _ ?_)
  refine wp_seq_k (fun K10 hK10 => ?_)
  refine wp_seq_k (fun K11 hK11 => ?_)
  refine wp_region_lit ?_
  refine lvw 13 (.string (tx s)) rfl rfl (run_mv rfl rfl) ?_
  simp only [nz1, nz2, nz3]
  refine lst rfl (m_range s hm0 14 rfl rfl Tryd.underlying9 rfl (fun g14 w12 (hm13 : Mm none (fun _ => True) w w12 [.itr g14 (tx s) 0]) => ?_))
  simp only [nz1, nz2, nz3]
  refine wpList_nil ?_
  refine then_n (hK11 _ _ ?_)
  refine wp_cutK (fun a' w' => ∃ (y19 : Nat) (yu0 : Nat → Value), rcheck_m_l0 s ((s.length - 0) + 1) 0 = .inl y19 ∧ a' = ⟨#[.string (tx s), undef, yu0 0, yu0 1, yu0 2, yu0 3, .string (tx s), .bool false, .bool false, .string (tx s), .int .i64 ((s.length : Nat) : Int), .bool (decide (24 < s.length)), .bool (decide (24 < s.length)), .string (tx s), .pointer (some ⟨g14, 0, none⟩), yu0 4, yu0 5, yu0 6, yu0 7, yu0 8, yu0 9, yu0 10, yu0 11, yu0 12, yu0 13, yu0 14, yu0 15, yu0 16, yu0 17, yu0 18, yu0 19, yu0 20, yu0 21, yu0 22, yu0 23, yu0 24, yu0 25, yu0 26, yu0 27, yu0 28, yu0 29, yu0 30, yu0 31, yu0 32, yu0 33, yu0 34, yu0 35, yu0 36, yu0 37, yu0 38, yu0 39, yu0 40, yu0 41], []⟩ ∧ Mm none (fun _ => True) w w' [.itr g14 (tx s) y19]) ?_ ?_
  · refine wp_block ?_
    refine wp_loop_n (fun n' a' w' => ∃ (n16 : Nat) (p15 : Nat) (u0 : Nat → Value), n' = n16 ∧ (s.length - p15) < n16 ∧ rcheck_m_l0 s ((s.length - 0) + 1) 0 = rcheck_m_l0 s n16 p15 ∧ a' = ⟨#[.string (tx s), undef, u0 0, u0 1, u0 2, u0 3, .string (tx s), .bool false, .bool false, .string (tx s), .int .i64 ((s.length : Nat) : Int), .bool (decide (24 < s.length)), .bool (decide (24 < s.length)), .string (tx s), .pointer (some ⟨g14, 0, none⟩), u0 4, u0 5, u0 6, u0 7, u0 8, u0 9, u0 10, u0 11, u0 12, u0 13, u0 14, u0 15, u0 16, u0 17, u0 18, u0 19, u0 20, u0 21, u0 22, u0 23, u0 24, u0 25, u0 26, u0 27, u0 28, u0 29, u0 30, u0 31, u0 32, u0 33, u0 34, u0 35, u0 36, u0 37, u0 38, u0 39, u0 40, u0 41], []⟩ ∧ Mm none (fun _ => True) w w' [.itr g14 (tx s) p15]) ⟨((s.length - 0) + 1), 0, (fun qq => bif Nat.blt qq 24 then List.getD [.bool false, undef, undef, undef, undef, undef, undef, undef, undef, undef, undef, undef, undef, undef, undef, undef, undef, undef, undef, undef, undef, undef, undef, undef] qq undef else List.getD [undef, undef, undef, undef, undef, undef, undef, undef, undef, undef, undef, undef, undef, undef, undef, undef, undef, undef] (qq - 24) undef), rfl, Nat.lt_succ_self _, rfl, rfl, hm13⟩ ?_
    rintro n16 _ w21 ⟨_, p15, u0, rfl, hl25, hi18, rfl, hm22⟩ R23 hR23
    obtain ⟨k17, rfl⟩ : ∃ k, n16 = k + 1 := ⟨n16 - 1, by omega⟩
    refine wp_seq_k (fun K26 hK26 => ?_)
    refine wp_region_lit ?_
    have hf29 : (p15 < s.length ∧ p15 < nxp s p15 ∧ nxp s p15 ≤ p15 + 4 ∧ nxp s p15 ≤ s.length) ∨ (s.length ≤ p15 ∧ nxp s p15 = p15) := nxp_or s p15
    have hf30 : (dec s p15).1 ≤ 1114111 := dec_max s p15
    refine lst rfl (m_next s 0 hm22 rfl 15 rfl rfl rfl (fun w27 (hm28 : Mm none (fun _ => True) w w27 [.itr g14 (tx s) (nxp s p15)]) => ?_))
    simp only [nz1, nz2, nz3]
    refine lvw 16 (.bool (decide (p15 < s.length))) rfl rfl (r_ext0 s p15 rfl rfl) ?_
    simp only [nz1, nz2, nz3]
    refine wpList_nil ?_
    refine then_n (hK26 _ _ ?_)
    refine wp_seq_k (fun K31 hK31 => ?_)
    refine cond_d (p15 < s.length) rfl (fun hc32 => ?_) (fun hc32 => ?_)
    rotate_left
    · refine wp_exit ?_
      refine then_x ?_
      refine then_x ?_
      refine blk_x ?_
      refine then_n ?_
      exact ⟨(nxp s p15), (fun qq => bif Nat.blt qq 24 then List.getD [u0 0, u0 1, u0 2, u0 3, nxv s p15, .bool (decide (p15 < s.length)), u0 6, u0 7, u0 8, u0 9, u0 10, u0 11, u0 12, u0 13, u0 14, u0 15, u0 16, u0 17, u0 18, u0 19, u0 20, u0 21, u0 22, u0 23] qq undef else List.getD [u0 24, u0 25, u0 26, u0 27, u0 28, u0 29, u0 30, u0 31, u0 32, u0 33, u0 34, u0 35, u0 36, u0 37, u0 38, u0 39, u0 40, u0 41] (qq - 24) undef), (hi18.trans (show rcheck_m_b0 s (rcheck_m_l0 s k17) p15 = .inl (nxp s p15) from by unfold rcheck_m_b0; rw [if_neg hc32] <;> rfl)), rfl, hm28⟩
    refine wp_skip ?_
    refine then_n (hK31 _ _ ?_)
    refine wp_block ?_
    refine wp_seq_k (fun K33 hK33 => ?_)
    refine wp_region_lit ?_
    refine lvw 17 (.int .i64 ((p15 : Nat) : Int)) rfl rfl (r_ext1 (s := s) (i := p15) (by first | assumption | omega) rfl rfl) ?_
    simp only [nz1, nz2, nz3]
    refine lvw 18 (.int .i32 (((dec s p15).1 : Nat) : Int)) rfl rfl (r_ext2 (s := s) (i := p15) (by first | assumption | omega) rfl rfl) ?_
    simp only [nz1, nz2, nz3]
    refine lvw 3 (.int .i64 ((p15 : Nat) : Int)) rfl rfl (run_as rfl rfl) ?_
    simp only [nz1, nz2, nz3]
    refine lvw 4 (.int .i32 (((dec s p15).1 : Nat) : Int)) rfl rfl (run_as rfl rfl) ?_
    simp only [nz1, nz2, nz3]
    refine wpList_nil ?_
    refine then_n (hK33 _ _ ?_)
    refine wp_seq_k (fun K34 hK34 => ?_)
    refine wp_region_lit ?_
    refine lvw 19 (.int .i32 (((dec s p15).1 : Nat) : Int)) rfl rfl (run_mv rfl rfl) ?_
    simp only [nz1, nz2, nz3]
    refine lvb 20 ((dec s p15).1 = 46) rfl rfl (r_eql ((dec s p15).1) 46 rfl rfl rfl) (fun hs35 => ?_) (fun hs35 => ?_)
    · simp only [nz1, nz2, nz3]
      refine lvw 21 (.bool true) rfl rfl (run_mv rfl rfl) ?_
      simp only [nz1, nz2, nz3]
      refine lst_skip 22 rfl rfl ?_
      simp only [nz1, nz2, nz3]
      refine lst_skip 23 rfl rfl ?_
      simp only [nz1, nz2, nz3]
      refine lvw 24 (.bool true) rfl rfl (run_pick rfl rfl rfl) ?_
      simp only [nz1, nz2, nz3]
      refine lvw 25 (.bool true) rfl rfl (run_mv rfl rfl) ?_
      simp only [nz1, nz2, nz3]
      refine lst_skip 26 rfl rfl ?_
      simp only [nz1, nz2, nz3]
      refine lst_skip 27 rfl rfl ?_
      simp only [nz1, nz2, nz3]
      refine lvw 28 (.bool true) rfl rfl (run_pick rfl rfl rfl) ?_
      simp only [nz1, nz2, nz3]
      refine lvw 29 (.bool true) rfl rfl (run_mv rfl rfl) ?_
      simp only [nz1, nz2, nz3]
      refine lst_skip 30 rfl rfl ?_
      simp only [nz1, nz2, nz3]
      refine lst_skip 31 rfl rfl ?_
      simp only [nz1, nz2, nz3]
      refine lvw 32 (.bool true) rfl rfl (run_pick rfl rfl rfl) ?_
      simp only [nz1, nz2, nz3]
      refine lvw 33 (.bool true) rfl rfl (run_mv rfl rfl) ?_
      simp only [nz1, nz2, nz3]
      refine lst_skip 34 rfl rfl ?_
      simp only [nz1, nz2, nz3]
      refine lst_skip 35 rfl rfl ?_
      simp only [nz1, nz2, nz3]
      refine lvw 36 (.bool true) rfl rfl (run_pick rfl rfl rfl) ?_
      simp only [nz1, nz2, nz3]
      refine lvw 5 (.bool true) rfl rfl (run_as rfl rfl) ?_
      simp only [nz1, nz2, nz3]
      refine wpList_nil ?_
      refine then_n (hK34 _ _ ?_)
      refine wp_seq_k (fun K36 hK36 => ?_)
      refine wp_region_lit ?_
      refine lvw 37 (.int .i32 (((dec s p15).1 : Nat) : Int)) rfl rfl (run_mv rfl rfl) ?_
      simp only [nz1, nz2, nz3]
      refine lst rfl (m_call hm28 38 (.bool (decide (48 ≤ (((dec s p15).1 : Nat) : Int) ∧ (((dec s p15).1 : Nat) : Int) ≤ 57))) rfl (run_rdigit rfl rfl) (rdigd_any (((dec s p15).1 : Nat) : Int)  _  ) (fun w37 (hm38 : Mm none (fun _ => True) w w37 [.itr g14 (tx s) (nxp s p15)]) => ?_))
      simp only [nz1, nz2, nz3]
      refine lvb 39 (¬ (48 ≤ (((dec s p15).1 : Nat) : Int) ∧ (((dec s p15).1 : Nat) : Int) ≤ 57)) rfl rfl (r_notD (48 ≤ (((dec s p15).1 : Nat) : Int) ∧ (((dec s p15).1 : Nat) : Int) ≤ 57) rfl rfl) (fun hs39 => ?_) (fun hs39 => ?_)
      rotate_left
      · simp only [nz1, nz2, nz3]
        refine lvw 40 (.bool false) rfl rfl (run_mv rfl rfl) ?_
        simp only [nz1, nz2, nz3]
        refine lst_skip 41 rfl rfl ?_
        simp only [nz1, nz2, nz3]
        refine lst_skip 42 rfl rfl ?_
        simp only [nz1, nz2, nz3]
        refine lst_skip 43 rfl rfl ?_
        simp only [nz1, nz2, nz3]
        refine lvw 44 (.bool false) rfl rfl (run_pickf rfl rfl rfl) ?_
        simp only [nz1, nz2, nz3]
        refine lvw 45 (.bool false) rfl rfl (run_mv rfl rfl) ?_
        simp only [nz1, nz2, nz3]
        refine lst_skip 46 rfl rfl ?_
        simp only [nz1, nz2, nz3]
        refine lst_skip 47 rfl rfl ?_
        simp only [nz1, nz2, nz3]
        refine lst_skip 48 rfl rfl ?_
        simp only [nz1, nz2, nz3]
        refine lst_skip 49 rfl rfl ?_
        simp only [nz1, nz2, nz3]
        refine lst_skip 50 rfl rfl ?_
        simp only [nz1, nz2, nz3]
        refine lst_skip 51 rfl rfl ?_
        simp only [nz1, nz2, nz3]
        refine lvw 52 (.bool false) rfl rfl (run_pickf rfl rfl rfl) ?_
        simp only [nz1, nz2, nz3]
        refine wpList_nil ?_
        refine then_n (hK36 _ _ ?_)
        refine cond_f rfl ?_
        refine wp_skip ?_
        refine blk_n ?_
        refine then_n (hR23 _ _ _ ⟨k17, (nxp s p15), (fun qq => bif Nat.blt qq 24 then List.getD [u0 0, .int .i64 ((p15 : Nat) : Int), .int .i32 (((dec s p15).1 : Nat) : Int), .bool true, nxv s p15, .bool (decide (p15 < s.length)), .int .i64 ((p15 : Nat) : Int), .int .i32 (((dec s p15).1 : Nat) : Int), .int .i32 (((dec s p15).1 : Nat) : Int), .bool true, .bool true, undef, undef, .bool true, .bool true, undef, undef, .bool true, .bool true, undef, undef, .bool true, .bool true, undef] qq undef else List.getD [undef, .bool true, .int .i32 (((dec s p15).1 : Nat) : Int), .bool (decide (48 ≤ (((dec s p15).1 : Nat) : Int) ∧ (((dec s p15).1 : Nat) : Int) ≤ 57)), .bool false, .bool false, undef, undef, undef, .bool false, .bool false, undef, undef, undef, undef, undef, undef, .bool false] (qq - 24) undef), rfl, (by first | omega | (simp; omega) | (simp at *; omega)), (hi18.trans (show rcheck_m_b0 s (rcheck_m_l0 s k17) p15 = rcheck_m_l0 s k17 (nxp s p15) from by unfold rcheck_m_b0; rw [if_pos hc32, if_pos hs35, if_neg hs39] <;> rfl)), rfl, hm38⟩ ?_)
        omega
      simp only [nz1, nz2, nz3]
      refine lvw 40 (.bool true) rfl rfl (run_mv rfl rfl) ?_
      simp only [nz1, nz2, nz3]
      refine lvw 41 (.int .i32 (((dec s p15).1 : Nat) : Int)) rfl rfl (run_mv rfl rfl) ?_
      simp only [nz1, nz2, nz3]
      refine lst rfl (m_call hm38 42 (.bool ((rletter_m (((dec s p15).1 : Nat) : Int)))) rfl (run_rletter rfl rfl) (rletter_any (((dec s p15).1 : Nat) : Int)  _  ) (fun w40 (hm41 : Mm none (fun _ => True) w w40 [.itr g14 (tx s) (nxp s p15)]) => ?_))
      simp only [nz1, nz2, nz3]
      refine lvB 43 (!(rletter_m (((dec s p15).1 : Nat) : Int))) rfl rfl (r_not (rletter_m (((dec s p15).1 : Nat) : Int)) rfl rfl) (fun hs42 => ?_) (fun hs42 => ?_)
      rotate_left
      · simp only [nz1, nz2, nz3]
        refine lvw 44 (.bool false) rfl rfl (run_pick rfl rfl rfl) ?_
        simp only [nz1, nz2, nz3]
        refine lvw 45 (.bool false) rfl rfl (run_mv rfl rfl) ?_
        simp only [nz1, nz2, nz3]
        refine lst_skip 46 rfl rfl ?_
        simp only [nz1, nz2, nz3]
        refine lst_skip 47 rfl rfl ?_
        simp only [nz1, nz2, nz3]
        refine lst_skip 48 rfl rfl ?_
        simp only [nz1, nz2, nz3]
        refine lst_skip 49 rfl rfl ?_
        simp only [nz1, nz2, nz3]
        refine lst_skip 50 rfl rfl ?_
        simp only [nz1, nz2, nz3]
        refine lst_skip 51 rfl rfl ?_
        simp only [nz1, nz2, nz3]
        refine lvw 52 (.bool false) rfl rfl (run_pickf rfl rfl rfl) ?_
        simp only [nz1, nz2, nz3]
        refine wpList_nil ?_
        refine then_n (hK36 _ _ ?_)
        refine cond_f rfl ?_
        refine wp_skip ?_
        refine blk_n ?_
        refine then_n (hR23 _ _ _ ⟨k17, (nxp s p15), (fun qq => bif Nat.blt qq 24 then List.getD [u0 0, .int .i64 ((p15 : Nat) : Int), .int .i32 (((dec s p15).1 : Nat) : Int), .bool true, nxv s p15, .bool (decide (p15 < s.length)), .int .i64 ((p15 : Nat) : Int), .int .i32 (((dec s p15).1 : Nat) : Int), .int .i32 (((dec s p15).1 : Nat) : Int), .bool true, .bool true, undef, undef, .bool true, .bool true, undef, undef, .bool true, .bool true, undef, undef, .bool true, .bool true, undef] qq undef else List.getD [undef, .bool true, .int .i32 (((dec s p15).1 : Nat) : Int), .bool (decide (48 ≤ (((dec s p15).1 : Nat) : Int) ∧ (((dec s p15).1 : Nat) : Int) ≤ 57)), .bool true, .bool true, .int .i32 (((dec s p15).1 : Nat) : Int), .bool ((rletter_m (((dec s p15).1 : Nat) : Int))), .bool false, .bool false, .bool false, undef, undef, undef, undef, undef, undef, .bool false] (qq - 24) undef), rfl, (by first | omega | (simp; omega) | (simp at *; omega)), (hi18.trans (show rcheck_m_b0 s (rcheck_m_l0 s k17) p15 = rcheck_m_l0 s k17 (nxp s p15) from by unfold rcheck_m_b0; rw [if_pos hc32, if_pos hs35, if_pos hs39, if_neg hs42] <;> rfl)), rfl, hm41⟩ ?_)
        omega
      simp only [nz1, nz2, nz3]
      refine lvw 44 (.bool true) rfl rfl (run_pick rfl rfl rfl) ?_
      simp only [nz1, nz2, nz3]
      refine lvw 45 (.bool true) rfl rfl (run_mv rfl rfl) ?_
      simp only [nz1, nz2, nz3]
      refine lvw 46 (.bool true) rfl rfl (run_mv rfl rfl) ?_
      simp only [nz1, nz2, nz3]
      refine lvw 47 (.bool false) rfl rfl (r_not true rfl rfl) ?_
      simp only [nz1, nz2, nz3]
      refine lvw 48 (.bool false) rfl rfl (run_mv rfl rfl) ?_
      simp only [nz1, nz2, nz3]
      refine lvw 49 (.int .i64 ((p15 : Nat) : Int)) rfl rfl (run_mv rfl rfl) ?_
      simp only [nz1, nz2, nz3]
      refine lvw 50 (.bool (decide (p15 = 0))) rfl rfl (r_eql p15 0 rfl rfl rfl) ?_
      simp only [nz1, nz2, nz3]
      refine lvw 51 (.bool (decide (p15 = 0))) rfl rfl (run_pickf rfl rfl rfl) ?_
      simp only [nz1, nz2, nz3]
      refine lvw 52 (.bool (decide (p15 = 0))) rfl rfl (run_pick rfl rfl rfl) ?_
      simp only [nz1, nz2, nz3]
      refine wpList_nil ?_
      refine then_n (hK36 _ _ ?_)
      refine cond_d (p15 = 0) rfl (fun hc43 => ?_) (fun hc43 => ?_)
      rotate_left
      · refine wp_skip ?_
        refine blk_n ?_
        refine then_n (hR23 _ _ _ ⟨k17, (nxp s p15), (fun qq => bif Nat.blt qq 24 then List.getD [u0 0, .int .i64 ((p15 : Nat) : Int), .int .i32 (((dec s p15).1 : Nat) : Int), .bool true, nxv s p15, .bool (decide (p15 < s.length)), .int .i64 ((p15 : Nat) : Int), .int .i32 (((dec s p15).1 : Nat) : Int), .int .i32 (((dec s p15).1 : Nat) : Int), .bool true, .bool true, undef, undef, .bool true, .bool true, undef, undef, .bool true, .bool true, undef, undef, .bool true, .bool true, undef] qq undef else List.getD [undef, .bool true, .int .i32 (((dec s p15).1 : Nat) : Int), .bool (decide (48 ≤ (((dec s p15).1 : Nat) : Int) ∧ (((dec s p15).1 : Nat) : Int) ≤ 57)), .bool true, .bool true, .int .i32 (((dec s p15).1 : Nat) : Int), .bool ((rletter_m (((dec s p15).1 : Nat) : Int))), .bool true, .bool true, .bool true, .bool true, .bool false, .bool false, .int .i64 ((p15 : Nat) : Int), .bool (decide (p15 = 0)), .bool (decide (p15 = 0)), .bool (decide (p15 = 0))] (qq - 24) undef), rfl, (by first | omega | (simp; omega) | (simp at *; omega)), (hi18.trans (show rcheck_m_b0 s (rcheck_m_l0 s k17) p15 = rcheck_m_l0 s k17 (nxp s p15) from by unfold rcheck_m_b0; rw [if_pos hc32, if_pos hs35, if_pos hs39, if_pos hs42, if_neg hc43] <;> rfl)), rfl, hm41⟩ ?_)
        omega
      refine wp_seq_k (fun K44 hK44 => ?_)
      refine wp_region_lit ?_
      refine lvw 2 (.bool false) rfl rfl (run_as rfl rfl) ?_
      simp only [nz1, nz2, nz3]
      refine wpList_nil ?_
      refine then_n (hK44 _ _ ?_)
      refine wp_ret ?_
      refine blk_r ?_
      refine then_r ?_
      refine blk_r ?_
      refine then_r ?_
      refine then_r ?_
      have he45 : rcheck_m_l0 s ((s.length - 0) + 1) 0 = .inr false := (hi18.trans (show rcheck_m_b0 s (rcheck_m_l0 s k17) p15 = .inr false from by unfold rcheck_m_b0; rw [if_pos hc32, if_pos hs35, if_pos hs39, if_pos hs42, if_pos hc43] <;> rfl))
      have he46 : rcheck_m s = false := (show rcheck_m s = false from by unfold rcheck_m; rw [if_neg hs4, if_neg hc7, he45] <;> rfl)
      exact ⟨rfl, .bool false, res_t rfl rfl, ⟨by (rw [he46]; try rfl), hm41.below⟩⟩
    simp only [nz1, nz2, nz3]
    refine lvw 21 (.bool false) rfl rfl (run_mv rfl rfl) ?_
    simp only [nz1, nz2, nz3]
    refine lvw 22 (.int .i32 (((dec s p15).1 : Nat) : Int)) rfl rfl (run_mv rfl rfl) ?_
    simp only [nz1, nz2, nz3]
    refine lvb 23 ((dec s p15).1 = 45) rfl rfl (r_eql ((dec s p15).1) 45 rfl rfl rfl) (fun hs47 => ?_) (fun hs47 => ?_)
    · simp only [nz1, nz2, nz3]
      refine lvw 24 (.bool true) rfl rfl (run_pickf rfl rfl rfl) ?_
      simp only [nz1, nz2, nz3]
      refine lvw 25 (.bool true) rfl rfl (run_mv rfl rfl) ?_
      simp only [nz1, nz2, nz3]
      refine lst_skip 26 rfl rfl ?_
      simp only [nz1, nz2, nz3]
      refine lst_skip 27 rfl rfl ?_
      simp only [nz1, nz2, nz3]
      refine lvw 28 (.bool true) rfl rfl (run_pick rfl rfl rfl) ?_
      simp only [nz1, nz2, nz3]
      refine lvw 29 (.bool true) rfl rfl (run_mv rfl rfl) ?_
      simp only [nz1, nz2, nz3]
      refine lst_skip 30 rfl rfl ?_
      simp only [nz1, nz2, nz3]
      refine lst_skip 31 rfl rfl ?_
      simp only [nz1, nz2, nz3]
      refine lvw 32 (.bool true) rfl rfl (run_pick rfl rfl rfl) ?_
      simp only [nz1, nz2, nz3]
      refine lvw 33 (.bool true) rfl rfl (run_mv rfl rfl) ?_
      simp only [nz1, nz2, nz3]
      refine lst_skip 34 rfl rfl ?_
      simp only [nz1, nz2, nz3]
      refine lst_skip 35 rfl rfl ?_
      simp only [nz1, nz2, nz3]
      refine lvw 36 (.bool true) rfl rfl (run_pick rfl rfl rfl) ?_
      simp only [nz1, nz2, nz3]
      refine lvw 5 (.bool true) rfl rfl (run_as rfl rfl) ?_
      simp only [nz1, nz2, nz3]
      refine wpList_nil ?_
      refine then_n (hK34 _ _ ?_)
      refine wp_seq_k (fun K48 hK48 => ?_)
      refine wp_region_lit ?_
      refine lvw 37 (.int .i32 (((dec s p15).1 : Nat) : Int)) rfl rfl (run_mv rfl rfl) ?_
      simp only [nz1, nz2, nz3]
      refine lst rfl (m_call hm28 38 (.bool (decide (48 ≤ (((dec s p15).1 : Nat) : Int) ∧ (((dec s p15).1 : Nat) : Int) ≤ 57))) rfl (run_rdigit rfl rfl) (rdigd_any (((dec s p15).1 : Nat) : Int)  _  ) (fun w49 (hm50 : Mm none (fun _ => True) w w49 [.itr g14 (tx s) (nxp s p15)]) => ?_))
      simp only [nz1, nz2, nz3]
      refine lvb 39 (¬ (48 ≤ (((dec s p15).1 : Nat) : Int) ∧ (((dec s p15).1 : Nat) : Int) ≤ 57)) rfl rfl (r_notD (48 ≤ (((dec s p15).1 : Nat) : Int) ∧ (((dec s p15).1 : Nat) : Int) ≤ 57) rfl rfl) (fun hs51 => ?_) (fun hs51 => ?_)
      rotate_left
      · simp only [nz1, nz2, nz3]
        refine lvw 40 (.bool false) rfl rfl (run_mv rfl rfl) ?_
        simp only [nz1, nz2, nz3]
        refine lst_skip 41 rfl rfl ?_
        simp only [nz1, nz2, nz3]
        refine lst_skip 42 rfl rfl ?_
        simp only [nz1, nz2, nz3]
        refine lst_skip 43 rfl rfl ?_
        simp only [nz1, nz2, nz3]
        refine lvw 44 (.bool false) rfl rfl (run_pickf rfl rfl rfl) ?_
        simp only [nz1, nz2, nz3]
        refine lvw 45 (.bool false) rfl rfl (run_mv rfl rfl) ?_
        simp only [nz1, nz2, nz3]
        refine lst_skip 46 rfl rfl ?_
        simp only [nz1, nz2, nz3]
        refine lst_skip 47 rfl rfl ?_
        simp only [nz1, nz2, nz3]
        refine lst_skip 48 rfl rfl ?_
        simp only [nz1, nz2, nz3]
        refine lst_skip 49 rfl rfl ?_
        simp only [nz1, nz2, nz3]
        refine lst_skip 50 rfl rfl ?_
        simp only [nz1, nz2, nz3]
        refine lst_skip 51 rfl rfl ?_
        simp only [nz1, nz2, nz3]
        refine lvw 52 (.bool false) rfl rfl (run_pickf rfl rfl rfl) ?_
        simp only [nz1, nz2, nz3]
        refine wpList_nil ?_
        refine then_n (hK48 _ _ ?_)
        refine cond_f rfl ?_
        refine wp_skip ?_
        refine blk_n ?_
        refine then_n (hR23 _ _ _ ⟨k17, (nxp s p15), (fun qq => bif Nat.blt qq 24 then List.getD [u0 0, .int .i64 ((p15 : Nat) : Int), .int .i32 (((dec s p15).1 : Nat) : Int), .bool true, nxv s p15, .bool (decide (p15 < s.length)), .int .i64 ((p15 : Nat) : Int), .int .i32 (((dec s p15).1 : Nat) : Int), .int .i32 (((dec s p15).1 : Nat) : Int), .bool false, .bool false, .int .i32 (((dec s p15).1 : Nat) : Int), .bool true, .bool true, .bool true, undef, undef, .bool true, .bool true, undef, undef, .bool true, .bool true, undef] qq undef else List.getD [undef, .bool true, .int .i32 (((dec s p15).1 : Nat) : Int), .bool (decide (48 ≤ (((dec s p15).1 : Nat) : Int) ∧ (((dec s p15).1 : Nat) : Int) ≤ 57)), .bool false, .bool false, undef, undef, undef, .bool false, .bool false, undef, undef, undef, undef, undef, undef, .bool false] (qq - 24) undef), rfl, (by first | omega | (simp; omega) | (simp at *; omega)), (hi18.trans (show rcheck_m_b0 s (rcheck_m_l0 s k17) p15 = rcheck_m_l0 s k17 (nxp s p15) from by unfold rcheck_m_b0; rw [if_pos hc32, if_neg hs35, if_pos hs47, if_neg hs51] <;> rfl)), rfl, hm50⟩ ?_)
        omega
      simp only [nz1, nz2, nz3]
      refine lvw 40 (.bool true) rfl rfl (run_mv rfl rfl) ?_
      simp only [nz1, nz2, nz3]
      refine lvw 41 (.int .i32 (((dec s p15).1 : Nat) : Int)) rfl rfl (run_mv rfl rfl) ?_
      simp only [nz1, nz2, nz3]
      refine lst rfl (m_call hm50 42 (.bool ((rletter_m (((dec s p15).1 : Nat) : Int)))) rfl (run_rletter rfl rfl) (rletter_any (((dec s p15).1 : Nat) : Int)  _  ) (fun w52 (hm53 : Mm none (fun _ => True) w w52 [.itr g14 (tx s) (nxp s p15)]) => ?_))
      simp only [nz1, nz2, nz3]
      refine lvB 43 (!(rletter_m (((dec s p15).1 : Nat) : Int))) rfl rfl (r_not (rletter_m (((dec s p15).1 : Nat) : Int)) rfl rfl) (fun hs54 => ?_) (fun hs54 => ?_)
      rotate_left
      · simp only [nz1, nz2, nz3]
        refine lvw 44 (.bool false) rfl rfl (run_pick rfl rfl rfl) ?_
        simp only [nz1, nz2, nz3]
        refine lvw 45 (.bool false) rfl rfl (run_mv rfl rfl) ?_
        simp only [nz1, nz2, nz3]
        refine lst_skip 46 rfl rfl ?_
        simp only [nz1, nz2, nz3]
        refine lst_skip 47 rfl rfl ?_
        simp only [nz1, nz2, nz3]
        refine lst_skip 48 rfl rfl ?_
        simp only [nz1, nz2, nz3]
        refine lst_skip 49 rfl rfl ?_
        simp only [nz1, nz2, nz3]
        refine lst_skip 50 rfl rfl ?_
        simp only [nz1, nz2, nz3]
        refine lst_skip 51 rfl rfl ?_
        simp only [nz1, nz2, nz3]
        refine lvw 52 (.bool false) rfl rfl (run_pickf rfl rfl rfl) ?_
        simp only [nz1, nz2, nz3]
        refine wpList_nil ?_
        refine then_n (hK48 _ _ ?_)
        refine cond_f rfl ?_
        refine wp_skip ?_
        refine blk_n ?_
        refine then_n (hR23 _ _ _ ⟨k17, (nxp s p15), (fun qq => bif Nat.blt qq 24 then List.getD [u0 0, .int .i64 ((p15 : Nat) : Int), .int .i32 (((dec s p15).1 : Nat) : Int), .bool true, nxv s p15, .bool (decide (p15 < s.length)), .int .i64 ((p15 : Nat) : Int), .int .i32 (((dec s p15).1 : Nat) : Int), .int .i32 (((dec s p15).1 : Nat) : Int), .bool false, .bool false, .int .i32 (((dec s p15).1 : Nat) : Int), .bool true, .bool true, .bool true, undef, undef, .bool true, .bool true, undef, undef, .bool true, .bool true, undef] qq undef else List.getD [undef, .bool true, .int .i32 (((dec s p15).1 : Nat) : Int), .bool (decide (48 ≤ (((dec s p15).1 : Nat) : Int) ∧ (((dec s p15).1 : Nat) : Int) ≤ 57)), .bool true, .bool true, .int .i32 (((dec s p15).1 : Nat) : Int), .bool ((rletter_m (((dec s p15).1 : Nat) : Int))), .bool false, .bool false, .bool false, undef, undef, undef, undef, undef, undef, .bool false] (qq - 24) undef), rfl, (by first | omega | (simp; omega) | (simp at *; omega)), (hi18.trans (show rcheck_m_b0 s (rcheck_m_l0 s k17) p15 = rcheck_m_l0 s k17 (nxp s p15) from by unfold rcheck_m_b0; rw [if_pos hc32, if_neg hs35, if_pos hs47, if_pos hs51, if_neg hs54] <;> rfl)), rfl, hm53⟩ ?_)
        omega
      simp only [nz1, nz2, nz3]
      refine lvw 44 (.bool true) rfl rfl (run_pick rfl rfl rfl) ?_
      simp only [nz1, nz2, nz3]
      refine lvw 45 (.bool true) rfl rfl (run_mv rfl rfl) ?_
      simp only [nz1, nz2, nz3]
      refine lvw 46 (.bool true) rfl rfl (run_mv rfl rfl) ?_
      simp only [nz1, nz2, nz3]
      refine lvw 47 (.bool false) rfl rfl (r_not true rfl rfl) ?_
      simp only [nz1, nz2, nz3]
      refine lvw 48 (.bool false) rfl rfl (run_mv rfl rfl) ?_
      simp only [nz1, nz2, nz3]
      refine lvw 49 (.int .i64 ((p15 : Nat) : Int)) rfl rfl (run_mv rfl rfl) ?_
      simp only [nz1, nz2, nz3]
      refine lvw 50 (.bool (decide (p15 = 0))) rfl rfl (r_eql p15 0 rfl rfl rfl) ?_
      simp only [nz1, nz2, nz3]
      refine lvw 51 (.bool (decide (p15 = 0))) rfl rfl (run_pickf rfl rfl rfl) ?_
      simp only [nz1, nz2, nz3]
      refine lvw 52 (.bool (decide (p15 = 0))) rfl rfl (run_pick rfl rfl rfl) ?_
      simp only [nz1, nz2, nz3]
      refine wpList_nil ?_
      refine then_n (hK48 _ _ ?_)
      refine cond_d (p15 = 0) rfl (fun hc55 => ?_) (fun hc55 => ?_)
      rotate_left
      · refine wp_skip ?_
        refine blk_n ?_
        refine then_n (hR23 _ _ _ ⟨k17, (nxp s p15), (fun qq => bif Nat.blt qq 24 then List.getD [u0 0, .int .i64 ((p15 : Nat) : Int), .int .i32 (((dec s p15).1 : Nat) : Int), .bool true, nxv s p15, .bool (decide (p15 < s.length)), .int .i64 ((p15 : Nat) : Int), .int .i32 (((dec s p15).1 : Nat) : Int), .int .i32 (((dec s p15).1 : Nat) : Int), .bool false, .bool false, .int .i32 (((dec s p15).1 : Nat) : Int), .bool true, .bool true, .bool true, undef, undef, .bool true, .bool true, undef, undef, .bool true, .bool true, undef] qq undef else List.getD [undef, .bool true, .int .i32 (((dec s p15).1 : Nat) : Int), .bool (decide (48 ≤ (((dec s p15).1 : Nat) : Int) ∧ (((dec s p15).1 : Nat) : Int) ≤ 57)), .bool true, .bool true, .int .i32 (((dec s p15).1 : Nat) : Int), .bool ((rletter_m (((dec s p15).1 : Nat) : Int))), .bool true, .bool true, .bool true, .bool true, .bool false, .bool false, .int .i64 ((p15 : Nat) : Int), .bool (decide (p15 = 0)), .bool (decide (p15 = 0)), .bool (decide (p15 = 0))] (qq - 24) undef), rfl, (by first | omega | (simp; omega) | (simp at *; omega)), (hi18.trans (show rcheck_m_b0 s (rcheck_m_l0 s k17) p15 = rcheck_m_l0 s k17 (nxp s p15) from by unfold rcheck_m_b0; rw [if_pos hc32, if_neg hs35, if_pos hs47, if_pos hs51, if_pos hs54, if_neg hc55] <;> rfl)), rfl, hm53⟩ ?_)
        omega
      refine wp_seq_k (fun K56 hK56 => ?_)
      refine wp_region_lit ?_
      refine lvw 2 (.bool false) rfl rfl (run_as rfl rfl) ?_
      simp only [nz1, nz2, nz3]
      refine wpList_nil ?_
      refine then_n (hK56 _ _ ?_)
      refine wp_ret ?_
      refine blk_r ?_
      refine then_r ?_
      refine blk_r ?_
      refine then_r ?_
      refine then_r ?_
      have he57 : rcheck_m_l0 s ((s.length - 0) + 1) 0 = .inr false := (hi18.trans (show rcheck_m_b0 s (rcheck_m_l0 s k17) p15 = .inr false from by unfold rcheck_m_b0; rw [if_pos hc32, if_neg hs35, if_pos hs47, if_pos hs51, if_pos hs54, if_pos hc55] <;> rfl))
      have he58 : rcheck_m s = false := (show rcheck_m s = false from by unfold rcheck_m; rw [if_neg hs4, if_neg hc7, he57] <;> rfl)
      exact ⟨rfl, .bool false, res_t rfl rfl, ⟨by (rw [he58]; try rfl), hm53.below⟩⟩
    simp only [nz1, nz2, nz3]
    refine lvw 24 (.bool false) rfl rfl (run_pickf rfl rfl rfl) ?_
    simp only [nz1, nz2, nz3]
    refine lvw 25 (.bool false) rfl rfl (run_mv rfl rfl) ?_
    simp only [nz1, nz2, nz3]
    refine lvw 26 (.int .i32 (((dec s p15).1 : Nat) : Int)) rfl rfl (run_mv rfl rfl) ?_
    simp only [nz1, nz2, nz3]
    refine lvb 27 ((dec s p15).1 = 43) rfl rfl (r_eql ((dec s p15).1) 43 rfl rfl rfl) (fun hs59 => ?_) (fun hs59 => ?_)
    · simp only [nz1, nz2, nz3]
      refine lvw 28 (.bool true) rfl rfl (run_pickf rfl rfl rfl) ?_
      simp only [nz1, nz2, nz3]
      refine lvw 29 (.bool true) rfl rfl (run_mv rfl rfl) ?_
      simp only [nz1, nz2, nz3]
      refine lst_skip 30 rfl rfl ?_
      simp only [nz1, nz2, nz3]
      refine lst_skip 31 rfl rfl ?_
      simp only [nz1, nz2, nz3]
      refine lvw 32 (.bool true) rfl rfl (run_pick rfl rfl rfl) ?_
      simp only [nz1, nz2, nz3]
      refine lvw 33 (.bool true) rfl rfl (run_mv rfl rfl) ?_
      simp only [nz1, nz2, nz3]
      refine lst_skip 34 rfl rfl ?_
      simp only [nz1, nz2, nz3]
      refine lst_skip 35 rfl rfl ?_
      simp only [nz1, nz2, nz3]
      refine lvw 36 (.bool true) rfl rfl (run_pick rfl rfl rfl) ?_
      simp only [nz1, nz2, nz3]
      refine lvw 5 (.bool true) rfl rfl (run_as rfl rfl) ?_
      simp only [nz1, nz2, nz3]
      refine wpList_nil ?_
      refine then_n (hK34 _ _ ?_)
      refine wp_seq_k (fun K60 hK60 => ?_)
      refine wp_region_lit ?_
      refine lvw 37 (.int .i32 (((dec s p15).1 : Nat) : Int)) rfl rfl (run_mv rfl rfl) ?_
      simp only [nz1, nz2, nz3]
      refine lst rfl (m_call hm28 38 (.bool (decide (48 ≤ (((dec s p15).1 : Nat) : Int) ∧ (((dec s p15).1 : Nat) : Int) ≤ 57))) rfl (run_rdigit rfl rfl) (rdigd_any (((dec s p15).1 : Nat) : Int)  _  ) (fun w61 (hm62 : Mm none (fun _ => True) w w61 [.itr g14 (tx s) (nxp s p15)]) => ?_))
      simp only [nz1, nz2, nz3]
      refine lvb 39 (¬ (48 ≤ (((dec s p15).1 : Nat) : Int) ∧ (((dec s p15).1 : Nat) : Int) ≤ 57)) rfl rfl (r_notD (48 ≤ (((dec s p15).1 : Nat) : Int) ∧ (((dec s p15).1 : Nat) : Int) ≤ 57) rfl rfl) (fun hs63 => ?_) (fun hs63 => ?_)
      rotate_left
      · simp only [nz1, nz2, nz3]
        refine lvw 40 (.bool false) rfl rfl (run_mv rfl rfl) ?_
        simp only [nz1, nz2, nz3]
        refine lst_skip 41 rfl rfl ?_
        simp only [nz1, nz2, nz3]
        refine lst_skip 42 rfl rfl ?_
        simp only [nz1, nz2, nz3]
        refine lst_skip 43 rfl rfl ?_
        simp only [nz1, nz2, nz3]
        refine lvw 44 (.bool false) rfl rfl (run_pickf rfl rfl rfl) ?_
        simp only [nz1, nz2, nz3]
        refine lvw 45 (.bool false) rfl rfl (run_mv rfl rfl) ?_
        simp only [nz1, nz2, nz3]
        refine lst_skip 46 rfl rfl ?_
        simp only [nz1, nz2, nz3]
        refine lst_skip 47 rfl rfl ?_
        simp only [nz1, nz2, nz3]
        refine lst_skip 48 rfl rfl ?_
        simp only [nz1, nz2, nz3]
        refine lst_skip 49 rfl rfl ?_
        simp only [nz1, nz2, nz3]
        refine lst_skip 50 rfl rfl ?_
        simp only [nz1, nz2, nz3]
        refine lst_skip 51 rfl rfl ?_
        simp only [nz1, nz2, nz3]
        refine lvw 52 (.bool false) rfl rfl (run_pickf rfl rfl rfl) ?_
        simp only [nz1, nz2, nz3]
        refine wpList_nil ?_
        refine then_n (hK60 _ _ ?_)
        refine cond_f rfl ?_
        refine wp_skip ?_
        refine blk_n ?_
        refine then_n (hR23 _ _ _ ⟨k17, (nxp s p15), (fun qq => bif Nat.blt qq 24 then List.getD [u0 0, .int .i64 ((p15 : Nat) : Int), .int .i32 (((dec s p15).1 : Nat) : Int), .bool true, nxv s p15, .bool (decide (p15 < s.length)), .int .i64 ((p15 : Nat) : Int), .int .i32 (((dec s p15).1 : Nat) : Int), .int .i32 (((dec s p15).1 : Nat) : Int), .bool false, .bool false, .int .i32 (((dec s p15).1 : Nat) : Int), .bool false, .bool false, .bool false, .int .i32 (((dec s p15).1 : Nat) : Int), .bool true, .bool true, .bool true, undef, undef, .bool true, .bool true, undef] qq undef else List.getD [undef, .bool true, .int .i32 (((dec s p15).1 : Nat) : Int), .bool (decide (48 ≤ (((dec s p15).1 : Nat) : Int) ∧ (((dec s p15).1 : Nat) : Int) ≤ 57)), .bool false, .bool false, undef, undef, undef, .bool false, .bool false, undef, undef, undef, undef, undef, undef, .bool false] (qq - 24) undef), rfl, (by first | omega | (simp; omega) | (simp at *; omega)), (hi18.trans (show rcheck_m_b0 s (rcheck_m_l0 s k17) p15 = rcheck_m_l0 s k17 (nxp s p15) from by unfold rcheck_m_b0; rw [if_pos hc32, if_neg hs35, if_neg hs47, if_pos hs59, if_neg hs63] <;> rfl)), rfl, hm62⟩ ?_)
        omega
      simp only [nz1, nz2, nz3]
      refine lvw 40 (.bool true) rfl rfl (run_mv rfl rfl) ?_
      simp only [nz1, nz2, nz3]
      refine lvw 41 (.int .i32 (((dec s p15).1 : Nat) : Int)) rfl rfl (run_mv rfl rfl) ?_
      simp only [nz1, nz2, nz3]
      refine lst rfl (m_call hm62 42 (.bool ((rletter_m (((dec s p15).1 : Nat) : Int)))) rfl (run_rletter rfl rfl) (rletter_any (((dec s p15).1 : Nat) : Int)  _  ) (fun w64 (hm65 : Mm none (fun _ => True) w w64 [.itr g14 (tx s) (nxp s p15)]) => ?_))
      simp only [nz1, nz2, nz3]
      refine lvB 43 (!(rletter_m (((dec s p15).1 : Nat) : Int))) rfl rfl (r_not (rletter_m (((dec s p15).1 : Nat) : Int)) rfl rfl) (fun hs66 => ?_) (fun hs66 => ?_)
      rotate_left
      · simp only [nz1, nz2, nz3]
        refine lvw 44 (.bool false) rfl rfl (run_pick rfl rfl rfl) ?_
        simp only [nz1, nz2, nz3]
        refine lvw 45 (.bool false) rfl rfl (run_mv rfl rfl) ?_
        simp only [nz1, nz2, nz3]
        refine lst_skip 46 rfl rfl ?_
        simp only [nz1, nz2, nz3]
        refine lst_skip 47 rfl rfl ?_
        simp only [nz1, nz2, nz3]
        refine lst_skip 48 rfl rfl ?_
        simp only [nz1, nz2, nz3]
        refine lst_skip 49 rfl rfl ?_
        simp only [nz1, nz2, nz3]
        refine lst_skip 50 rfl rfl ?_
        simp only [nz1, nz2, nz3]
        refine lst_skip 51 rfl rfl ?_
        simp only [nz1, nz2, nz3]
        refine lvw 52 (.bool false) rfl rfl (run_pickf rfl rfl rfl) ?_
        simp only [nz1, nz2, nz3]
        refine wpList_nil ?_
        refine then_n (hK60 _ _ ?_)
        refine cond_f rfl ?_
        refine wp_skip ?_
        refine blk_n ?_
        refine then_n (hR23 _ _ _ ⟨k17, (nxp s p15), (fun qq => bif Nat.blt qq 24 then List.getD [u0 0, .int .i64 ((p15 : Nat) : Int), .int .i32 (((dec s p15).1 : Nat) : Int), .bool true, nxv s p15, .bool (decide (p15 < s.length)), .int .i64 ((p15 : Nat) : Int), .int .i32 (((dec s p15).1 : Nat) : Int), .int .i32 (((dec s p15).1 : Nat) : Int), .bool false, .bool false, .int .i32 (((dec s p15).1 : Nat) : Int), .bool false, .bool false, .bool false, .int .i32 (((dec s p15).1 : Nat) : Int), .bool true, .bool true, .bool true, undef, undef, .bool true, .bool true, undef] qq undef else List.getD [undef, .bool true, .int .i32 (((dec s p15).1 : Nat) : Int), .bool (decide (48 ≤ (((dec s p15).1 : Nat) : Int) ∧ (((dec s p15).1 : Nat) : Int) ≤ 57)), .bool true, .bool true, .int .i32 (((dec s p15).1 : Nat) : Int), .bool ((rletter_m (((dec s p15).1 : Nat) : Int))), .bool false, .bool false, .bool false, undef, undef, undef, undef, undef, undef, .bool false] (qq - 24) undef), rfl, (by first | omega | (simp; omega) | (simp at *; omega)), (hi18.trans (show rcheck_m_b0 s (rcheck_m_l0 s k17) p15 = rcheck_m_l0 s k17 (nxp s p15) from by unfold rcheck_m_b0; rw [if_pos hc32, if_neg hs35, if_neg hs47, if_pos hs59, if_pos hs63, if_neg hs66] <;> rfl)), rfl, hm65⟩ ?_)
        omega
      simp only [nz1, nz2, nz3]
      refine lvw 44 (.bool true) rfl rfl (run_pick rfl rfl rfl) ?_
      simp only [nz1, nz2, nz3]
      refine lvw 45 (.bool true) rfl rfl (run_mv rfl rfl) ?_
      simp only [nz1, nz2, nz3]
      refine lvw 46 (.bool true) rfl rfl (run_mv rfl rfl) ?_
      simp only [nz1, nz2, nz3]
      refine lvw 47 (.bool false) rfl rfl (r_not true rfl rfl) ?_
      simp only [nz1, nz2, nz3]
      refine lvw 48 (.bool false) rfl rfl (run_mv rfl rfl) ?_
      simp only [nz1, nz2, nz3]
      refine lvw 49 (.int .i64 ((p15 : Nat) : Int)) rfl rfl (run_mv rfl rfl) ?_
      simp only [nz1, nz2, nz3]
      refine lvw 50 (.bool (decide (p15 = 0))) rfl rfl (r_eql p15 0 rfl rfl rfl) ?_
      simp only [nz1, nz2, nz3]
      refine lvw 51 (.bool (decide (p15 = 0))) rfl rfl (run_pickf rfl rfl rfl) ?_
      simp only [nz1, nz2, nz3]
      refine lvw 52 (.bool (decide (p15 = 0))) rfl rfl (run_pick rfl rfl rfl) ?_
      simp only [nz1, nz2, nz3]
      refine wpList_nil ?_
      refine then_n (hK60 _ _ ?_)
      refine cond_d (p15 = 0) rfl (fun hc67 => ?_) (fun hc67 => ?_)
      rotate_left
      · refine wp_skip ?_
        refine blk_n ?_
        refine then_n (hR23 _ _ _ ⟨k17, (nxp s p15), (fun qq => bif Nat.blt qq 24 then List.getD [u0 0, .int .i64 ((p15 : Nat) : Int), .int .i32 (((dec s p15).1 : Nat) : Int), .bool true, nxv s p15, .bool (decide (p15 < s.length)), .int .i64 ((p15 : Nat) : Int), .int .i32 (((dec s p15).1 : Nat) : Int), .int .i32 (((dec s p15).1 : Nat) : Int), .bool false, .bool false, .int .i32 (((dec s p15).1 : Nat) : Int), .bool false, .bool false, .bool false, .int .i32 (((dec s p15).1 : Nat) : Int), .bool true, .bool true, .bool true, undef, undef, .bool true, .bool true, undef] qq undef else List.getD [undef, .bool true, .int .i32 (((dec s p15).1 : Nat) : Int), .bool (decide (48 ≤ (((dec s p15).1 : Nat) : Int) ∧ (((dec s p15).1 : Nat) : Int) ≤ 57)), .bool true, .bool true, .int .i32 (((dec s p15).1 : Nat) : Int), .bool ((rletter_m (((dec s p15).1 : Nat) : Int))), .bool true, .bool true, .bool true, .bool true, .bool false, .bool false, .int .i64 ((p15 : Nat) : Int), .bool (decide (p15 = 0)), .bool (decide (p15 = 0)), .bool (decide (p15 = 0))] (qq - 24) undef), rfl, (by first | omega | (simp; omega) | (simp at *; omega)), (hi18.trans (show rcheck_m_b0 s (rcheck_m_l0 s k17) p15 = rcheck_m_l0 s k17 (nxp s p15) from by unfold rcheck_m_b0; rw [if_pos hc32, if_neg hs35, if_neg hs47, if_pos hs59, if_pos hs63, if_pos hs66, if_neg hc67] <;> rfl)), rfl, hm65⟩ ?_)
        omega
      refine wp_seq_k (fun K68 hK68 => ?_)
      refine wp_region_lit ?_
      refine lvw 2 (.bool false) rfl rfl (run_as rfl rfl) ?_
      simp only [nz1, nz2, nz3]
      refine wpList_nil ?_
      refine then_n (hK68 _ _ ?_)
      refine wp_ret ?_
      refine blk_r ?_
      refine then_r ?_
      refine blk_r ?_
      refine then_r ?_
      refine then_r ?_
      have he69 : rcheck_m_l0 s ((s.length - 0) + 1) 0 = .inr false := (hi18.trans (show rcheck_m_b0 s (rcheck_m_l0 s k17) p15 = .inr false from by unfold rcheck_m_b0; rw [if_pos hc32, if_neg hs35, if_neg hs47, if_pos hs59, if_pos hs63, if_pos hs66, if_pos hc67] <;> rfl))
      have he70 : rcheck_m s = false := (show rcheck_m s = false from by unfold rcheck_m; rw [if_neg hs4, if_neg hc7, he69] <;> rfl)
      exact ⟨rfl, .bool false, res_t rfl rfl, ⟨by (rw [he70]; try rfl), hm65.below⟩⟩
    simp only [nz1, nz2, nz3]
    refine lvw 28 (.bool false) rfl rfl (run_pickf rfl rfl rfl) ?_
    simp only [nz1, nz2, nz3]
    refine lvw 29 (.bool false) rfl rfl (run_mv rfl rfl) ?_
    simp only [nz1, nz2, nz3]
    refine lvw 30 (.int .i32 (((dec s p15).1 : Nat) : Int)) rfl rfl (run_mv rfl rfl) ?_
    simp only [nz1, nz2, nz3]
    refine lvb 31 ((dec s p15).1 = 126) rfl rfl (r_eql ((dec s p15).1) 126 rfl rfl rfl) (fun hs71 => ?_) (fun hs71 => ?_)
    · simp only [nz1, nz2, nz3]
      refine lvw 32 (.bool true) rfl rfl (run_pickf rfl rfl rfl) ?_
      simp only [nz1, nz2, nz3]
      refine lvw 33 (.bool true) rfl rfl (run_mv rfl rfl) ?_
      simp only [nz1, nz2, nz3]
      refine lst_skip 34 rfl rfl ?_
      simp only [nz1, nz2, nz3]
      refine lst_skip 35 rfl rfl ?_
      simp only [nz1, nz2, nz3]
      refine lvw 36 (.bool true) rfl rfl (run_pick rfl rfl rfl) ?_
      simp only [nz1, nz2, nz3]
      refine lvw 5 (.bool true) rfl rfl (run_as rfl rfl) ?_
      simp only [nz1, nz2, nz3]
      refine wpList_nil ?_
      refine then_n (hK34 _ _ ?_)
      refine wp_seq_k (fun K72 hK72 => ?_)
      refine wp_region_lit ?_
      refine lvw 37 (.int .i32 (((dec s p15).1 : Nat) : Int)) rfl rfl (run_mv rfl rfl) ?_
      simp only [nz1, nz2, nz3]
      refine lst rfl (m_call hm28 38 (.bool (decide (48 ≤ (((dec s p15).1 : Nat) : Int) ∧ (((dec s p15).1 : Nat) : Int) ≤ 57))) rfl (run_rdigit rfl rfl) (rdigd_any (((dec s p15).1 : Nat) : Int)  _  ) (fun w73 (hm74 : Mm none (fun _ => True) w w73 [.itr g14 (tx s) (nxp s p15)]) => ?_))
      simp only [nz1, nz2, nz3]
      refine lvb 39 (¬ (48 ≤ (((dec s p15).1 : Nat) : Int) ∧ (((dec s p15).1 : Nat) : Int) ≤ 57)) rfl rfl (r_notD (48 ≤ (((dec s p15).1 : Nat) : Int) ∧ (((dec s p15).1 : Nat) : Int) ≤ 57) rfl rfl) (fun hs75 => ?_) (fun hs75 => ?_)
      rotate_left
      · simp only [nz1, nz2, nz3]
        refine lvw 40 (.bool false) rfl rfl (run_mv rfl rfl) ?_
        simp only [nz1, nz2, nz3]
        refine lst_skip 41 rfl rfl ?_
        simp only [nz1, nz2, nz3]
        refine lst_skip 42 rfl rfl ?_
        simp only [nz1, nz2, nz3]
        refine lst_skip 43 rfl rfl ?_
        simp only [nz1, nz2, nz3]
        refine lvw 44 (.bool false) rfl rfl (run_pickf rfl rfl rfl) ?_
        simp only [nz1, nz2, nz3]
        refine lvw 45 (.bool false) rfl rfl (run_mv rfl rfl) ?_
        simp only [nz1, nz2, nz3]
        refine lst_skip 46 rfl rfl ?_
        simp only [nz1, nz2, nz3]
        refine lst_skip 47 rfl rfl ?_
        simp only [nz1, nz2, nz3]
        refine lst_skip 48 rfl rfl ?_
        simp only [nz1, nz2, nz3]
        refine lst_skip 49 rfl rfl ?_
        simp only [nz1, nz2, nz3]
        refine lst_skip 50 rfl rfl ?_
        simp only [nz1, nz2, nz3]
        refine lst_skip 51 rfl rfl ?_
        simp only [nz1, nz2, nz3]
        refine lvw 52 (.bool false) rfl rfl (run_pickf rfl rfl rfl) ?_
        simp only [nz1, nz2, nz3]
        refine wpList_nil ?_
        refine then_n (hK72 _ _ ?_)
        refine cond_f rfl ?_
        refine wp_skip ?_
        refine blk_n ?_
        refine then_n (hR23 _ _ _ ⟨k17, (nxp s p15), (fun qq => bif Nat.blt qq 24 then List.getD [u0 0, .int .i64 ((p15 : Nat) : Int), .int .i32 (((dec s p15).1 : Nat) : Int), .bool true, nxv s p15, .bool (decide (p15 < s.length)), .int .i64 ((p15 : Nat) : Int), .int .i32 (((dec s p15).1 : Nat) : Int), .int .i32 (((dec s p15).1 : Nat) : Int), .bool false, .bool false, .int .i32 (((dec s p15).1 : Nat) : Int), .bool false, .bool false, .bool false, .int .i32 (((dec s p15).1 : Nat) : Int), .bool false, .bool false, .bool false, .int .i32 (((dec s p15).1 : Nat) : Int), .bool true, .bool true, .bool true, undef] qq undef else List.getD [undef, .bool true, .int .i32 (((dec s p15).1 : Nat) : Int), .bool (decide (48 ≤ (((dec s p15).1 : Nat) : Int) ∧ (((dec s p15).1 : Nat) : Int) ≤ 57)), .bool false, .bool false, undef, undef, undef, .bool false, .bool false, undef, undef, undef, undef, undef, undef, .bool false] (qq - 24) undef), rfl, (by first | omega | (simp; omega) | (simp at *; omega)), (hi18.trans (show rcheck_m_b0 s (rcheck_m_l0 s k17) p15 = rcheck_m_l0 s k17 (nxp s p15) from by unfold rcheck_m_b0; rw [if_pos hc32, if_neg hs35, if_neg hs47, if_neg hs59, if_pos hs71, if_neg hs75] <;> rfl)), rfl, hm74⟩ ?_)
        omega
      simp only [nz1, nz2, nz3]
      refine lvw 40 (.bool true) rfl rfl (run_mv rfl rfl) ?_
      simp only [nz1, nz2, nz3]
      refine lvw 41 (.int .i32 (((dec s p15).1 : Nat) : Int)) rfl rfl (run_mv rfl rfl) ?_
      simp only [nz1, nz2, nz3]
      refine lst rfl (m_call hm74 42 (.bool ((rletter_m (((dec s p15).1 : Nat) : Int)))) rfl (run_rletter rfl rfl) (rletter_any (((dec s p15).1 : Nat) : Int)  _  ) (fun w76 (hm77 : Mm none (fun _ => True) w w76 [.itr g14 (tx s) (nxp s p15)]) => ?_))
      simp only [nz1, nz2, nz3]
      refine lvB 43 (!(rletter_m (((dec s p15).1 : Nat) : Int))) rfl rfl (r_not (rletter_m (((dec s p15).1 : Nat) : Int)) rfl rfl) (fun hs78 => ?_) (fun hs78 => ?_)
      rotate_left
      · simp only [nz1, nz2, nz3]
        refine lvw 44 (.bool false) rfl rfl (run_pick rfl rfl rfl) ?_
        simp only [nz1, nz2, nz3]
        refine lvw 45 (.bool false) rfl rfl (run_mv rfl rfl) ?_
        simp only [nz1, nz2, nz3]
        refine lst_skip 46 rfl rfl ?_
        simp only [nz1, nz2, nz3]
        refine lst_skip 47 rfl rfl ?_
        simp only [nz1, nz2, nz3]
        refine lst_skip 48 rfl rfl ?_
        simp only [nz1, nz2, nz3]
        refine lst_skip 49 rfl rfl ?_
        simp only [nz1, nz2, nz3]
        refine lst_skip 50 rfl rfl ?_
        simp only [nz1, nz2, nz3]
        refine lst_skip 51 rfl rfl ?_
        simp only [nz1, nz2, nz3]
        refine lvw 52 (.bool false) rfl rfl (run_pickf rfl rfl rfl) ?_
        simp only [nz1, nz2, nz3]
        refine wpList_nil ?_
        refine then_n (hK72 _ _ ?_)
        refine cond_f rfl ?_
        refine wp_skip ?_
        refine blk_n ?_
        refine then_n (hR23 _ _ _ ⟨k17, (nxp s p15), (fun qq => bif Nat.blt qq 24 then List.getD [u0 0, .int .i64 ((p15 : Nat) : Int), .int .i32 (((dec s p15).1 : Nat) : Int), .bool true, nxv s p15, .bool (decide (p15 < s.length)), .int .i64 ((p15 : Nat) : Int), .int .i32 (((dec s p15).1 : Nat) : Int), .int .i32 (((dec s p15).1 : Nat) : Int), .bool false, .bool false, .int .i32 (((dec s p15).1 : Nat) : Int), .bool false, .bool false, .bool false, .int .i32 (((dec s p15).1 : Nat) : Int), .bool false, .bool false, .bool false, .int .i32 (((dec s p15).1 : Nat) : Int), .bool true, .bool true, .bool true, undef] qq undef else List.getD [undef, .bool true, .int .i32 (((dec s p15).1 : Nat) : Int), .bool (decide (48 ≤ (((dec s p15).1 : Nat) : Int) ∧ (((dec s p15).1 : Nat) : Int) ≤ 57)), .bool true, .bool true, .int .i32 (((dec s p15).1 : Nat) : Int), .bool ((rletter_m (((dec s p15).1 : Nat) : Int))), .bool false, .bool false, .bool false, undef, undef, undef, undef, undef, undef, .bool false] (qq - 24) undef), rfl, (by first | omega | (simp; omega) | (simp at *; omega)), (hi18.trans (show rcheck_m_b0 s (rcheck_m_l0 s k17) p15 = rcheck_m_l0 s k17 (nxp s p15) from by unfold rcheck_m_b0; rw [if_pos hc32, if_neg hs35, if_neg hs47, if_neg hs59, if_pos hs71, if_pos hs75, if_neg hs78] <;> rfl)), rfl, hm77⟩ ?_)
        omega
      simp only [nz1, nz2, nz3]
      refine lvw 44 (.bool true) rfl rfl (run_pick rfl rfl rfl) ?_
      simp only [nz1, nz2, nz3]
      refine lvw 45 (.bool true) rfl rfl (run_mv rfl rfl) ?_
      simp only [nz1, nz2, nz3]
      refine lvw 46 (.bool true) rfl rfl (run_mv rfl rfl) ?_
      simp only [nz1, nz2, nz3]
      refine lvw 47 (.bool false) rfl rfl (r_not true rfl rfl) ?_
      simp only [nz1, nz2, nz3]
      refine lvw 48 (.bool false) rfl rfl (run_mv rfl rfl) ?_
      simp only [nz1, nz2, nz3]
      refine lvw 49 (.int .i64 ((p15 : Nat) : Int)) rfl rfl (run_mv rfl rfl) ?_
      simp only [nz1, nz2, nz3]
      refine lvw 50 (.bool (decide (p15 = 0))) rfl rfl (r_eql p15 0 rfl rfl rfl) ?_
      simp only [nz1, nz2, nz3]
      refine lvw 51 (.bool (decide (p15 = 0))) rfl rfl (run_pickf rfl rfl rfl) ?_
      simp only [nz1, nz2, nz3]
      refine lvw 52 (.bool (decide (p15 = 0))) rfl rfl (run_pick rfl rfl rfl) ?_
      simp only [nz1, nz2, nz3]
      refine wpList_nil ?_
      refine then_n (hK72 _ _ ?_)
      refine cond_d (p15 = 0) rfl (fun hc79 => ?_) (fun hc79 => ?_)
      rotate_left
      · refine wp_skip ?_
        refine blk_n ?_
        refine then_n (hR23 _ _ _ ⟨k17, (nxp s p15), (fun qq => bif Nat.blt qq 24 then List.getD [u0 0, .int .i64 ((p15 : Nat) : Int), .int .i32 (((dec s p15).1 : Nat) : Int), .bool true, nxv s p15, .bool (decide (p15 < s.length)), .int .i64 ((p15 : Nat) : Int), .int .i32 (((dec s p15).1 : Nat) : Int), .int .i32 (((dec s p15).1 : Nat) : Int), .bool false, .bool false, .int .i32 (((dec s p15).1 : Nat) : Int), .bool false, .bool false, .bool false, .int .i32 (((dec s p15).1 : Nat) : Int), .bool false, .bool false, .bool false, .int .i32 (((dec s p15).1 : Nat) : Int), .bool true, .bool true, .bool true, undef] qq undef else List.getD [undef, .bool true, .int .i32 (((dec s p15).1 : Nat) : Int), .bool (decide (48 ≤ (((dec s p15).1 : Nat) : Int) ∧ (((dec s p15).1 : Nat) : Int) ≤ 57)), .bool true, .bool true, .int .i32 (((dec s p15).1 : Nat) : Int), .bool ((rletter_m (((dec s p15).1 : Nat) : Int))), .bool true, .bool true, .bool true, .bool true, .bool false, .bool false, .int .i64 ((p15 : Nat) : Int), .bool (decide (p15 = 0)), .bool (decide (p15 = 0)), .bool (decide (p15 = 0))] (qq - 24) undef), rfl, (by first | omega | (simp; omega) | (simp at *; omega)), (hi18.trans (show rcheck_m_b0 s (rcheck_m_l0 s k17) p15 = rcheck_m_l0 s k17 (nxp s p15) from by unfold rcheck_m_b0; rw [if_pos hc32, if_neg hs35, if_neg hs47, if_neg hs59, if_pos hs71, if_pos hs75, if_pos hs78, if_neg hc79] <;> rfl)), rfl, hm77⟩ ?_)
        omega
      refine wp_seq_k (fun K80 hK80 => ?_)
      refine wp_region_lit ?_
      refine lvw 2 (.bool false) rfl rfl (run_as rfl rfl) ?_
      simp only [nz1, nz2, nz3]
      refine wpList_nil ?_
      refine then_n (hK80 _ _ ?_)
      refine wp_ret ?_
      refine blk_r ?_
      refine then_r ?_
      refine blk_r ?_
      refine then_r ?_
      refine then_r ?_
      have he81 : rcheck_m_l0 s ((s.length - 0) + 1) 0 = .inr false := (hi18.trans (show rcheck_m_b0 s (rcheck_m_l0 s k17) p15 = .inr false from by unfold rcheck_m_b0; rw [if_pos hc32, if_neg hs35, if_neg hs47, if_neg hs59, if_pos hs71, if_pos hs75, if_pos hs78, if_pos hc79] <;> rfl))
      have he82 : rcheck_m s = false := (show rcheck_m s = false from by unfold rcheck_m; rw [if_neg hs4, if_neg hc7, he81] <;> rfl)
      exact ⟨rfl, .bool false, res_t rfl rfl, ⟨by (rw [he82]; try rfl), hm77.below⟩⟩
    simp only [nz1, nz2, nz3]
    refine lvw 32 (.bool false) rfl rfl (run_pickf rfl rfl rfl) ?_
    simp only [nz1, nz2, nz3]
    refine lvw 33 (.bool false) rfl rfl (run_mv rfl rfl) ?_
    simp only [nz1, nz2, nz3]
    refine lvw 34 (.int .i32 (((dec s p15).1 : Nat) : Int)) rfl rfl (run_mv rfl rfl) ?_
    simp only [nz1, nz2, nz3]
    refine lvw 35 (.bool (decide ((dec s p15).1 = 95))) rfl rfl (r_eql ((dec s p15).1) 95 rfl rfl rfl) ?_
    simp only [nz1, nz2, nz3]
    refine lvw 36 (.bool (decide ((dec s p15).1 = 95))) rfl rfl (run_pickf rfl rfl rfl) ?_
    simp only [nz1, nz2, nz3]
    refine lvw 5 (.bool (decide ((dec s p15).1 = 95))) rfl rfl (run_as rfl rfl) ?_
    simp only [nz1, nz2, nz3]
    refine wpList_nil ?_
    refine then_n (hK34 _ _ ?_)
    refine wp_seq_k (fun K83 hK83 => ?_)
    refine wp_region_lit ?_
    refine lvw 37 (.int .i32 (((dec s p15).1 : Nat) : Int)) rfl rfl (run_mv rfl rfl) ?_
    simp only [nz1, nz2, nz3]
    refine lst rfl (m_call hm28 38 (.bool (decide (48 ≤ (((dec s p15).1 : Nat) : Int) ∧ (((dec s p15).1 : Nat) : Int) ≤ 57))) rfl (run_rdigit rfl rfl) (rdigd_any (((dec s p15).1 : Nat) : Int)  _  ) (fun w84 (hm85 : Mm none (fun _ => True) w w84 [.itr g14 (tx s) (nxp s p15)]) => ?_))
    simp only [nz1, nz2, nz3]
    refine lvb 39 (¬ (48 ≤ (((dec s p15).1 : Nat) : Int) ∧ (((dec s p15).1 : Nat) : Int) ≤ 57)) rfl rfl (r_notD (48 ≤ (((dec s p15).1 : Nat) : Int) ∧ (((dec s p15).1 : Nat) : Int) ≤ 57) rfl rfl) (fun hs86 => ?_) (fun hs86 => ?_)
    rotate_left
    · simp only [nz1, nz2, nz3]
      refine lvw 40 (.bool false) rfl rfl (run_mv rfl rfl) ?_
      simp only [nz1, nz2, nz3]
      refine lst_skip 41 rfl rfl ?_
      simp only [nz1, nz2, nz3]
      refine lst_skip 42 rfl rfl ?_
      simp only [nz1, nz2, nz3]
      refine lst_skip 43 rfl rfl ?_
      simp only [nz1, nz2, nz3]
      refine lvw 44 (.bool false) rfl rfl (run_pickf rfl rfl rfl) ?_
      simp only [nz1, nz2, nz3]
      refine lvw 45 (.bool false) rfl rfl (run_mv rfl rfl) ?_
      simp only [nz1, nz2, nz3]
      refine lst_skip 46 rfl rfl ?_
      simp only [nz1, nz2, nz3]
      refine lst_skip 47 rfl rfl ?_
      simp only [nz1, nz2, nz3]
      refine lst_skip 48 rfl rfl ?_
      simp only [nz1, nz2, nz3]
      refine lst_skip 49 rfl rfl ?_
      simp only [nz1, nz2, nz3]
      refine lst_skip 50 rfl rfl ?_
      simp only [nz1, nz2, nz3]
      refine lst_skip 51 rfl rfl ?_
      simp only [nz1, nz2, nz3]
      refine lvw 52 (.bool false) rfl rfl (run_pickf rfl rfl rfl) ?_
      simp only [nz1, nz2, nz3]
      refine wpList_nil ?_
      refine then_n (hK83 _ _ ?_)
      refine cond_f rfl ?_
      refine wp_skip ?_
      refine blk_n ?_
      refine then_n (hR23 _ _ _ ⟨k17, (nxp s p15), (fun qq => bif Nat.blt qq 24 then List.getD [u0 0, .int .i64 ((p15 : Nat) : Int), .int .i32 (((dec s p15).1 : Nat) : Int), .bool (decide ((dec s p15).1 = 95)), nxv s p15, .bool (decide (p15 < s.length)), .int .i64 ((p15 : Nat) : Int), .int .i32 (((dec s p15).1 : Nat) : Int), .int .i32 (((dec s p15).1 : Nat) : Int), .bool false, .bool false, .int .i32 (((dec s p15).1 : Nat) : Int), .bool false, .bool false, .bool false, .int .i32 (((dec s p15).1 : Nat) : Int), .bool false, .bool false, .bool false, .int .i32 (((dec s p15).1 : Nat) : Int), .bool false, .bool false, .bool false, .int .i32 (((dec s p15).1 : Nat) : Int)] qq undef else List.getD [.bool (decide ((dec s p15).1 = 95)), .bool (decide ((dec s p15).1 = 95)), .int .i32 (((dec s p15).1 : Nat) : Int), .bool (decide (48 ≤ (((dec s p15).1 : Nat) : Int) ∧ (((dec s p15).1 : Nat) : Int) ≤ 57)), .bool false, .bool false, undef, undef, undef, .bool false, .bool false, undef, undef, undef, undef, undef, undef, .bool false] (qq - 24) undef), rfl, (by first | omega | (simp; omega) | (simp at *; omega)), (hi18.trans (show rcheck_m_b0 s (rcheck_m_l0 s k17) p15 = rcheck_m_l0 s k17 (nxp s p15) from by unfold rcheck_m_b0; rw [if_pos hc32, if_neg hs35, if_neg hs47, if_neg hs59, if_neg hs71, if_neg hs86] <;> rfl)), rfl, hm85⟩ ?_)
      omega
    simp only [nz1, nz2, nz3]
    refine lvw 40 (.bool true) rfl rfl (run_mv rfl rfl) ?_
    simp only [nz1, nz2, nz3]
    refine lvw 41 (.int .i32 (((dec s p15).1 : Nat) : Int)) rfl rfl (run_mv rfl rfl) ?_
    simp only [nz1, nz2, nz3]
    refine lst rfl (m_call hm85 42 (.bool ((rletter_m (((dec s p15).1 : Nat) : Int)))) rfl (run_rletter rfl rfl) (rletter_any (((dec s p15).1 : Nat) : Int)  _  ) (fun w87 (hm88 : Mm none (fun _ => True) w w87 [.itr g14 (tx s) (nxp s p15)]) => ?_))
    simp only [nz1, nz2, nz3]
    refine lvB 43 (!(rletter_m (((dec s p15).1 : Nat) : Int))) rfl rfl (r_not (rletter_m (((dec s p15).1 : Nat) : Int)) rfl rfl) (fun hs89 => ?_) (fun hs89 => ?_)
    rotate_left
    · simp only [nz1, nz2, nz3]
      refine lvw 44 (.bool false) rfl rfl (run_pick rfl rfl rfl) ?_
      simp only [nz1, nz2, nz3]
      refine lvw 45 (.bool false) rfl rfl (run_mv rfl rfl) ?_
      simp only [nz1, nz2, nz3]
      refine lst_skip 46 rfl rfl ?_
      simp only [nz1, nz2, nz3]
      refine lst_skip 47 rfl rfl ?_
      simp only [nz1, nz2, nz3]
      refine lst_skip 48 rfl rfl ?_
      simp only [nz1, nz2, nz3]
      refine lst_skip 49 rfl rfl ?_
      simp only [nz1, nz2, nz3]
      refine lst_skip 50 rfl rfl ?_
      simp only [nz1, nz2, nz3]
      refine lst_skip 51 rfl rfl ?_
      simp only [nz1, nz2, nz3]
      refine lvw 52 (.bool false) rfl rfl (run_pickf rfl rfl rfl) ?_
      simp only [nz1, nz2, nz3]
      refine wpList_nil ?_
      refine then_n (hK83 _ _ ?_)
      refine cond_f rfl ?_
      refine wp_skip ?_
      refine blk_n ?_
      refine then_n (hR23 _ _ _ ⟨k17, (nxp s p15), (fun qq => bif Nat.blt qq 24 then List.getD [u0 0, .int .i64 ((p15 : Nat) : Int), .int .i32 (((dec s p15).1 : Nat) : Int), .bool (decide ((dec s p15).1 = 95)), nxv s p15, .bool (decide (p15 < s.length)), .int .i64 ((p15 : Nat) : Int), .int .i32 (((dec s p15).1 : Nat) : Int), .int .i32 (((dec s p15).1 : Nat) : Int), .bool false, .bool false, .int .i32 (((dec s p15).1 : Nat) : Int), .bool false, .bool false, .bool false, .int .i32 (((dec s p15).1 : Nat) : Int), .bool false, .bool false, .bool false, .int .i32 (((dec s p15).1 : Nat) : Int), .bool false, .bool false, .bool false, .int .i32 (((dec s p15).1 : Nat) : Int)] qq undef else List.getD [.bool (decide ((dec s p15).1 = 95)), .bool (decide ((dec s p15).1 = 95)), .int .i32 (((dec s p15).1 : Nat) : Int), .bool (decide (48 ≤ (((dec s p15).1 : Nat) : Int) ∧ (((dec s p15).1 : Nat) : Int) ≤ 57)), .bool true, .bool true, .int .i32 (((dec s p15).1 : Nat) : Int), .bool ((rletter_m (((dec s p15).1 : Nat) : Int))), .bool false, .bool false, .bool false, undef, undef, undef, undef, undef, undef, .bool false] (qq - 24) undef), rfl, (by first | omega | (simp; omega) | (simp at *; omega)), (hi18.trans (show rcheck_m_b0 s (rcheck_m_l0 s k17) p15 = rcheck_m_l0 s k17 (nxp s p15) from by unfold rcheck_m_b0; rw [if_pos hc32, if_neg hs35, if_neg hs47, if_neg hs59, if_neg hs71, if_pos hs86, if_neg hs89] <;> rfl)), rfl, hm88⟩ ?_)
      omega
    simp only [nz1, nz2, nz3]
    refine lvw 44 (.bool true) rfl rfl (run_pick rfl rfl rfl) ?_
    simp only [nz1, nz2, nz3]
    refine lvw 45 (.bool true) rfl rfl (run_mv rfl rfl) ?_
    simp only [nz1, nz2, nz3]
    refine lvw 46 (.bool (decide ((dec s p15).1 = 95))) rfl rfl (run_mv rfl rfl) ?_
    simp only [nz1, nz2, nz3]
    refine lvb 47 (¬ ((dec s p15).1 = 95)) rfl rfl (r_notD ((dec s p15).1 = 95) rfl rfl) (fun hs90 => ?_) (fun hs90 => ?_)
    · simp only [nz1, nz2, nz3]
      refine lvw 48 (.bool true) rfl rfl (run_mv rfl rfl) ?_
      simp only [nz1, nz2, nz3]
      refine lst_skip 49 rfl rfl ?_
      simp only [nz1, nz2, nz3]
      refine lst_skip 50 rfl rfl ?_
      simp only [nz1, nz2, nz3]
      refine lvw 51 (.bool true) rfl rfl (run_pick rfl rfl rfl) ?_
      simp only [nz1, nz2, nz3]
      refine lvw 52 (.bool true) rfl rfl (run_pick rfl rfl rfl) ?_
      simp only [nz1, nz2, nz3]
      refine wpList_nil ?_
      refine then_n (hK83 _ _ ?_)
      refine cond_t rfl ?_
      refine wp_seq_k (fun K91 hK91 => ?_)
      refine wp_region_lit ?_
      refine lvw 2 (.bool false) rfl rfl (run_as rfl rfl) ?_
      simp only [nz1, nz2, nz3]
      refine wpList_nil ?_
      refine then_n (hK91 _ _ ?_)
      refine wp_ret ?_
      refine blk_r ?_
      refine then_r ?_
      refine blk_r ?_
      refine then_r ?_
      refine then_r ?_
      have he92 : rcheck_m_l0 s ((s.length - 0) + 1) 0 = .inr false := (hi18.trans (show rcheck_m_b0 s (rcheck_m_l0 s k17) p15 = .inr false from by unfold rcheck_m_b0; rw [if_pos hc32, if_neg hs35, if_neg hs47, if_neg hs59, if_neg hs71, if_pos hs86, if_pos hs89, if_pos hs90] <;> rfl))
      have he93 : rcheck_m s = false := (show rcheck_m s = false from by unfold rcheck_m; rw [if_neg hs4, if_neg hc7, he92] <;> rfl)
      exact ⟨rfl, .bool false, res_t rfl rfl, ⟨by (rw [he93]; try rfl), hm88.below⟩⟩
    simp only [nz1, nz2, nz3]
    refine lvw 48 (.bool false) rfl rfl (run_mv rfl rfl) ?_
    simp only [nz1, nz2, nz3]
    refine lvw 49 (.int .i64 ((p15 : Nat) : Int)) rfl rfl (run_mv rfl rfl) ?_
    simp only [nz1, nz2, nz3]
    refine lvw 50 (.bool (decide (p15 = 0))) rfl rfl (r_eql p15 0 rfl rfl rfl) ?_
    simp only [nz1, nz2, nz3]
    refine lvw 51 (.bool (decide (p15 = 0))) rfl rfl (run_pickf rfl rfl rfl) ?_
    simp only [nz1, nz2, nz3]
    refine lvw 52 (.bool (decide (p15 = 0))) rfl rfl (run_pick rfl rfl rfl) ?_
    simp only [nz1, nz2, nz3]
    refine wpList_nil ?_
    refine then_n (hK83 _ _ ?_)
    refine cond_d (p15 = 0) rfl (fun hc94 => ?_) (fun hc94 => ?_)
    rotate_left
    · refine wp_skip ?_
      refine blk_n ?_
      refine then_n (hR23 _ _ _ ⟨k17, (nxp s p15), (fun qq => bif Nat.blt qq 24 then List.getD [u0 0, .int .i64 ((p15 : Nat) : Int), .int .i32 (((dec s p15).1 : Nat) : Int), .bool (decide ((dec s p15).1 = 95)), nxv s p15, .bool (decide (p15 < s.length)), .int .i64 ((p15 : Nat) : Int), .int .i32 (((dec s p15).1 : Nat) : Int), .int .i32 (((dec s p15).1 : Nat) : Int), .bool false, .bool false, .int .i32 (((dec s p15).1 : Nat) : Int), .bool false, .bool false, .bool false, .int .i32 (((dec s p15).1 : Nat) : Int), .bool false, .bool false, .bool false, .int .i32 (((dec s p15).1 : Nat) : Int), .bool false, .bool false, .bool false, .int .i32 (((dec s p15).1 : Nat) : Int)] qq undef else List.getD [.bool (decide ((dec s p15).1 = 95)), .bool (decide ((dec s p15).1 = 95)), .int .i32 (((dec s p15).1 : Nat) : Int), .bool (decide (48 ≤ (((dec s p15).1 : Nat) : Int) ∧ (((dec s p15).1 : Nat) : Int) ≤ 57)), .bool true, .bool true, .int .i32 (((dec s p15).1 : Nat) : Int), .bool ((rletter_m (((dec s p15).1 : Nat) : Int))), .bool true, .bool true, .bool true, .bool (decide ((dec s p15).1 = 95)), .bool false, .bool false, .int .i64 ((p15 : Nat) : Int), .bool (decide (p15 = 0)), .bool (decide (p15 = 0)), .bool (decide (p15 = 0))] (qq - 24) undef), rfl, (by first | omega | (simp; omega) | (simp at *; omega)), (hi18.trans (show rcheck_m_b0 s (rcheck_m_l0 s k17) p15 = rcheck_m_l0 s k17 (nxp s p15) from by unfold rcheck_m_b0; rw [if_pos hc32, if_neg hs35, if_neg hs47, if_neg hs59, if_neg hs71, if_pos hs86, if_pos hs89, if_neg hs90, if_neg hc94] <;> rfl)), rfl, hm88⟩ ?_)
      omega
    refine wp_seq_k (fun K95 hK95 => ?_)
    refine wp_region_lit ?_
    refine lvw 2 (.bool false) rfl rfl (run_as rfl rfl) ?_
    simp only [nz1, nz2, nz3]
    refine wpList_nil ?_
    refine then_n (hK95 _ _ ?_)
    refine wp_ret ?_
    refine blk_r ?_
    refine then_r ?_
    refine blk_r ?_
    refine then_r ?_
    refine then_r ?_
    have he96 : rcheck_m_l0 s ((s.length - 0) + 1) 0 = .inr false := (hi18.trans (show rcheck_m_b0 s (rcheck_m_l0 s k17) p15 = .inr false from by unfold rcheck_m_b0; rw [if_pos hc32, if_neg hs35, if_neg hs47, if_neg hs59, if_neg hs71, if_pos hs86, if_pos hs89, if_neg hs90, if_pos hc94] <;> rfl))
    have he97 : rcheck_m s = false := (show rcheck_m s = false from by unfold rcheck_m; rw [if_neg hs4, if_neg hc7, he96] <;> rfl)
    exact ⟨rfl, .bool false, res_t rfl rfl, ⟨by (rw [he97]; try rfl), hm88.below⟩⟩
  rintro _ w98 ⟨y19, yu0, hx20, rfl, hm99⟩
  have hq100 : rcheck_m s = rcheck_m_k0 s y19 := (show rcheck_m s = rcheck_m_k0 s y19 from by unfold rcheck_m; rw [if_neg hs4, if_neg hc7, hx20] <;> rfl)
  refine then_n (hK10 _ _ ?_)
  refine wp_seq_k (fun K101 hK101 => ?_)
  refine wp_region_lit ?_
  refine lvw 2 (.bool true) rfl rfl (run_as rfl rfl) ?_
  simp only [nz1, nz2, nz3]
  refine wpList_nil ?_
  refine then_n (hK101 _ _ ?_)
  refine wp_ret ?_
  have he102 : rcheck_m s = true := (hq100.trans (show rcheck_m_k0 s y19 = true from by unfold rcheck_m_k0; rfl))
  exact ⟨rfl, .bool true, res_t rfl rfl, ⟨by (rw [he102]; try rfl), hm99.below⟩⟩
theorem run_rcheck {o : Oper} {a : Act} {w : World} {x0 : Operand} {v0 : Value} (ho : o.op = .call { callee := .value (.func 35), args := #[x0], argTypes := #[9] }) (h0 : a.eval x0 = v0) :
    (execOp a.eval o).run Tryd.prog w = .ok (.enter 35 #[v0]) w := by
  unfold execOp
  simp only [ho]
  have hf : a.eval (.func 35) = .func (.func 35) #[] #[] := rfl
  generalize a.eval = f at *
  go_simp
def rweight_m (r : Int) : Int :=
  if r = 126 then
    -1
  else
    if r = 0 then
      0
    else
      if 48 ≤ r ∧ r ≤ 57 then
        0
      else
        if (rletter_m r) = true then
          r
        else
          ((256 : Int) + r)

set_option maxHeartbeats 4000000 in
set_option maxRecDepth 100000 in
theorem rweight_any (r : Int) (w : World)  (hp0 : 0 ≤ r) (hp1 : r ≤ 1114111) : Calls Tryd.prog 39 #[.int .i32 (r)] w (fun e w' => e = .returned (.int .i64 ((rweight_m r))) ∧ Below w.heap.size w w') := by
  go_enter Tryd.func39, Tryd.ntmps39
  have hm00 := Mm.nil none (fun _ => True) w
  have hm0 := hm00
  refine wp_seq_k (fun K1 hK1 => ?_)
  refine wp_region_lit ?_
  refine lvw 2 (.int .i64 0) rfl rfl (run_as rfl rfl) ?_
  simp only [nz1, nz2, nz3]
  refine wpList_nil ?_
  refine then_n (hK1 _ _ ?_)
  refine wp_seq_k (fun K2 hK2 => ?_)
  refine wp_block ?_
  refine wp_seq_k (fun K3 hK3 => ?_)
  refine wp_region_lit ?_
  refine lvw 4 (.int .i32 (r)) rfl rfl (run_mv rfl rfl) ?_
  simp only [nz1, nz2, nz3]
  refine lvw 5 (.bool (decide (r = 126))) rfl rfl (z_eql r 126 rfl rfl rfl) ?_
  simp only [nz1, nz2, nz3]
  refine lvw 3 (.bool (decide (r = 126))) rfl rfl (run_as rfl rfl) ?_
  simp only [nz1, nz2, nz3]
  refine wpList_nil ?_
  refine then_n (hK3 _ _ ?_)
  refine cond_d (r = 126) rfl (fun hc4 => ?_) (fun hc4 => ?_)
  · refine wp_seq_k (fun K5 hK5 => ?_)
    refine wp_region_lit ?_
    refine lvw 2 (.int .i64 (-1)) rfl rfl (run_as rfl rfl) ?_
    simp only [nz1, nz2, nz3]
    refine wpList_nil ?_
    refine then_n (hK5 _ _ ?_)
    refine wp_ret ?_
    refine blk_r ?_
    refine then_r ?_
    have he6 : rweight_m r = -1 := (show rweight_m r = -1 from by unfold rweight_m; rw [if_pos hc4] <;> rfl)
    exact ⟨rfl, .int .i64 (-1), res_t rfl rfl, ⟨by (rw [he6]; try rfl), hm0.below⟩⟩
  refine wp_seq_k (fun K7 hK7 => ?_)
  refine wp_region_lit ?_
  refine lvw 7 (.int .i32 (r)) rfl rfl (run_mv rfl rfl) ?_
  simp only [nz1, nz2, nz3]
  refine lvb 8 (r = 0) rfl rfl (z_eql r 0 rfl rfl rfl) (fun hs8 => ?_) (fun hs8 => ?_)
  · simp only [nz1, nz2, nz3]
    refine lvw 9 (.bool true) rfl rfl (run_mv rfl rfl) ?_
    simp only [nz1, nz2, nz3]
    refine lst_skip 10 rfl rfl ?_
    simp only [nz1, nz2, nz3]
    refine lst_skip 11 rfl rfl ?_
    simp only [nz1, nz2, nz3]
    refine lvw 12 (.bool true) rfl rfl (run_pick rfl rfl rfl) ?_
    simp only [nz1, nz2, nz3]
    refine lvw 6 (.bool true) rfl rfl (run_as rfl rfl) ?_
    simp only [nz1, nz2, nz3]
    refine wpList_nil ?_
    refine then_n (hK7 _ _ ?_)
    refine cond_t rfl ?_
    refine wp_seq_k (fun K9 hK9 => ?_)
    refine wp_region_lit ?_
    refine lvw 2 (.int .i64 0) rfl rfl (run_as rfl rfl) ?_
    simp only [nz1, nz2, nz3]
    refine wpList_nil ?_
    refine then_n (hK9 _ _ ?_)
    refine wp_ret ?_
    refine blk_r ?_
    refine then_r ?_
    have he10 : rweight_m r = 0 := (show rweight_m r = 0 from by unfold rweight_m; rw [if_neg hc4, if_pos hs8] <;> rfl)
    exact ⟨rfl, .int .i64 0, res_t rfl rfl, ⟨by (rw [he10]; try rfl), hm0.below⟩⟩
  simp only [nz1, nz2, nz3]
  refine lvw 9 (.bool false) rfl rfl (run_mv rfl rfl) ?_
  simp only [nz1, nz2, nz3]
  refine lvw 10 (.int .i32 (r)) rfl rfl (run_mv rfl rfl) ?_
  simp only [nz1, nz2, nz3]
  refine lst rfl (m_call hm0 11 (.bool (decide (48 ≤ r ∧ r ≤ 57))) rfl (run_rdigit rfl rfl) (rdigd_any r  _  ) (fun w11 (hm12 : Mm none (fun _ => True) w w11 []) => ?_))
  simp only [nz1, nz2, nz3]
  refine lvw 12 (.bool (decide (48 ≤ r ∧ r ≤ 57))) rfl rfl (run_pickf rfl rfl rfl) ?_
  simp only [nz1, nz2, nz3]
  refine lvw 6 (.bool (decide (48 ≤ r ∧ r ≤ 57))) rfl rfl (run_as rfl rfl) ?_
  simp only [nz1, nz2, nz3]
  refine wpList_nil ?_
  refine then_n (hK7 _ _ ?_)
  refine cond_d (48 ≤ r ∧ r ≤ 57) rfl (fun hc13 => ?_) (fun hc13 => ?_)
  · refine wp_seq_k (fun K14 hK14 => ?_)
    refine wp_region_lit ?_
    refine lvw 2 (.int .i64 0) rfl rfl (run_as rfl rfl) ?_
    simp only [nz1, nz2, nz3]
    refine wpList_nil ?_
    refine then_n (hK14 _ _ ?_)
    refine wp_ret ?_
    refine blk_r ?_
    refine then_r ?_
    have he15 : rweight_m r = 0 := (show rweight_m r = 0 from by unfold rweight_m; rw [if_neg hc4, if_neg hs8, if_pos hc13] <;> rfl)
    exact ⟨rfl, .int .i64 0, res_t rfl rfl, ⟨by (rw [he15]; try rfl), hm12.below⟩⟩
  refine wp_seq_k (fun K16 hK16 => ?_)
  refine wp_region_lit ?_
  refine lvw 14 (.int .i32 (r)) rfl rfl (run_mv rfl rfl) ?_
  simp only [nz1, nz2, nz3]
  refine lst rfl (m_call hm12 15 (.bool ((rletter_m r))) rfl (run_rletter rfl rfl) (rletter_any r  _  ) (fun w17 (hm18 : Mm none (fun _ => True) w w17 []) => ?_))
  simp only [nz1, nz2, nz3]
  refine lvw 13 (.bool ((rletter_m r))) rfl rfl (run_as rfl rfl) ?_
  simp only [nz1, nz2, nz3]
  refine wpList_nil ?_
  refine then_n (hK16 _ _ ?_)
  refine cond_B (rletter_m r) rfl (fun hc19 => ?_) (fun hc19 => ?_)
  · refine wp_seq_k (fun K20 hK20 => ?_)
    refine wp_region_lit ?_
    refine lvw 16 (.int .i32 (r)) rfl rfl (run_mv rfl rfl) ?_
    simp only [nz1, nz2, nz3]
    refine lvw 17 (.int .i64 (r)) rfl rfl (z_conv (k' := .i64) r r some_21 Tryd.underlying3 (by rw [IntKind.wrap_i64]; omega) rfl rfl) ?_
    simp only [nz1, nz2, nz3]
    refine lvw 2 (.int .i64 (r)) rfl rfl (run_as rfl rfl) ?_
    simp only [nz1, nz2, nz3]
    refine wpList_nil ?_
    refine then_n (hK20 _ _ ?_)
    refine wp_ret ?_
    refine blk_r ?_
    refine then_r ?_
    have he21 : rweight_m r = r := (show rweight_m r = r from by unfold rweight_m; rw [if_neg hc4, if_neg hs8, if_neg hc13, if_pos hc19] <;> rfl)
    exact ⟨rfl, .int .i64 (r), res_t rfl rfl, ⟨by (rw [he21]; try rfl), hm18.below⟩⟩
  refine wp_skip ?_
  refine blk_n ?_
  refine then_n (hK2 _ _ ?_)
  refine wp_seq_k (fun K22 hK22 => ?_)
  refine wp_region_lit ?_
  refine lvw 18 (.int .i32 (r)) rfl rfl (run_mv rfl rfl) ?_
  simp only [nz1, nz2, nz3]
  refine lvw 19 (.int .i64 (r)) rfl rfl (z_conv (k' := .i64) r r some_21 Tryd.underlying3 (by rw [IntKind.wrap_i64]; omega) rfl rfl) ?_
  simp only [nz1, nz2, nz3]
  refine lvw 20 (.int .i64 (((256 : Int) + r))) rfl rfl (z_add (256 : Int) r _ (by rw [IntKind.wrap_i64]; omega) rfl rfl rfl) ?_
  simp only [nz1, nz2, nz3]
  refine lvw 2 (.int .i64 (((256 : Int) + r))) rfl rfl (run_as rfl rfl) ?_
  simp only [nz1, nz2, nz3]
  refine wpList_nil ?_
  refine then_n (hK22 _ _ ?_)
  refine wp_ret ?_
  have he23 : rweight_m r = ((256 : Int) + r) := (show rweight_m r = ((256 : Int) + r) from by unfold rweight_m; rw [if_neg hc4, if_neg hs8, if_neg hc13, if_neg hc19] <;> rfl)
  exact ⟨rfl, .int .i64 (((256 : Int) + r)), res_t rfl rfl, ⟨by (rw [he23]; try rfl), hm18.below⟩⟩
theorem run_rweight {o : Oper} {a : Act} {w : World} {x0 : Operand} {v0 : Value} (ho : o.op = .call { callee := .value (.func 39), args := #[x0], argTypes := #[21] }) (h0 : a.eval x0 = v0) :
    (execOp a.eval o).run Tryd.prog w = .ok (.enter 39 #[v0]) w := by
  unfold execOp
  simp only [ho]
  have hf : a.eval (.func 39) = .func (.func 39) #[] #[] := rfl
  generalize a.eval = f at *
  go_simp
def rat_m (l : List Int) (i : Int) : Int :=
  if i < ((l.length : Nat) : Int) then
    (l.getD i.toNat 0)
  else
    0

set_option maxHeartbeats 4000000 in
set_option maxRecDepth 100000 in
theorem rat_any (l : List Int) (i : Int) (lv0 : Value) (w : World) (hl : Rs eR 1 l lv0 w) (hp0 : 0 ≤ i) : Calls Tryd.prog 40 #[lv0, .int .i64 (i)] w (fun e w' => e = .returned (.int .i32 ((rat_m l i))) ∧ Below w.heap.size w w') := by
  go_enter Tryd.func40, Tryd.ntmps40
  have hm00 := Mm.nil none (fun _ => True) w
  obtain ⟨Fl, hm01⟩ : ∃ Fl, Mm none (fun _ => True) w w [.see (Rs eR 1 l lv0) Fl] := hm00.come (Rs.all hl)
  have hm0 := hm01
  refine wp_seq_k (fun K1 hK1 => ?_)
  refine wp_region_lit ?_
  refine lvw 4 (.int .i32 0) rfl rfl (run_as rfl rfl) ?_
  simp only [nz1, nz2, nz3]
  refine wpList_nil ?_
  refine then_n (hK1 _ _ ?_)
  refine wp_seq_k (fun K2 hK2 => ?_)
  refine wp_seq_k (fun K3 hK3 => ?_)
  refine wp_region_lit ?_
  refine lvw 5 (.int .i64 (i)) rfl rfl (run_mv rfl rfl) ?_
  simp only [nz1, nz2, nz3]
  refine lvw 6 (lv0) rfl rfl (run_mv rfl rfl) ?_
  simp only [nz1, nz2, nz3]
  refine lvw 7 (.int .i64 ((l.length : Nat) : Int)) rfl rfl (s_len ((hm0.see 0 rfl)) rfl Tryd.underlying53 rfl) ?_
  simp only [nz1, nz2, nz3]
  refine lvw 8 (.bool (decide (i < ((l.length : Nat) : Int)))) rfl rfl (z_lss i ((l.length : Nat) : Int) rfl rfl rfl) ?_
  simp only [nz1, nz2, nz3]
  refine wpList_nil ?_
  refine then_n (hK3 _ _ ?_)
  refine cond_d (i < ((l.length : Nat) : Int)) rfl (fun hc4 => ?_) (fun hc4 => ?_)
  rotate_left
  · refine wp_skip ?_
    refine then_n (hK2 _ _ ?_)
    refine wp_seq_k (fun K7 hK7 => ?_)
    refine wp_region_lit ?_
    refine lvw 4 (.int .i32 0) rfl rfl (run_as rfl rfl) ?_
    simp only [nz1, nz2, nz3]
    refine wpList_nil ?_
    refine then_n (hK7 _ _ ?_)
    refine wp_ret ?_
    have he8 : rat_m l i = 0 := (show rat_m l i = 0 from by unfold rat_m; rw [if_neg hc4] <;> rfl)
    exact ⟨rfl, .int .i32 0, res_t rfl rfl, ⟨by (rw [he8]; try rfl), hm0.below⟩⟩
  refine wp_seq_k (fun K5 hK5 => ?_)
  refine wp_region_lit ?_
  refine lvw 9 (lv0) rfl rfl (run_mv rfl rfl) ?_
  simp only [nz1, nz2, nz3]
  refine lvw 10 (.int .i64 (i)) rfl rfl (run_mv rfl rfl) ?_
  simp only [nz1, nz2, nz3]
  refine lvw 11 (.pointer (some ⟨(bk lv0), (po lv0 + i.toNat * 1), none⟩)) rfl rfl (r_ixvZ ((hm0.see 0 rfl)) i (by omega) (by omega) Tryd.underlying53 sz_21 rfl rfl rfl) ?_
  simp only [nz1, nz2, nz3]
  refine lvw 12 (.int .i32 ((l.getD i.toNat 0))) rfl rfl (r_cellw (Rs.cell ((hm0.see 0 rfl)) eR_len 0 i.toNat (by omega) 0 _ rfl) Tryd.underlying21 rfl rfl rfl) ?_
  simp only [nz1, nz2, nz3]
  refine lvw 4 (.int .i32 ((l.getD i.toNat 0))) rfl rfl (run_as rfl rfl) ?_
  simp only [nz1, nz2, nz3]
  refine wpList_nil ?_
  refine then_n (hK5 _ _ ?_)
  refine wp_ret ?_
  refine then_r ?_
  have he6 : rat_m l i = (l.getD i.toNat 0) := (show rat_m l i = (l.getD i.toNat 0) from by unfold rat_m; rw [if_pos hc4] <;> rfl)
  exact ⟨rfl, .int .i32 ((l.getD i.toNat 0)), res_t rfl rfl, ⟨by (rw [he6]; try rfl), hm0.below⟩⟩
theorem run_rat {o : Oper} {a : Act} {w : World} {x0 x1 : Operand} {v0 v1 : Value} (ho : o.op = .call { callee := .value (.func 40), args := #[x0, x1], argTypes := #[53, 3] }) (h0 : a.eval x0 = v0) (h1 : a.eval x1 = v1) :
    (execOp a.eval o).run Tryd.prog w = .ok (.enter 40 #[v0, v1]) w := by
  unfold execOp
  simp only [ho]
  have hf : a.eval (.func 40) = .func (.func 40) #[] #[] := rfl
  generalize a.eval = f at *
  go_simp
theorem rat_is (l : List Int) (i : Int) : (i < ((l.length : Nat) : Int) ∧ rat_m l i = l.getD i.toNat 0) ∨ (((l.length : Nat) : Int) ≤ i ∧ rat_m l i = 0) := by
  unfold rat_m
  by_cases h : i < ((l.length : Nat) : Int)
  · exact .inl ⟨h, if_pos h⟩
  · exact .inr ⟨by omega, if_neg h⟩
def rrunes_m_b0 (s : List UInt8) (rec : Nat × (List Int) → Sum (Nat × (List Int)) ((List Int))) (p10 : Nat) (l11 : List Int) : Sum (Nat × (List Int)) ((List Int)) :=
  if p10 < s.length then
    rec ((nxp s p10), (l11 ++ [(((dec s p10).1 : Nat) : Int)]))
  else
    .inl ((nxp s p10), l11)
def rrunes_m_l0 (s : List UInt8) : Nat → Nat × (List Int) → Sum (Nat × (List Int)) ((List Int))
  | 0, zz => .inl zz
  | nq + 1, zz => rrunes_m_b0 s (rrunes_m_l0 s nq) zz.1 zz.2

def rrunes_m_k0 (s : List UInt8) (y16 : Nat) (y17 : List Int) : (List Int) :=
  y17

def rrunes_m (s : List UInt8) : (List Int) :=
  fin (rrunes_m_l0 s ((s.length - 0) + 1) (0, ([] : List Int))) (fun r => r) (fun zz => rrunes_m_k0 s zz.1 zz.2)

set_option maxHeartbeats 4000000 in
set_option maxRecDepth 100000 in
theorem rrunes_any (s : List UInt8) (w : World)  (hp0 : s.length ≤ 1000) : Calls Tryd.prog 37 #[.string (tx s)] w (fun e w' => (∃ v, e = .returned v ∧ ∃ o0 : Value, v = o0 ∧ w'.ownsRow w.heap.size 21 1 o0 (rrunes_m s).length ((rrunes_m s).flatMap eR)) ∧ Below w.heap.size w w') := by
  go_enter Tryd.func37, Tryd.ntmps37
  have hm00 := Mm.nil none (fun _ => True) w
  have hm0 := hm00
  refine wp_seq_k (fun K1 hK1 => ?_)
  refine wp_region_lit ?_
  refine lvw 2 (.slice none 0 0) rfl rfl (run_as rfl rfl) ?_
  simp only [nz1, nz2, nz3]
  refine wpList_nil ?_
  refine then_n (hK1 _ _ ?_)
  refine wp_seq_k (fun K2 hK2 => ?_)
  refine wp_region_lit ?_
  refine lvw 3 (.slice none 0 0) rfl rfl (run_as rfl rfl) ?_
  simp only [nz1, nz2, nz3]
  refine wpList_nil ?_
  refine then_n (hK2 _ _ ?_)
  refine wp_seq_k (fun K3 hK3 => ?_)
  refine wp_seq_k (fun K4 hK4 => ?_)
  refine wp_region_lit ?_
  refine lvw 6 (.string (tx s)) rfl rfl (run_mv rfl rfl) ?_
  simp only [nz1, nz2, nz3]
  refine lst rfl (m_range s hm0 7 rfl rfl Tryd.underlying9 rfl (fun g7 w5 (hm6 : Mm none (fun _ => True) w w5 [.itr g7 (tx s) 0]) => ?_))
  simp only [nz1, nz2, nz3]
  refine wpList_nil ?_
  refine then_n (hK4 _ _ ?_)
  have hm9 : Mm none (fun _ => True) w w5 [.itr g7 (tx s) 0, .row (.slice none 0 0) ([] : List Int).length (([] : List Int).flatMap eR) 21 1] := hm6.nilrow 21 1
  refine wp_cutK (fun a' w' => ∃ (y16 : Nat) (y17 : List Int) (v18 : Value) (yu0 : Nat → Value), rrunes_m_l0 s ((s.length - 0) + 1) (0, ([] : List Int)) = .inl (y16, y17) ∧ (y17.length ≤ y16 ∧ y16 ≤ s.length) ∧ a' = ⟨#[.string (tx s), undef, .slice none 0 0, v18, undef, yu0 0, .string (tx s), .pointer (some ⟨g7, 0, none⟩), yu0 1, yu0 2, yu0 3, yu0 4, yu0 5, yu0 6, yu0 7, undef], []⟩ ∧ Mm none (fun _ => True) w w' [.itr g7 (tx s) y16, .row v18 y17.length (y17.flatMap eR) 21 1]) ?_ ?_
  · refine wp_block ?_
    refine wp_loop_n (fun n' a' w' => ∃ (n13 : Nat) (p10 : Nat) (l11 : List Int) (v12 : Value) (u0 : Nat → Value), n' = n13 ∧ (s.length - p10) < n13 ∧ rrunes_m_l0 s ((s.length - 0) + 1) (0, ([] : List Int)) = rrunes_m_l0 s n13 (p10, l11) ∧ (l11.length ≤ p10 ∧ p10 ≤ s.length) ∧ a' = ⟨#[.string (tx s), undef, .slice none 0 0, v12, undef, u0 0, .string (tx s), .pointer (some ⟨g7, 0, none⟩), u0 1, u0 2, u0 3, u0 4, u0 5, u0 6, u0 7, undef], []⟩ ∧ Mm none (fun _ => True) w w' [.itr g7 (tx s) p10, .row v12 l11.length (l11.flatMap eR) 21 1]) ⟨((s.length - 0) + 1), 0, ([] : List Int), .slice none 0 0, (fun qq => List.getD [undef, undef, undef, undef, undef, undef, undef, undef] qq undef), rfl, Nat.lt_succ_self _, rfl, (by first | omega | (simp; done) | (simp; omega) | (simp at *; omega)), rfl, hm9⟩ ?_
    rintro n13 _ w20 ⟨_, p10, l11, v12, u0, rfl, hl24, hi15, hwl, rfl, hm21⟩ R22 hR22
    obtain ⟨k14, rfl⟩ : ∃ k, n13 = k + 1 := ⟨n13 - 1, by omega⟩
    refine wp_seq_k (fun K25 hK25 => ?_)
    refine wp_region_lit ?_
    have hf28 : (p10 < s.length ∧ p10 < nxp s p10 ∧ nxp s p10 ≤ p10 + 4 ∧ nxp s p10 ≤ s.length) ∨ (s.length ≤ p10 ∧ nxp s p10 = p10) := nxp_or s p10
    have hf29 : (dec s p10).1 ≤ 1114111 := dec_max s p10
    refine lst rfl (m_next s 0 hm21 rfl 8 rfl rfl rfl (fun w26 (hm27 : Mm none (fun _ => True) w w26 [.itr g7 (tx s) (nxp s p10), .row v12 l11.length (l11.flatMap eR) 21 1]) => ?_))
    simp only [nz1, nz2, nz3]
    refine lvw 9 (.bool (decide (p10 < s.length))) rfl rfl (r_ext0 s p10 rfl rfl) ?_
    simp only [nz1, nz2, nz3]
    refine wpList_nil ?_
    refine then_n (hK25 _ _ ?_)
    refine wp_seq_k (fun K30 hK30 => ?_)
    refine cond_d (p10 < s.length) rfl (fun hc31 => ?_) (fun hc31 => ?_)
    rotate_left
    · refine wp_exit ?_
      refine then_x ?_
      refine then_x ?_
      refine blk_x ?_
      refine then_n ?_
      exact ⟨(nxp s p10), l11, v12, (fun qq => List.getD [u0 0, nxv s p10, .bool (decide (p10 < s.length)), u0 3, u0 4, u0 5, u0 6, u0 7] qq undef), (hi15.trans (show rrunes_m_b0 s (rrunes_m_l0 s k14) p10 l11 = .inl ((nxp s p10), l11) from by unfold rrunes_m_b0; rw [if_neg hc31] <;> rfl)), (by first | omega | (simp; done) | (simp; omega) | (simp at *; omega)), rfl, hm27⟩
    refine wp_skip ?_
    refine then_n (hK30 _ _ ?_)
    refine wp_block ?_
    refine wp_seq_k (fun K32 hK32 => ?_)
    refine wp_region_lit ?_
    refine lvw 10 (.int .i32 (((dec s p10).1 : Nat) : Int)) rfl rfl (r_ext2 (s := s) (i := p10) (by first | assumption | omega) rfl rfl) ?_
    simp only [nz1, nz2, nz3]
    refine lvw 5 (.int .i32 (((dec s p10).1 : Nat) : Int)) rfl rfl (run_as rfl rfl) ?_
    simp only [nz1, nz2, nz3]
    refine wpList_nil ?_
    refine then_n (hK32 _ _ ?_)
    refine wp_region_lit ?_
    refine lvw 11 (v12) rfl rfl (run_mv rfl rfl) ?_
    simp only [nz1, nz2, nz3]
    refine lvw 12 (.int .i32 (((dec s p10).1 : Nat) : Int)) rfl rfl (run_mv rfl rfl) ?_
    simp only [nz1, nz2, nz3]
    refine lst rfl (m_make (c := #[.int .i32 (((dec s p10).1 : Nat) : Int)]) (T := 21) (fun g => .slice (some ⟨g, 0, none⟩) 1 1) hm27 13 rfl (by unfold execOp; go_simp; try rfl) (fun g35 w33 (hm34 : Mm none (fun _ => True) w w33 [.itr g7 (tx s) (nxp s p10), .row v12 l11.length (l11.flatMap eR) 21 1, .blk g35 #[.int .i32 (((dec s p10).1 : Nat) : Int)] 21]) => ?_))
    simp only [nz1, nz2, nz3]
    obtain ⟨iq, hiq, hz1, hz2, hz3⟩ := inf_21
    refine lst rfl (m_appendR 1 (l := l11) (l2 := [(((dec s p10).1 : Nat) : Int)]) iq _ _ _ (.slice (some ⟨g35, 0, none⟩) 1 1) hm34 rfl 14 rfl rfl Tryd.underlying53 hiq hz1 hz2 hz3 eR_len eR_one rfl (by decide) rfl rfl (Rs.blk (l := [(((dec s p10).1 : Nat) : Int)]) (hm34.at 2 rfl) rfl rfl eR_len (Nat.le_refl _)) (by first | omega | (simp; omega)) (by first | omega | (simp; omega)) (fun v38 w36 (hm37 : Mm none (fun _ => True) w w36 [.itr g7 (tx s) (nxp s p10), .row v38 (l11 ++ [(((dec s p10).1 : Nat) : Int)]).length ((l11 ++ [(((dec s p10).1 : Nat) : Int)]).flatMap eR) 21 1, .blk g35 #[.int .i32 (((dec s p10).1 : Nat) : Int)] 21]) => ?_))
    simp only [nz1, nz2, nz3]
    refine lvw 3 (v38) rfl rfl (run_as rfl rfl) ?_
    simp only [nz1, nz2, nz3]
    refine wpList_nil ?_
    refine blk_n ?_
    refine then_n (hR22 _ _ _ ⟨k14, (nxp s p10), (l11 ++ [(((dec s p10).1 : Nat) : Int)]), v38, (fun qq => List.getD [.int .i32 (((dec s p10).1 : Nat) : Int), nxv s p10, .bool (decide (p10 < s.length)), .int .i32 (((dec s p10).1 : Nat) : Int), v12, .int .i32 (((dec s p10).1 : Nat) : Int), .slice (some ⟨g35, 0, none⟩) 1 1, v38] qq undef), rfl, (by first | omega | (simp; omega) | (simp at *; omega)), (hi15.trans (show rrunes_m_b0 s (rrunes_m_l0 s k14) p10 l11 = rrunes_m_l0 s k14 ((nxp s p10), (l11 ++ [(((dec s p10).1 : Nat) : Int)])) from by unfold rrunes_m_b0; rw [if_pos hc31] <;> rfl)), (by first | omega | (simp; done) | (simp; omega) | (simp at *; omega)), rfl, (Mm.reorder hm37 [0, 1] (by decide) rfl)⟩ ?_)
    omega
  rintro _ w39 ⟨y16, y17, v18, yu0, hx19, hwl, rfl, hm40⟩
  have hq41 : rrunes_m s = rrunes_m_k0 s y16 y17 := (show rrunes_m s = rrunes_m_k0 s y16 y17 from by unfold rrunes_m; rw [hx19] <;> rfl)
  refine then_n (hK3 _ _ ?_)
  refine wp_seq_k (fun K42 hK42 => ?_)
  refine wp_region_lit ?_
  refine lvw 15 (v18) rfl rfl (run_mv rfl rfl) ?_
  simp only [nz1, nz2, nz3]
  refine lvw 2 (v18) rfl rfl (run_as rfl rfl) ?_
  simp only [nz1, nz2, nz3]
  refine wpList_nil ?_
  refine then_n (hK42 _ _ ?_)
  refine wp_ret ?_
  have he43 : rrunes_m s = y17 := (hq41.trans (show rrunes_m_k0 s y16 y17 = y17 from by unfold rrunes_m_k0; rfl))
  exact ⟨rfl, v18, res_t rfl rfl, ⟨⟨_, rfl, v18, (by first | rfl | rw [he43]), by rw [he43]; exact hm40.gives 1 rfl⟩, hm40.below⟩⟩
theorem run_rrunes {o : Oper} {a : Act} {w : World} {x0 : Operand} {v0 : Value} (ho : o.op = .call { callee := .value (.func 37), args := #[x0], argTypes := #[9] }) (h0 : a.eval x0 = v0) :
    (execOp a.eval o).run Tryd.prog w = .ok (.enter 37 #[v0]) w := by
  unfold execOp
  simp only [ho]
  have hf : a.eval (.func 37) = .func (.func 37) #[] #[] := rfl
  generalize a.eval = f at *
  go_simp
def rplain_m (a : List UInt8) (b : List UInt8) : Int :=
  if (lt' a b) = true then
    -1
  else
    if (!lt' a b && !decide (a = b)) = true then
      1
    else
      0

set_option maxHeartbeats 4000000 in
set_option maxRecDepth 100000 in
theorem rplain_any (a : List UInt8) (b : List UInt8) (w : World)   : Calls Tryd.prog 36 #[.string (tx a), .string (tx b)] w (fun e w' => e = .returned (.int .i64 ((rplain_m a b))) ∧ Below w.heap.size w w') := by
  go_enter Tryd.func36, Tryd.ntmps36
  have hm00 := Mm.nil none (fun _ => True) w
  have hm0 := hm00
  refine wp_seq_k (fun K1 hK1 => ?_)
  refine wp_region_lit ?_
  refine lvw 4 (.int .i64 0) rfl rfl (run_as rfl rfl) ?_
  simp only [nz1, nz2, nz3]
  refine wpList_nil ?_
  refine then_n (hK1 _ _ ?_)
  refine wp_seq_k (fun K2 hK2 => ?_)
  refine wp_block ?_
  refine wp_seq_k (fun K3 hK3 => ?_)
  refine wp_region_lit ?_
  refine lvw 6 (.string (tx a)) rfl rfl (run_mv rfl rfl) ?_
  simp only [nz1, nz2, nz3]
  refine lvw 7 (.string (tx b)) rfl rfl (run_mv rfl rfl) ?_
  simp only [nz1, nz2, nz3]
  refine lvw 8 (.bool (lt' a b)) rfl rfl (t_lss a b rfl rfl rfl) ?_
  simp only [nz1, nz2, nz3]
  refine lvw 5 (.bool (lt' a b)) rfl rfl (run_as rfl rfl) ?_
  simp only [nz1, nz2, nz3]
  refine wpList_nil ?_
  refine then_n (hK3 _ _ ?_)
  refine cond_B (lt' a b) rfl (fun hc4 => ?_) (fun hc4 => ?_)
  · refine wp_seq_k (fun K5 hK5 => ?_)
    refine wp_region_lit ?_
    refine lvw 4 (.int .i64 (-1)) rfl rfl (run_as rfl rfl) ?_
    simp only [nz1, nz2, nz3]
    refine wpList_nil ?_
    refine then_n (hK5 _ _ ?_)
    refine wp_ret ?_
    refine blk_r ?_
    refine then_r ?_
    have he6 : rplain_m a b = -1 := (show rplain_m a b = -1 from by unfold rplain_m; rw [if_pos hc4] <;> rfl)
    exact ⟨rfl, .int .i64 (-1), res_t rfl rfl, ⟨by (rw [he6]; try rfl), hm0.below⟩⟩
  refine wp_seq_k (fun K7 hK7 => ?_)
  refine wp_region_lit ?_
  refine lvw 10 (.string (tx a)) rfl rfl (run_mv rfl rfl) ?_
  simp only [nz1, nz2, nz3]
  refine lvw 11 (.string (tx b)) rfl rfl (run_mv rfl rfl) ?_
  simp only [nz1, nz2, nz3]
  refine lvw 12 (.bool ((!lt' a b && !decide (a = b)))) rfl rfl (t_gtr a b rfl rfl rfl) ?_
  simp only [nz1, nz2, nz3]
  refine lvw 9 (.bool ((!lt' a b && !decide (a = b)))) rfl rfl (run_as rfl rfl) ?_
  simp only [nz1, nz2, nz3]
  refine wpList_nil ?_
  refine then_n (hK7 _ _ ?_)
  refine cond_B (!lt' a b && !decide (a = b)) rfl (fun hc8 => ?_) (fun hc8 => ?_)
  · refine wp_seq_k (fun K9 hK9 => ?_)
    refine wp_region_lit ?_
    refine lvw 4 (.int .i64 1) rfl rfl (run_as rfl rfl) ?_
    simp only [nz1, nz2, nz3]
    refine wpList_nil ?_
    refine then_n (hK9 _ _ ?_)
    refine wp_ret ?_
    refine blk_r ?_
    refine then_r ?_
    have he10 : rplain_m a b = 1 := (show rplain_m a b = 1 from by unfold rplain_m; rw [if_neg hc4, if_pos hc8] <;> rfl)
    exact ⟨rfl, .int .i64 1, res_t rfl rfl, ⟨by (rw [he10]; try rfl), hm0.below⟩⟩
  refine wp_skip ?_
  refine blk_n ?_
  refine then_n (hK2 _ _ ?_)
  refine wp_seq_k (fun K11 hK11 => ?_)
  refine wp_region_lit ?_
  refine lvw 4 (.int .i64 0) rfl rfl (run_as rfl rfl) ?_
  simp only [nz1, nz2, nz3]
  refine wpList_nil ?_
  refine then_n (hK11 _ _ ?_)
  refine wp_ret ?_
  have he12 : rplain_m a b = 0 := (show rplain_m a b = 0 from by unfold rplain_m; rw [if_neg hc4, if_neg hc8] <;> rfl)
  exact ⟨rfl, .int .i64 0, res_t rfl rfl, ⟨by (rw [he12]; try rfl), hm0.below⟩⟩
theorem run_rplain {o : Oper} {a : Act} {w : World} {x0 x1 : Operand} {v0 v1 : Value} (ho : o.op = .call { callee := .value (.func 36), args := #[x0, x1], argTypes := #[9, 9] }) (h0 : a.eval x0 = v0) (h1 : a.eval x1 = v1) :
    (execOp a.eval o).run Tryd.prog w = .ok (.enter 36 #[v0, v1]) w := by
  unfold execOp
  simp only [ho]
  have hf : a.eval (.func 36) = .func (.func 36) #[] #[] := rfl
  generalize a.eval = f at *
  go_simp
def rnumber_m_b0 (l : List Int) (i : Int) (rec : Int → Sum (Int) ((List UInt8) × Int)) (x3 : Int) : Sum (Int) ((List UInt8) × Int) :=
  if 48 ≤ (rat_m l x3) ∧ (rat_m l x3) ≤ 57 then
    if (rat_m l x3) = 48 then
      rec (x3 + (1 : Int))
    else
      .inl x3
  else
    .inl x3
def rnumber_m_l0 (l : List Int) (i : Int) : Nat → Int → Sum (Int) ((List UInt8) × Int)
  | 0, zz => .inl zz
  | nq + 1, zz => rnumber_m_b0 l i (rnumber_m_l0 l i nq) zz

def rnumber_m_b1 (l : List Int) (i : Int) (y7 : Int) (rec : Int × (List UInt8) → Sum (Int × (List UInt8)) ((List UInt8) × Int)) (x31 : Int) (x32 : List UInt8) : Sum (Int × (List UInt8)) ((List UInt8) × Int) :=
  if 48 ≤ (rat_m l x31) ∧ (rat_m l x31) ≤ 57 then
    rec ((x31 + (1 : Int)), (x32 ++ (rune1 (l.getD x31.toNat 0))))
  else
    .inl (x31, x32)
def rnumber_m_l1 (l : List Int) (i : Int) (y7 : Int) : Nat → Int × (List UInt8) → Sum (Int × (List UInt8)) ((List UInt8) × Int)
  | 0, zz => .inl zz
  | nq + 1, zz => rnumber_m_b1 l i y7 (rnumber_m_l1 l i y7 nq) zz.1 zz.2

def rnumber_m_k1 (l : List Int) (i : Int) (y7 : Int) (y36 : Int) (y37 : List UInt8) : (List UInt8) × Int :=
  (y37, y36)

def rnumber_m_k0 (l : List Int) (i : Int) (y7 : Int) : (List UInt8) × Int :=
  fin (rnumber_m_l1 l i y7 ((l.length - y7.toNat) + 1) (y7, ([]))) (fun r => r) (fun zz => rnumber_m_k1 l i y7 zz.1 zz.2)

def rnumber_m (l : List Int) (i : Int) : (List UInt8) × Int :=
  fin (rnumber_m_l0 l i ((l.length - i.toNat) + 1) i) (fun r => r) (fun zz => rnumber_m_k0 l i zz)

set_option maxHeartbeats 4000000 in
set_option maxRecDepth 100000 in
theorem rnumber_any (l : List Int) (i : Int) (lv0 : Value) (w : World) (hl : Rs eR 1 l lv0 w) (hp0 : 0 ≤ i) (hp1 : i ≤ 1000) (hp2 : l.length ≤ 1000) : Calls Tryd.prog 41 #[lv0, .int .i64 (i)] w (fun e w' => e = .returned (.tuple #[.string (tx ((rnumber_m l i).1)), .int .i64 ((rnumber_m l i).2)]) ∧ Below w.heap.size w w') := by
  go_enter Tryd.func41, Tryd.ntmps41
  have hm00 := Mm.nil none (fun _ => True) w
  obtain ⟨Fl, hm01⟩ : ∃ Fl, Mm none (fun _ => True) w w [.see (Rs eR 1 l lv0) Fl] := hm00.come (Rs.all hl)
  have hm0 := hm01
  refine wp_seq_k (fun K1 hK1 => ?_)
  refine wp_region_lit ?_
  refine lvw 4 (.string (tx ([]))) rfl rfl (run_as rfl rfl) ?_
  simp only [nz1, nz2, nz3]
  refine lvw 5 (.int .i64 0) rfl rfl (run_as rfl rfl) ?_
  simp only [nz1, nz2, nz3]
  refine wpList_nil ?_
  refine then_n (hK1 _ _ ?_)
  refine wp_seq_k (fun K2 hK2 => ?_)
  refine wp_cutK (fun a' w' => ∃ (y7 : Int) (yu0 : Nat → Value), rnumber_m_l0 l i ((l.length - i.toNat) + 1) i = .inl y7 ∧ (i ≤ y7 ∧ y7 ≤ 1000) ∧ a' = ⟨#[lv0, .int .i64 (y7), undef, undef, .string (tx ([])), .int .i64 0, undef, yu0 0, yu0 1, yu0 2, yu0 3, yu0 4, yu0 5, yu0 6, yu0 7, yu0 8, yu0 9, yu0 10, yu0 11, undef, undef, undef, undef, undef, undef, undef, undef, undef, undef, undef, undef, undef, undef, undef, undef], []⟩ ∧ Mm none (fun _ => True) w w' [.see (Rs eR 1 l lv0) Fl]) ?_ ?_
  · refine wp_block ?_
    refine wp_loop_n (fun n' a' w' => ∃ (n4 : Nat) (x3 : Int) (u0 : Nat → Value), n' = n4 ∧ (l.length - x3.toNat) < n4 ∧ rnumber_m_l0 l i ((l.length - i.toNat) + 1) i = rnumber_m_l0 l i n4 x3 ∧ (i ≤ x3 ∧ x3 ≤ 1000) ∧ a' = ⟨#[lv0, .int .i64 (x3), undef, undef, .string (tx ([])), .int .i64 0, undef, u0 0, u0 1, u0 2, u0 3, u0 4, u0 5, u0 6, u0 7, u0 8, u0 9, u0 10, u0 11, undef, undef, undef, undef, undef, undef, undef, undef, undef, undef, undef, undef, undef, undef, undef, undef], []⟩ ∧ Mm none (fun _ => True) w w' [.see (Rs eR 1 l lv0) Fl]) ⟨((l.length - i.toNat) + 1), i, (fun qq => List.getD [undef, undef, undef, undef, undef, undef, undef, undef, undef, undef, undef, undef] qq undef), rfl, Nat.lt_succ_self _, rfl, (by first | omega | (simp; done) | (simp; omega) | (simp at *; omega)), rfl, hm0⟩ ?_
    rintro n4 _ w9 ⟨_, x3, u0, rfl, hl13, hi6, hn0, rfl, hm10⟩ R11 hR11
    obtain ⟨k5, rfl⟩ : ∃ k, n4 = k + 1 := ⟨n4 - 1, by omega⟩
    refine wp_seq_k (fun K14 hK14 => ?_)
    refine wp_seq_k (fun K15 hK15 => ?_)
    refine wp_region_lit ?_
    refine lvw 7 (lv0) rfl rfl (run_mv rfl rfl) ?_
    simp only [nz1, nz2, nz3]
    refine lvw 8 (.int .i64 (x3)) rfl rfl (run_mv rfl rfl) ?_
    simp only [nz1, nz2, nz3]
    refine lst rfl (m_call hm10 9 (.int .i32 ((rat_m l x3))) rfl (run_rat rfl rfl rfl) (rat_any l x3 lv0 _ (hm10.see 0 rfl) (by first | omega | assumption | (simp; done) | (simp; omega) | (simp only [List.length_append, List.length_cons, List.length_nil]; omega) | (simp only [List.length_append, List.length_cons, List.length_nil] at *; omega) | decide)) (fun w16 (hm17 : Mm none (fun _ => True) w w16 [.see (Rs eR 1 l lv0) Fl]) => ?_))
    have hf18 : (x3 < ((l.length : Nat) : Int) ∧ (rat_m l x3) = l.getD x3.toNat 0) ∨ (((l.length : Nat) : Int) ≤ x3 ∧ (rat_m l x3) = 0) := rat_is l x3
    simp only [nz1, nz2, nz3]
    refine lst rfl (m_call hm17 10 (.bool (decide (48 ≤ (rat_m l x3) ∧ (rat_m l x3) ≤ 57))) rfl (run_rdigit rfl rfl) (rdigd_any (rat_m l x3)  _  ) (fun w19 (hm20 : Mm none (fun _ => True) w w19 [.see (Rs eR 1 l lv0) Fl]) => ?_))
    simp only [nz1, nz2, nz3]
    by_cases hs21 : 48 ≤ (rat_m l x3) ∧ (rat_m l x3) ≤ 57
    rotate_left
    · rw [show decide (48 ≤ (rat_m l x3) ∧ (rat_m l x3) ≤ 57) = false from decide_eq_false hs21]
      refine lvw 11 (.bool false) rfl rfl (run_mv rfl rfl) ?_
      simp only [nz1, nz2, nz3]
      refine lst_skip 12 rfl rfl ?_
      simp only [nz1, nz2, nz3]
      refine lst_skip 13 rfl rfl ?_
      simp only [nz1, nz2, nz3]
      refine lst_skip 14 rfl rfl ?_
      simp only [nz1, nz2, nz3]
      refine lst_skip 15 rfl rfl ?_
      simp only [nz1, nz2, nz3]
      refine lvw 16 (.bool false) rfl rfl (run_pickf rfl rfl rfl) ?_
      simp only [nz1, nz2, nz3]
      refine wpList_nil ?_
      refine then_n (hK15 _ _ ?_)
      refine cond_f rfl ?_
      refine wp_exit ?_
      refine then_x ?_
      refine then_x ?_
      refine blk_x ?_
      refine then_n ?_
      exact ⟨x3, (fun qq => List.getD [lv0, .int .i64 (x3), .int .i32 ((rat_m l x3)), .bool false, .bool false, undef, undef, undef, undef, .bool false, u0 10, u0 11] qq undef), (hi6.trans (show rnumber_m_b0 l i (rnumber_m_l0 l i k5) x3 = .inl x3 from by unfold rnumber_m_b0; rw [if_neg hs21] <;> rfl)), (by first | omega | (simp; done) | (simp; omega) | (simp at *; omega)), rfl, hm20⟩
    rw [show decide (48 ≤ (rat_m l x3) ∧ (rat_m l x3) ≤ 57) = true from decide_eq_true hs21]
    refine lvw 11 (.bool true) rfl rfl (run_mv rfl rfl) ?_
    simp only [nz1, nz2, nz3]
    refine lvw 12 (lv0) rfl rfl (run_mv rfl rfl) ?_
    simp only [nz1, nz2, nz3]
    refine lvw 13 (.int .i64 (x3)) rfl rfl (run_mv rfl rfl) ?_
    simp only [nz1, nz2, nz3]
    refine lst rfl (m_call hm20 14 (.int .i32 ((rat_m l x3))) rfl (run_rat rfl rfl rfl) (rat_any l x3 lv0 _ (hm20.see 0 rfl) (by first | omega | assumption | (simp; done) | (simp; omega) | (simp only [List.length_append, List.length_cons, List.length_nil]; omega) | (simp only [List.length_append, List.length_cons, List.length_nil] at *; omega) | decide)) (fun w22 (hm23 : Mm none (fun _ => True) w w22 [.see (Rs eR 1 l lv0) Fl]) => ?_))
    have hf24 : (x3 < ((l.length : Nat) : Int) ∧ (rat_m l x3) = l.getD x3.toNat 0) ∨ (((l.length : Nat) : Int) ≤ x3 ∧ (rat_m l x3) = 0) := rat_is l x3
    simp only [nz1, nz2, nz3]
    refine lvw 15 (.bool (decide ((rat_m l x3) = 48))) rfl rfl (z_eql (rat_m l x3) 48 rfl rfl rfl) ?_
    simp only [nz1, nz2, nz3]
    refine lvw 16 (.bool (decide ((rat_m l x3) = 48))) rfl rfl (run_pick rfl rfl rfl) ?_
    simp only [nz1, nz2, nz3]
    refine wpList_nil ?_
    refine then_n (hK15 _ _ ?_)
    refine cond_d ((rat_m l x3) = 48) rfl (fun hc25 => ?_) (fun hc25 => ?_)
    rotate_left
    · refine wp_exit ?_
      refine then_x ?_
      refine then_x ?_
      refine blk_x ?_
      refine then_n ?_
      exact ⟨x3, (fun qq => List.getD [lv0, .int .i64 (x3), .int .i32 ((rat_m l x3)), .bool true, .bool true, lv0, .int .i64 (x3), .int .i32 ((rat_m l x3)), .bool (decide ((rat_m l x3) = 48)), .bool (decide ((rat_m l x3) = 48)), u0 10, u0 11] qq undef), (hi6.trans (show rnumber_m_b0 l i (rnumber_m_l0 l i k5) x3 = .inl x3 from by unfold rnumber_m_b0; rw [if_pos hs21, if_neg hc25] <;> rfl)), (by first | omega | (simp; done) | (simp; omega) | (simp at *; omega)), rfl, hm23⟩
    refine wp_skip ?_
    refine then_n (hK14 _ _ ?_)
    refine wp_block ?_
    refine wp_region_lit ?_
    refine lvw 17 (.int .i64 (x3)) rfl rfl (run_mv rfl rfl) ?_
    simp only [nz1, nz2, nz3]
    refine lvw 18 (.int .i64 ((x3 + (1 : Int)))) rfl rfl (z_add x3 (1 : Int) _ (by rw [IntKind.wrap_i64]; omega) rfl rfl rfl) ?_
    simp only [nz1, nz2, nz3]
    refine lvw 1 (.int .i64 ((x3 + (1 : Int)))) rfl rfl (run_as rfl rfl) ?_
    simp only [nz1, nz2, nz3]
    refine wpList_nil ?_
    refine blk_n ?_
    refine then_n (hR11 _ _ _ ⟨k5, (x3 + (1 : Int)), (fun qq => List.getD [lv0, .int .i64 (x3), .int .i32 ((rat_m l x3)), .bool true, .bool true, lv0, .int .i64 (x3), .int .i32 ((rat_m l x3)), .bool (decide ((rat_m l x3) = 48)), .bool (decide ((rat_m l x3) = 48)), .int .i64 (x3), .int .i64 ((x3 + (1 : Int)))] qq undef), rfl, (by first | omega | (simp; omega) | (simp at *; omega)), (hi6.trans (show rnumber_m_b0 l i (rnumber_m_l0 l i k5) x3 = rnumber_m_l0 l i k5 (x3 + (1 : Int)) from by unfold rnumber_m_b0; rw [if_pos hs21, if_pos hc25] <;> rfl)), (by first | omega | (simp; done) | (simp; omega) | (simp at *; omega)), rfl, hm23⟩ ?_)
    omega
  rintro _ w26 ⟨y7, yu0, hx8, hn0, rfl, hm27⟩
  have hq28 : rnumber_m l i = rnumber_m_k0 l i y7 := (show rnumber_m l i = rnumber_m_k0 l i y7 from by unfold rnumber_m; rw [hx8] <;> rfl)
  refine then_n (hK2 _ _ ?_)
  refine wp_seq_k (fun K29 hK29 => ?_)
  refine wp_region_lit ?_
  refine lvw 6 (.string (tx ([]))) rfl rfl (run_as rfl rfl) ?_
  simp only [nz1, nz2, nz3]
  refine wpList_nil ?_
  refine then_n (hK29 _ _ ?_)
  refine wp_seq_k (fun K30 hK30 => ?_)
  refine wp_cutK (fun a' w' => ∃ (y36 : Int) (y37 : List UInt8) (yu1 : Nat → Value), rnumber_m_l1 l i y7 ((l.length - y7.toNat) + 1) (y7, ([])) = .inl (y36, y37) ∧ (i ≤ y36 ∧ y36 ≤ 1000 ∧ ((y37.length : Nat) : Int) ≤ 4 * y36) ∧ a' = ⟨#[lv0, .int .i64 (y36), undef, undef, .string (tx ([])), .int .i64 0, .string (tx y37), yu0 0, yu0 1, yu0 2, yu0 3, yu0 4, yu0 5, yu0 6, yu0 7, yu0 8, yu0 9, yu0 10, yu0 11, yu1 0, yu1 1, yu1 2, yu1 3, yu1 4, yu1 5, yu1 6, yu1 7, yu1 8, yu1 9, yu1 10, yu1 11, yu1 12, yu1 13, undef, undef], []⟩ ∧ Mm none (fun _ => True) w w' [.see (Rs eR 1 l lv0) Fl]) ?_ ?_
  · refine wp_block ?_
    refine wp_loop_n (fun n' a' w' => ∃ (n33 : Nat) (x31 : Int) (x32 : List UInt8) (u1 : Nat → Value), n' = n33 ∧ (l.length - x31.toNat) < n33 ∧ rnumber_m_l1 l i y7 ((l.length - y7.toNat) + 1) (y7, ([])) = rnumber_m_l1 l i y7 n33 (x31, x32) ∧ (i ≤ x31 ∧ x31 ≤ 1000 ∧ ((x32.length : Nat) : Int) ≤ 4 * x31) ∧ a' = ⟨#[lv0, .int .i64 (x31), undef, undef, .string (tx ([])), .int .i64 0, .string (tx x32), yu0 0, yu0 1, yu0 2, yu0 3, yu0 4, yu0 5, yu0 6, yu0 7, yu0 8, yu0 9, yu0 10, yu0 11, u1 0, u1 1, u1 2, u1 3, u1 4, u1 5, u1 6, u1 7, u1 8, u1 9, u1 10, u1 11, u1 12, u1 13, undef, undef], []⟩ ∧ Mm none (fun _ => True) w w' [.see (Rs eR 1 l lv0) Fl]) ⟨((l.length - y7.toNat) + 1), y7, ([]), (fun qq => List.getD [undef, undef, undef, undef, undef, undef, undef, undef, undef, undef, undef, undef, undef, undef] qq undef), rfl, Nat.lt_succ_self _, rfl, (by first | omega | (simp; done) | (simp; omega) | (simp at *; omega)), rfl, hm27⟩ ?_
    rintro n33 _ w39 ⟨_, x31, x32, u1, rfl, hl43, hi35, hn1, rfl, hm40⟩ R41 hR41
    obtain ⟨k34, rfl⟩ : ∃ k, n33 = k + 1 := ⟨n33 - 1, by omega⟩
    refine wp_seq_k (fun K44 hK44 => ?_)
    refine wp_seq_k (fun K45 hK45 => ?_)
    refine wp_region_lit ?_
    refine lvw 19 (lv0) rfl rfl (run_mv rfl rfl) ?_
    simp only [nz1, nz2, nz3]
    refine lvw 20 (.int .i64 (x31)) rfl rfl (run_mv rfl rfl) ?_
    simp only [nz1, nz2, nz3]
    refine lst rfl (m_call hm40 21 (.int .i32 ((rat_m l x31))) rfl (run_rat rfl rfl rfl) (rat_any l x31 lv0 _ (hm40.see 0 rfl) (by first | omega | assumption | (simp; done) | (simp; omega) | (simp only [List.length_append, List.length_cons, List.length_nil]; omega) | (simp only [List.length_append, List.length_cons, List.length_nil] at *; omega) | decide)) (fun w46 (hm47 : Mm none (fun _ => True) w w46 [.see (Rs eR 1 l lv0) Fl]) => ?_))
    have hf48 : (x31 < ((l.length : Nat) : Int) ∧ (rat_m l x31) = l.getD x31.toNat 0) ∨ (((l.length : Nat) : Int) ≤ x31 ∧ (rat_m l x31) = 0) := rat_is l x31
    simp only [nz1, nz2, nz3]
    refine lst rfl (m_call hm47 22 (.bool (decide (48 ≤ (rat_m l x31) ∧ (rat_m l x31) ≤ 57))) rfl (run_rdigit rfl rfl) (rdigd_any (rat_m l x31)  _  ) (fun w49 (hm50 : Mm none (fun _ => True) w w49 [.see (Rs eR 1 l lv0) Fl]) => ?_))
    simp only [nz1, nz2, nz3]
    refine wpList_nil ?_
    refine then_n (hK45 _ _ ?_)
    refine cond_d (48 ≤ (rat_m l x31) ∧ (rat_m l x31) ≤ 57) rfl (fun hc51 => ?_) (fun hc51 => ?_)
    rotate_left
    · refine wp_exit ?_
      refine then_x ?_
      refine then_x ?_
      refine blk_x ?_
      refine then_n ?_
      exact ⟨x31, x32, (fun qq => List.getD [lv0, .int .i64 (x31), .int .i32 ((rat_m l x31)), .bool (decide (48 ≤ (rat_m l x31) ∧ (rat_m l x31) ≤ 57)), u1 4, u1 5, u1 6, u1 7, u1 8, u1 9, u1 10, u1 11, u1 12, u1 13] qq undef), (hi35.trans (show rnumber_m_b1 l i y7 (rnumber_m_l1 l i y7 k34) x31 x32 = .inl (x31, x32) from by unfold rnumber_m_b1; rw [if_neg hc51] <;> rfl)), (by first | omega | (simp; done) | (simp; omega) | (simp at *; omega)), rfl, hm50⟩
    refine wp_skip ?_
    refine then_n (hK44 _ _ ?_)
    refine wp_block ?_
    refine wp_seq_k (fun K52 hK52 => ?_)
    refine wp_region_lit ?_
    refine lvw 23 (.string (tx x32)) rfl rfl (run_mv rfl rfl) ?_
    simp only [nz1, nz2, nz3]
    refine lvw 24 (lv0) rfl rfl (run_mv rfl rfl) ?_
    simp only [nz1, nz2, nz3]
    refine lvw 25 (.int .i64 (x31)) rfl rfl (run_mv rfl rfl) ?_
    simp only [nz1, nz2, nz3]
    refine lvw 26 (.pointer (some ⟨(bk lv0), (po lv0 + x31.toNat * 1), none⟩)) rfl rfl (r_ixvZ ((hm50.see 0 rfl)) x31 (by omega) (by omega) Tryd.underlying53 sz_21 rfl rfl rfl) ?_
    simp only [nz1, nz2, nz3]
    refine lvw 27 (.int .i32 ((l.getD x31.toNat 0))) rfl rfl (r_cellw (Rs.cell ((hm50.see 0 rfl)) eR_len 0 x31.toNat (by omega) 0 _ rfl) Tryd.underlying21 rfl rfl rfl) ?_
    simp only [nz1, nz2, nz3]
    refine lst rfl (m_make (c := #[.int .i32 ((l.getD x31.toNat 0))]) (T := 21) (fun g => .slice (some ⟨g, 0, none⟩) 1 1) hm50 28 rfl (by unfold execOp; go_simp; try rfl) (fun g55 w53 (hm54 : Mm none (fun _ => True) w w53 [.see (Rs eR 1 l lv0) Fl, .blk g55 #[.int .i32 ((l.getD x31.toNat 0))] 21]) => ?_))
    simp only [nz1, nz2, nz3]
    refine lvw 29 (.string (tx (rune1 (l.getD x31.toNat 0)))) rfl rfl (r_rune1 (l.getD x31.toNat 0) (hm54.at 1 rfl) Tryd.underlying53 Tryd.underlying21 Tryd.underlying9 rfl rfl) ?_
    simp only [nz1, nz2, nz3]
    refine lvw 30 (.string (tx (x32 ++ (rune1 (l.getD x31.toNat 0))))) rfl rfl (t_cat x32 (rune1 (l.getD x31.toNat 0)) (by have hr := rune1_le (l.getD x31.toNat 0); omega) rfl rfl rfl) ?_
    simp only [nz1, nz2, nz3]
    refine lvw 6 (.string (tx (x32 ++ (rune1 (l.getD x31.toNat 0))))) rfl rfl (run_as rfl rfl) ?_
    simp only [nz1, nz2, nz3]
    refine wpList_nil ?_
    refine then_n (hK52 _ _ ?_)
    refine wp_region_lit ?_
    refine lvw 31 (.int .i64 (x31)) rfl rfl (run_mv rfl rfl) ?_
    simp only [nz1, nz2, nz3]
    refine lvw 32 (.int .i64 ((x31 + (1 : Int)))) rfl rfl (z_add x31 (1 : Int) _ (by rw [IntKind.wrap_i64]; omega) rfl rfl rfl) ?_
    simp only [nz1, nz2, nz3]
    refine lvw 1 (.int .i64 ((x31 + (1 : Int)))) rfl rfl (run_as rfl rfl) ?_
    simp only [nz1, nz2, nz3]
    refine wpList_nil ?_
    refine blk_n ?_
    refine then_n (hR41 _ _ _ ⟨k34, (x31 + (1 : Int)), (x32 ++ (rune1 (l.getD x31.toNat 0))), (fun qq => List.getD [lv0, .int .i64 (x31), .int .i32 ((rat_m l x31)), .bool (decide (48 ≤ (rat_m l x31) ∧ (rat_m l x31) ≤ 57)), .string (tx x32), lv0, .int .i64 (x31), .pointer (some ⟨(bk lv0), (po lv0 + x31.toNat * 1), none⟩), .int .i32 ((l.getD x31.toNat 0)), .slice (some ⟨g55, 0, none⟩) 1 1, .string (tx (rune1 (l.getD x31.toNat 0))), .string (tx (x32 ++ (rune1 (l.getD x31.toNat 0)))), .int .i64 (x31), .int .i64 ((x31 + (1 : Int)))] qq undef), rfl, (by first | omega | (simp; omega) | (simp at *; omega)), (hi35.trans (show rnumber_m_b1 l i y7 (rnumber_m_l1 l i y7 k34) x31 x32 = rnumber_m_l1 l i y7 k34 ((x31 + (1 : Int)), (x32 ++ (rune1 (l.getD x31.toNat 0)))) from by unfold rnumber_m_b1; rw [if_pos hc51] <;> rfl)), (by have hr := rune1_le (l.getD x31.toNat 0); rw [List.length_append]; omega), rfl, (Mm.reorder hm54 [0] (by decide) rfl)⟩ ?_)
    omega
  rintro _ w56 ⟨y36, y37, yu1, hx38, hn1, rfl, hm57⟩
  have hq58 : rnumber_m l i = rnumber_m_k1 l i y7 y36 y37 := (hq28.trans (show rnumber_m_k0 l i y7 = rnumber_m_k1 l i y7 y36 y37 from by unfold rnumber_m_k0; rw [hx38] <;> rfl))
  refine then_n (hK30 _ _ ?_)
  refine wp_seq_k (fun K59 hK59 => ?_)
  refine wp_region_lit ?_
  refine lvw 33 (.string (tx y37)) rfl rfl (run_mv rfl rfl) ?_
  simp only [nz1, nz2, nz3]
  refine lvw 34 (.int .i64 (y36)) rfl rfl (run_mv rfl rfl) ?_
  simp only [nz1, nz2, nz3]
  refine lvw 4 (.string (tx y37)) rfl rfl (run_as rfl rfl) ?_
  simp only [nz1, nz2, nz3]
  refine lvw 5 (.int .i64 (y36)) rfl rfl (run_as rfl rfl) ?_
  simp only [nz1, nz2, nz3]
  refine wpList_nil ?_
  refine then_n (hK59 _ _ ?_)
  refine wp_ret ?_
  have he60 : rnumber_m l i = (y37, y36) := (hq58.trans (show rnumber_m_k1 l i y7 y36 y37 = (y37, y36) from by unfold rnumber_m_k1; rfl))
  exact ⟨rfl, .tuple #[.string (tx y37), .int .i64 (y36)], res_tt rfl rfl rfl, ⟨by (rw [he60]; try rfl), hm57.below⟩⟩
theorem run_rnumber {o : Oper} {a : Act} {w : World} {x0 x1 : Operand} {v0 v1 : Value} (ho : o.op = .call { callee := .value (.func 41), args := #[x0, x1], argTypes := #[53, 3] }) (h0 : a.eval x0 = v0) (h1 : a.eval x1 = v1) :
    (execOp a.eval o).run Tryd.prog w = .ok (.enter 41 #[v0, v1]) w := by
  unfold execOp
  simp only [ho]
  have hf : a.eval (.func 41) = .func (.func 41) #[] #[] := rfl
  generalize a.eval = f at *
  go_simp
end Go.Proofs.YtpbenhfnebgbiaaDoor.Ve
