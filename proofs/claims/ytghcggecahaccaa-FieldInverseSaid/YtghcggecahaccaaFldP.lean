/- Layer 3: calls of what the package offers; the document's example. -/
import Derived.Test.YtghcggecahaccaaFldK
namespace Go.Proofs.Ytghcggecahaccaa.Fld
open Go.RowKit
open Go.Proofs.Ytghcggecahaccaa.Arr Go.Proofs.Ytghcggecahaccaa.Sym

theorem run_Canon {o : Oper} {a : Act} {w : World} {x0 : Operand} {v0 : Value} (ho : o.op = .call { callee := .value (.func 12), args := #[x0], argTypes := #[23] }) (h0 : a.eval x0 = v0) :
    (execOp a.eval o).run Try.prog w = .ok (.enter 12 #[v0]) w := by
  unfold execOp
  simp only [ho]
  have hf : a.eval (.func 12) = .func (.func 12) #[] #[] := rfl
  generalize a.eval = f at *
  go_simp
theorem run_Reduce {o : Oper} {a : Act} {w : World} {x0 : Operand} {v0 : Value} (ho : o.op = .call { callee := .value (.func 14), args := #[x0], argTypes := #[23] }) (h0 : a.eval x0 = v0) :
    (execOp a.eval o).run Try.prog w = .ok (.enter 14 #[v0]) w := by
  unfold execOp
  simp only [ho]
  have hf : a.eval (.func 14) = .func (.func 14) #[] #[] := rfl
  generalize a.eval = f at *
  go_simp
theorem run_Neg {o : Oper} {a : Act} {w : World} {x0 : Operand} {v0 : Value} (ho : o.op = .call { callee := .value (.func 16), args := #[x0], argTypes := #[23] }) (h0 : a.eval x0 = v0) :
    (execOp a.eval o).run Try.prog w = .ok (.enter 16 #[v0]) w := by
  unfold execOp
  simp only [ho]
  have hf : a.eval (.func 16) = .func (.func 16) #[] #[] := rfl
  generalize a.eval = f at *
  go_simp
theorem run_Add {o : Oper} {a : Act} {w : World} {x0 x1 : Operand} {v0 v1 : Value} (ho : o.op = .call { callee := .value (.func 18), args := #[x0, x1], argTypes := #[23, 23] }) (h0 : a.eval x0 = v0) (h1 : a.eval x1 = v1) :
    (execOp a.eval o).run Try.prog w = .ok (.enter 18 #[v0, v1]) w := by
  unfold execOp
  simp only [ho]
  have hf : a.eval (.func 18) = .func (.func 18) #[] #[] := rfl
  generalize a.eval = f at *
  go_simp
theorem run_Sub {o : Oper} {a : Act} {w : World} {x0 x1 : Operand} {v0 v1 : Value} (ho : o.op = .call { callee := .value (.func 20), args := #[x0, x1], argTypes := #[23, 23] }) (h0 : a.eval x0 = v0) (h1 : a.eval x1 = v1) :
    (execOp a.eval o).run Try.prog w = .ok (.enter 20 #[v0, v1]) w := by
  unfold execOp
  simp only [ho]
  have hf : a.eval (.func 20) = .func (.func 20) #[] #[] := rfl
  generalize a.eval = f at *
  go_simp
theorem run_Mul {o : Oper} {a : Act} {w : World} {x0 x1 : Operand} {v0 v1 : Value} (ho : o.op = .call { callee := .value (.func 22), args := #[x0, x1], argTypes := #[23, 23] }) (h0 : a.eval x0 = v0) (h1 : a.eval x1 = v1) :
    (execOp a.eval o).run Try.prog w = .ok (.enter 22 #[v0, v1]) w := by
  unfold execOp
  simp only [ho]
  have hf : a.eval (.func 22) = .func (.func 22) #[] #[] := rfl
  generalize a.eval = f at *
  go_simp
theorem run_Root {o : Oper} {a : Act} {w : World} {x0 : Operand} {v0 : Value} (ho : o.op = .call { callee := .value (.func 24), args := #[x0], argTypes := #[23] }) (h0 : a.eval x0 = v0) :
    (execOp a.eval o).run Try.prog w = .ok (.enter 24 #[v0]) w := by
  unfold execOp
  simp only [ho]
  have hf : a.eval (.func 24) = .func (.func 24) #[] #[] := rfl
  generalize a.eval = f at *
  go_simp
theorem run_Power {o : Oper} {a : Act} {w : World} {x0 x1 : Operand} {v0 v1 : Value} (ho : o.op = .call { callee := .value (.func 26), args := #[x0, x1], argTypes := #[23, 23] }) (h0 : a.eval x0 = v0) (h1 : a.eval x1 = v1) :
    (execOp a.eval o).run Try.prog w = .ok (.enter 26 #[v0, v1]) w := by
  unfold execOp
  simp only [ho]
  have hf : a.eval (.func 26) = .func (.func 26) #[] #[] := rfl
  generalize a.eval = f at *
  go_simp
theorem run_Inv {o : Oper} {a : Act} {w : World} {x0 : Operand} {v0 : Value} (ho : o.op = .call { callee := .value (.func 28), args := #[x0], argTypes := #[23] }) (h0 : a.eval x0 = v0) :
    (execOp a.eval o).run Try.prog w = .ok (.enter 28 #[v0]) w := by
  unfold execOp
  simp only [ho]
  have hf : a.eval (.func 28) = .func (.func 28) #[] #[] := rfl
  generalize a.eval = f at *
  go_simp
theorem run_awake {o : Oper} {a : Act} {w : World} (ho : o.op = .call { callee := .value (.func 11), args := #[], argTypes := #[] })  :
    (execOp a.eval o).run Try.prog w = .ok (.enter 11 #[]) w := by
  unfold execOp
  simp only [ho]
  have hf : a.eval (.func 11) = .func (.func 11) #[] #[] := rfl
  generalize a.eval = f at *
  go_simp
/-- A power's rest, step by step. -/
def pm (a : Nat) : Nat → Nat → Nat
  | 0, _ => 1
  | f + 1, n => let r := pm a f (n / 2); if n % 2 = 1 then r * r % PP * a % PP else r * r % PP
theorem pm_eq (a : Nat) : ∀ (f n : Nat), n < 2 ^ f → pm a f n = a ^ n % PP
  | 0, n, h => by
    have : n = 0 := by simpa using h
    subst this; rw [Nat.pow_zero]; exact (by decide : 1 = 1 % PP)
  | f + 1, n, h => by
    have h2 : n / 2 < 2 ^ f := by rw [Nat.pow_succ] at h; omega
    unfold pm
    simp only [pm_eq a f (n / 2) h2]
    have e : n = 2 * (n / 2) + n % 2 := by omega
    by_cases hb : n % 2 = 1
    · rw [if_pos hb, ← Nat.mul_mod, Nat.mod_mul_mod, ← Nat.pow_add, ← Nat.pow_succ]; congr 2; omega
    · rw [if_neg hb, ← Nat.mul_mod, ← Nat.pow_add]; congr 2; omega
def pm256 (a n : Nat) : Nat := pm a 256 n
theorem pm_at (a n : Nat) (h : n < MM) : a ^ n % PP = pm256 a n := (pm_eq a 256 n (by unfold MM at h; omega)).symm
def I7 : Nat := 16541727033902313631938712144098272550467140666520080577065369143987589948557
theorem inv7 : 7 ^ (PP - 2) % PP = I7 := by rw [pm_at _ _ (by decide)]; decide +kernel
theorem rt_at (s : Nat) : rt1 s = pm256 s K1 := pm_at _ _ (by decide)
theorem rt2_at (s : Nat) : rt2 s = pm256 s K1 * pm256 2 K2 % PP := by unfold rt2; rw [rt_at, pm_at 2 K2 (by decide)]
def rootR' (s : Nat) : Nat := if pm256 s K1 * pm256 s K1 % PP = s then pm256 s K1 else pm256 s K1 * pm256 2 K2 % PP % PP
def rootOk' (s : Nat) : Bool := decide (rootR' s * rootR' s % PP = s)
def rootV' (s : Nat) : Nat := if rootOk' s = true then (if rootR' s % 2 = 1 then PP - rootR' s else rootR' s) else 0
theorem rootR_at (s : Nat) : rootR s = rootR' s := by unfold rootR rootR'; rw [rt_at, rt2_at, Nat.mod_mod]
theorem rootOk_at (s : Nat) : rootOk s = rootOk' s := by unfold rootOk rootOk'; rw [rootR_at]
theorem rootV_at (s : Nat) : rootV s = rootV' s := by unfold rootV rootV'; rw [rootOk_at, rootR_at]
theorem root4 : rootOk (4 % PP) = true ∧ rootV (4 % PP) = 2 := by
  rw [rootOk_at, rootV_at]
  decide +kernel
theorem root2 : rootOk (2 % PP) = false ∧ rootV (2 % PP) = 0 := by
  rw [rootOk_at, rootV_at]
  decide +kernel
theorem mul7 : 7 * I7 % PP = 1 := by decide
theorem root4_any (w : World) : Calls Try.prog 24 #[.agg (bs 4)] w fun e w' => e = .returned (.tuple #[.agg (bs 2), .bool true]) ∧ Below w.heap.size w w' := by
  have h := root_any 4 (by decide) w
  rw [root4.1, root4.2] at h
  exact h
theorem root2_any (w : World) : Calls Try.prog 24 #[.agg (bs 2)] w fun e w' => e = .returned (.tuple #[.agg (bs 0), .bool false]) ∧ Below w.heap.size w w' := by
  have h := root_any 2 (by decide) w
  rw [root2.1, root2.2] at h
  exact h
theorem inv7_any (w : World) : Calls Try.prog 28 #[.agg (bs 7)] w fun e w' => e = .returned (.agg (bs I7)) ∧ Below w.heap.size w w' := by
  have h := inv_any 7 (by decide) w
  rw [inv7] at h
  exact h
theorem mul7_any (w : World) : Calls Try.prog 22 #[.agg (bs 7), .agg (bs I7)] w fun e w' => e = .returned (.agg (bs 1)) ∧ Below w.heap.size w w' := by
  have h := mul_any 7 I7 (by decide) (by decide) w
  rw [mul7] at h
  exact h
set_option maxHeartbeats 1000000 in
theorem awake_any  (w : World) : Calls Try.prog 11 #[] w fun e w' => e = .returned (.bool true) ∧ Below w.heap.size w w' := by
  go_enter Try.func11, Try.ntmps11
  have hbel0 := Below.refl w.heap.size w
  go_step
  go_step
  go_step
  refine lst (wanted_none rfl) (w_value 0 (.bool false) rfl (run_as rfl rfl) ?_)
  simp only [List.setIfInBounds_toArray, List.set_cons_zero]
  go_step
  go_step
  go_step
  go_step
  go_step
  refine lst (wanted_none rfl) (w_value 6 (.agg (bs 4)) rfl (by unfold execOp; go_simp; rfl) ?_)
  simp only [List.setIfInBounds_toArray, List.set_cons_zero, List.set_cons_succ]
  refine lst (wanted_none rfl) (w_enter 7 (.tuple #[.agg (bs 2), .bool true]) rfl (run_Root rfl rfl) (root4_any _) (fun w1 hb2 => ?_))
  have hbel3 := bel_call hbel0 hb2
  simp only [List.setIfInBounds_toArray, List.set_cons_zero, List.set_cons_succ]
  refine lst (wanted_none rfl) (w_value 5 (.tuple #[.agg (bs 2), .bool true]) rfl (run_mv rfl rfl) ?_)
  simp only [List.setIfInBounds_toArray, List.set_cons_zero, List.set_cons_succ]
  refine lst (wanted_none rfl) (w_value 8 (.agg (bs 2)) rfl (run_ex rfl rfl rfl) ?_)
  simp only [List.setIfInBounds_toArray, List.set_cons_zero, List.set_cons_succ]
  refine lst (wanted_none rfl) (w_value 9 (.bool true) rfl (run_ex rfl rfl rfl) ?_)
  simp only [List.setIfInBounds_toArray, List.set_cons_zero, List.set_cons_succ]
  refine lst (wanted_none rfl) (w_alloc (c := bs 0) (T := 23) 1 rfl (run_alN rfl) (fun w4 he5 => ?_))
  have k6 := Blk.new he5
  have hg7 : w.heap.size ≤ w1.heap.size := hbel3.size
  have hbel8 := bel_alloc hbel3 he5
  simp only [List.setIfInBounds_toArray, List.set_cons_zero, List.set_cons_succ]
  refine lst (wanted_none rfl) (w_store 23 _ _ (w1.heap.size) (bs 2) rfl rfl rfl rfl k6 (by rw [bs_sz]; exact info_b) ((bs_sz _).trans (bs_sz _).symm) (bs_one _) (fun w9 he10 => ?_))
  have k11 := k6.set he10
  have hbel12 := bel_set hbel8 hg7 he10
  refine lst (wanted_none rfl) (w_value 2 (.bool true) rfl (run_as rfl rfl) ?_)
  simp only [List.setIfInBounds_toArray, List.set_cons_zero, List.set_cons_succ]
  go_step
  go_step
  go_step
  go_step
  go_step
  refine lst (wanted_none rfl) (w_value 11 (.agg (bs 2)) rfl (by unfold execOp; go_simp; rfl) ?_)
  simp only [List.setIfInBounds_toArray, List.set_cons_zero, List.set_cons_succ]
  refine lst (wanted_none rfl) (w_enter 12 (.tuple #[.agg (bs 0), .bool false]) rfl (run_Root rfl rfl) (root2_any _) (fun w13 hb14 => ?_))
  have k15 := k11.call hb14
  have hbel16 := bel_call hbel12 hb14
  simp only [List.setIfInBounds_toArray, List.set_cons_zero, List.set_cons_succ]
  refine lst (wanted_none rfl) (w_value 10 (.tuple #[.agg (bs 0), .bool false]) rfl (run_mv rfl rfl) ?_)
  simp only [List.setIfInBounds_toArray, List.set_cons_zero, List.set_cons_succ]
  refine lst (wanted_none rfl) (w_value 13 (.agg (bs 0)) rfl (run_ex rfl rfl rfl) ?_)
  simp only [List.setIfInBounds_toArray, List.set_cons_zero, List.set_cons_succ]
  refine lst (wanted_none rfl) (w_value 14 (.bool false) rfl (run_ex rfl rfl rfl) ?_)
  simp only [List.setIfInBounds_toArray, List.set_cons_zero, List.set_cons_succ]
  refine lst (wanted_none rfl) (w_alloc (c := bs 0) (T := 23) 3 rfl (run_alN rfl) (fun w17 he18 => ?_))
  have hne20 : w1.heap.size ≠ w13.heap.size := Nat.ne_of_lt k15.lt
  have k19 := k15.alloc he18
  have k21 := Blk.new he18
  have hg22 : w.heap.size ≤ w13.heap.size := hbel16.size
  have hbel23 := bel_alloc hbel16 he18
  simp only [List.setIfInBounds_toArray, List.set_cons_zero, List.set_cons_succ]
  refine lst (wanted_none rfl) (w_store 23 _ _ (w13.heap.size) (bs 0) rfl rfl rfl rfl k21 (by rw [bs_sz]; exact info_b) ((bs_sz _).trans (bs_sz _).symm) (bs_one _) (fun w24 he25 => ?_))
  have k26 := k19.other hne20 he25
  have k27 := k21.set he25
  have hbel28 := bel_set hbel23 hg22 he25
  refine lst (wanted_none rfl) (w_value 4 (.bool false) rfl (run_as rfl rfl) ?_)
  simp only [List.setIfInBounds_toArray, List.set_cons_zero, List.set_cons_succ]
  go_step
  go_step
  go_step
  go_step
  go_step
  refine lst (wanted_none rfl) (w_value 15 (.bool true) rfl (run_mv rfl rfl) ?_)
  simp only [List.setIfInBounds_toArray, List.set_cons_zero, List.set_cons_succ]
  refine lst (wanted_none rfl) (w_value 16 (.bool true) rfl (run_mv rfl rfl) ?_)
  simp only [List.setIfInBounds_toArray, List.set_cons_zero, List.set_cons_succ]
  refine lst rfl (w_value 17 (.agg (bs 2)) rfl (run_row rfl rfl k26 Try.underlying23 rfl (by rw [bs_sz]; exact info_b)) ?_)
  simp only [List.setIfInBounds_toArray, List.set_cons_zero, List.set_cons_succ]
  refine lst rfl (w_value 18 (.agg (bs 2)) rfl (by unfold execOp; go_simp; rfl) ?_)
  simp only [List.setIfInBounds_toArray, List.set_cons_zero, List.set_cons_succ]
  refine lst rfl (w_value 19 (.bool true) rfl (run_eqN 2 2 (by decide) (by decide) true (decide_eq_true rfl) rfl rfl rfl) ?_)
  simp only [List.setIfInBounds_toArray, List.set_cons_zero, List.set_cons_succ]
  refine lst (wanted_none rfl) (w_value 20 (.bool true) rfl (run_pick rfl rfl rfl) ?_)
  simp only [List.setIfInBounds_toArray, List.set_cons_zero, List.set_cons_succ]
  refine lst (wanted_none rfl) (w_value 21 (.bool true) rfl (run_mv rfl rfl) ?_)
  simp only [List.setIfInBounds_toArray, List.set_cons_zero, List.set_cons_succ]
  refine lst rfl (w_value 22 (.bool false) rfl (run_mv rfl rfl) ?_)
  simp only [List.setIfInBounds_toArray, List.set_cons_zero, List.set_cons_succ]
  refine lst rfl (w_value 23 (.bool true) rfl (run_not false rfl rfl) ?_)
  simp only [List.setIfInBounds_toArray, List.set_cons_zero, List.set_cons_succ]
  refine lst (wanted_none rfl) (w_value 24 (.bool true) rfl (run_pick rfl rfl rfl) ?_)
  simp only [List.setIfInBounds_toArray, List.set_cons_zero, List.set_cons_succ]
  refine lst (wanted_none rfl) (w_value 25 (.bool true) rfl (run_mv rfl rfl) ?_)
  simp only [List.setIfInBounds_toArray, List.set_cons_zero, List.set_cons_succ]
  refine lst rfl (w_value 26 (.agg (bs 7)) rfl (by unfold execOp; go_simp; rfl) ?_)
  simp only [List.setIfInBounds_toArray, List.set_cons_zero, List.set_cons_succ]
  refine lst rfl (w_value 27 (.agg (bs 7)) rfl (by unfold execOp; go_simp; rfl) ?_)
  simp only [List.setIfInBounds_toArray, List.set_cons_zero, List.set_cons_succ]
  refine lst rfl (w_enter 28 (.agg (bs I7)) rfl (run_Inv rfl rfl) (inv7_any _) (fun w29 hb30 => ?_))
  have k31 := k26.call hb30
  have k32 := k27.call hb30
  have hbel33 := bel_call hbel28 hb30
  simp only [List.setIfInBounds_toArray, List.set_cons_zero, List.set_cons_succ]
  refine lst rfl (w_enter 29 (.agg (bs 1)) rfl (run_Mul rfl rfl rfl) (mul7_any _) (fun w34 hb35 => ?_))
  have k36 := k31.call hb35
  have k37 := k32.call hb35
  have hbel38 := bel_call hbel33 hb35
  simp only [List.setIfInBounds_toArray, List.set_cons_zero, List.set_cons_succ]
  refine lst rfl (w_value 30 (.agg (bs 1)) rfl (by unfold execOp; go_simp; rfl) ?_)
  simp only [List.setIfInBounds_toArray, List.set_cons_zero, List.set_cons_succ]
  refine lst rfl (w_value 31 (.bool true) rfl (run_eqN 1 1 (by decide) (by decide) true (decide_eq_true rfl) rfl rfl rfl) ?_)
  simp only [List.setIfInBounds_toArray, List.set_cons_zero, List.set_cons_succ]
  refine lst (wanted_none rfl) (w_value 32 (.bool true) rfl (run_pick rfl rfl rfl) ?_)
  simp only [List.setIfInBounds_toArray, List.set_cons_zero, List.set_cons_succ]
  refine lst (wanted_none rfl) (w_value 0 (.bool true) rfl (run_as rfl rfl) ?_)
  simp only [List.setIfInBounds_toArray, List.set_cons_zero]
  go_step
  go_step
  go_step
  go_wp2
  go_ret
  exact ⟨rfl, hbel38⟩
end Go.Proofs.Ytghcggecahaccaa.Fld
