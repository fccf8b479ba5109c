/- Layer 3: calls of what the package offers; the document's example. -/
import Derived.Test.YtfpphinnngblgaaDoorFldK
namespace Go.Proofs.YtfpphinnngblgaaDoor.Fld
open Go.RowKit
open Go.Proofs.YtfpphinnngblgaaDoor.Arr Go.Proofs.YtfpphinnngblgaaDoor.Sym

theorem run_Canon {o : Oper} {a : Act} {w : World} {x0 : Operand} {v0 : Value} (ho : o.op = .call { callee := .value (.func 27), args := #[x0], argTypes := #[23] }) (h0 : a.eval x0 = v0) :
    (execOp a.eval o).run Tryd.prog w = .ok (.enter 27 #[v0]) w := by
  unfold execOp
  simp only [ho]
  have hf : a.eval (.func 27) = .func (.func 27) #[] #[] := rfl
  generalize a.eval = f at *
  go_simp
theorem run_Reduce {o : Oper} {a : Act} {w : World} {x0 : Operand} {v0 : Value} (ho : o.op = .call { callee := .value (.func 43), args := #[x0], argTypes := #[23] }) (h0 : a.eval x0 = v0) :
    (execOp a.eval o).run Tryd.prog w = .ok (.enter 43 #[v0]) w := by
  unfold execOp
  simp only [ho]
  have hf : a.eval (.func 43) = .func (.func 43) #[] #[] := rfl
  generalize a.eval = f at *
  go_simp
theorem run_Neg {o : Oper} {a : Act} {w : World} {x0 : Operand} {v0 : Value} (ho : o.op = .call { callee := .value (.func 34), args := #[x0], argTypes := #[23] }) (h0 : a.eval x0 = v0) :
    (execOp a.eval o).run Tryd.prog w = .ok (.enter 34 #[v0]) w := by
  unfold execOp
  simp only [ho]
  have hf : a.eval (.func 34) = .func (.func 34) #[] #[] := rfl
  generalize a.eval = f at *
  go_simp
theorem run_Add {o : Oper} {a : Act} {w : World} {x0 x1 : Operand} {v0 v1 : Value} (ho : o.op = .call { callee := .value (.func 29), args := #[x0, x1], argTypes := #[23, 23] }) (h0 : a.eval x0 = v0) (h1 : a.eval x1 = v1) :
    (execOp a.eval o).run Tryd.prog w = .ok (.enter 29 #[v0, v1]) w := by
  unfold execOp
  simp only [ho]
  have hf : a.eval (.func 29) = .func (.func 29) #[] #[] := rfl
  generalize a.eval = f at *
  go_simp
theorem run_Sub {o : Oper} {a : Act} {w : World} {x0 x1 : Operand} {v0 v1 : Value} (ho : o.op = .call { callee := .value (.func 32), args := #[x0, x1], argTypes := #[23, 23] }) (h0 : a.eval x0 = v0) (h1 : a.eval x1 = v1) :
    (execOp a.eval o).run Tryd.prog w = .ok (.enter 32 #[v0, v1]) w := by
  unfold execOp
  simp only [ho]
  have hf : a.eval (.func 32) = .func (.func 32) #[] #[] := rfl
  generalize a.eval = f at *
  go_simp
theorem run_Mul {o : Oper} {a : Act} {w : World} {x0 x1 : Operand} {v0 v1 : Value} (ho : o.op = .call { callee := .value (.func 28), args := #[x0, x1], argTypes := #[23, 23] }) (h0 : a.eval x0 = v0) (h1 : a.eval x1 = v1) :
    (execOp a.eval o).run Tryd.prog w = .ok (.enter 28 #[v0, v1]) w := by
  unfold execOp
  simp only [ho]
  have hf : a.eval (.func 28) = .func (.func 28) #[] #[] := rfl
  generalize a.eval = f at *
  go_simp
theorem run_Root {o : Oper} {a : Act} {w : World} {x0 : Operand} {v0 : Value} (ho : o.op = .call { callee := .value (.func 31), args := #[x0], argTypes := #[23] }) (h0 : a.eval x0 = v0) :
    (execOp a.eval o).run Tryd.prog w = .ok (.enter 31 #[v0]) w := by
  unfold execOp
  simp only [ho]
  have hf : a.eval (.func 31) = .func (.func 31) #[] #[] := rfl
  generalize a.eval = f at *
  go_simp
theorem run_Inv {o : Oper} {a : Act} {w : World} {x0 : Operand} {v0 : Value} (ho : o.op = .call { callee := .value (.func 33), args := #[x0], argTypes := #[23] }) (h0 : a.eval x0 = v0) :
    (execOp a.eval o).run Tryd.prog w = .ok (.enter 33 #[v0]) w := by
  unfold execOp
  simp only [ho]
  have hf : a.eval (.func 33) = .func (.func 33) #[] #[] := rfl
  generalize a.eval = f at *
  go_simp
/-- A power's rest, step by step. -/
def pm (a : Nat) : Nat → Nat → Nat
  | 0, _ => 1
  | f + 1, n => let r := pm a f (n / 2); if n % 2 = 1 then r * r % PP * a % PP else r * r % PP
theorem pm_eq (a : Nat) : ∀ (f n : Nat), n < 2 ^ f → pm a f n = a ^ n % PP
  | 0, n, h => by
    have : n = 0 := by simpa using h
    subst this; rw [Nat.pow_zero]; exact (by decide : 1 = 1 % PP)
  | f + 1, n, h => by
    have h2 : n / 2 < 2 ^ f := by rw [Nat.pow_succ] at h; omega
    unfold pm
    simp only [pm_eq a f (n / 2) h2]
    have e : n = 2 * (n / 2) + n % 2 := by omega
    by_cases hb : n % 2 = 1
    · rw [if_pos hb, ← Nat.mul_mod, Nat.mod_mul_mod, ← Nat.pow_add, ← Nat.pow_succ]; congr 2; omega
    · rw [if_neg hb, ← Nat.mul_mod, ← Nat.pow_add]; congr 2; omega
def pm256 (a n : Nat) : Nat := pm a 256 n
theorem pm_at (a n : Nat) (h : n < MM) : a ^ n % PP = pm256 a n := (pm_eq a 256 n (by unfold MM at h; omega)).symm
def I7 : Nat := 16541727033902313631938712144098272550467140666520080577065369143987589948557
theorem inv7 : 7 ^ (PP - 2) % PP = I7 := by rw [pm_at _ _ (by decide)]; decide +kernel
theorem rt_at (s : Nat) : rt1 s = pm256 s K1 := pm_at _ _ (by decide)
theorem rt2_at (s : Nat) : rt2 s = pm256 s K1 * pm256 2 K2 % PP := by unfold rt2; rw [rt_at, pm_at 2 K2 (by decide)]
def rootR' (s : Nat) : Nat := if pm256 s K1 * pm256 s K1 % PP = s then pm256 s K1 else pm256 s K1 * pm256 2 K2 % PP % PP
def rootOk' (s : Nat) : Bool := decide (rootR' s * rootR' s % PP = s)
def rootV' (s : Nat) : Nat := if rootOk' s = true then (if rootR' s % 2 = 1 then PP - rootR' s else rootR' s) else 0
theorem rootR_at (s : Nat) : rootR s = rootR' s := by unfold rootR rootR'; rw [rt_at, rt2_at, Nat.mod_mod]
theorem rootOk_at (s : Nat) : rootOk s = rootOk' s := by unfold rootOk rootOk'; rw [rootR_at]
theorem rootV_at (s : Nat) : rootV s = rootV' s := by unfold rootV rootV'; rw [rootOk_at, rootR_at]
theorem root4 : rootOk (4 % PP) = true ∧ rootV (4 % PP) = 2 := by
  rw [rootOk_at, rootV_at]
  decide +kernel
theorem root2 : rootOk (2 % PP) = false ∧ rootV (2 % PP) = 0 := by
  rw [rootOk_at, rootV_at]
  decide +kernel
theorem mul7 : 7 * I7 % PP = 1 := by decide
theorem root4_any (w : World) : Calls Tryd.prog 31 #[.agg (bs 4)] w fun e w' => e = .returned (.tuple #[.agg (bs 2), .bool true]) ∧ Below w.heap.size w w' := by
  have h := root_any 4 (by decide) w
  rw [root4.1, root4.2] at h
  exact h
theorem root2_any (w : World) : Calls Tryd.prog 31 #[.agg (bs 2)] w fun e w' => e = .returned (.tuple #[.agg (bs 0), .bool false]) ∧ Below w.heap.size w w' := by
  have h := root_any 2 (by decide) w
  rw [root2.1, root2.2] at h
  exact h
theorem inv7_any (w : World) : Calls Tryd.prog 33 #[.agg (bs 7)] w fun e w' => e = .returned (.agg (bs I7)) ∧ Below w.heap.size w w' := by
  have h := inv_any 7 (by decide) w
  rw [inv7] at h
  exact h
theorem mul7_any (w : World) : Calls Tryd.prog 28 #[.agg (bs 7), .agg (bs I7)] w fun e w' => e = .returned (.agg (bs 1)) ∧ Below w.heap.size w w' := by
  have h := mul_any 7 I7 (by decide) (by decide) w
  rw [mul7] at h
  exact h
end Go.Proofs.YtfpphinnngblgaaDoor.Fld
