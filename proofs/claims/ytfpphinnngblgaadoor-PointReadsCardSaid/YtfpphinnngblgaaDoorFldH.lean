/- Layer 3: the package's own calls, as they stand in regions. -/
import Derived.Test.YtfpphinnngblgaaDoorFldL
import Derived.Test.YtfpphinnngblgaaDoorFldR
import Derived.Test.YtfpphinnngblgaaDoorReg
namespace Go.Proofs.YtfpphinnngblgaaDoor.Fld
open Go.RowKit
open Go.Proofs.YtfpphinnngblgaaDoor.Arr

theorem run_load {o : Oper} {a : Act} {w : World} {x0 : Operand} {v0 : Value} (ho : o.op = .call { callee := .value (.func 47), args := #[x0], argTypes := #[23] }) (h0 : a.eval x0 = v0) :
    (execOp a.eval o).run Tryd.prog w = .ok (.enter 47 #[v0]) w := by
  unfold execOp
  simp only [ho]
  have hf : a.eval (.func 47) = .func (.func 47) #[] #[] := rfl
  generalize a.eval = f at *
  go_simp
theorem run_order {o : Oper} {a : Act} {w : World} (ho : o.op = .call { callee := .value (.func 48), args := #[], argTypes := #[] })  :
    (execOp a.eval o).run Tryd.prog w = .ok (.enter 48 #[]) w := by
  unfold execOp
  simp only [ho]
  have hf : a.eval (.func 48) = .func (.func 48) #[] #[] := rfl
  generalize a.eval = f at *
  go_simp
theorem run_minus {o : Oper} {a : Act} {w : World} {x0 x1 : Operand} {v0 v1 : Value} (ho : o.op = .call { callee := .value (.func 46), args := #[x0, x1], argTypes := #[52, 52] }) (h0 : a.eval x0 = v0) (h1 : a.eval x1 = v1) :
    (execOp a.eval o).run Tryd.prog w = .ok (.enter 46 #[v0, v1]) w := by
  unfold execOp
  simp only [ho]
  have hf : a.eval (.func 46) = .func (.func 46) #[] #[] := rfl
  generalize a.eval = f at *
  go_simp
theorem run_store {o : Oper} {a : Act} {w : World} {x0 : Operand} {v0 : Value} (ho : o.op = .call { callee := .value (.func 49), args := #[x0], argTypes := #[52] }) (h0 : a.eval x0 = v0) :
    (execOp a.eval o).run Tryd.prog w = .ok (.enter 49 #[v0]) w := by
  unfold execOp
  simp only [ho]
  have hf : a.eval (.func 49) = .func (.func 49) #[] #[] := rfl
  generalize a.eval = f at *
  go_simp
theorem run_rest {o : Oper} {a : Act} {w : World} {x0 : Operand} {v0 : Value} (ho : o.op = .call { callee := .value (.func 53), args := #[x0], argTypes := #[52] }) (h0 : a.eval x0 = v0) :
    (execOp a.eval o).run Tryd.prog w = .ok (.enter 53 #[v0]) w := by
  unfold execOp
  simp only [ho]
  have hf : a.eval (.func 53) = .func (.func 53) #[] #[] := rfl
  generalize a.eval = f at *
  go_simp
theorem run_plus {o : Oper} {a : Act} {w : World} {x0 x1 : Operand} {v0 v1 : Value} (ho : o.op = .call { callee := .value (.func 51), args := #[x0, x1], argTypes := #[52, 52] }) (h0 : a.eval x0 = v0) (h1 : a.eval x1 = v1) :
    (execOp a.eval o).run Tryd.prog w = .ok (.enter 51 #[v0, v1]) w := by
  unfold execOp
  simp only [ho]
  have hf : a.eval (.func 51) = .func (.func 51) #[] #[] := rfl
  generalize a.eval = f at *
  go_simp
theorem run_fold {o : Oper} {a : Act} {w : World} {x0 x1 : Operand} {v0 v1 : Value} (ho : o.op = .call { callee := .value (.func 52), args := #[x0, x1], argTypes := #[52, 50] }) (h0 : a.eval x0 = v0) (h1 : a.eval x1 = v1) :
    (execOp a.eval o).run Tryd.prog w = .ok (.enter 52 #[v0, v1]) w := by
  unfold execOp
  simp only [ho]
  have hf : a.eval (.func 52) = .func (.func 52) #[] #[] := rfl
  generalize a.eval = f at *
  go_simp
theorem run_multiply {o : Oper} {a : Act} {w : World} {x0 x1 : Operand} {v0 v1 : Value} (ho : o.op = .call { callee := .value (.func 50), args := #[x0, x1], argTypes := #[52, 52] }) (h0 : a.eval x0 = v0) (h1 : a.eval x1 = v1) :
    (execOp a.eval o).run Tryd.prog w = .ok (.enter 50 #[v0, v1]) w := by
  unfold execOp
  simp only [ho]
  have hf : a.eval (.func 50) = .func (.func 50) #[] #[] := rfl
  generalize a.eval = f at *
  go_simp
theorem run_raise {o : Oper} {a : Act} {w : World} {x0 x1 : Operand} {v0 v1 : Value} (ho : o.op = .call { callee := .value (.func 54), args := #[x0, x1], argTypes := #[52, 52] }) (h0 : a.eval x0 = v0) (h1 : a.eval x1 = v1) :
    (execOp a.eval o).run Tryd.prog w = .ok (.enter 54 #[v0, v1]) w := by
  unfold execOp
  simp only [ho]
  have hf : a.eval (.func 54) = .func (.func 54) #[] #[] := rfl
  generalize a.eval = f at *
  go_simp
theorem run_alW {o : Oper} {a : Act} {w : World} (ho : o.op = .alloc 52) : (execOp a.eval o).run Tryd.prog w = .ok (.value (.pointer (some ⟨w.heap.size, 0, none⟩))) (w.alloc (.cells (ws 0) 52)) := by
  unfold execOp
  simp only [ho]
  go_simp
  rfl
theorem run_alN {o : Oper} {a : Act} {w : World} (ho : o.op = .alloc 23) : (execOp a.eval o).run Tryd.prog w = .ok (.value (.pointer (some ⟨w.heap.size, 0, none⟩))) (w.alloc (.cells (bs 0) 23)) := by
  unfold execOp
  simp only [ho]
  go_simp
  rfl
theorem rest_w (a : Nat) (ha : a < MM) (w : World) : Calls Tryd.prog 53 #[.agg (ws a)] w fun e w' => e = .returned (.agg (ws (a % PP))) ∧ Below w.heap.size w w' := rest_any a ha w
theorem minus_w (a b : Nat) (hb : b ≤ MM) (w : World) : Calls Tryd.prog 46 #[.agg (ws a), .agg (ws b)] w fun e w' => e = .returned (.tuple #[.agg (ws (a + MM - b)), .int .u64 (bo a b 4 : Int)]) ∧ Below w.heap.size w w' := minus_any a b w hb
end Go.Proofs.YtfpphinnngblgaaDoor.Fld
