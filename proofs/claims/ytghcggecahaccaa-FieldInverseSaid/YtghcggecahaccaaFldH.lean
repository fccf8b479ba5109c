/- Layer 3: the package's own calls, as they stand in regions. -/
import Derived.Test.YtghcggecahaccaaFldL
import Derived.Test.YtghcggecahaccaaFldR
import Derived.Test.YtghcggecahaccaaReg
namespace Go.Proofs.Ytghcggecahaccaa.Fld
open Go.RowKit
open Go.Proofs.Ytghcggecahaccaa.Arr

theorem run_load {o : Oper} {a : Act} {w : World} {x0 : Operand} {v0 : Value} (ho : o.op = .call { callee := .value (.func 31), args := #[x0], argTypes := #[23] }) (h0 : a.eval x0 = v0) :
    (execOp a.eval o).run Try.prog w = .ok (.enter 31 #[v0]) w := by
  unfold execOp
  simp only [ho]
  have hf : a.eval (.func 31) = .func (.func 31) #[] #[] := rfl
  generalize a.eval = f at *
  go_simp
theorem run_order {o : Oper} {a : Act} {w : World} (ho : o.op = .call { callee := .value (.func 32), args := #[], argTypes := #[] })  :
    (execOp a.eval o).run Try.prog w = .ok (.enter 32 #[]) w := by
  unfold execOp
  simp only [ho]
  have hf : a.eval (.func 32) = .func (.func 32) #[] #[] := rfl
  generalize a.eval = f at *
  go_simp
theorem run_minus {o : Oper} {a : Act} {w : World} {x0 x1 : Operand} {v0 v1 : Value} (ho : o.op = .call { callee := .value (.func 30), args := #[x0, x1], argTypes := #[36, 36] }) (h0 : a.eval x0 = v0) (h1 : a.eval x1 = v1) :
    (execOp a.eval o).run Try.prog w = .ok (.enter 30 #[v0, v1]) w := by
  unfold execOp
  simp only [ho]
  have hf : a.eval (.func 30) = .func (.func 30) #[] #[] := rfl
  generalize a.eval = f at *
  go_simp
theorem run_store {o : Oper} {a : Act} {w : World} {x0 : Operand} {v0 : Value} (ho : o.op = .call { callee := .value (.func 35), args := #[x0], argTypes := #[36] }) (h0 : a.eval x0 = v0) :
    (execOp a.eval o).run Try.prog w = .ok (.enter 35 #[v0]) w := by
  unfold execOp
  simp only [ho]
  have hf : a.eval (.func 35) = .func (.func 35) #[] #[] := rfl
  generalize a.eval = f at *
  go_simp
theorem run_rest {o : Oper} {a : Act} {w : World} {x0 : Operand} {v0 : Value} (ho : o.op = .call { callee := .value (.func 36), args := #[x0], argTypes := #[36] }) (h0 : a.eval x0 = v0) :
    (execOp a.eval o).run Try.prog w = .ok (.enter 36 #[v0]) w := by
  unfold execOp
  simp only [ho]
  have hf : a.eval (.func 36) = .func (.func 36) #[] #[] := rfl
  generalize a.eval = f at *
  go_simp
theorem run_plus {o : Oper} {a : Act} {w : World} {x0 x1 : Operand} {v0 v1 : Value} (ho : o.op = .call { callee := .value (.func 38), args := #[x0, x1], argTypes := #[36, 36] }) (h0 : a.eval x0 = v0) (h1 : a.eval x1 = v1) :
    (execOp a.eval o).run Try.prog w = .ok (.enter 38 #[v0, v1]) w := by
  unfold execOp
  simp only [ho]
  have hf : a.eval (.func 38) = .func (.func 38) #[] #[] := rfl
  generalize a.eval = f at *
  go_simp
theorem run_fold {o : Oper} {a : Act} {w : World} {x0 x1 : Operand} {v0 v1 : Value} (ho : o.op = .call { callee := .value (.func 39), args := #[x0, x1], argTypes := #[36, 34] }) (h0 : a.eval x0 = v0) (h1 : a.eval x1 = v1) :
    (execOp a.eval o).run Try.prog w = .ok (.enter 39 #[v0, v1]) w := by
  unfold execOp
  simp only [ho]
  have hf : a.eval (.func 39) = .func (.func 39) #[] #[] := rfl
  generalize a.eval = f at *
  go_simp
theorem run_multiply {o : Oper} {a : Act} {w : World} {x0 x1 : Operand} {v0 v1 : Value} (ho : o.op = .call { callee := .value (.func 43), args := #[x0, x1], argTypes := #[36, 36] }) (h0 : a.eval x0 = v0) (h1 : a.eval x1 = v1) :
    (execOp a.eval o).run Try.prog w = .ok (.enter 43 #[v0, v1]) w := by
  unfold execOp
  simp only [ho]
  have hf : a.eval (.func 43) = .func (.func 43) #[] #[] := rfl
  generalize a.eval = f at *
  go_simp
theorem run_raise {o : Oper} {a : Act} {w : World} {x0 x1 : Operand} {v0 v1 : Value} (ho : o.op = .call { callee := .value (.func 45), args := #[x0, x1], argTypes := #[36, 36] }) (h0 : a.eval x0 = v0) (h1 : a.eval x1 = v1) :
    (execOp a.eval o).run Try.prog w = .ok (.enter 45 #[v0, v1]) w := by
  unfold execOp
  simp only [ho]
  have hf : a.eval (.func 45) = .func (.func 45) #[] #[] := rfl
  generalize a.eval = f at *
  go_simp
theorem run_alW {o : Oper} {a : Act} {w : World} (ho : o.op = .alloc 36) : (execOp a.eval o).run Try.prog w = .ok (.value (.pointer (some ⟨w.heap.size, 0, none⟩))) (w.alloc (.cells (ws 0) 36)) := by
  unfold execOp
  simp only [ho]
  go_simp
  rfl
theorem run_alN {o : Oper} {a : Act} {w : World} (ho : o.op = .alloc 23) : (execOp a.eval o).run Try.prog w = .ok (.value (.pointer (some ⟨w.heap.size, 0, none⟩))) (w.alloc (.cells (bs 0) 23)) := by
  unfold execOp
  simp only [ho]
  go_simp
  rfl
theorem rest_w (a : Nat) (ha : a < MM) (w : World) : Calls Try.prog 36 #[.agg (ws a)] w fun e w' => e = .returned (.agg (ws (a % PP))) ∧ Below w.heap.size w w' := rest_any a ha w
theorem minus_w (a b : Nat) (hb : b ≤ MM) (w : World) : Calls Try.prog 30 #[.agg (ws a), .agg (ws b)] w fun e w' => e = .returned (.tuple #[.agg (ws (a + MM - b)), .int .u64 (bo a b 4 : Int)]) ∧ Below w.heap.size w w' := minus_any a b w hb
end Go.Proofs.Ytghcggecahaccaa.Fld
