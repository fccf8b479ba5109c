/- Layer 10: the types. -/
import Derived.Test.YtglnifckngcpkaaDoorRng
import Derived.Laws.StructEq
import Derived.Test.YtglnifckngcpkaaDoorRows
namespace Go.Proofs.YtglnifckngcpkaaDoor.Px
open Go.RowKit
open Go.Proofs.YtglnifckngcpkaaDoor.Sym Go.Proofs.YtglnifckngcpkaaDoor.Mem
structure Par where
  key : List UInt8
  value : List UInt8
deriving DecidableEq
def dPar : Par := ⟨[], []⟩
def ePar (x : Par) : List Value := [.string (tx x.key), .string (tx x.value)]
theorem ePar_len (x : Par) : (ePar x).length = 2 := rfl
theorem ePar_one (x : Par) : ∀ u ∈ ePar x, u.oneCell' = true := by
  intro u hu
  simp only [ePar, List.mem_cons, List.not_mem_nil, or_false] at hu
  rcases hu with rfl | rfl <;> rfl
theorem if_76 : Tryd.prog.underlying 76 = some (.interface (Tryd.prog.methodsAt 76)) := by kernel_rfl

theorem some_3 : (Tryd.prog.underlying 3).isSome = true := by kernel_rfl
theorem sz_3 : (Tryd.prog.info? 3).map (·.size) = some 1 := by kernel_rfl
set_option maxRecDepth 100000 in
theorem inf_3 : ∃ i, Tryd.prog.info? 3 = some i ∧ i.zero = some (.int .i64 0) ∧ i.size = 1 ∧ i.bytes = 8 := ⟨_, rfl, rfl, rfl, rfl⟩
theorem sz_4 : (Tryd.prog.info? 4).map (·.size) = some 1 := by kernel_rfl
set_option maxRecDepth 100000 in
theorem inf_4 : ∃ i, Tryd.prog.info? 4 = some i ∧ i.zero = some (.bool false) ∧ i.size = 1 ∧ i.bytes = 1 := ⟨_, rfl, rfl, rfl, rfl⟩
theorem sz_9 : (Tryd.prog.info? 9).map (·.size) = some 1 := by kernel_rfl
set_option maxRecDepth 100000 in
theorem inf_9 : ∃ i, Tryd.prog.info? 9 = some i ∧ i.zero = some (.string (tx [])) ∧ i.size = 1 ∧ i.bytes = 16 := ⟨_, rfl, rfl, rfl, rfl⟩
theorem some_5 : (Tryd.prog.underlying 5).isSome = true := by kernel_rfl
theorem sz_5 : (Tryd.prog.info? 5).map (·.size) = some 1 := by kernel_rfl
set_option maxRecDepth 100000 in
theorem inf_5 : ∃ i, Tryd.prog.info? 5 = some i ∧ i.zero = some (.int .u8 0) ∧ i.size = 1 ∧ i.bytes = 1 := ⟨_, rfl, rfl, rfl, rfl⟩
theorem sz_34 : (Tryd.prog.info? 34).map (·.size) = some 1 := by kernel_rfl
set_option maxRecDepth 100000 in
theorem inf_34 : ∃ i, Tryd.prog.info? 34 = some i ∧ i.zero = some (.slice none 0 0) ∧ i.size = 1 ∧ i.bytes = 24 := ⟨_, rfl, rfl, rfl, rfl⟩
theorem sz_36 : (Tryd.prog.info? 36).map (·.size) = some 1 := by kernel_rfl
set_option maxRecDepth 100000 in
theorem inf_36 : ∃ i, Tryd.prog.info? 36 = some i ∧ i.zero = some (.slice none 0 0) ∧ i.size = 1 ∧ i.bytes = 24 := ⟨_, rfl, rfl, rfl, rfl⟩
theorem sz_47 : (Tryd.prog.info? 47).map (·.size) = some 2 := by kernel_rfl
set_option maxRecDepth 100000 in
theorem inf_47 : ∃ i, Tryd.prog.info? 47 = some i ∧ i.zero = some (.agg #[.string (tx []), .string (tx [])]) ∧ i.size = 2 ∧ i.bytes = 32 := ⟨_, rfl, rfl, rfl, rfl⟩
theorem r_fa47_0 {o : Oper} {a : Act} {w : World} {x0 : Operand} (g p : Nat) (ho : o.op = .fieldAddr 47 x0 0) (hx : a.eval x0 = .pointer (some ⟨g, p, none⟩)) : (execOp a.eval o).run Tryd.prog w = .ok (.value (.pointer (some ⟨g, p + 0, none⟩))) w := by
  unfold execOp
  simp only [ho, hx]
  generalize a.eval = f at *
  go_simp
theorem r_fa47_1 {o : Oper} {a : Act} {w : World} {x0 : Operand} (g p : Nat) (ho : o.op = .fieldAddr 47 x0 1) (hx : a.eval x0 = .pointer (some ⟨g, p, none⟩)) : (execOp a.eval o).run Tryd.prog w = .ok (.value (.pointer (some ⟨g, p + 1, none⟩))) w := by
  unfold execOp
  simp only [ho, hx]
  generalize a.eval = f at *
  go_simp
theorem some_24 : (Tryd.prog.underlying 24).isSome = true := by kernel_rfl
theorem sz_24 : (Tryd.prog.info? 24).map (·.size) = some 1 := by kernel_rfl
set_option maxRecDepth 100000 in
theorem inf_24 : ∃ i, Tryd.prog.info? 24 = some i ∧ i.zero = some (.int .i64 0) ∧ i.size = 1 ∧ i.bytes = 8 := ⟨_, rfl, rfl, rfl, rfl⟩
theorem b_eql {o : Oper} {a : Act} {w : World} {x y : Operand} (p q : Bool) (ho : o.op = .binOp .eql 4 x y 4) (hx : a.eval x = .bool p) (hy : a.eval y = .bool q) : (execOp a.eval o).run Tryd.prog w = .ok (.value (.bool (p == q))) w := by
  unfold execOp
  simp only [ho, hx, hy]
  generalize a.eval = f at *
  cases p <;> cases q <;> go_simp
theorem b_neq {o : Oper} {a : Act} {w : World} {x y : Operand} (p q : Bool) (ho : o.op = .binOp .neq 4 x y 4) (hx : a.eval x = .bool p) (hy : a.eval y = .bool q) : (execOp a.eval o).run Tryd.prog w = .ok (.value (.bool (p != q))) w := by
  unfold execOp
  simp only [ho, hx, hy]
  generalize a.eval = f at *
  cases p <;> cases q <;> go_simp
theorem eq47 (x y : Par) (w : World) : (Op.equalIn 10000 47 (.agg #[.string (tx x.key), .string (tx x.value)]) (.agg #[.string (tx y.key), .string (tx y.value)])).run Tryd.prog w = .ok (decide (x = y)) w := by
  have u9 := Tryd.underlying9
  have a9 := Tryd.isAgg9
  have z9 := Tryd.sizeOf9
  have hS : Tryd.prog.underlying 47 = some (.struct (Tryd.prog.fieldsOf 47)) := by kernel_rfl
  have hp : Tryd.prog.stoodInHeld 47 = false := by kernel_rfl
  rw [show (10000 : Nat) = 9999 + 1 from rfl, run_equalIn_agg w 9999 47 _ _ hS hp]
  simp only [Program.fieldsOf, Tryd.underlying47]
  go_simp
  obtain ⟨x0, x1⟩ := x
  obtain ⟨y0, y1⟩ := y
  simp only [tx_list]
  by_cases h0 : x0 = y0 <;> by_cases h1 : x1 = y1 <;> simp [h0, h1]
theorem c47_eql {o : Oper} {a : Act} {w : World} {p q : Operand} {T' : TypeId} (x y : Par) (ho : o.op = .binOp .eql 47 p q T') (hx : a.eval p = .agg #[.string (tx x.key), .string (tx x.value)]) (hy : a.eval q = .agg #[.string (tx y.key), .string (tx y.value)]) : (execOp a.eval o).run Tryd.prog w = .ok (.value (.bool (decide (x = y)))) w := by
  have hm : Tryd.prog.eqGuardType Tryd.prog.depth 47 = false := by kernel_rfl
  have e := eq47 x y w
  unfold execOp
  simp only [ho, hx, hy]
  generalize a.eval = f at *
  simp only [Sem.run_bind, run_eqGuard_agg _ _ _ _ _ _ _ hm, run_eql_struct, e, Result.andThen_ok]
  rfl
theorem c47_neq {o : Oper} {a : Act} {w : World} {p q : Operand} {T' : TypeId} (x y : Par) (ho : o.op = .binOp .neq 47 p q T') (hx : a.eval p = .agg #[.string (tx x.key), .string (tx x.value)]) (hy : a.eval q = .agg #[.string (tx y.key), .string (tx y.value)]) : (execOp a.eval o).run Tryd.prog w = .ok (.value (.bool (decide (¬ x = y)))) w := by
  have hm : Tryd.prog.eqGuardType Tryd.prog.depth 47 = false := by kernel_rfl
  have e := eq47 x y w
  unfold execOp
  simp only [ho, hx, hy]
  generalize a.eval = f at *
  simp only [Sem.run_bind, run_eqGuard_agg _ _ _ _ _ _ _ hm, run_neq_struct, e, Result.andThen_ok]
  simp
end Go.Proofs.YtglnifckngcpkaaDoor.Px
