/- Layers 7 and 12: the types; calls as they stand in regions. -/
import Derived.Test.YtdohmmdfenafnaaDoorRng
import Derived.Laws.StructEq
import Derived.Test.YtdohmmdfenafnaaDoorRows
namespace Go.Proofs.YtdohmmdfenafnaaDoor.Pa
open Go.RowKit
open Go.Proofs.YtdohmmdfenafnaaDoor.Sym Go.Proofs.YtdohmmdfenafnaaDoor.Mem
structure Rul where
  name : List UInt8
  op : Int
  version : List UInt8
deriving DecidableEq
def dRul : Rul := ⟨[], 0, []⟩
def eRul (x : Rul) : List Value := [.string (tx x.name), .int .i64 (x.op), .string (tx x.version)]
theorem eRul_len (x : Rul) : (eRul x).length = 3 := rfl
theorem eRul_one (x : Rul) : ∀ u ∈ eRul x, u.oneCell' = true := by
  intro u hu
  simp only [eRul, List.mem_cons, List.not_mem_nil, or_false] at hu
  rcases hu with rfl | rfl | rfl <;> rfl

theorem some_3 : (Tryd.prog.underlying 3).isSome = true := by kernel_rfl
theorem sz_3 : (Tryd.prog.info? 3).map (·.size) = some 1 := by kernel_rfl
theorem inf_3 : ∃ i, Tryd.prog.info? 3 = some i ∧ i.zero = some (.int .i64 0) ∧ i.size = 1 ∧ i.bytes = 8 := ⟨_, rfl, rfl, rfl, rfl⟩
theorem sz_4 : (Tryd.prog.info? 4).map (·.size) = some 1 := by kernel_rfl
theorem inf_4 : ∃ i, Tryd.prog.info? 4 = some i ∧ i.zero = some (.bool false) ∧ i.size = 1 ∧ i.bytes = 1 := ⟨_, rfl, rfl, rfl, rfl⟩
theorem sz_9 : (Tryd.prog.info? 9).map (·.size) = some 1 := by kernel_rfl
theorem inf_9 : ∃ i, Tryd.prog.info? 9 = some i ∧ i.zero = some (.string (tx [])) ∧ i.size = 1 ∧ i.bytes = 16 := ⟨_, rfl, rfl, rfl, rfl⟩
theorem some_5 : (Tryd.prog.underlying 5).isSome = true := by kernel_rfl
theorem sz_5 : (Tryd.prog.info? 5).map (·.size) = some 1 := by kernel_rfl
theorem inf_5 : ∃ i, Tryd.prog.info? 5 = some i ∧ i.zero = some (.int .u8 0) ∧ i.size = 1 ∧ i.bytes = 1 := ⟨_, rfl, rfl, rfl, rfl⟩
theorem some_21 : (Tryd.prog.underlying 21).isSome = true := by kernel_rfl
theorem sz_21 : (Tryd.prog.info? 21).map (·.size) = some 1 := by kernel_rfl
theorem inf_21 : ∃ i, Tryd.prog.info? 21 = some i ∧ i.zero = some (.int .i32 0) ∧ i.size = 1 ∧ i.bytes = 4 := ⟨_, rfl, rfl, rfl, rfl⟩
theorem sz_22 : (Tryd.prog.info? 22).map (·.size) = some 1 := by kernel_rfl
theorem inf_22 : ∃ i, Tryd.prog.info? 22 = some i ∧ i.zero = some (.slice none 0 0) ∧ i.size = 1 ∧ i.bytes = 24 := ⟨_, rfl, rfl, rfl, rfl⟩
theorem sz_59 : (Tryd.prog.info? 59).map (·.size) = some 1 := by kernel_rfl
theorem inf_59 : ∃ i, Tryd.prog.info? 59 = some i ∧ i.zero = some (.slice none 0 0) ∧ i.size = 1 ∧ i.bytes = 24 := ⟨_, rfl, rfl, rfl, rfl⟩
theorem sz_42 : (Tryd.prog.info? 42).map (·.size) = some 1 := by kernel_rfl
theorem inf_42 : ∃ i, Tryd.prog.info? 42 = some i ∧ i.zero = some (.slice none 0 0) ∧ i.size = 1 ∧ i.bytes = 24 := ⟨_, rfl, rfl, rfl, rfl⟩
theorem sz_63 : (Tryd.prog.info? 63).map (·.size) = some 1 := by kernel_rfl
theorem inf_63 : ∃ i, Tryd.prog.info? 63 = some i ∧ i.zero = some (.slice none 0 0) ∧ i.size = 1 ∧ i.bytes = 24 := ⟨_, rfl, rfl, rfl, rfl⟩
theorem sz_36 : (Tryd.prog.info? 36).map (·.size) = some 3 := by kernel_rfl
theorem inf_36 : ∃ i, Tryd.prog.info? 36 = some i ∧ i.zero = some (.agg #[.string (tx []), .int .i64 0, .string (tx [])]) ∧ i.size = 3 ∧ i.bytes = 40 := ⟨_, rfl, rfl, rfl, rfl⟩
theorem r_fa36_0 {o : Oper} {a : Act} {w : World} {x0 : Operand} (g p : Nat) (ho : o.op = .fieldAddr 36 x0 0) (hx : a.eval x0 = .pointer (some ⟨g, p, none⟩)) : (execOp a.eval o).run Tryd.prog w = .ok (.value (.pointer (some ⟨g, p + 0, none⟩))) w := by
  unfold execOp
  simp only [ho, hx]
  generalize a.eval = f at *
  go_simp
theorem r_fa36_1 {o : Oper} {a : Act} {w : World} {x0 : Operand} (g p : Nat) (ho : o.op = .fieldAddr 36 x0 1) (hx : a.eval x0 = .pointer (some ⟨g, p, none⟩)) : (execOp a.eval o).run Tryd.prog w = .ok (.value (.pointer (some ⟨g, p + 1, none⟩))) w := by
  unfold execOp
  simp only [ho, hx]
  generalize a.eval = f at *
  go_simp
theorem r_fa36_2 {o : Oper} {a : Act} {w : World} {x0 : Operand} (g p : Nat) (ho : o.op = .fieldAddr 36 x0 2) (hx : a.eval x0 = .pointer (some ⟨g, p, none⟩)) : (execOp a.eval o).run Tryd.prog w = .ok (.value (.pointer (some ⟨g, p + 2, none⟩))) w := by
  unfold execOp
  simp only [ho, hx]
  generalize a.eval = f at *
  go_simp
theorem some_23 : (Tryd.prog.underlying 23).isSome = true := by kernel_rfl
theorem sz_23 : (Tryd.prog.info? 23).map (·.size) = some 1 := by kernel_rfl
theorem inf_23 : ∃ i, Tryd.prog.info? 23 = some i ∧ i.zero = some (.int .i64 0) ∧ i.size = 1 ∧ i.bytes = 8 := ⟨_, rfl, rfl, rfl, rfl⟩
theorem b_eql {o : Oper} {a : Act} {w : World} {x y : Operand} (p q : Bool) (ho : o.op = .binOp .eql 4 x y 4) (hx : a.eval x = .bool p) (hy : a.eval y = .bool q) : (execOp a.eval o).run Tryd.prog w = .ok (.value (.bool (p == q))) w := by
  unfold execOp
  simp only [ho, hx, hy]
  generalize a.eval = f at *
  cases p <;> cases q <;> go_simp
theorem b_neq {o : Oper} {a : Act} {w : World} {x y : Operand} (p q : Bool) (ho : o.op = .binOp .neq 4 x y 4) (hx : a.eval x = .bool p) (hy : a.eval y = .bool q) : (execOp a.eval o).run Tryd.prog w = .ok (.value (.bool (p != q))) w := by
  unfold execOp
  simp only [ho, hx, hy]
  generalize a.eval = f at *
  cases p <;> cases q <;> go_simp
end Go.Proofs.YtdohmmdfenafnaaDoor.Pa
