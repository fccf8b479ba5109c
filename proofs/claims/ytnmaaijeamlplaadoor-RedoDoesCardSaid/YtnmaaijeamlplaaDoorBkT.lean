import Derived.Test.YtnmaaijeamlplaaDoorRng
import Derived.Test.YtnmaaijeamlplaaDoorCut
import Derived.Laws.StructEq
import Derived.Test.YtnmaaijeamlplaaDoorRows
set_option linter.unusedVariables false
set_option linter.unusedSimpArgs false
namespace Go.Proofs.YtnmaaijeamlplaaDoor.Bk
open Go.RowKit
open Go.Proofs.YtnmaaijeamlplaaDoor.Sym Go.Proofs.YtnmaaijeamlplaaDoor.Mem
structure Wr where
 at_ : Int
 data : List UInt8
deriving DecidableEq
def dWr : Wr := ⟨0, []⟩
def eWr (x : Wr) : List Value := [J (x.at_), .string (tx x.data)]
theorem eWr_len (x : Wr) : (eWr x).length = 2 := rfl
theorem eWr_one (x : Wr) : ∀ u ∈ eWr x, u.oneCell' = true := by
 intro u hu
 simp only [eWr, List.mem_cons, List.not_mem_nil, or_false] at hu
 rcases hu with rfl | rfl <;> rfl
structure Dk where
 safe : List (List UInt8)
 loose : List Wr
 fuse : Int
 down : Bool
deriving DecidableEq
def DkR (x : Dk) (v0 : Value) (v1 : Value) (W : World) : Prop := Rs eS 1 x.safe v0 W ∧ Rs eWr 2 x.loose v1 W
theorem DkR_all {x : Dk} {v0 : Value} {v1 : Value} {W : World} (h : DkR x v0 v1 W) : From (fun _ => True) (DkR x v0 v1) W := ((Rs.all h.1).and (Rs.all h.2))
theorem some_3 : (Tryd.prog.underlying 3).isSome = true := by kernel_rfl
theorem sz_3 : (Tryd.prog.info? 3).map (·.size) = some 1 := by kernel_rfl
theorem sz_4 : (Tryd.prog.info? 4).map (·.size) = some 1 := by kernel_rfl
theorem sz_9 : (Tryd.prog.info? 9).map (·.size) = some 1 := by kernel_rfl
set_option maxRecDepth 100000 in
theorem inf_9 : ∃ i, Tryd.prog.info? 9 = some i ∧ i.zero = some (.string (tx [])) ∧ i.size = 1 ∧ i.bytes = 16 := ⟨_, rfl, rfl, rfl, rfl⟩
theorem some_5 : (Tryd.prog.underlying 5).isSome = true := by kernel_rfl
theorem sz_5 : (Tryd.prog.info? 5).map (·.size) = some 1 := by kernel_rfl
set_option maxRecDepth 100000 in
theorem inf_5 : ∃ i, Tryd.prog.info? 5 = some i ∧ i.zero = some (.int .u8 0) ∧ i.size = 1 ∧ i.bytes = 1 := ⟨_, rfl, rfl, rfl, rfl⟩
theorem sz_22 : (Tryd.prog.info? 22).map (·.size) = some 1 := by kernel_rfl
theorem sz_23 : (Tryd.prog.info? 23).map (·.size) = some 1 := by kernel_rfl
theorem sz_51 : (Tryd.prog.info? 51).map (·.size) = some 2 := by kernel_rfl
set_option maxRecDepth 100000 in
theorem inf_51 : ∃ i, Tryd.prog.info? 51 = some i ∧ i.zero = some (.agg #[J 0, .string (tx [])]) ∧ i.size = 2 ∧ i.bytes = 24 := ⟨_, rfl, rfl, rfl, rfl⟩
theorem r_fa51_0 {o : Oper} {a : Act} {w : World} {x0 : Operand} (g p : Nat) (ho : o.op = .fieldAddr 51 x0 0) (hx : a.eval x0 = .pointer (some ⟨g, p, none⟩)) : (execOp a.eval o).run Tryd.prog w = .ok (.value (.pointer (some ⟨g, p + 0, none⟩))) w := by
 unfold execOp
 simp only [ho, hx]
 generalize a.eval = f at *
 go_simp
theorem r_fa51_1 {o : Oper} {a : Act} {w : World} {x0 : Operand} (g p : Nat) (ho : o.op = .fieldAddr 51 x0 1) (hx : a.eval x0 = .pointer (some ⟨g, p, none⟩)) : (execOp a.eval o).run Tryd.prog w = .ok (.value (.pointer (some ⟨g, p + 1, none⟩))) w := by
 unfold execOp
 simp only [ho, hx]
 generalize a.eval = f at *
 go_simp
theorem sz_25 : (Tryd.prog.info? 25).map (·.size) = some 4 := by kernel_rfl
theorem r_fa25_0 {o : Oper} {a : Act} {w : World} {x0 : Operand} (g p : Nat) (ho : o.op = .fieldAddr 25 x0 0) (hx : a.eval x0 = .pointer (some ⟨g, p, none⟩)) : (execOp a.eval o).run Tryd.prog w = .ok (.value (.pointer (some ⟨g, p + 0, none⟩))) w := by
 unfold execOp
 simp only [ho, hx]
 generalize a.eval = f at *
 go_simp
theorem r_fa25_1 {o : Oper} {a : Act} {w : World} {x0 : Operand} (g p : Nat) (ho : o.op = .fieldAddr 25 x0 1) (hx : a.eval x0 = .pointer (some ⟨g, p, none⟩)) : (execOp a.eval o).run Tryd.prog w = .ok (.value (.pointer (some ⟨g, p + 1, none⟩))) w := by
 unfold execOp
 simp only [ho, hx]
 generalize a.eval = f at *
 go_simp
theorem r_fa25_2 {o : Oper} {a : Act} {w : World} {x0 : Operand} (g p : Nat) (ho : o.op = .fieldAddr 25 x0 2) (hx : a.eval x0 = .pointer (some ⟨g, p, none⟩)) : (execOp a.eval o).run Tryd.prog w = .ok (.value (.pointer (some ⟨g, p + 2, none⟩))) w := by
 unfold execOp
 simp only [ho, hx]
 generalize a.eval = f at *
 go_simp
theorem r_fa25_3 {o : Oper} {a : Act} {w : World} {x0 : Operand} (g p : Nat) (ho : o.op = .fieldAddr 25 x0 3) (hx : a.eval x0 = .pointer (some ⟨g, p, none⟩)) : (execOp a.eval o).run Tryd.prog w = .ok (.value (.pointer (some ⟨g, p + 3, none⟩))) w := by
 unfold execOp
 simp only [ho, hx]
 generalize a.eval = f at *
 go_simp
theorem b_neq {o : Oper} {a : Act} {w : World} {x y : Operand} (p q : Bool) (ho : o.op = .binOp .neq 4 x y 4) (hx : a.eval x = .bool p) (hy : a.eval y = .bool q) : (execOp a.eval o).run Tryd.prog w = .ok (.value (.bool (p != q))) w := by
 unfold execOp
 simp only [ho, hx, hy]
 generalize a.eval = f at *
 cases p <;> cases q <;> go_simp
theorem eq51 (x y : Wr) (w : World) : (Op.equalIn 10000 51 (.agg #[J (x.at_), .string (tx x.data)]) (.agg #[J (y.at_), .string (tx y.data)])).run Tryd.prog w = .ok (decide (x = y)) w := by
 have u3 := Tryd.underlying3
 have a3 := Tryd.isAgg3
 have z3 := Tryd.sizeOf3
 have u9 := Tryd.underlying9
 have a9 := Tryd.isAgg9
 have z9 := Tryd.sizeOf9
 have hS : Tryd.prog.underlying 51 = some (.struct (Tryd.prog.fieldsOf 51)) := by kernel_rfl
 have hp : Tryd.prog.stoodInHeld 51 = false := by kernel_rfl
 rw [show (10000 : Nat) = 9999 + 1 from rfl, run_equalIn_agg w 9999 51 _ _ hS hp]
 simp only [Program.fieldsOf, Tryd.underlying51]
 go_simp
 obtain ⟨x0, x1⟩ := x
 obtain ⟨y0, y1⟩ := y
 simp only [tx_list]
 by_cases h0 : x0 = y0 <;> by_cases h1 : x1 = y1 <;> simp [h0, h1]
theorem c51_neq {o : Oper} {a : Act} {w : World} {p q : Operand} {T' : TypeId} (x y : Wr) (ho : o.op = .binOp .neq 51 p q T') (hx : a.eval p = .agg #[J (x.at_), .string (tx x.data)]) (hy : a.eval q = .agg #[J (y.at_), .string (tx y.data)]) : (execOp a.eval o).run Tryd.prog w = .ok (.value (.bool (decide (¬ x = y)))) w := by
 have hm : Tryd.prog.eqGuardType Tryd.prog.depth 51 = false := by kernel_rfl
 have e := eq51 x y w
 unfold execOp
 simp only [ho, hx, hy]
 generalize a.eval = f at *
 simp only [Sem.run_bind, run_eqGuard_agg _ _ _ _ _ _ _ hm, run_neq_struct, e, Result.andThen_ok]
 simp
end Go.Proofs.YtnmaaijeamlplaaDoor.Bk
