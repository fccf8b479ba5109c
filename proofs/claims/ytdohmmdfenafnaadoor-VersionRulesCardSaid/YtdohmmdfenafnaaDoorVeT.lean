/- Layer 12: types of arrays. -/
import Derived.Test.YtdohmmdfenafnaaDoorVeP
namespace Go.Proofs.YtdohmmdfenafnaaDoor.Ve
open Go.RowKit
open Go.Proofs.YtdohmmdfenafnaaDoor.Sym Go.Proofs.YtdohmmdfenafnaaDoor.Mem
structure A45 where
  i0 : Nat
  i1 : Nat
deriving DecidableEq
def dA45 : A45 := ⟨0, 0⟩
def eA45 (x : A45) : List Value := [.int .u16 ((x.i0 : Nat) : Int), .int .u16 ((x.i1 : Nat) : Int)]
theorem eA45_len (x : A45) : (eA45 x).length = 2 := rfl
theorem eA45_one (x : A45) : ∀ u ∈ eA45 x, u.oneCell' = true := by
  intro u hu
  simp only [eA45, List.mem_cons, List.not_mem_nil, or_false] at hu
  rcases hu with rfl | rfl <;> rfl

theorem some_44 : (Tryd.prog.underlying 44).isSome = true := by kernel_rfl
theorem sz_44 : (Tryd.prog.info? 44).map (·.size) = some 1 := by kernel_rfl
theorem inf_44 : ∃ i, Tryd.prog.info? 44 = some i ∧ i.zero = some (.int .u16 0) ∧ i.size = 1 ∧ i.bytes = 2 := ⟨_, rfl, rfl, rfl, rfl⟩
theorem sz_45 : (Tryd.prog.info? 45).map (·.size) = some 2 := by kernel_rfl
theorem inf_45 : ∃ i, Tryd.prog.info? 45 = some i ∧ i.zero = some (.agg #[.int .u16 0, .int .u16 0]) ∧ i.size = 2 ∧ i.bytes = 4 := ⟨_, rfl, rfl, rfl, rfl⟩
theorem sz_41 : (Tryd.prog.info? 41).map (·.size) = some 6 := by kernel_rfl
theorem inf_41 : ∃ i, Tryd.prog.info? 41 = some i ∧ i.zero = some (.agg #[.bool false, .bool false, .bool false, .bool false, .bool false, .bool false]) ∧ i.size = 6 ∧ i.bytes = 6 := ⟨_, rfl, rfl, rfl, rfl⟩
theorem b2_eql {o : Oper} {a : Act} {w : World} {x y : Operand} (p q : Bool) (ho : o.op = .binOp .eql 4 x y 4) (hx : a.eval x = .bool p) (hy : a.eval y = .bool q) : (execOp a.eval o).run Tryd.prog w = .ok (.value (.bool (p == q))) w := by
  unfold execOp
  simp only [ho, hx, hy]
  generalize a.eval = f at *
  cases p <;> cases q <;> go_simp
theorem b2_neq {o : Oper} {a : Act} {w : World} {x y : Operand} (p q : Bool) (ho : o.op = .binOp .neq 4 x y 4) (hx : a.eval x = .bool p) (hy : a.eval y = .bool q) : (execOp a.eval o).run Tryd.prog w = .ok (.value (.bool (p != q))) w := by
  unfold execOp
  simp only [ho, hx, hy]
  generalize a.eval = f at *
  cases p <;> cases q <;> go_simp
end Go.Proofs.YtdohmmdfenafnaaDoor.Ve
