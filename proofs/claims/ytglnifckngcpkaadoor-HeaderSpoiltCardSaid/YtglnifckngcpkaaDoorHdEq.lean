/- Headers compared. -/
import Derived.Test.YtglnifckngcpkaaDoorHdT
set_option linter.unusedVariables false
set_option maxRecDepth 100000
set_option maxHeartbeats 4000000
namespace Go.Proofs.YtglnifckngcpkaaDoor.Hd
open Go.RowKit
open Go.Proofs.YtglnifckngcpkaaDoor.Sym Go.Proofs.YtglnifckngcpkaaDoor.Mem
theorem eq23 (x y : Hdr) (w : World) : (Op.equalIn 10000 23 (.agg #[.string (tx x.name), .int .i64 (x.mode), .int .i64 (x.uid), .int .i64 (x.gid), .int .i64 (x.size), .int .i64 (x.time), .int .u8 ((x.flag.toNat : Nat) : Int), .string (tx x.link), .string (tx x.pfx)]) (.agg #[.string (tx y.name), .int .i64 (y.mode), .int .i64 (y.uid), .int .i64 (y.gid), .int .i64 (y.size), .int .i64 (y.time), .int .u8 ((y.flag.toNat : Nat) : Int), .string (tx y.link), .string (tx y.pfx)])).run Tryd.prog w = .ok (decide (x = y)) w := by
  have u3 := Tryd.underlying3
  have a3 := Tryd.isAgg3
  have z3 := Tryd.sizeOf3
  have u5 := Tryd.underlying5
  have a5 := Tryd.isAgg5
  have z5 := Tryd.sizeOf5
  have u9 := Tryd.underlying9
  have a9 := Tryd.isAgg9
  have z9 := Tryd.sizeOf9
  have hS : Tryd.prog.underlying 23 = some (.struct (Tryd.prog.fieldsOf 23)) := by kernel_rfl
  have hp : Tryd.prog.stoodInHeld 23 = false := by kernel_rfl
  rw [show (10000 : Nat) = 9999 + 1 from rfl, run_equalIn_agg w 9999 23 _ _ hS hp]
  simp only [Program.fieldsOf, Tryd.underlying23]
  go_simp
  obtain ⟨x0, x1, x2, x3, x4, x5, x6, x7, x8⟩ := x
  obtain ⟨y0, y1, y2, y3, y4, y5, y6, y7, y8⟩ := y
  simp only [tx_list]
  by_cases h0 : x0 = y0
  rotate_left
  · simp [h0]
  by_cases h1 : x1 = y1
  rotate_left
  · simp [h1]
  by_cases h2 : x2 = y2
  rotate_left
  · simp [h2]
  by_cases h3 : x3 = y3
  rotate_left
  · simp [h3]
  by_cases h4 : x4 = y4
  rotate_left
  · simp [h4]
  by_cases h5 : x5 = y5
  rotate_left
  · simp [h5]
  by_cases h6 : x6 = y6
  rotate_left
  · have n6 : ¬ ((x6.toNat : Nat) : Int) = ((y6.toNat : Nat) : Int) := fun e => h6 (UInt8.toNat_inj.1 (by omega))
    simp [h6]
    intros
    exfalso
    omega
  by_cases h7 : x7 = y7
  rotate_left
  · simp [h7]
  by_cases h8 : x8 = y8
  rotate_left
  · simp [h8]
  simp [h0, h1, h2, h3, h4, h5, h6, h7, h8]
theorem c23_eql {o : Oper} {a : Act} {w : World} {p q : Operand} {T' : TypeId} (x y : Hdr) (ho : o.op = .binOp .eql 23 p q T') (hx : a.eval p = .agg #[.string (tx x.name), .int .i64 (x.mode), .int .i64 (x.uid), .int .i64 (x.gid), .int .i64 (x.size), .int .i64 (x.time), .int .u8 ((x.flag.toNat : Nat) : Int), .string (tx x.link), .string (tx x.pfx)]) (hy : a.eval q = .agg #[.string (tx y.name), .int .i64 (y.mode), .int .i64 (y.uid), .int .i64 (y.gid), .int .i64 (y.size), .int .i64 (y.time), .int .u8 ((y.flag.toNat : Nat) : Int), .string (tx y.link), .string (tx y.pfx)]) : (execOp a.eval o).run Tryd.prog w = .ok (.value (.bool (decide (x = y)))) w := by
  have hm : Tryd.prog.eqGuardType Tryd.prog.depth 23 = false := by kernel_rfl
  have e := eq23 x y w
  unfold execOp
  simp only [ho, hx, hy]
  generalize a.eval = f at *
  simp only [Sem.run_bind, run_eqGuard_agg _ _ _ _ _ _ _ hm, run_eql_struct, e, Result.andThen_ok]
  rfl
theorem c23_neq {o : Oper} {a : Act} {w : World} {p q : Operand} {T' : TypeId} (x y : Hdr) (ho : o.op = .binOp .neq 23 p q T') (hx : a.eval p = .agg #[.string (tx x.name), .int .i64 (x.mode), .int .i64 (x.uid), .int .i64 (x.gid), .int .i64 (x.size), .int .i64 (x.time), .int .u8 ((x.flag.toNat : Nat) : Int), .string (tx x.link), .string (tx x.pfx)]) (hy : a.eval q = .agg #[.string (tx y.name), .int .i64 (y.mode), .int .i64 (y.uid), .int .i64 (y.gid), .int .i64 (y.size), .int .i64 (y.time), .int .u8 ((y.flag.toNat : Nat) : Int), .string (tx y.link), .string (tx y.pfx)]) : (execOp a.eval o).run Tryd.prog w = .ok (.value (.bool (decide (¬ x = y)))) w := by
  have hm : Tryd.prog.eqGuardType Tryd.prog.depth 23 = false := by kernel_rfl
  have e := eq23 x y w
  unfold execOp
  simp only [ho, hx, hy]
  generalize a.eval = f at *
  simp only [Sem.run_bind, run_eqGuard_agg _ _ _ _ _ _ _ hm, run_neq_struct, e, Result.andThen_ok]
  simp
end Go.Proofs.YtglnifckngcpkaaDoor.Hd
