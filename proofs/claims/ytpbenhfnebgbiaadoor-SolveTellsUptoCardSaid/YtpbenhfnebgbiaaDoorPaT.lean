/- Layers 12 and 20: the types. -/
import Derived.Test.YtpbenhfnebgbiaaDoorRng
import Derived.Test.YtpbenhfnebgbiaaDoorNst
import Derived.Laws.StructEq
import Derived.Test.YtpbenhfnebgbiaaDoorRows
namespace Go.Proofs.YtpbenhfnebgbiaaDoor.Pa
open Go.RowKit
open Go.Proofs.YtpbenhfnebgbiaaDoor.Sym Go.Proofs.YtpbenhfnebgbiaaDoor.Mem
structure Rul where
  name : List UInt8
  op : Int
  version : List UInt8
deriving DecidableEq
def dRul : Rul := ⟨[], 0, []⟩
def eRul (x : Rul) : List Value := [.string (tx x.name), .int .i64 (x.op), .string (tx x.version)]
theorem eRul_len (x : Rul) : (eRul x).length = 3 := rfl
theorem eRul_one (x : Rul) : ∀ u ∈ eRul x, u.oneCell' = true := by
  intro u hu
  simp only [eRul, List.mem_cons, List.not_mem_nil, or_false] at hu
  rcases hu with rfl | rfl | rfl <;> rfl
structure Ent5 where
  kind : Int
  mode : Int
  sum : List UInt8
  path : List UInt8
  target : List UInt8
deriving DecidableEq
def dEnt5 : Ent5 := ⟨0, 0, [], [], []⟩
def eEnt5 (x : Ent5) : List Value := [.int .i64 (x.kind), .int .i64 (x.mode), .string (tx x.sum), .string (tx x.path), .string (tx x.target)]
theorem eEnt5_len (x : Ent5) : (eEnt5 x).length = 5 := rfl
theorem eEnt5_one (x : Ent5) : ∀ u ∈ eEnt5 x, u.oneCell' = true := by
  intro u hu
  simp only [eEnt5, List.mem_cons, List.not_mem_nil, or_false] at hu
  rcases hu with rfl | rfl | rfl | rfl | rfl <;> rfl
structure Mf where
  name : List UInt8
  version : List UInt8
  needs : List Rul
  clashes : List Rul
  entries : List Ent5
deriving DecidableEq
def dMf : Mf := ⟨[], [], [], [], []⟩
def MfR (x : Mf) (v0 : Value) (v1 : Value) (v2 : Value) (W : World) : Prop := Rs eRul 3 x.needs v0 W ∧ Rs eRul 3 x.clashes v1 W ∧ Rs eEnt5 5 x.entries v2 W
theorem MfR_all {x : Mf} {v0 : Value} {v1 : Value} {v2 : Value} {W : World} (h : MfR x v0 v1 v2 W) : From (fun _ => True) (MfR x v0 v1 v2) W := ((Rs.all h.1).and ((Rs.all h.2.1).and (Rs.all h.2.2)))
def MfN (x : Mf) (y : Value × Value × Value) (W : World) : Prop := MfR x y.1 y.2.1 y.2.2 W
theorem MfN_all : ∀ (a : Mf) (b : Value × Value × Value) (W : World), MfN a b W → From (fun _ => True) (MfN a b) W := fun _ _ _ h => MfR_all h
def nMf (p : Mf × (Value × Value × Value)) : List Value := [.string (tx p.1.name), .string (tx p.1.version), p.2.1, p.2.2.1, p.2.2.2]
theorem nMf_len (x : Mf × (Value × Value × Value)) : (nMf x).length = 5 := rfl
theorem nMf_one (x : Mf × (Value × Value × Value)) (W : World) (h : MfN x.1 x.2 W) : ∀ c ∈ nMf x, c.oneCell' = true := by
  intro c hc
  unfold MfN MfR at h
  simp only [nMf, List.mem_cons, List.not_mem_nil, or_false] at hc
  rcases hc with rfl | rfl | rfl | rfl | rfl
  · rfl
  · rfl
  · exact rd_one h.1
  · exact rd_one h.2.1
  · exact rd_one h.2.2

theorem some_3 : (Tryd.prog.underlying 3).isSome = true := by kernel_rfl
theorem sz_3 : (Tryd.prog.info? 3).map (·.size) = some 1 := by kernel_rfl
set_option maxRecDepth 100000 in
theorem inf_3 : ∃ i, Tryd.prog.info? 3 = some i ∧ i.zero = some (.int .i64 0) ∧ i.size = 1 ∧ i.bytes = 8 := ⟨_, rfl, rfl, rfl, rfl⟩
theorem sz_4 : (Tryd.prog.info? 4).map (·.size) = some 1 := by kernel_rfl
set_option maxRecDepth 100000 in
theorem inf_4 : ∃ i, Tryd.prog.info? 4 = some i ∧ i.zero = some (.bool false) ∧ i.size = 1 ∧ i.bytes = 1 := ⟨_, rfl, rfl, rfl, rfl⟩
theorem sz_9 : (Tryd.prog.info? 9).map (·.size) = some 1 := by kernel_rfl
set_option maxRecDepth 100000 in
theorem inf_9 : ∃ i, Tryd.prog.info? 9 = some i ∧ i.zero = some (.string (tx [])) ∧ i.size = 1 ∧ i.bytes = 16 := ⟨_, rfl, rfl, rfl, rfl⟩
theorem some_5 : (Tryd.prog.underlying 5).isSome = true := by kernel_rfl
theorem sz_5 : (Tryd.prog.info? 5).map (·.size) = some 1 := by kernel_rfl
set_option maxRecDepth 100000 in
theorem inf_5 : ∃ i, Tryd.prog.info? 5 = some i ∧ i.zero = some (.int .u8 0) ∧ i.size = 1 ∧ i.bytes = 1 := ⟨_, rfl, rfl, rfl, rfl⟩
theorem some_21 : (Tryd.prog.underlying 21).isSome = true := by kernel_rfl
theorem sz_21 : (Tryd.prog.info? 21).map (·.size) = some 1 := by kernel_rfl
set_option maxRecDepth 100000 in
theorem inf_21 : ∃ i, Tryd.prog.info? 21 = some i ∧ i.zero = some (.int .i32 0) ∧ i.size = 1 ∧ i.bytes = 4 := ⟨_, rfl, rfl, rfl, rfl⟩
theorem sz_33 : (Tryd.prog.info? 33).map (·.size) = some 1 := by kernel_rfl
set_option maxRecDepth 100000 in
theorem inf_33 : ∃ i, Tryd.prog.info? 33 = some i ∧ i.zero = some (.slice none 0 0) ∧ i.size = 1 ∧ i.bytes = 24 := ⟨_, rfl, rfl, rfl, rfl⟩
theorem sz_49 : (Tryd.prog.info? 49).map (·.size) = some 1 := by kernel_rfl
set_option maxRecDepth 100000 in
theorem inf_49 : ∃ i, Tryd.prog.info? 49 = some i ∧ i.zero = some (.slice none 0 0) ∧ i.size = 1 ∧ i.bytes = 24 := ⟨_, rfl, rfl, rfl, rfl⟩
theorem sz_53 : (Tryd.prog.info? 53).map (·.size) = some 1 := by kernel_rfl
set_option maxRecDepth 100000 in
theorem inf_53 : ∃ i, Tryd.prog.info? 53 = some i ∧ i.zero = some (.slice none 0 0) ∧ i.size = 1 ∧ i.bytes = 24 := ⟨_, rfl, rfl, rfl, rfl⟩
theorem sz_24 : (Tryd.prog.info? 24).map (·.size) = some 3 := by kernel_rfl
set_option maxRecDepth 100000 in
theorem inf_24 : ∃ i, Tryd.prog.info? 24 = some i ∧ i.zero = some (.agg #[.string (tx []), .int .i64 0, .string (tx [])]) ∧ i.size = 3 ∧ i.bytes = 40 := ⟨_, rfl, rfl, rfl, rfl⟩
theorem r_fa24_0 {o : Oper} {a : Act} {w : World} {x0 : Operand} (g p : Nat) (ho : o.op = .fieldAddr 24 x0 0) (hx : a.eval x0 = .pointer (some ⟨g, p, none⟩)) : (execOp a.eval o).run Tryd.prog w = .ok (.value (.pointer (some ⟨g, p + 0, none⟩))) w := by
  unfold execOp
  simp only [ho, hx]
  generalize a.eval = f at *
  go_simp
theorem r_fa24_1 {o : Oper} {a : Act} {w : World} {x0 : Operand} (g p : Nat) (ho : o.op = .fieldAddr 24 x0 1) (hx : a.eval x0 = .pointer (some ⟨g, p, none⟩)) : (execOp a.eval o).run Tryd.prog w = .ok (.value (.pointer (some ⟨g, p + 1, none⟩))) w := by
  unfold execOp
  simp only [ho, hx]
  generalize a.eval = f at *
  go_simp
theorem r_fa24_2 {o : Oper} {a : Act} {w : World} {x0 : Operand} (g p : Nat) (ho : o.op = .fieldAddr 24 x0 2) (hx : a.eval x0 = .pointer (some ⟨g, p, none⟩)) : (execOp a.eval o).run Tryd.prog w = .ok (.value (.pointer (some ⟨g, p + 2, none⟩))) w := by
  unfold execOp
  simp only [ho, hx]
  generalize a.eval = f at *
  go_simp
theorem sz_120 : (Tryd.prog.info? 120).map (·.size) = some 5 := by kernel_rfl
set_option maxRecDepth 100000 in
theorem inf_120 : ∃ i, Tryd.prog.info? 120 = some i ∧ i.zero = some (.agg #[.int .i64 0, .int .i64 0, .string (tx []), .string (tx []), .string (tx [])]) ∧ i.size = 5 ∧ i.bytes = 64 := ⟨_, rfl, rfl, rfl, rfl⟩
theorem r_fa120_0 {o : Oper} {a : Act} {w : World} {x0 : Operand} (g p : Nat) (ho : o.op = .fieldAddr 120 x0 0) (hx : a.eval x0 = .pointer (some ⟨g, p, none⟩)) : (execOp a.eval o).run Tryd.prog w = .ok (.value (.pointer (some ⟨g, p + 0, none⟩))) w := by
  unfold execOp
  simp only [ho, hx]
  generalize a.eval = f at *
  go_simp
theorem r_fa120_1 {o : Oper} {a : Act} {w : World} {x0 : Operand} (g p : Nat) (ho : o.op = .fieldAddr 120 x0 1) (hx : a.eval x0 = .pointer (some ⟨g, p, none⟩)) : (execOp a.eval o).run Tryd.prog w = .ok (.value (.pointer (some ⟨g, p + 1, none⟩))) w := by
  unfold execOp
  simp only [ho, hx]
  generalize a.eval = f at *
  go_simp
theorem r_fa120_2 {o : Oper} {a : Act} {w : World} {x0 : Operand} (g p : Nat) (ho : o.op = .fieldAddr 120 x0 2) (hx : a.eval x0 = .pointer (some ⟨g, p, none⟩)) : (execOp a.eval o).run Tryd.prog w = .ok (.value (.pointer (some ⟨g, p + 2, none⟩))) w := by
  unfold execOp
  simp only [ho, hx]
  generalize a.eval = f at *
  go_simp
theorem r_fa120_3 {o : Oper} {a : Act} {w : World} {x0 : Operand} (g p : Nat) (ho : o.op = .fieldAddr 120 x0 3) (hx : a.eval x0 = .pointer (some ⟨g, p, none⟩)) : (execOp a.eval o).run Tryd.prog w = .ok (.value (.pointer (some ⟨g, p + 3, none⟩))) w := by
  unfold execOp
  simp only [ho, hx]
  generalize a.eval = f at *
  go_simp
theorem r_fa120_4 {o : Oper} {a : Act} {w : World} {x0 : Operand} (g p : Nat) (ho : o.op = .fieldAddr 120 x0 4) (hx : a.eval x0 = .pointer (some ⟨g, p, none⟩)) : (execOp a.eval o).run Tryd.prog w = .ok (.value (.pointer (some ⟨g, p + 4, none⟩))) w := by
  unfold execOp
  simp only [ho, hx]
  generalize a.eval = f at *
  go_simp
theorem sz_37 : (Tryd.prog.info? 37).map (·.size) = some 5 := by kernel_rfl
set_option maxRecDepth 100000 in
theorem inf_37 : ∃ i, Tryd.prog.info? 37 = some i ∧ i.zero = some (.agg #[.string (tx []), .string (tx []), .slice none 0 0, .slice none 0 0, .slice none 0 0]) ∧ i.size = 5 ∧ i.bytes = 104 := ⟨_, rfl, rfl, rfl, rfl⟩
theorem r_fa37_0 {o : Oper} {a : Act} {w : World} {x0 : Operand} (g p : Nat) (ho : o.op = .fieldAddr 37 x0 0) (hx : a.eval x0 = .pointer (some ⟨g, p, none⟩)) : (execOp a.eval o).run Tryd.prog w = .ok (.value (.pointer (some ⟨g, p + 0, none⟩))) w := by
  unfold execOp
  simp only [ho, hx]
  generalize a.eval = f at *
  go_simp
theorem r_fa37_1 {o : Oper} {a : Act} {w : World} {x0 : Operand} (g p : Nat) (ho : o.op = .fieldAddr 37 x0 1) (hx : a.eval x0 = .pointer (some ⟨g, p, none⟩)) : (execOp a.eval o).run Tryd.prog w = .ok (.value (.pointer (some ⟨g, p + 1, none⟩))) w := by
  unfold execOp
  simp only [ho, hx]
  generalize a.eval = f at *
  go_simp
theorem r_fa37_2 {o : Oper} {a : Act} {w : World} {x0 : Operand} (g p : Nat) (ho : o.op = .fieldAddr 37 x0 2) (hx : a.eval x0 = .pointer (some ⟨g, p, none⟩)) : (execOp a.eval o).run Tryd.prog w = .ok (.value (.pointer (some ⟨g, p + 2, none⟩))) w := by
  unfold execOp
  simp only [ho, hx]
  generalize a.eval = f at *
  go_simp
theorem r_fa37_3 {o : Oper} {a : Act} {w : World} {x0 : Operand} (g p : Nat) (ho : o.op = .fieldAddr 37 x0 3) (hx : a.eval x0 = .pointer (some ⟨g, p, none⟩)) : (execOp a.eval o).run Tryd.prog w = .ok (.value (.pointer (some ⟨g, p + 3, none⟩))) w := by
  unfold execOp
  simp only [ho, hx]
  generalize a.eval = f at *
  go_simp
theorem r_fa37_4 {o : Oper} {a : Act} {w : World} {x0 : Operand} (g p : Nat) (ho : o.op = .fieldAddr 37 x0 4) (hx : a.eval x0 = .pointer (some ⟨g, p, none⟩)) : (execOp a.eval o).run Tryd.prog w = .ok (.value (.pointer (some ⟨g, p + 4, none⟩))) w := by
  unfold execOp
  simp only [ho, hx]
  generalize a.eval = f at *
  go_simp
theorem sz_28 : (Tryd.prog.info? 28).map (·.size) = some 1 := by kernel_rfl
set_option maxRecDepth 100000 in
theorem inf_28 : ∃ i, Tryd.prog.info? 28 = some i ∧ i.zero = some (.slice none 0 0) ∧ i.size = 1 ∧ i.bytes = 24 := ⟨_, rfl, rfl, rfl, rfl⟩
theorem sz_35 : (Tryd.prog.info? 35).map (·.size) = some 1 := by kernel_rfl
set_option maxRecDepth 100000 in
theorem inf_35 : ∃ i, Tryd.prog.info? 35 = some i ∧ i.zero = some (.slice none 0 0) ∧ i.size = 1 ∧ i.bytes = 24 := ⟨_, rfl, rfl, rfl, rfl⟩
theorem sz_22 : (Tryd.prog.info? 22).map (·.size) = some 1 := by kernel_rfl
set_option maxRecDepth 100000 in
theorem inf_22 : ∃ i, Tryd.prog.info? 22 = some i ∧ i.zero = some (.slice none 0 0) ∧ i.size = 1 ∧ i.bytes = 24 := ⟨_, rfl, rfl, rfl, rfl⟩
theorem some_30 : (Tryd.prog.underlying 30).isSome = true := by kernel_rfl
theorem sz_30 : (Tryd.prog.info? 30).map (·.size) = some 1 := by kernel_rfl
set_option maxRecDepth 100000 in
theorem inf_30 : ∃ i, Tryd.prog.info? 30 = some i ∧ i.zero = some (.int .i64 0) ∧ i.size = 1 ∧ i.bytes = 8 := ⟨_, rfl, rfl, rfl, rfl⟩
theorem b_eql {o : Oper} {a : Act} {w : World} {x y : Operand} (p q : Bool) (ho : o.op = .binOp .eql 4 x y 4) (hx : a.eval x = .bool p) (hy : a.eval y = .bool q) : (execOp a.eval o).run Tryd.prog w = .ok (.value (.bool (p == q))) w := by
  unfold execOp
  simp only [ho, hx, hy]
  generalize a.eval = f at *
  cases p <;> cases q <;> go_simp
theorem b_neq {o : Oper} {a : Act} {w : World} {x y : Operand} (p q : Bool) (ho : o.op = .binOp .neq 4 x y 4) (hx : a.eval x = .bool p) (hy : a.eval y = .bool q) : (execOp a.eval o).run Tryd.prog w = .ok (.value (.bool (p != q))) w := by
  unfold execOp
  simp only [ho, hx, hy]
  generalize a.eval = f at *
  cases p <;> cases q <;> go_simp
theorem eq24 (x y : Rul) (w : World) : (Op.equalIn 10000 24 (.agg #[.string (tx x.name), .int .i64 (x.op), .string (tx x.version)]) (.agg #[.string (tx y.name), .int .i64 (y.op), .string (tx y.version)])).run Tryd.prog w = .ok (decide (x = y)) w := by
  have u3 := Tryd.underlying3
  have a3 := Tryd.isAgg3
  have z3 := Tryd.sizeOf3
  have u9 := Tryd.underlying9
  have a9 := Tryd.isAgg9
  have z9 := Tryd.sizeOf9
  have hS : Tryd.prog.underlying 24 = some (.struct (Tryd.prog.fieldsOf 24)) := by kernel_rfl
  have hp : Tryd.prog.stoodInHeld 24 = false := by kernel_rfl
  rw [show (10000 : Nat) = 9999 + 1 from rfl, run_equalIn_agg w 9999 24 _ _ hS hp]
  simp only [Program.fieldsOf, Tryd.underlying24]
  go_simp
  obtain ⟨x0, x1, x2⟩ := x
  obtain ⟨y0, y1, y2⟩ := y
  simp only [tx_list]
  by_cases h0 : x0 = y0 <;> by_cases h1 : x1 = y1 <;> by_cases h2 : x2 = y2 <;> simp [h0, h1, h2]
theorem c24_eql {o : Oper} {a : Act} {w : World} {p q : Operand} {T' : TypeId} (x y : Rul) (ho : o.op = .binOp .eql 24 p q T') (hx : a.eval p = .agg #[.string (tx x.name), .int .i64 (x.op), .string (tx x.version)]) (hy : a.eval q = .agg #[.string (tx y.name), .int .i64 (y.op), .string (tx y.version)]) : (execOp a.eval o).run Tryd.prog w = .ok (.value (.bool (decide (x = y)))) w := by
  have hm : Tryd.prog.eqGuardType Tryd.prog.depth 24 = false := by kernel_rfl
  have e := eq24 x y w
  unfold execOp
  simp only [ho, hx, hy]
  generalize a.eval = f at *
  simp only [Sem.run_bind, run_eqGuard_agg _ _ _ _ _ _ _ hm, run_eql_struct, e, Result.andThen_ok]
  rfl
theorem c24_neq {o : Oper} {a : Act} {w : World} {p q : Operand} {T' : TypeId} (x y : Rul) (ho : o.op = .binOp .neq 24 p q T') (hx : a.eval p = .agg #[.string (tx x.name), .int .i64 (x.op), .string (tx x.version)]) (hy : a.eval q = .agg #[.string (tx y.name), .int .i64 (y.op), .string (tx y.version)]) : (execOp a.eval o).run Tryd.prog w = .ok (.value (.bool (decide (¬ x = y)))) w := by
  have hm : Tryd.prog.eqGuardType Tryd.prog.depth 24 = false := by kernel_rfl
  have e := eq24 x y w
  unfold execOp
  simp only [ho, hx, hy]
  generalize a.eval = f at *
  simp only [Sem.run_bind, run_eqGuard_agg _ _ _ _ _ _ _ hm, run_neq_struct, e, Result.andThen_ok]
  simp
end Go.Proofs.YtpbenhfnebgbiaaDoor.Pa
