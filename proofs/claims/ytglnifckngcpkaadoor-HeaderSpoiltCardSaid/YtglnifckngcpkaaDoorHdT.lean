/- Layer 9: the types. -/
import Derived.Test.YtglnifckngcpkaaDoorRng
import Derived.Laws.StructEq
import Derived.Test.YtglnifckngcpkaaDoorRows
namespace Go.Proofs.YtglnifckngcpkaaDoor.Hd
open Go.RowKit
open Go.Proofs.YtglnifckngcpkaaDoor.Sym Go.Proofs.YtglnifckngcpkaaDoor.Mem
structure Hdr where
  name : List UInt8
  mode : Int
  uid : Int
  gid : Int
  size : Int
  time : Int
  flag : UInt8
  link : List UInt8
  pfx : List UInt8
deriving DecidableEq
def dHdr : Hdr := ⟨[], 0, 0, 0, 0, 0, 0, [], []⟩
def eHdr (x : Hdr) : List Value := [.string (tx x.name), .int .i64 (x.mode), .int .i64 (x.uid), .int .i64 (x.gid), .int .i64 (x.size), .int .i64 (x.time), .int .u8 ((x.flag.toNat : Nat) : Int), .string (tx x.link), .string (tx x.pfx)]
theorem eHdr_len (x : Hdr) : (eHdr x).length = 9 := rfl
theorem eHdr_one (x : Hdr) : ∀ u ∈ eHdr x, u.oneCell' = true := by
  intro u hu
  simp only [eHdr, List.mem_cons, List.not_mem_nil, or_false] at hu
  rcases hu with rfl | rfl | rfl | rfl | rfl | rfl | rfl | rfl | rfl <;> rfl
structure A56 where
  i0 : List UInt8
  i1 : List UInt8
  i2 : List UInt8
  i3 : List UInt8
  i4 : List UInt8
deriving DecidableEq
def dA56 : A56 := ⟨[], [], [], [], []⟩
def eA56 (x : A56) : List Value := [.string (tx x.i0), .string (tx x.i1), .string (tx x.i2), .string (tx x.i3), .string (tx x.i4)]
theorem eA56_len (x : A56) : (eA56 x).length = 5 := rfl
theorem eA56_one (x : A56) : ∀ u ∈ eA56 x, u.oneCell' = true := by
  intro u hu
  simp only [eA56, List.mem_cons, List.not_mem_nil, or_false] at hu
  rcases hu with rfl | rfl | rfl | rfl | rfl <;> rfl

theorem some_3 : (Tryd.prog.underlying 3).isSome = true := by kernel_rfl
theorem sz_3 : (Tryd.prog.info? 3).map (·.size) = some 1 := by kernel_rfl
set_option maxRecDepth 100000 in
theorem inf_3 : ∃ i, Tryd.prog.info? 3 = some i ∧ i.zero = some (.int .i64 0) ∧ i.size = 1 ∧ i.bytes = 8 := ⟨_, rfl, rfl, rfl, rfl⟩
theorem sz_4 : (Tryd.prog.info? 4).map (·.size) = some 1 := by kernel_rfl
set_option maxRecDepth 100000 in
theorem inf_4 : ∃ i, Tryd.prog.info? 4 = some i ∧ i.zero = some (.bool false) ∧ i.size = 1 ∧ i.bytes = 1 := ⟨_, rfl, rfl, rfl, rfl⟩
theorem sz_9 : (Tryd.prog.info? 9).map (·.size) = some 1 := by kernel_rfl
set_option maxRecDepth 100000 in
theorem inf_9 : ∃ i, Tryd.prog.info? 9 = some i ∧ i.zero = some (.string (tx [])) ∧ i.size = 1 ∧ i.bytes = 16 := ⟨_, rfl, rfl, rfl, rfl⟩
theorem some_5 : (Tryd.prog.underlying 5).isSome = true := by kernel_rfl
theorem sz_5 : (Tryd.prog.info? 5).map (·.size) = some 1 := by kernel_rfl
set_option maxRecDepth 100000 in
theorem inf_5 : ∃ i, Tryd.prog.info? 5 = some i ∧ i.zero = some (.int .u8 0) ∧ i.size = 1 ∧ i.bytes = 1 := ⟨_, rfl, rfl, rfl, rfl⟩
theorem some_21 : (Tryd.prog.underlying 21).isSome = true := by kernel_rfl
theorem sz_21 : (Tryd.prog.info? 21).map (·.size) = some 1 := by kernel_rfl
set_option maxRecDepth 100000 in
theorem inf_21 : ∃ i, Tryd.prog.info? 21 = some i ∧ i.zero = some (.int .i32 0) ∧ i.size = 1 ∧ i.bytes = 4 := ⟨_, rfl, rfl, rfl, rfl⟩
theorem some_33 : (Tryd.prog.underlying 33).isSome = true := by kernel_rfl
theorem sz_33 : (Tryd.prog.info? 33).map (·.size) = some 1 := by kernel_rfl
set_option maxRecDepth 100000 in
theorem inf_33 : ∃ i, Tryd.prog.info? 33 = some i ∧ i.zero = some (.int .u64 0) ∧ i.size = 1 ∧ i.bytes = 8 := ⟨_, rfl, rfl, rfl, rfl⟩
theorem some_69 : (Tryd.prog.underlying 69).isSome = true := by kernel_rfl
theorem sz_69 : (Tryd.prog.info? 69).map (·.size) = some 1 := by kernel_rfl
set_option maxRecDepth 100000 in
theorem inf_69 : ∃ i, Tryd.prog.info? 69 = some i ∧ i.zero = some (.int .u64 0) ∧ i.size = 1 ∧ i.bytes = 8 := ⟨_, rfl, rfl, rfl, rfl⟩
theorem sz_34 : (Tryd.prog.info? 34).map (·.size) = some 1 := by kernel_rfl
set_option maxRecDepth 100000 in
theorem inf_34 : ∃ i, Tryd.prog.info? 34 = some i ∧ i.zero = some (.slice none 0 0) ∧ i.size = 1 ∧ i.bytes = 24 := ⟨_, rfl, rfl, rfl, rfl⟩
theorem sz_51 : (Tryd.prog.info? 51).map (·.size) = some 5 := by kernel_rfl
set_option maxRecDepth 100000 in
theorem inf_51 : ∃ i, Tryd.prog.info? 51 = some i ∧ i.zero = some (.agg #[.int .i64 0, .int .i64 0, .int .i64 0, .int .i64 0, .int .i64 0]) ∧ i.size = 5 ∧ i.bytes = 40 := ⟨_, rfl, rfl, rfl, rfl⟩
theorem sz_56 : (Tryd.prog.info? 56).map (·.size) = some 5 := by kernel_rfl
set_option maxRecDepth 100000 in
theorem inf_56 : ∃ i, Tryd.prog.info? 56 = some i ∧ i.zero = some (.agg #[.string (tx []), .string (tx []), .string (tx []), .string (tx []), .string (tx [])]) ∧ i.size = 5 ∧ i.bytes = 80 := ⟨_, rfl, rfl, rfl, rfl⟩
theorem sz_62 : (Tryd.prog.info? 62).map (·.size) = some 6 := by kernel_rfl
set_option maxRecDepth 100000 in
theorem inf_62 : ∃ i, Tryd.prog.info? 62 = some i ∧ i.zero = some (.agg #[.int .i64 0, .int .i64 0, .int .i64 0, .int .i64 0, .int .i64 0, .int .i64 0]) ∧ i.size = 6 ∧ i.bytes = 48 := ⟨_, rfl, rfl, rfl, rfl⟩
theorem sz_23 : (Tryd.prog.info? 23).map (·.size) = some 9 := by kernel_rfl
set_option maxRecDepth 100000 in
theorem inf_23 : ∃ i, Tryd.prog.info? 23 = some i ∧ i.zero = some (.agg #[.string (tx []), .int .i64 0, .int .i64 0, .int .i64 0, .int .i64 0, .int .i64 0, .int .u8 0, .string (tx []), .string (tx [])]) ∧ i.size = 9 ∧ i.bytes = 96 := ⟨_, rfl, rfl, rfl, rfl⟩
theorem r_fa23_0 {o : Oper} {a : Act} {w : World} {x0 : Operand} (g p : Nat) (ho : o.op = .fieldAddr 23 x0 0) (hx : a.eval x0 = .pointer (some ⟨g, p, none⟩)) : (execOp a.eval o).run Tryd.prog w = .ok (.value (.pointer (some ⟨g, p + 0, none⟩))) w := by
  unfold execOp
  simp only [ho, hx]
  generalize a.eval = f at *
  go_simp
theorem r_fa23_1 {o : Oper} {a : Act} {w : World} {x0 : Operand} (g p : Nat) (ho : o.op = .fieldAddr 23 x0 1) (hx : a.eval x0 = .pointer (some ⟨g, p, none⟩)) : (execOp a.eval o).run Tryd.prog w = .ok (.value (.pointer (some ⟨g, p + 1, none⟩))) w := by
  unfold execOp
  simp only [ho, hx]
  generalize a.eval = f at *
  go_simp
theorem r_fa23_2 {o : Oper} {a : Act} {w : World} {x0 : Operand} (g p : Nat) (ho : o.op = .fieldAddr 23 x0 2) (hx : a.eval x0 = .pointer (some ⟨g, p, none⟩)) : (execOp a.eval o).run Tryd.prog w = .ok (.value (.pointer (some ⟨g, p + 2, none⟩))) w := by
  unfold execOp
  simp only [ho, hx]
  generalize a.eval = f at *
  go_simp
theorem r_fa23_3 {o : Oper} {a : Act} {w : World} {x0 : Operand} (g p : Nat) (ho : o.op = .fieldAddr 23 x0 3) (hx : a.eval x0 = .pointer (some ⟨g, p, none⟩)) : (execOp a.eval o).run Tryd.prog w = .ok (.value (.pointer (some ⟨g, p + 3, none⟩))) w := by
  unfold execOp
  simp only [ho, hx]
  generalize a.eval = f at *
  go_simp
theorem r_fa23_4 {o : Oper} {a : Act} {w : World} {x0 : Operand} (g p : Nat) (ho : o.op = .fieldAddr 23 x0 4) (hx : a.eval x0 = .pointer (some ⟨g, p, none⟩)) : (execOp a.eval o).run Tryd.prog w = .ok (.value (.pointer (some ⟨g, p + 4, none⟩))) w := by
  unfold execOp
  simp only [ho, hx]
  generalize a.eval = f at *
  go_simp
theorem r_fa23_5 {o : Oper} {a : Act} {w : World} {x0 : Operand} (g p : Nat) (ho : o.op = .fieldAddr 23 x0 5) (hx : a.eval x0 = .pointer (some ⟨g, p, none⟩)) : (execOp a.eval o).run Tryd.prog w = .ok (.value (.pointer (some ⟨g, p + 5, none⟩))) w := by
  unfold execOp
  simp only [ho, hx]
  generalize a.eval = f at *
  go_simp
theorem r_fa23_6 {o : Oper} {a : Act} {w : World} {x0 : Operand} (g p : Nat) (ho : o.op = .fieldAddr 23 x0 6) (hx : a.eval x0 = .pointer (some ⟨g, p, none⟩)) : (execOp a.eval o).run Tryd.prog w = .ok (.value (.pointer (some ⟨g, p + 6, none⟩))) w := by
  unfold execOp
  simp only [ho, hx]
  generalize a.eval = f at *
  go_simp
theorem r_fa23_7 {o : Oper} {a : Act} {w : World} {x0 : Operand} (g p : Nat) (ho : o.op = .fieldAddr 23 x0 7) (hx : a.eval x0 = .pointer (some ⟨g, p, none⟩)) : (execOp a.eval o).run Tryd.prog w = .ok (.value (.pointer (some ⟨g, p + 7, none⟩))) w := by
  unfold execOp
  simp only [ho, hx]
  generalize a.eval = f at *
  go_simp
theorem r_fa23_8 {o : Oper} {a : Act} {w : World} {x0 : Operand} (g p : Nat) (ho : o.op = .fieldAddr 23 x0 8) (hx : a.eval x0 = .pointer (some ⟨g, p, none⟩)) : (execOp a.eval o).run Tryd.prog w = .ok (.value (.pointer (some ⟨g, p + 8, none⟩))) w := by
  unfold execOp
  simp only [ho, hx]
  generalize a.eval = f at *
  go_simp
theorem some_24 : (Tryd.prog.underlying 24).isSome = true := by kernel_rfl
theorem sz_24 : (Tryd.prog.info? 24).map (·.size) = some 1 := by kernel_rfl
set_option maxRecDepth 100000 in
theorem inf_24 : ∃ i, Tryd.prog.info? 24 = some i ∧ i.zero = some (.int .i64 0) ∧ i.size = 1 ∧ i.bytes = 8 := ⟨_, rfl, rfl, rfl, rfl⟩
theorem b_eql {o : Oper} {a : Act} {w : World} {x y : Operand} (p q : Bool) (ho : o.op = .binOp .eql 4 x y 4) (hx : a.eval x = .bool p) (hy : a.eval y = .bool q) : (execOp a.eval o).run Tryd.prog w = .ok (.value (.bool (p == q))) w := by
  unfold execOp
  simp only [ho, hx, hy]
  generalize a.eval = f at *
  cases p <;> cases q <;> go_simp
theorem b_neq {o : Oper} {a : Act} {w : World} {x y : Operand} (p q : Bool) (ho : o.op = .binOp .neq 4 x y 4) (hx : a.eval x = .bool p) (hy : a.eval y = .bool q) : (execOp a.eval o).run Tryd.prog w = .ok (.value (.bool (p != q))) w := by
  unfold execOp
  simp only [ho, hx, hy]
  generalize a.eval = f at *
  cases p <;> cases q <;> go_simp
end Go.Proofs.YtglnifckngcpkaaDoor.Hd
