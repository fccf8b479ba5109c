/- Layer 3: small operations as they stand in the laws. -/
import Derived.Test.YtfpphinnngblgaaDoorFldP
namespace Go.Proofs.YtfpphinnngblgaaDoor.Fld
open Go.RowKit
open Go.Proofs.YtfpphinnngblgaaDoor.Arr Go.Proofs.YtfpphinnngblgaaDoor.Sym

theorem canon_true (a : Nat) (h : a < PP) (w : World) : Calls Tryd.prog 27 #[.agg (bs a)] w fun e w' => e = .returned (.bool true) ∧ Below w.heap.size w w' := by
  have := canon_any a (Nat.lt_trans h pp_lt) w
  unfold canonB at this
  rw [decide_eq_true h] at this
  exact this
section
variable {o : Oper} {a : Act} {w : World} {x y : Operand}
theorem run_eqBt (c d : Bool) (h : c = d) (ho : o.op = .binOp .eql 4 x y 4) (hx : a.eval x = .bool c) (hy : a.eval y = .bool d) :
    (execOp a.eval o).run Tryd.prog w = .ok (.value (.bool true)) w := by
  have := run_eqB (w := w) c d ho hx hy
  rw [this, h]; simp
theorem run_u8int (n : Nat) (hn : n < 256) (ho : o.op = .convert 5 3 x) (hx : a.eval x = .int .u8 (n : Int)) : (execOp a.eval o).run Tryd.prog w = .ok (.value (.int .i64 (n : Int))) w := by
  have h0 : (n : Int) < 256 := by omega
  unfold execOp
  simp only [ho, hx]
  generalize a.eval = f at *
  go_simp
  exact IntWalk.i64_in _ (by omega)
theorem run_intu8 (n : Nat) (ho : o.op = .convert 3 5 x) (hx : a.eval x = .int .i64 (n : Int)) : (execOp a.eval o).run Tryd.prog w = .ok (.value (.int .u8 ((n % 256 : Nat) : Int))) w := by
  unfold execOp
  simp only [ho, hx]
  generalize a.eval = f at *
  go_simp
  exact IntKind.wrap_u8 _
theorem run_addi (n m : Nat) (hn : n < 256) (hm : m < 256) (ho : o.op = .binOp .add 3 x y 3) (hx : a.eval x = .int .i64 (n : Int)) (hy : a.eval y = .int .i64 (m : Int)) : (execOp a.eval o).run Tryd.prog w = .ok (.value (.int .i64 ((n + m : Nat) : Int))) w := by
  have h0 : (n : Int) < 256 := by omega
  have h1 : (m : Int) < 256 := by omega
  unfold execOp
  simp only [ho, hx, hy]
  generalize a.eval = f at *
  go_simp
  exact IntWalk.i64_in _ (by omega)
theorem run_muli (n m : Nat) (hn : n < 256) (hm : m < 256) (ho : o.op = .binOp .mul 3 x y 3) (hx : a.eval x = .int .i64 (n : Int)) (hy : a.eval y = .int .i64 (m : Int)) : (execOp a.eval o).run Tryd.prog w = .ok (.value (.int .i64 ((n * m : Nat) : Int))) w := by
  have hp : n * m < 65536 := Nat.mul_lt_mul'' hn hm
  have h2 : (n : Int) * (m : Int) < 65536 := by have : ((n * m : Nat) : Int) < 65536 := by omega
                                                rwa [Int.natCast_mul] at this
  have h3 : (0 : Int) ≤ (n : Int) * (m : Int) := by have : (0 : Int) ≤ ((n * m : Nat) : Int) := by omega
                                                    rwa [Int.natCast_mul] at this
  have h4 : IntKind.i64.wrap ((n : Int) * (m : Int)) = (n : Int) * (m : Int) := IntWalk.i64_in _ (by omega)
  unfold execOp
  simp only [ho, hx, hy]
  generalize a.eval = f at *
  go_simp
theorem run_shr8 (n : Nat) (hn : n < 65536) (ho : o.op = .binOp .shr 3 x (.const (.int .u64 8)) 40) (hx : a.eval x = .int .i64 (n : Int)) : (execOp a.eval o).run Tryd.prog w = .ok (.value (.int .i64 ((n / 256 : Nat) : Int))) w := by
  have h0 : (n : Int) < 65536 := by omega
  have hf : a.eval (.const (.int .u64 8)) = .int .u64 8 := rfl
  unfold execOp
  simp only [ho, hx]
  generalize a.eval = f at *
  go_simp
theorem bs_small (n : Nat) (hn : n < 65536) : bs n = #[.int .u8 ((n % 256 : Nat) : Int), .int .u8 ((n / 256 : Nat) : Int), .int .u8 0, .int .u8 0, .int .u8 0, .int .u8 0, .int .u8 0, .int .u8 0, .int .u8 0, .int .u8 0, .int .u8 0, .int .u8 0, .int .u8 0, .int .u8 0, .int .u8 0, .int .u8 0, .int .u8 0, .int .u8 0, .int .u8 0, .int .u8 0, .int .u8 0, .int .u8 0, .int .u8 0, .int .u8 0, .int .u8 0, .int .u8 0, .int .u8 0, .int .u8 0, .int .u8 0, .int .u8 0, .int .u8 0, .int .u8 0] := by
  have e : bs n = rowOf .u8 (fun j => if j = 0 then n % 256 else if j = 1 then n / 256 else 0) 32 := rowOf_congr fun j hj => by
    unfold bt
    by_cases h0 : j = 0
    · subst h0; simp
    · by_cases h1 : j = 1
      · subst h1; simp; omega
      · rw [if_neg h0, if_neg h1]
        obtain ⟨k, rfl⟩ : ∃ k, j = 2 + k := ⟨j - 2, by omega⟩
        rw [Nat.pow_add, ← Nat.div_div_eq_div_mul, Nat.div_eq_of_lt (by omega : n < 256 ^ 2), Nat.zero_div, Nat.zero_mod]
  rw [e]
  rfl
theorem run_bd2 (n : Nat) (hn : n < 65536) (ho : o.op = .build 23 #[(0, x), (1, y)]) (hx : a.eval x = .int .u8 ((n % 256 : Nat) : Int)) (hy : a.eval y = .int .u8 ((n / 256 % 256 : Nat) : Int)) : (execOp a.eval o).run Tryd.prog w = .ok (.value (.agg (bs n))) w := by
  rw [Nat.mod_eq_of_lt (by omega : n / 256 < 256)] at hy
  rw [bs_small n hn]
  unfold execOp
  simp only [ho]
  generalize a.eval = f at *
  simp [hx, hy, go_sem]
theorem run_bd1 (n : Nat) (hn : n < 256) (ho : o.op = .build 23 #[(0, x)]) (hx : a.eval x = .int .u8 (n : Int)) : (execOp a.eval o).run Tryd.prog w = .ok (.value (.agg (bs n))) w := by
  rw [bs_small n (by omega), Nat.mod_eq_of_lt hn, Nat.div_eq_of_lt hn]
  unfold execOp
  simp only [ho]
  generalize a.eval = f at *
  simp [hx, go_sem]
end
end Go.Proofs.YtfpphinnngblgaaDoor.Fld
