/- Layer 12: operations on texts and runes. -/
import Derived.Test.YtpbenhfnebgbiaaDoorPaT
import Derived.Test.YtpbenhfnebgbiaaDoorAl
import Derived.Test.YtpbenhfnebgbiaaDoorUtf
set_option linter.unusedVariables false
namespace Go.Proofs.YtpbenhfnebgbiaaDoor.Mem
open Go.RowKit
section
variable {P : Program} {o : Oper} {a : Act} {w : World} {x y : Operand} {T T' : TypeId}
theorem t_gtr (s t : List UInt8) (ho : o.op = .binOp .gtr T x y T') (hx : a.eval x = .string (tx s)) (hy : a.eval y = .string (tx t)) : (execOp a.eval o).run P w = .ok (.value (.bool (!lt' s t && !decide (s = t)))) w := by
  have e : Op.bytesLess (tx s).toList (tx t).toList = lt' s t := by rw [tx_list, tx_list]; rfl
  have e2 : ((tx s).toList == (tx t).toList) = decide (s = t) := by rw [tx_list, tx_list, Bool.eq_iff_iff, beq_iff_eq, decide_eq_true_iff]
  unfold execOp
  simp only [ho, hx, hy]
  generalize a.eval = f at *
  go_simp
theorem r_maxN {k : IntKind} (n m : Nat) (hT : P.underlying T = some (.int k)) (ho : o.op = .call { callee := .builtin .max, args := #[x, y], argTypes := #[T, T] }) (hx : a.eval x = .int k (n : Int)) (hy : a.eval y = .int k (m : Int)) : (execOp a.eval o).run P w = .ok (.value (.int k ((max n m : Nat) : Int))) w := by
  unfold execOp
  simp only [ho, resolve, invoke, builtin, Sem.run_bind, Sem.run_pure, Result.andThen_ok, List.map_toArray, List.map_cons, List.map_nil, hx, hy]
  generalize a.eval = f at *
  go_simp
  omega
theorem r_runeI (r : Int) (hT : P.underlying T = some (.int .i32)) (hd : P.underlying T' = some .string) (ho : o.op = .convert T T' x) (hx : a.eval x = .int .i32 r) : (execOp a.eval o).run P w = .ok (.value (.string (tx (rune1 r)))) w := by
  unfold rune1
  rw [tx_bl]
  unfold execOp
  simp only [ho, hx]
  generalize a.eval = f at *
  go_simp
theorem z_neg {k : IntKind} (n z : Int) (h : k.wrap (-n) = z) (hT : P.underlying T = some (.int k)) (ho : o.op = .unOp .neg T x) (hx : a.eval x = .int k n) : (execOp a.eval o).run P w = .ok (.value (.int k z)) w := by
  unfold execOp
  simp only [ho, hx]
  generalize a.eval = f at *
  go_simp
theorem u8_wrap (n : Int) (h : 0 ≤ n) : IntKind.u8.wrap n = (((UInt8.ofNat n.toNat).toNat : Nat) : Int) := by
  rw [UInt8.toNat_ofNat']
  simp [IntKind.wrap, IntKind.bits, IntKind.signed]
  omega
theorem u_add {T' : TypeId} (n m : Nat) (ho : o.op = .binOp .add T x y T') (hx : a.eval x = .int .u8 ((n : Nat) : Int)) (hy : a.eval y = .int .u8 ((m : Nat) : Int)) : (execOp a.eval o).run P w = .ok (.value (.int .u8 (((UInt8.ofNat (n + m)).toNat : Nat) : Int))) w := by
  have e := u8_wrap ((n : Int) + (m : Int)) (by omega)
  rw [show ((n : Int) + (m : Int)).toNat = n + m from by omega] at e
  rw [← e]
  unfold execOp
  simp only [ho, hx, hy]
  generalize a.eval = f at *
  go_simp
end
def eR (n : Int) : List Value := [.int .i32 n]
theorem eR_len (n : Int) : (eR n).length = 1 := rfl
theorem eR_one (n : Int) : ∀ u ∈ eR n, u.oneCell' = true := by intro u hu; rw [eR, List.mem_singleton] at hu; subst hu; rfl
theorem rune1_le (r : Int) : 1 ≤ (rune1 r).length ∧ (rune1 r).length ≤ 4 := by
  rw [rune1_len]
  repeat' split
  all_goals omega
theorem rune1_hi (r : Int) (h0 : 128 ≤ r) : 2 ≤ (rune1 r).length ∧ (rune1 r).length ≤ 4 ∧ ∀ c ∈ rune1 r, 128 ≤ c.toNat := by
  have hb : ∀ n : Nat, 128 ≤ n → n < 256 → 128 ≤ (UInt8.ofNat n).toNat := by
    intro n h1 h2
    rw [UInt8.toNat_ofNat', Nat.mod_eq_of_lt (by omega)]
    exact h1
  obtain ⟨c, hc, h1, h2⟩ : ∃ c, (if Utf8.valid r = true then r.toNat else Utf8.runeError) = c ∧ 128 ≤ c ∧ c ≤ 1114111 := by
    refine ⟨_, rfl, ?_, ?_⟩
    · split
      · omega
      · decide
    · split
      · rename_i h
        have := (valid_iff r.toNat).1 (by rw [show ((r.toNat : Nat) : Int) = r from by omega]; exact h)
        unfold validR at this
        omega
      · decide
  unfold rune1 bl Utf8.encode
  simp only [hc]
  rw [if_neg (by omega)]
  split
  · refine ⟨by simp, by simp, ?_⟩
    intro d hd
    simp only [List.mem_cons, List.not_mem_nil, or_false] at hd
    rcases hd with rfl | rfl <;> exact hb _ (by omega) (by omega)
  split
  · refine ⟨by simp, by simp, ?_⟩
    intro d hd
    simp only [List.mem_cons, List.not_mem_nil, or_false] at hd
    rcases hd with rfl | rfl | rfl <;> exact hb _ (by omega) (by omega)
  · refine ⟨by simp, by simp, ?_⟩
    intro d hd
    simp only [List.mem_cons, List.not_mem_nil, or_false] at hd
    rcases hd with rfl | rfl | rfl | rfl <;> exact hb _ (by omega) (by omega)
end Go.Proofs.YtpbenhfnebgbiaaDoor.Mem
