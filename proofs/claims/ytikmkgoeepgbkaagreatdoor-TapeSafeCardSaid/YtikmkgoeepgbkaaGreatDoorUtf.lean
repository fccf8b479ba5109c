/- Texts' runes: what the decoder finds. -/
import Derived.Test.YtikmkgoeepgbkaaGreatDoorRng
import Derived.Lib.ValidLaws
import Derived.Laws.Cover4
set_option linter.all false
namespace Go.Proofs.YtikmkgoeepgbkaaGreatDoor.Mem
/-- The byte at a place, or 0. -/
def at0 (s : List UInt8) (i : Nat) : Nat := (s.getD i 0).toNat
theorem at0_lt (s : List UInt8) (i : Nat) : at0 s i < 256 := (s.getD i 0).toNat_lt
theorem tx_get! (s : List UInt8) (i : Nat) : ((tx s).get! i).toNat = at0 s i := by
  unfold at0
  congr 1
  show (tx s).data[i]! = _
  unfold tx
  rw [List.getD_eq_getElem?_getD]
  by_cases h : i < s.length
  · rw [getElem!_pos _ _ (by simpa using h), List.getElem?_eq_getElem h]
    simp
  · rw [getElem!_neg _ _ (by simpa using h), List.getElem?_eq_none (by omega)]
    rfl
def validR (c : Nat) : Prop := c < 55296 ∨ (57344 ≤ c ∧ c ≤ 1114111)
theorem valid_iff (c : Nat) : Utf8.valid (c : Int) = true ↔ validR c := by
  unfold Utf8.valid validR
  simp only [Bool.or_eq_true, Bool.and_eq_true, decide_eq_true_eq]
  omega
/-- All that the decoder may find. -/
theorem dec_cases (s : List UInt8) (i : Nat) :
    (at0 s i < 128 ∧ dec s i = (at0 s i, 1)) ∨
    (128 ≤ at0 s i ∧ dec s i = (65533, 1)) ∨
    (i + 2 ≤ s.length ∧ at0 s i / 32 = 6 ∧ at0 s (i + 1) / 64 = 2 ∧ dec s i = (at0 s i % 32 * 64 + at0 s (i + 1) % 64, 2) ∧ 128 ≤ at0 s i % 32 * 64 + at0 s (i + 1) % 64) ∨
    (i + 3 ≤ s.length ∧ at0 s i / 16 = 14 ∧ at0 s (i + 1) / 64 = 2 ∧ at0 s (i + 2) / 64 = 2 ∧ dec s i = (at0 s i % 16 * 4096 + at0 s (i + 1) % 64 * 64 + at0 s (i + 2) % 64, 3) ∧ 2048 ≤ at0 s i % 16 * 4096 + at0 s (i + 1) % 64 * 64 + at0 s (i + 2) % 64 ∧ validR (at0 s i % 16 * 4096 + at0 s (i + 1) % 64 * 64 + at0 s (i + 2) % 64)) ∨
    (i + 4 ≤ s.length ∧ at0 s i / 8 = 30 ∧ at0 s (i + 1) / 64 = 2 ∧ at0 s (i + 2) / 64 = 2 ∧ at0 s (i + 3) / 64 = 2 ∧ dec s i = (at0 s i % 8 * 262144 + at0 s (i + 1) % 64 * 4096 + at0 s (i + 2) % 64 * 64 + at0 s (i + 3) % 64, 4) ∧ 65536 ≤ at0 s i % 8 * 262144 + at0 s (i + 1) % 64 * 4096 + at0 s (i + 2) % 64 * 64 + at0 s (i + 3) % 64 ∧ validR (at0 s i % 8 * 262144 + at0 s (i + 1) % 64 * 4096 + at0 s (i + 2) % 64 * 64 + at0 s (i + 3) % 64)) := by
  unfold dec Utf8.decode Utf8.runeError
  simp only [tx_get!, tx_size, Nat.add_zero, beq_iff_eq, Bool.and_eq_true, decide_eq_true_eq, ge_iff_le]
  by_cases h0 : at0 s i < 128
  · rw [if_pos h0]; exact .inl ⟨h0, rfl⟩
  rw [if_neg h0]
  right
  have h0' : 128 ≤ at0 s i := by omega
  split
  · rename_i h1
    split
    · rename_i h2
      right; left
      exact ⟨by omega, h1.1, h1.2.2, rfl, h2⟩
    · exact .inl ⟨h0', rfl⟩
  split
  · rename_i h1
    split
    · rename_i h2
      right; right; left
      exact ⟨by omega, h1.1.1, h1.1.2.2, h1.2.2, rfl, h2.1, (valid_iff _).1 h2.2⟩
    · exact .inl ⟨h0', rfl⟩
  split
  · rename_i h1
    split
    · rename_i h2
      right; right; right
      exact ⟨by omega, h1.1.1.1, h1.1.1.2.2, h1.1.2.2, h1.2.2, rfl, h2.1, (valid_iff _).1 h2.2⟩
    · exact .inl ⟨h0', rfl⟩
  · exact .inl ⟨h0', rfl⟩
theorem at0_drop (s : List UInt8) (i k : Nat) : at0 (s.drop i) k = at0 s (i + k) := by
  unfold at0
  rw [List.getD_eq_getElem?_getD, List.getD_eq_getElem?_getD, List.getElem?_drop]
theorem dec_drop (s : List UInt8) (i : Nat) : dec (s.drop i) 0 = dec s i := by
  unfold dec Utf8.decode
  simp only [tx_get!, tx_size, at0_drop, List.length_drop, Nat.add_zero, Nat.zero_add]
  have e : ∀ k, 0 < k → decide (k < s.length - i) = decide (i + k < s.length) := fun k _ => decide_eq_decide.2 (by omega)
  rw [e 1 (by decide), e 2 (by decide), e 3 (by decide)]
theorem decodeL_drop (s : List UInt8) (i : Nat) : Lib.decodeL (s.drop i) = dec s i := by
  rw [← dec_drop]
  rfl
theorem valid_at (s : List UInt8) (i : Nat) (h : i < s.length) : Lib.validD (s.drop i) = if dec s i = (65533, 1) then false else Lib.validD (s.drop (nxp s i)) := by
  rw [Lib.validD_step _ (by intro e; have := congrArg List.length e; rw [List.length_drop] at this; simp at this; omega), decodeL_drop, List.drop_drop, nxp_lt h]
  have e : ((dec s i).1 = 65533 ∧ (dec s i).2 = 1) = (dec s i = (65533, 1)) := by
    apply propext
    constructor
    · intro h; exact Prod.ext h.1 h.2
    · intro h; rw [h]; exact ⟨rfl, rfl⟩
  simp only [e]
/-- A rune's bytes. -/
def rune1 (r : Int) : List UInt8 := bl (Utf8.encode r)
section
variable {P : Program} {o : Oper} {a : Act} {w : World} {x : Operand} {T e T' t : TypeId}
theorem r_rune1 {g c : Nat} (r : Int) (hb : Blk w g #[.int .i32 r] t) (hs : P.underlying T = some (.slice e)) (he : P.underlying e = some (.int .i32)) (hd : P.underlying T' = some .string) (ho : o.op = .convert T T' x) (hx : a.eval x = .slice (some ⟨g, 0, none⟩) 1 c) :
    (execOp a.eval o).run P w = .ok (.value (.string (tx (rune1 r)))) w := by
  have h1 := run_convert_runes (P := P) w T T' e ⟨g, 0, none⟩ 1 c [r] (by simp) hs he hd (fun j hj => by
    have hj' : j < 1 := by simpa using hj
    obtain rfl : j = 0 := by omega
    rw [add_lit, hb.cell]
    rfl)
  have e2 : runesBytes ([r].take 1) = tx (rune1 r) := by
    unfold rune1
    rw [tx_bl]
    simp [runesBytes]
  rw [e2] at h1
  unfold execOp
  simp only [ho, hx, Sem.run_bind, h1]
  rfl
end
theorem rune1_len (r : Int) : (rune1 r).length = if Utf8.valid r = true then (if r.toNat < 128 then 1 else if r.toNat < 2048 then 2 else if r.toNat < 65536 then 3 else 4) else 3 := by
  unfold rune1 bl Utf8.encode
  by_cases hv : Utf8.valid r = true
  · rw [if_pos hv]
    simp only [hv, if_true]
    repeat' split
    all_goals rfl
  · rw [if_neg hv]
    simp only [Utf8.runeError, if_neg hv]
    rfl
end Go.Proofs.YtikmkgoeepgbkaaGreatDoor.Mem
