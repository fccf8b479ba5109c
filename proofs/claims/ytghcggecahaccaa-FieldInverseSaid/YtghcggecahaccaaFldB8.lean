/- Layer 3: bytes of a number, what is borrowed between them: plain facts, no program. -/
import Derived.Test.YtghcggecahaccaaFldM
namespace Go.Proofs.Ytghcggecahaccaa.Fld
def bo8 (a b k : Nat) : Nat := if a % 256 ^ k < b % 256 ^ k then 1 else 0
theorem bpow_pos (k : Nat) : 0 < 256 ^ k := Nat.pow_pos (by decide)

theorem bo8_le (a b k : Nat) : bo8 a b k ≤ 1 := by unfold bo8; split <;> omega
theorem bo8_zero (a b : Nat) : bo8 a b 0 = 0 := by simp [bo8, Nat.mod_one]
theorem bmod_succ (a k : Nat) : a % 256 ^ (k + 1) = a % 256 ^ k + 256 ^ k * bt a k := Nat.mod_pow_succ
theorem bo8_succ (a b k : Nat) : bo8 a b (k + 1) = if bt a k < bt b k + bo8 a b k then 1 else 0 := by
  have h1 := Nat.mod_lt a (bpow_pos k)
  have h2 := Nat.mod_lt b (bpow_pos k)
  unfold bo8
  rw [bmod_succ, bmod_succ]
  generalize 256 ^ k = P at *
  generalize a % P = x at *
  generalize b % P = y at *
  generalize bt a k = p
  generalize bt b k = q
  by_cases hxy : x < y
  · rw [if_pos hxy]
    by_cases hpq : p < q + 1
    · rw [if_pos hpq, if_pos]
      have : P * p ≤ P * q := Nat.mul_le_mul_left _ (by omega)
      omega
    · rw [if_neg hpq, if_neg]
      have : P * (q + 1) ≤ P * p := Nat.mul_le_mul_left _ (by omega)
      rw [Nat.mul_add] at this
      omega
  · rw [if_neg hxy]
    by_cases hpq : p < q + 0
    · rw [if_pos hpq, if_pos]
      have : P * (p + 1) ≤ P * q := Nat.mul_le_mul_left _ (by omega)
      rw [Nat.mul_add] at this
      omega
    · rw [if_neg hpq, if_neg]
      have : P * q ≤ P * p := Nat.mul_le_mul_left _ (by omega)
      omega
theorem bt_sub (a b k : Nat) (hk : k < 32) (hb : b ≤ MM) : bt (a + MM - b) k = (bt a k + 256 - bt b k - bo8 a b k) % 256 := by
  have hM : MM = 256 ^ k * (256 * 256 ^ (31 - k)) := by
    rw [MM_eq_b, Nat.mul_comm 256 (_ ^ (31 - k)), ← Nat.pow_succ, ← Nat.pow_add]
    congr 1; omega
  have h1 := Nat.div_add_mod a (256 ^ k)
  have h2 := Nat.div_add_mod b (256 ^ k)
  have h3 := Nat.mod_lt a (bpow_pos k)
  have h4 := Nat.mod_lt b (bpow_pos k)
  have hP := bpow_pos k
  unfold bt bo8
  rw [hM] at hb ⊢
  generalize 256 ^ (31 - k) = m at *
  generalize 256 ^ k = P at *
  generalize a / P = p at *
  generalize b / P = q at *
  generalize a % P = x at *
  generalize b % P = y at *
  have hq : q ≤ 256 * m := by
    apply Nat.le_of_not_lt
    intro h
    have : P * (256 * m + 1) ≤ P * q := Nat.mul_le_mul_left _ h
    rw [Nat.mul_add] at this
    omega
  have hq0 : x < y → q + 1 ≤ p + 256 * m := by
    intro hxy
    apply Nat.le_of_not_lt
    intro h
    have hz : p = 0 := by omega
    have hz2 : q = 256 * m := by omega
    subst hz; subst hz2; omega
  have e : (a + P * (256 * m) - b) / P = p + 256 * m - q - (if x < y then 1 else 0) := by
    by_cases hxy : x < y
    · rw [if_pos hxy]
      have hq1 := hq0 hxy
      have : a + P * (256 * m) - b = (P + x - y) + P * (p + 256 * m - q - 1) := by
        have e1 : P * (p + 256 * m - q - 1) = P * p + P * (256 * m) - P * q - P := by
          rw [Nat.mul_sub, Nat.mul_sub, Nat.mul_add, Nat.mul_one]
        have : P * (q + 1) ≤ P * (p + 256 * m) := Nat.mul_le_mul_left _ hq1
        rw [Nat.mul_add, Nat.mul_add] at this
        omega
      rw [this, Nat.add_mul_div_left _ _ hP, Nat.div_eq_of_lt (by omega)]; omega
    · rw [if_neg hxy]
      have : a + P * (256 * m) - b = (x - y) + P * (p + 256 * m - q) := by
        have e1 : P * (p + 256 * m - q) = P * p + P * (256 * m) - P * q := by
          rw [Nat.mul_sub, Nat.mul_add]
        have : P * q ≤ P * (p + 256 * m) := Nat.mul_le_mul_left _ (by omega)
        rw [Nat.mul_add] at this
        omega
      rw [this, Nat.add_mul_div_left _ _ hP, Nat.div_eq_of_lt (by omega)]; omega
  rw [e]
  clear e h1 h2 hb hM
  by_cases hxy : x < y
  · have hq1 := hq0 hxy
    rw [if_pos hxy]; omega
  · rw [if_neg hxy]; omega
theorem bo8_top (a b : Nat) (ha : a < MM) (hb : b < MM) : bo8 a b 32 = if a < b then 1 else 0 := by
  unfold bo8
  rw [MM_eq_b] at *
  rw [Nat.mod_eq_of_lt ha, Nat.mod_eq_of_lt hb]
end Go.Proofs.Ytghcggecahaccaa.Fld
