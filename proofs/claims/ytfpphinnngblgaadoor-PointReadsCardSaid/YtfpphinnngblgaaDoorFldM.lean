/- Layer 3: words of a number, carries and borrows: plain facts, no program. -/
import Derived.Test.YtfpphinnngblgaaDoorNum
namespace Go.Proofs.YtfpphinnngblgaaDoor.Fld
open Go.Proofs.YtfpphinnngblgaaDoor.Num (val up val_congr val_add val_lt val_up val_digits val_word)

/-- Word i of n, byte i of n. -/
def wd (n i : Nat) : Nat := n / 18446744073709551616 ^ i % 18446744073709551616
def bt (n i : Nat) : Nat := n / 256 ^ i % 256
theorem wd_lt (n i : Nat) : wd n i < 18446744073709551616 := Nat.mod_lt _ (by decide)
theorem bt_lt (n i : Nat) : bt n i < 256 := Nat.mod_lt _ (by decide)
/-- 2 to the power of 256. -/
def MM : Nat := 115792089237316195423570985008687907853269984665640564039457584007913129639936
theorem MM_eq : MM = 18446744073709551616 ^ 4 := by decide
theorem MM_eq_b : MM = 256 ^ 32 := by decide
theorem wpow_pos (k : Nat) : 0 < 18446744073709551616 ^ k := Nat.pow_pos (by decide)

/-- What is carried ahead of word k of a and b; what is borrowed. -/
def car (a b k : Nat) : Nat := (a % 18446744073709551616 ^ k + b % 18446744073709551616 ^ k) / 18446744073709551616 ^ k
def bo (a b k : Nat) : Nat := if a % 18446744073709551616 ^ k < b % 18446744073709551616 ^ k then 1 else 0
theorem bo_le (a b k : Nat) : bo a b k ≤ 1 := by unfold bo; split <;> omega
theorem car_le (a b k : Nat) : car a b k ≤ 1 := by
  have h1 := Nat.mod_lt a (wpow_pos k)
  have h2 := Nat.mod_lt b (wpow_pos k)
  unfold car
  exact Nat.le_of_lt_succ (Nat.div_lt_of_lt_mul (by omega))
theorem car_zero (a b : Nat) : car a b 0 = 0 := by simp [car, Nat.mod_one]
theorem bo_zero (a b : Nat) : bo a b 0 = 0 := by simp [bo, Nat.mod_one]
theorem mod_succ (a k : Nat) : a % 18446744073709551616 ^ (k + 1) = a % 18446744073709551616 ^ k + 18446744073709551616 ^ k * wd a k := Nat.mod_pow_succ
theorem car_succ (a b k : Nat) : car a b (k + 1) = (wd a k + wd b k + car a b k) / 18446744073709551616 := by
  have e : a % 18446744073709551616 ^ (k + 1) + b % 18446744073709551616 ^ (k + 1) = (a % 18446744073709551616 ^ k + b % 18446744073709551616 ^ k) + 18446744073709551616 ^ k * (wd a k + wd b k) := by
    rw [mod_succ, mod_succ, Nat.mul_add]; omega
  unfold car
  rw [e, Nat.pow_succ, ← Nat.div_div_eq_div_mul, Nat.add_mul_div_left _ _ (wpow_pos k)]
  congr 1; omega
theorem wd_add (a b k : Nat) : wd (a + b) k = (wd a k + wd b k + car a b k) % 18446744073709551616 := by
  have h1 := Nat.div_add_mod a (18446744073709551616 ^ k)
  have h2 := Nat.div_add_mod b (18446744073709551616 ^ k)
  have e : a + b = (a % 18446744073709551616 ^ k + b % 18446744073709551616 ^ k) + 18446744073709551616 ^ k * (a / 18446744073709551616 ^ k + b / 18446744073709551616 ^ k) := by
    rw [Nat.mul_add]; omega
  unfold wd car
  rw [e, Nat.add_mul_div_left _ _ (wpow_pos k)]
  omega
theorem car_top (a b : Nat) (ha : a < MM) (hb : b < MM) : car a b 4 = (a + b) / MM := by
  unfold car
  rw [MM_eq] at *
  rw [Nat.mod_eq_of_lt ha, Nat.mod_eq_of_lt hb]
theorem bo_succ (a b k : Nat) : bo a b (k + 1) = if wd a k < wd b k + bo a b k then 1 else 0 := by
  have h1 := Nat.mod_lt a (wpow_pos k)
  have h2 := Nat.mod_lt b (wpow_pos k)
  unfold bo
  rw [mod_succ, mod_succ]
  generalize 18446744073709551616 ^ k = P at *
  generalize a % P = x at *
  generalize b % P = y at *
  generalize wd a k = p
  generalize wd b k = q
  by_cases hxy : x < y
  · rw [if_pos hxy]
    by_cases hpq : p < q + 1
    · rw [if_pos hpq, if_pos]
      have : P * p ≤ P * q := Nat.mul_le_mul_left _ (by omega)
      omega
    · rw [if_neg hpq, if_neg]
      have : P * (q + 1) ≤ P * p := Nat.mul_le_mul_left _ (by omega)
      rw [Nat.mul_add] at this
      omega
  · rw [if_neg hxy]
    by_cases hpq : p < q + 0
    · rw [if_pos hpq, if_pos]
      have : P * (p + 1) ≤ P * q := Nat.mul_le_mul_left _ (by omega)
      rw [Nat.mul_add] at this
      omega
    · rw [if_neg hpq, if_neg]
      have : P * q ≤ P * p := Nat.mul_le_mul_left _ (by omega)
      omega
theorem wd_sub (a b k : Nat) (hk : k < 4) (hb : b ≤ MM) : wd (a + MM - b) k = (wd a k + 18446744073709551616 - wd b k - bo a b k) % 18446744073709551616 := by
  have hM : MM = 18446744073709551616 ^ k * (18446744073709551616 * 18446744073709551616 ^ (3 - k)) := by
    rw [MM_eq, Nat.mul_comm 18446744073709551616 (_ ^ (3 - k)), ← Nat.pow_succ, ← Nat.pow_add]
    congr 1; omega
  have h1 := Nat.div_add_mod a (18446744073709551616 ^ k)
  have h2 := Nat.div_add_mod b (18446744073709551616 ^ k)
  have h3 := Nat.mod_lt a (wpow_pos k)
  have h4 := Nat.mod_lt b (wpow_pos k)
  have hP := wpow_pos k
  unfold wd bo
  rw [hM] at hb ⊢
  generalize 18446744073709551616 ^ (3 - k) = m at *
  generalize 18446744073709551616 ^ k = P at *
  generalize a / P = p at *
  generalize b / P = q at *
  generalize a % P = x at *
  generalize b % P = y at *
  have hq : q ≤ 18446744073709551616 * m := by
    apply Nat.le_of_not_lt
    intro h
    have : P * (18446744073709551616 * m + 1) ≤ P * q := Nat.mul_le_mul_left _ h
    rw [Nat.mul_add] at this
    omega
  have hq0 : x < y → q + 1 ≤ p + 18446744073709551616 * m := by
    intro hxy
    apply Nat.le_of_not_lt
    intro h
    have hz : p = 0 := by omega
    have hz2 : q = 18446744073709551616 * m := by omega
    subst hz; subst hz2; omega
  have e : (a + P * (18446744073709551616 * m) - b) / P = p + 18446744073709551616 * m - q - (if x < y then 1 else 0) := by
    by_cases hxy : x < y
    · rw [if_pos hxy]
      have hq1 := hq0 hxy
      have : a + P * (18446744073709551616 * m) - b = (P + x - y) + P * (p + 18446744073709551616 * m - q - 1) := by
        have e1 : P * (p + 18446744073709551616 * m - q - 1) = P * p + P * (18446744073709551616 * m) - P * q - P := by
          rw [Nat.mul_sub, Nat.mul_sub, Nat.mul_add, Nat.mul_one]
        have : P * (q + 1) ≤ P * (p + 18446744073709551616 * m) := Nat.mul_le_mul_left _ hq1
        rw [Nat.mul_add, Nat.mul_add] at this
        omega
      rw [this, Nat.add_mul_div_left _ _ hP, Nat.div_eq_of_lt (by omega)]; omega
    · rw [if_neg hxy]
      have : a + P * (18446744073709551616 * m) - b = (x - y) + P * (p + 18446744073709551616 * m - q) := by
        have e1 : P * (p + 18446744073709551616 * m - q) = P * p + P * (18446744073709551616 * m) - P * q := by
          rw [Nat.mul_sub, Nat.mul_add]
        have : P * q ≤ P * (p + 18446744073709551616 * m) := Nat.mul_le_mul_left _ (by omega)
        rw [Nat.mul_add] at this
        omega
      rw [this, Nat.add_mul_div_left _ _ hP, Nat.div_eq_of_lt (by omega)]; omega
  rw [e]
  clear e h1 h2 hb hM
  by_cases hxy : x < y
  · have hq1 := hq0 hxy
    rw [if_pos hxy]; omega
  · rw [if_neg hxy]; omega
theorem bo_top (a b : Nat) (ha : a < MM) (hb : b < MM) : bo a b 4 = if a < b then 1 else 0 := by
  unfold bo
  rw [MM_eq] at *
  rw [Nat.mod_eq_of_lt ha, Nat.mod_eq_of_lt hb]
theorem wd_mod (n i : Nat) (h : i < 4) : wd (n % MM) i = wd n i := by
  unfold wd
  rw [MM_eq]
  rw [show (18446744073709551616 : Nat) ^ 4 = 18446744073709551616 ^ i * 18446744073709551616 ^ (4 - i) by rw [← Nat.pow_add]; congr 1; omega]
  rw [Nat.mod_mul_right_div_self, show 4 - i = (3 - i) + 1 by omega, Nat.pow_succ]
  exact Nat.mod_mul_left_mod _ _ _
theorem val_wd (n m : Nat) : val 18446744073709551616 (wd n) m = n % 18446744073709551616 ^ m := val_digits _ _ _
theorem val_bt (n m : Nat) : val 256 (bt n) m = n % 256 ^ m := val_digits _ _ _
/-- Word i out of its eight bytes. -/
theorem wd_bt (n i : Nat) : wd n i = bt n (8 * i) + 256 * (bt n (8 * i + 1) + 256 * (bt n (8 * i + 2) + 256 * (bt n (8 * i + 3) + 256 * (bt n (8 * i + 4) + 256 * (bt n (8 * i + 5) + 256 * (bt n (8 * i + 6) + 256 * bt n (8 * i + 7))))))) := by
  unfold wd bt
  have h : (18446744073709551616 : Nat) ^ i = 256 ^ (8 * i) := by rw [Nat.pow_mul]
  rw [h]
  simp only [Nat.pow_add, ← Nat.div_div_eq_div_mul]
  generalize n / 256 ^ (8 * i) = x
  omega
/-- Byte j of word i. -/
theorem bt_wd (n i j : Nat) (hj : j < 8) : bt n (8 * i + j) = wd n i / 256 ^ j % 256 := by
  unfold wd bt
  have h : (18446744073709551616 : Nat) ^ i = 256 ^ (8 * i) := by rw [Nat.pow_mul]
  rw [h, Nat.pow_add, ← Nat.div_div_eq_div_mul]
  generalize n / 256 ^ (8 * i) = x
  have hj' : j = 0 ∨ j = 1 ∨ j = 2 ∨ j = 3 ∨ j = 4 ∨ j = 5 ∨ j = 6 ∨ j = 7 := by omega
  rcases hj' with rfl | rfl | rfl | rfl | rfl | rfl | rfl | rfl <;> omega
end Go.Proofs.YtfpphinnngblgaaDoor.Fld
