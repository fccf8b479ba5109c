/- Layer 3: folding, products: plain facts, no program. -/
import Derived.Test.YtfpphinnngblgaaDoorFldM
namespace Go.Proofs.YtfpphinnngblgaaDoor.Fld
open Go.Proofs.YtfpphinnngblgaaDoor.Num (val up val_congr val_add val_lt val_up val_digits val_word)

/-- What is carried ahead of word k of a times x. -/
def over (a x k : Nat) : Nat := a % 18446744073709551616 ^ k * x / 18446744073709551616 ^ k
theorem over_zero (a x : Nat) : over a x 0 = 0 := by simp [over, Nat.mod_one]
theorem mul_dec (a x k : Nat) : a * x = a % 18446744073709551616 ^ k * x + 18446744073709551616 ^ k * (a / 18446744073709551616 ^ k * x) := by
  have h := Nat.div_add_mod a (18446744073709551616 ^ k)
  calc a * x = (18446744073709551616 ^ k * (a / 18446744073709551616 ^ k) + a % 18446744073709551616 ^ k) * x := by rw [h]
    _ = _ := by rw [Nat.add_mul, Nat.mul_assoc]; omega
theorem wd_mul (a x k : Nat) : wd (a * x) k = (wd a k * x + over a x k) % 18446744073709551616 := by
  unfold over
  show a * x / _ % _ = _
  rw [mul_dec a x k, Nat.add_mul_div_left _ _ (wpow_pos k)]
  unfold wd
  rw [Nat.add_mod, Nat.add_mod (a / 18446744073709551616 ^ k % 18446744073709551616 * x), Nat.mod_mul_mod]
  omega
theorem over_succ (a x k : Nat) : over a x (k + 1) = (wd a k * x + over a x k) / 18446744073709551616 := by
  have e : a % 18446744073709551616 ^ (k + 1) * x = a % 18446744073709551616 ^ k * x + 18446744073709551616 ^ k * (wd a k * x) := by
    rw [mod_succ, Nat.add_mul, Nat.mul_assoc]
  unfold over
  rw [e, Nat.pow_succ, ← Nat.div_div_eq_div_mul, Nat.add_mul_div_left _ _ (wpow_pos k)]
  congr 1; omega
theorem over_lt (a x k : Nat) (hx : x < 18446744073709551616) : over a x k < 18446744073709551616 := by
  unfold over
  apply Nat.div_lt_of_lt_mul
  have h := Nat.mod_lt a (wpow_pos k)
  exact Nat.mul_lt_mul'' h hx
theorem over_top (a x : Nat) (ha : a < MM) : over a x 4 = a * x / MM := by
  unfold over
  rw [MM_eq] at *
  rw [Nat.mod_eq_of_lt ha]
/-- One step of a product by a word: high and low of the product, the sum's carry. -/
theorem times_step (p o : Nat) :
    (p % 18446744073709551616 + o + 0) % 18446744073709551616 = (p + o) % 18446744073709551616 ∧ p / 18446744073709551616 + (p % 18446744073709551616 + o + 0) / 18446744073709551616 = (p + o) / 18446744073709551616 := by
  omega
theorem mul_high (a b : Nat) (ha : a < 18446744073709551616) (hb : b < 18446744073709551616) : a * b / 18446744073709551616 + 1 < 18446744073709551616 ∧ a * b ≤ 340282366920938463426481119284349108225 := by
  have h : a * b ≤ 18446744073709551615 * 18446744073709551615 := Nat.mul_le_mul (by omega) (by omega)
  constructor <;> omega
/-- Folding: 2 to the power of 256 leaves 38. -/
theorem fold_mod (a c : Nat) : (a + c * MM) % 57896044618658097711785492504343953926634992332820282019728792003956564819949 = (a + 38 * c) % 57896044618658097711785492504343953926634992332820282019728792003956564819949 := by
  unfold MM
  omega
end Go.Proofs.YtfpphinnngblgaaDoor.Fld
