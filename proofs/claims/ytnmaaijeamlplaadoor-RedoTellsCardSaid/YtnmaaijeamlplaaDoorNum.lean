/- Numbers of words and of bytes: plain facts, no program. -/
import Derived.Lib.Strings
namespace Go.Proofs.YtnmaaijeamlplaaDoor.Num

/-- The number of n digits to base b, the lowest first. -/
def val (b : Nat) (f : Nat → Nat) : Nat → Nat
  | 0 => 0
  | n + 1 => val b f n + f n * b ^ n
def up (f : Nat → Nat) (i x : Nat) : Nat → Nat := fun j => if j = i then x else f j
theorem val_congr {b : Nat} {f g : Nat → Nat} : ∀ {n : Nat}, (∀ j, j < n → f j = g j) → val b f n = val b g n
  | 0, _ => rfl
  | n + 1, h => by rw [val, val, val_congr (fun j hj => h j (by omega)), h n (by omega)]
theorem val_add (b : Nat) (f : Nat → Nat) (m : Nat) : ∀ n : Nat, val b f (m + n) = val b f m + b ^ m * val b (fun j => f (m + j)) n
  | 0 => by simp [val]
  | n + 1 => by
    rw [← Nat.add_assoc, val, val_add b f m n, val, Nat.mul_add, Nat.pow_add, Nat.add_assoc]
    congr 2
    rw [Nat.mul_left_comm]
theorem val_lt {b : Nat} {f : Nat → Nat} : ∀ {n : Nat}, (∀ j, j < n → f j < b) → val b f n < b ^ n
  | 0, _ => by simp [val]
  | n + 1, h => by
    have ih := val_lt (n := n) (fun j hj => h j (by omega))
    have hn := h n (by omega)
    have : (f n + 1) * b ^ n ≤ b * b ^ n := Nat.mul_le_mul_right _ hn
    rw [Nat.add_mul, Nat.one_mul] at this
    rw [val, Nat.pow_succ, Nat.mul_comm (b ^ n) b]
    omega
theorem val_up {b : Nat} {f : Nat → Nat} {k x : Nat} : ∀ {n : Nat}, k < n → val b (up f k x) n + f k * b ^ k = val b f n + x * b ^ k
  | n + 1, h => by
    rw [val, val]
    by_cases e : k = n
    · subst e
      rw [val_congr (f := up f k x) (g := f) (fun j hj => by unfold up; rw [if_neg (by omega)])]
      show _ + (if k = k then x else f k) * _ + _ = _
      rw [if_pos rfl]; omega
    · have ih := val_up (b := b) (f := f) (k := k) (x := x) (n := n) (by omega)
      have : up f k x n = f n := by unfold up; rw [if_neg (fun e' => e e'.symm)]
      rw [this]; omega
theorem val_digits (b x : Nat) : ∀ n, val b (fun j => x / b ^ j % b) n = x % b ^ n
  | 0 => by simp [val, Nat.mod_one]
  | n + 1 => by rw [val, val_digits b x n, Nat.mod_pow_succ, Nat.mul_comm (b ^ n)]
theorem val_head (b : Nat) (f : Nat → Nat) (m : Nat) : val b f (1 + m) = f 0 + b * val b (fun j => f (1 + j)) m := by
  rw [val_add]; simp [val]
theorem val_word {b : Nat} {f : Nat → Nat} {n q : Nat} (h : ∀ j, j < n → f j < b) (hq : q < n) : val b f n / b ^ q % b = f q := by
  have hb : 0 < b := Nat.lt_of_le_of_lt (Nat.zero_le _) (h q hq)
  obtain ⟨m, rfl⟩ : ∃ m, n = q + (1 + m) := ⟨n - q - 1, by omega⟩
  rw [val_add, Nat.add_mul_div_left _ _ (Nat.pow_pos hb), Nat.div_eq_of_lt (val_lt fun j hj => h j (by omega)), Nat.zero_add, val_head, Nat.add_mul_mod_self_left, Nat.mod_eq_of_lt (h _ (by omega))]
  rfl
theorem val_split (b : Nat) (f : Nat → Nat) (m : Nat) : ∀ n : Nat, val (b ^ m) (fun i => val b (fun j => f (m * i + j)) m) n = val b f (m * n)
  | 0 => by simp [val]
  | n + 1 => by
    rw [val, val_split b f m n, Nat.mul_succ, val_add, ← Nat.pow_mul, Nat.mul_comm (b ^ (m * n))]

/-- What is borrowed ahead of word n of a less b; the words of the difference. -/
def bor (a b : Nat → Nat) : Nat → Nat
  | 0 => 0
  | n + 1 => if a n < b n + bor a b n then 1 else 0
def dif (a b : Nat → Nat) (i : Nat) : Nat := (a i + 18446744073709551616 - b i - bor a b i) % 18446744073709551616
theorem bor_le (a b : Nat → Nat) : ∀ n, bor a b n ≤ 1
  | 0 => by simp [bor]
  | n + 1 => by rw [bor]; split <;> omega
theorem dif_lt (a b : Nat → Nat) (i : Nat) : dif a b i < 18446744073709551616 := Nat.mod_lt _ (by decide)
theorem dif_val (a b : Nat → Nat) : ∀ n, (∀ j, j < n → a j < 18446744073709551616) → (∀ j, j < n → b j < 18446744073709551616) →
    val 18446744073709551616 (dif a b) n + val 18446744073709551616 b n = val 18446744073709551616 a n + bor a b n * 18446744073709551616 ^ n
  | 0, _, _ => by simp [val, bor]
  | n + 1, ha, hb => by
    have ih := dif_val a b n (fun j hj => ha j (by omega)) (fun j hj => hb j (by omega))
    have h1 := ha n (by omega)
    have h2 := hb n (by omega)
    have h3 := bor_le a b n
    have e : dif a b n + b n + bor a b n = a n + bor a b (n + 1) * 18446744073709551616 := by
      unfold dif; rw [bor]; split <;> omega
    rw [val, val, val, Nat.pow_succ, Nat.mul_comm (18446744073709551616 ^ n), ← Nat.mul_assoc]
    generalize 18446744073709551616 ^ n = P at *
    have e2 := congrArg (· * P) e
    simp only [Nat.add_mul] at e2
    omega
theorem bor_val (a b : Nat → Nat) (n : Nat) (ha : ∀ j, j < n → a j < 18446744073709551616) (hb : ∀ j, j < n → b j < 18446744073709551616) :
    bor a b n = if val 18446744073709551616 a n < val 18446744073709551616 b n then 1 else 0 := by
  have h := dif_val a b n ha hb
  have h2 : val 18446744073709551616 (dif a b) n < 18446744073709551616 ^ n := val_lt fun j _ => dif_lt a b j
  have h3 := bor_le a b n
  have h4 : bor a b n = 0 ∨ bor a b n = 1 := by omega
  rcases h4 with h4 | h4
  · rw [h4] at h ⊢; rw [if_neg (by omega)]
  · rw [h4] at h ⊢; rw [if_pos (by omega)]

/-- What comes into word n of twice w; its words. -/
def dc (w : Nat → Nat) (c : Nat) : Nat → Nat
  | 0 => c
  | n + 1 => w n / 9223372036854775808
def dbl (w : Nat → Nat) (c i : Nat) : Nat := w i * 2 % 18446744073709551616 + dc w c i
theorem dc_le (w : Nat → Nat) (c n : Nat) (hc : c ≤ 1) (hw : ∀ j, j < n → w j < 18446744073709551616) : dc w c n ≤ 1 := by
  cases n with
  | zero => exact hc
  | succ n => have := hw n (by omega); rw [dc]; omega
theorem dbl_lt (w : Nat → Nat) (c n : Nat) (hc : c ≤ 1) (hw : ∀ j, j < n + 1 → w j < 18446744073709551616) : dbl w c n < 18446744073709551616 := by
  have := dc_le w c n hc (fun j hj => hw j (by omega))
  unfold dbl; omega
theorem dbl_val (w : Nat → Nat) (c : Nat) : ∀ n, (∀ j, j < n → w j < 18446744073709551616) →
    val 18446744073709551616 (dbl w c) n + dc w c n * 18446744073709551616 ^ n = 2 * val 18446744073709551616 w n + c
  | 0, _ => by simp [val, dc]
  | n + 1, hw => by
    have ih := dbl_val w c n (fun j hj => hw j (by omega))
    have h1 := hw n (by omega)
    have e : dbl w c n + dc w c (n + 1) * 18446744073709551616 = 2 * w n + dc w c n := by
      unfold dbl; rw [dc]; omega
    rw [val, val, Nat.pow_succ, Nat.mul_comm (18446744073709551616 ^ n), ← Nat.mul_assoc]
    generalize 18446744073709551616 ^ n = P at *
    have e2 := congrArg (· * P) e
    simp only [Nat.add_mul] at e2
    have e3 : 2 * w n * P = 2 * (w n * P) := Nat.mul_assoc _ _ _
    omega
end Go.Proofs.YtnmaaijeamlplaaDoor.Num
