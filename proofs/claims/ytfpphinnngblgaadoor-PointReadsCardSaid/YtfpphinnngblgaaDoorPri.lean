/- Numbers: primes, Fermat. -/
namespace Go.Proofs.YtfpphinnngblgaaDoor.Pri

structure Pr (p : Nat) : Prop where
  two : 2 ≤ p
  div : ∀ d, d ∣ p → d = 1 ∨ d = p
theorem Pr.euclid {p a b : Nat} (h : Pr p) (hd : p ∣ a * b) : p ∣ a ∨ p ∣ b := by
  rcases h.div (Nat.gcd p a) (Nat.gcd_dvd_left p a) with e | e
  · exact .inr ((Nat.Coprime.dvd_of_dvd_mul_left (k := p) (m := a) (n := b) e hd))
  · exact .inl (e ▸ Nat.gcd_dvd_right p a)
theorem Pr.not_dvd_one {p : Nat} (h : Pr p) : ¬ p ∣ 1 := fun hd => by
  have := Nat.le_of_dvd (by decide) hd
  have := h.two
  omega
theorem Pr.pow {p a : Nat} (h : Pr p) : ∀ {n : Nat}, p ∣ a ^ n → p ∣ a
  | 0, hd => absurd hd (by rw [Nat.pow_zero]; exact h.not_dvd_one)
  | n + 1, hd => by
    rw [Nat.pow_succ] at hd
    rcases h.euclid hd with e | e
    · exact h.pow e
    · exact e

/-- Pascal's numbers. -/
def ch : Nat → Nat → Nat
  | _, 0 => 1
  | 0, _ + 1 => 0
  | n + 1, k + 1 => ch n k + ch n (k + 1)
theorem ch_zero (n : Nat) : ch n 0 = 1 := by cases n <;> rfl
theorem ch_over : ∀ {n k : Nat}, n < k → ch n k = 0
  | _, 0, h => by omega
  | 0, _ + 1, _ => rfl
  | n + 1, k + 1, h => by
    show ch n k + ch n (k + 1) = 0
    rw [ch_over (by omega : n < k), ch_over (by omega : n < k + 1)]
theorem ch_self : ∀ n : Nat, ch n n = 1
  | 0 => rfl
  | n + 1 => by
    show ch n n + ch n (n + 1) = 1
    rw [ch_self n, ch_over (by omega)]
theorem ch_mul : ∀ n k : Nat, (k + 1) * ch (n + 1) (k + 1) = (n + 1) * ch n k
  | 0, 0 => rfl
  | 0, k + 1 => by
    rw [ch_over (by omega : 0 + 1 < k + 1 + 1), ch_over (by omega : 0 < k + 1)]; simp
  | n + 1, 0 => by
    have h := ch_mul n 0
    show (0 + 1) * (ch (n + 1) 0 + ch (n + 1) (0 + 1)) = _
    rw [ch_zero] at *
    omega
  | n + 1, k + 1 => by
    have h1 := ch_mul n k
    have h2 := ch_mul n (k + 1)
    have e1 : ch (n + 1) (k + 1) = ch n k + ch n (k + 1) := rfl
    show (k + 1 + 1) * (ch (n + 1) (k + 1) + ch (n + 1) (k + 1 + 1)) = (n + 1 + 1) * ch (n + 1) (k + 1)
    have e4 : (n + 1) * ch (n + 1) (k + 1) = (n + 1) * ch n k + (n + 1) * ch n (k + 1) := by rw [e1, Nat.mul_add]
    have e5 := Nat.succ_mul (k + 1) (ch (n + 1) (k + 1))
    have e6 := Nat.succ_mul (n + 1) (ch (n + 1) (k + 1))
    simp only [Nat.succ_eq_add_one] at e5 e6
    rw [Nat.mul_add, h2, e5, e6, h1, e4]
    omega
theorem Pr.dvd_ch {p : Nat} (h : Pr p) {k : Nat} (h0 : 0 < k) (hk : k < p) : p ∣ ch p k := by
  obtain ⟨m, rfl⟩ : ∃ m, p = m + 1 := ⟨p - 1, by have := h.two; omega⟩
  obtain ⟨j, rfl⟩ : ∃ j, k = j + 1 := ⟨k - 1, by omega⟩
  have hd : m + 1 ∣ (j + 1) * ch (m + 1) (j + 1) := ⟨_, ch_mul m j⟩
  rcases h.euclid hd with e | e
  · have := Nat.le_of_dvd (by omega) e
    omega
  · exact e
/-- The first terms of a power of x + 1. -/
def su (n x : Nat) : Nat → Nat
  | 0 => 0
  | m + 1 => su n x m + ch n m * x ^ m
theorem su_step (n x : Nat) : ∀ m, su (n + 1) x (m + 1) = su n x (m + 1) + x * su n x m
  | 0 => by simp [su, ch_zero]
  | m + 1 => by
    have h := su_step n x m
    show su (n + 1) x (m + 1) + ch (n + 1) (m + 1) * x ^ (m + 1) = (su n x (m + 1) + ch n (m + 1) * x ^ (m + 1)) + x * (su n x m + ch n m * x ^ m)
    rw [h, show ch (n + 1) (m + 1) = ch n m + ch n (m + 1) from rfl, Nat.add_mul, Nat.mul_add]
    rw [show x * (ch n m * x ^ m) = ch n m * x ^ (m + 1) by rw [Nat.pow_succ, Nat.mul_left_comm, Nat.mul_comm x]]
    omega
theorem su_all (x : Nat) : ∀ n, su n x (n + 1) = (x + 1) ^ n
  | 0 => by simp [su, ch_zero]
  | n + 1 => by
    rw [su_step, show su n x (n + 1 + 1) = su n x (n + 1) + ch n (n + 1) * x ^ (n + 1) from rfl, ch_over (by omega : n < n + 1), su_all x n, Nat.zero_mul, Nat.add_zero, Nat.pow_succ, Nat.mul_add, Nat.mul_one, Nat.mul_comm x]
    omega
theorem Pr.su_one {p : Nat} (h : Pr p) (x : Nat) : ∀ m, m < p → su p x (m + 1) % p = 1
  | 0, _ => by
    show (0 + ch p 0 * x ^ 0) % p = 1
    rw [ch_zero, Nat.pow_zero]
    exact Nat.mod_eq_of_lt (by have := h.two; omega)
  | m + 1, hm => by
    have ih := h.su_one x m (by omega)
    show (su p x (m + 1) + ch p (m + 1) * x ^ (m + 1)) % p = 1
    obtain ⟨c, hc⟩ := h.dvd_ch (k := m + 1) (by omega) hm
    rw [hc, Nat.mul_assoc, Nat.add_mul_mod_self_left]
    exact ih
theorem Pr.add_one {p : Nat} (h : Pr p) (x : Nat) : (x + 1) ^ p % p = (x ^ p + 1) % p := by
  have h2 := h.two
  have h1 := h.su_one x (p - 1) (by omega)
  rw [show p - 1 + 1 = p by omega] at h1
  rw [← su_all, show su p x (p + 1) = su p x p + ch p p * x ^ p from rfl, ch_self, Nat.one_mul, Nat.add_mod, h1, Nat.add_mod (x ^ p) 1, Nat.mod_eq_of_lt (by omega : 1 < p), Nat.add_comm]
theorem Pr.fermat' {p : Nat} (h : Pr p) : ∀ x, x ^ p % p = x % p
  | 0 => by rw [Nat.zero_pow (by have := h.two; omega)]
  | x + 1 => by
    rw [h.add_one, Nat.add_mod, h.fermat' x, ← Nat.add_mod]
theorem Pr.fermat {p : Nat} (h : Pr p) {x : Nat} (hx : x % p ≠ 0) : x ^ (p - 1) % p = 1 := by
  have h2 := h.two
  have h1 := h.fermat' x
  have hpos : 0 < x := Nat.pos_of_ne_zero fun e => hx (by rw [e]; exact Nat.zero_mod p)
  have hp1 : 1 ≤ x ^ (p - 1) := Nat.pow_pos hpos
  have e : x ^ p = x * x ^ (p - 1) := by rw [← Nat.pow_succ']; congr 1; omega
  have hd : p ∣ x * (x ^ (p - 1) - 1) := by
    rw [Nat.mul_sub, Nat.mul_one, ← e]
    exact Nat.dvd_of_mod_eq_zero (Nat.sub_mod_eq_zero_of_mod_eq h1)
  rcases h.euclid hd with e | ⟨c, hc⟩
  · exact absurd (Nat.mod_eq_zero_of_dvd e) hx
  · rw [show x ^ (p - 1) = 1 + p * c by omega, Nat.add_mul_mod_self_left]
    exact Nat.mod_eq_of_lt (by omega)
end Go.Proofs.YtfpphinnngblgaaDoor.Pri
