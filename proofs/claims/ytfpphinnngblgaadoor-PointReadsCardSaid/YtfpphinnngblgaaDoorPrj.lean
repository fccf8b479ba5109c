/- Numbers: 2^255 - 19 is prime. -/
import Derived.Test.YtfpphinnngblgaaDoorPri
namespace Go.Proofs.YtfpphinnngblgaaDoor.Pri

theorem pow_gcd {b r : Nat} (hr : 2 ≤ r) : ∀ x y : Nat, b ^ x % r = 1 → b ^ y % r = 1 → b ^ (Nat.gcd x y) % r = 1 := by
  intro x y
  induction x, y using Nat.gcd.induction with
  | H0 y => intro _ h; rwa [Nat.gcd_zero_left]
  | H1 m n hm ih =>
    intro h1 h2
    rw [Nat.gcd_rec]
    refine ih ?_ h1
    have e : b ^ n = b ^ (n % m) * (b ^ m) ^ (n / m) := by rw [← Nat.pow_mul, ← Nat.pow_add, Nat.mod_add_div]
    rw [e, Nat.mul_mod, Nat.pow_mod (b ^ m), h1, Nat.one_pow, Nat.mod_eq_of_lt (by omega : 1 < r), Nat.mul_one, Nat.mod_mod] at h2
    exact h2
theorem prime_in : ∀ d : Nat, 2 ≤ d → ∃ r, Pr r ∧ r ∣ d := by
  intro d
  induction d using Nat.strongRecOn with
  | _ d ih =>
    intro h2
    by_cases h : ∀ c, c ∣ d → c = 1 ∨ c = d
    · exact ⟨d, ⟨h2, h⟩, Nat.dvd_refl d⟩
    · obtain ⟨c, hc⟩ := Classical.not_forall.1 h
      obtain ⟨hd, hn⟩ := Classical.not_imp.1 hc
      have hle := Nat.le_of_dvd (by omega) hd
      have h0 : c ≠ 0 := fun e => by subst e; have := Nat.eq_zero_of_zero_dvd hd; omega
      have h1 : c ≠ 1 := fun e => hn (.inl e)
      have h3 : c ≠ d := fun e => hn (.inr e)
      obtain ⟨r, hr, hrc⟩ := ih c (by omega) (by omega)
      exact ⟨r, hr, Nat.dvd_trans hrc hd⟩
/-- A power's rest, step by step. -/
def pmod (p a : Nat) : Nat → Nat → Nat
  | 0, _ => 1
  | f + 1, n => let r := pmod p a f (n / 2); if n % 2 = 1 then r * r % p * a % p else r * r % p
theorem pmod_eq {p : Nat} (hp : 2 ≤ p) (a : Nat) : ∀ (f n : Nat), n < 2 ^ f → pmod p a f n = a ^ n % p
  | 0, n, h => by
    have : n = 0 := by simpa using h
    subst this; rw [Nat.pow_zero, Nat.mod_eq_of_lt (by omega : 1 < p)]; rfl
  | f + 1, n, h => by
    have h2 : n / 2 < 2 ^ f := by rw [Nat.pow_succ] at h; omega
    unfold pmod
    simp only [pmod_eq hp a f (n / 2) h2]
    have e : n = 2 * (n / 2) + n % 2 := by omega
    by_cases hb : n % 2 = 1
    · rw [if_pos hb, ← Nat.mul_mod, Nat.mod_mul_mod, ← Nat.pow_add, ← Nat.pow_succ]; congr 2; omega
    · rw [if_neg hb, ← Nat.mul_mod, ← Nat.pow_add]; congr 2; omega

theorem step_prime {n q m a : Nat} (hn : n = q * m + 1) (h2 : 2 ≤ n) (hq : Pr q) (h1 : a ^ (q * m) % n = 1) (hg : Nat.gcd (a ^ m % n + (n - 1)) n = 1) {r : Nat} (hr : Pr r) (hd : r ∣ n) : r % q = 1 := by
  have hr2 := hr.two
  have hq2 := hq.two
  have hb1 : (a ^ m) ^ q % r = 1 := by
    have : a ^ (q * m) % n % r = 1 % r := by rw [h1]
    rw [Nat.mod_mod_of_dvd _ hd, Nat.mod_eq_of_lt (by omega : 1 < r)] at this
    rwa [← Nat.pow_mul, Nat.mul_comm m q]
  have hne : a ^ m % r ≠ 1 := fun e => by
    have hdd : r ∣ a ^ m % n + (n - 1) := by
      obtain ⟨c, hc⟩ := hd
      have e1 : a ^ m % n % r = 1 := by rw [Nat.mod_mod_of_dvd _ ⟨c, hc⟩]; exact e
      have e2 := Nat.mod_add_div (a ^ m % n) r
      rw [e1] at e2
      refine ⟨a ^ m % n / r + c, ?_⟩
      rw [Nat.mul_add]; omega
    have := Nat.dvd_gcd hdd hd
    rw [hg] at this
    exact hr.not_dvd_one this
  have hnz : a ^ m % r ≠ 0 := fun e => by
    rw [Nat.pow_mod, e, Nat.zero_pow (by omega), Nat.zero_mod] at hb1
    omega
  have hf := hr.fermat hnz
  have hgc := pow_gcd hr2 q (r - 1) hb1 hf
  rcases hq.div (Nat.gcd q (r - 1)) (Nat.gcd_dvd_left _ _) with e | e
  · rw [e, Nat.pow_one] at hgc
    exact absurd hgc hne
  · obtain ⟨c, hc⟩ := e ▸ Nat.gcd_dvd_right q (r - 1)
    rw [show r = 1 + q * c by omega, Nat.add_mul_mod_self_left]
    exact Nat.mod_eq_of_lt (by omega)
theorem step_div {n q m a : Nat} (hn : n = q * m + 1) (h2 : 2 ≤ n) (hq : Pr q) (h1 : a ^ (q * m) % n = 1) (hg : Nat.gcd (a ^ m % n + (n - 1)) n = 1) : ∀ d : Nat, d ∣ n → d % q = 1 := by
  have hq2 := hq.two
  intro d
  induction d using Nat.strongRecOn with
  | _ d ih =>
    intro hd
    have hpos : 0 < d := Nat.pos_of_dvd_of_pos hd (by omega)
    by_cases h : d = 1
    · subst h; exact Nat.mod_eq_of_lt (by omega)
    · obtain ⟨r, hr, c, hc⟩ := prime_in d (by omega)
      have hr2 := hr.two
      have hrd : r ∣ n := Nat.dvd_trans ⟨c, hc⟩ hd
      have hcd : c ∣ n := Nat.dvd_trans ⟨r, by rw [hc, Nat.mul_comm]⟩ hd
      have hcpos : 0 < c := Nat.pos_of_ne_zero fun e => by rw [e, Nat.mul_zero] at hc; omega
      have hlt : c < d := by
        rw [hc]
        have : 2 * c ≤ r * c := Nat.mul_le_mul_right _ hr2
        omega
      rw [hc, Nat.mul_mod, step_prime hn h2 hq h1 hg hr hrd, ih c hlt hcd]
      exact Nat.mod_eq_of_lt (by omega)
theorem cert {n q m a : Nat} (hn : n = q * m + 1) (h2 : 2 ≤ n) (hs : n ≤ 2 ^ 256) (hq : Pr q) (h1 : pmod n a 256 (q * m) = 1) (hg : Nat.gcd (pmod n a 256 m + (n - 1)) n = 1) (hb : m / q + 1 < m % q) : Pr n := by
  have hq2 := hq.two
  have hmq : m ≤ q * m := Nat.le_mul_of_pos_left _ (by omega)
  rw [pmod_eq h2 _ _ _ (by omega)] at h1 hg
  refine ⟨h2, fun d hd => ?_⟩
  by_cases hd1 : d = 1
  · exact .inl hd1
  by_cases hdn : d = n
  · exact .inr hdn
  exfalso
  have e1 := step_div hn h2 hq h1 hg d hd
  obtain ⟨e, he⟩ := hd
  have e2 := step_div hn h2 hq h1 hg e ⟨d, by rw [he, Nat.mul_comm]⟩
  have x1 := Nat.mod_add_div d q
  have x2 := Nat.mod_add_div e q
  rw [e1] at x1
  rw [e2] at x2
  generalize d / q = x at *
  generalize e / q = y at *
  have hx : x ≠ 0 := fun h => by subst h; omega
  have hy : y ≠ 0 := fun h => by subst h; rw [Nat.mul_zero, Nat.add_zero] at x2; rw [← x2, Nat.mul_one] at he; omega
  have hm : m = (x + y) + q * (x * y) := by
    have h3 : q * m = q * ((x + y) + q * (x * y)) := by
      have h4 : q * m + 1 = (1 + q * x) * (1 + q * y) := by rw [← hn, he, x1, x2]
      rw [Nat.add_mul, Nat.one_mul, Nat.mul_add (q * x), Nat.mul_one] at h4
      rw [Nat.mul_add, Nat.mul_add]
      have h5 : q * x * (q * y) = q * (q * (x * y)) := by rw [Nat.mul_assoc, Nat.mul_left_comm x q y]
      omega
    exact Nat.eq_of_mul_eq_mul_left (by omega) h3
  have hxy : x + y ≤ x * y + 1 := by
    obtain ⟨u, rfl⟩ : ∃ u, x = u + 1 := ⟨x - 1, by omega⟩
    obtain ⟨v, rfl⟩ : ∃ v, y = v + 1 := ⟨y - 1, by omega⟩
    rw [Nat.add_mul, Nat.mul_add, Nat.one_mul, Nat.mul_one]
    omega
  have d1 : m / q = x * y + (x + y) / q := by rw [hm, Nat.add_mul_div_left _ _ (by omega), Nat.add_comm]
  have d2 : m % q = (x + y) % q := by rw [hm, Nat.add_mul_mod_self_left]
  have d3 := Nat.mod_le (x + y) q
  generalize x * y = t at *
  generalize (x + y) / q = o at *
  generalize (x + y) % q = h at *
  omega
def q5 : Nat := 991
def q4 : Nat := 8574133
def q3 : Nat := 1919519569386763
def q2 : Nat := 75445702479781427272750846543864801
def q1 : Nat := 74058212732561358302231226437062788676166966415465897661863160754340907
def PRI : Nat := 57896044618658097711785492504343953926634992332820282019728792003956564819949
theorem p5 : Pr q5 := ⟨by decide, fun d hd => by
  have hle : d < 992 := Nat.lt_succ_of_le (Nat.le_of_dvd (by decide) hd)
  have hm : 991 % d = 0 := Nat.mod_eq_zero_of_dvd hd
  have : ∀ d, d < 992 → 991 % d = 0 → d = 1 ∨ d = 991 := by decide +kernel
  exact this d hle hm⟩
theorem p4 : Pr q4 := cert (q := q5) (m := 8652) (a := 2) (by decide) (by decide) (by decide) p5 (by decide +kernel) (by decide +kernel) (by decide)
theorem p3 : Pr q3 := cert (q := q4) (m := 223873314) (a := 2) (by decide) (by decide) (by decide) p4 (by decide +kernel) (by decide +kernel) (by decide)
theorem p2 : Pr q2 := cert (q := q3) (m := 39304471641247389600) (a := 2) (by decide) (by decide) (by decide) p3 (by decide +kernel) (by decide +kernel) (by decide)
theorem p1 : Pr q1 := cert (q := q2) (m := 981609426360740691344999861639072106) (a := 2) (by decide) (by decide) (by decide) p2 (by decide +kernel) (by decide +kernel) (by decide)
theorem prime : Pr PRI := cert (q := q1) (m := 781764) (a := 2) (by decide) (by decide) (by decide) p1 (by decide +kernel) (by decide +kernel) (by decide)
end Go.Proofs.YtfpphinnngblgaaDoor.Pri
