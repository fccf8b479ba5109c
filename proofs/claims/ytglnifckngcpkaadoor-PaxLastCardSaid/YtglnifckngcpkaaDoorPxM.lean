/- Layer 10: how long lengths and digits are: the mathematics. -/
import Derived.Test.YtglnifckngcpkaaDoorPxA
namespace Go.Proofs.YtglnifckngcpkaaDoor.Px
open Go.Proofs.YtglnifckngcpkaaDoor.Mem
/-- The least number from one on that counts the other bytes and its own digits. -/
theorem plen_l (r : Int) (h0 : 0 ≤ r) (h1 : r ≤ 1099511627776) : ∀ n (x : Int), r + 1 ≤ x → x ≤ r + ((itoa_m x).length : Int) → x ≤ r + 19 → (r + 20 - x).toNat < n →
    ∃ y, plen_m_l0 r n x = .inl y ∧ x ≤ y ∧ y ≤ r + 19 ∧ y = r + ((itoa_m y).length : Int) ∧ ∀ k, x ≤ k → k < y → k ≠ r + ((itoa_m k).length : Int)
  | 0, _, _, _, _, h => by omega
  | n + 1, x, h2, h3, h3', h => by
    have E : plen_m_l0 r (n + 1) x = plen_m_b0 r (plen_m_l0 r n) x := rfl
    rw [E]
    unfold plen_m_b0
    by_cases hx : x = r + ((itoa_m x).length : Int)
    · rw [if_neg (fun e => e hx)]
      exact ⟨x, rfl, Int.le_refl _, h3', hx, fun k h4 h5 => by omega⟩
    · rw [if_pos hx]
      have m1 := itoa_mono x (x + 1) (by omega) (by omega)
      have l1 := itoa_len x (by omega) (by omega)
      have l2 := itoa_len (x + 1) (by omega) (by omega)
      obtain ⟨y, e1, e2, e2', e3, e4⟩ := plen_l r h0 h1 n (x + 1) (by omega) (by omega) (by omega) (by omega)
      refine ⟨y, e1, by omega, e2', e3, fun k h4 h5 => ?_⟩
      by_cases hk : k = x
      · subst hk; exact hx
      · exact e4 k (by omega) h5
theorem plen_is (r : Int) (h0 : 0 ≤ r) (h1 : r ≤ 1099511627776) : (r + 1 ≤ plen_m r ∧ plen_m r ≤ r + 19) ∧ plen_m r = r + ((itoa_m (plen_m r)).length : Int) ∧ ∀ k, r + 1 ≤ k → k < plen_m r → k ≠ r + ((itoa_m k).length : Int) := by
  have l1 := itoa_len (r + 1) (by omega) (by omega)
  obtain ⟨y, e1, e2, e2', e3, e4⟩ := plen_l r h0 h1 ((r + 20 - (r + 1)).toNat + 1) (r + 1) (by omega) (by omega) (by omega) (by omega)
  have e : plen_m r = y := by
    unfold plen_m
    rw [e1]
    rfl
  rw [e]
  exact ⟨⟨e2, e2'⟩, e3, e4⟩
theorem plen_rng (r : Int) (h0 : 0 ≤ r) (h1 : r ≤ 1099511627776) : r + 1 ≤ plen_m r ∧ plen_m r ≤ r + 19 := (plen_is r h0 h1).1
theorem plen_uniq (r : Int) (h0 : 0 ≤ r) (h1 : r ≤ 1099511627776) (n : Int) (h2 : r + 1 ≤ n) (h3 : n = r + ((itoa_m n).length : Int)) (h4 : ∀ k, r + 1 ≤ k → k < n → k ≠ r + ((itoa_m k).length : Int)) : plen_m r = n := by
  obtain ⟨⟨a, _⟩, b, c⟩ := plen_is r h0 h1
  rcases Int.lt_trichotomy (plen_m r) n with h | h | h
  · exact absurd b (h4 _ a h)
  · exact h
  · exact absurd h3 (c n h2 h)
/-- The digits that a text begins with. -/
def dg (c : UInt8) : Bool := decide (48 ≤ c.toNat ∧ c.toNat ≤ 57)
def hd (s : List UInt8) : List UInt8 := s.takeWhile dg
theorem drop_at {s : List UInt8} {p : Nat} (hp : p < s.length) : s.drop p = s.getD p 0 :: s.drop (p + 1) := by
  rw [List.drop_eq_getElem_cons hp]
  simp [List.getD_eq_getElem?_getD, List.getElem?_eq_getElem hp]
theorem at_dg (s : List UInt8) (i : Nat) : dg (s.getD i 0) = decide (48 ≤ by' s i ∧ by' s i ≤ 57) := rfl
theorem pdig_l (s : List UInt8) : ∀ n x, s.length - x < n → x ≤ s.length → pdig_m_l0 s n x = .inl (x + (hd (s.drop x)).length)
  | 0, _, h, _ => by omega
  | n + 1, x, h, hx => by
    have E : pdig_m_l0 s (n + 1) x = pdig_m_b0 s (pdig_m_l0 s n) x := rfl
    rw [E]
    unfold pdig_m_b0
    by_cases h1 : x < s.length
    · rw [if_pos h1, drop_at h1]
      unfold hd
      by_cases h2 : 48 ≤ by' s x
      · rw [if_pos h2]
        by_cases h3 : by' s x ≤ 57
        · rw [if_pos h3, List.takeWhile_cons_of_pos (by rw [at_dg]; exact decide_eq_true ⟨h2, h3⟩), pdig_l s n (x + 1) (by omega) (by omega), List.length_cons]
          unfold hd
          congr 1
          omega
        · rw [if_neg h3, List.takeWhile_cons_of_neg (by rw [at_dg]; simp; omega)]
          rfl
      · rw [if_neg h2, List.takeWhile_cons_of_neg (by rw [at_dg]; simp; omega)]
        rfl
    · rw [if_neg h1, List.drop_eq_nil_of_le (by omega)]
      rfl
theorem pdig_is (s : List UInt8) : pdig_m s = ((hd s).length : Int) := by
  unfold pdig_m
  rw [pdig_l s _ 0 (by omega) (Nat.zero_le _), List.drop_zero]
  show (((0 + (hd s).length : Nat)) : Int) = _
  omega
theorem hd_len (s : List UInt8) : (hd s).length ≤ s.length := (List.takeWhile_sublist _).length_le
theorem pdig_rng (s : List UInt8) : 0 ≤ pdig_m s ∧ pdig_m s ≤ (s.length : Int) := by
  rw [pdig_is]
  have := hd_len s
  omega
theorem ten_ne {s : List UInt8} {i j : Nat} (h1 : by' s i = 32) (h2 : by' s j = 10) : i ≠ j := by
  intro e
  rw [e] at h1
  omega
end Go.Proofs.YtglnifckngcpkaaDoor.Px
