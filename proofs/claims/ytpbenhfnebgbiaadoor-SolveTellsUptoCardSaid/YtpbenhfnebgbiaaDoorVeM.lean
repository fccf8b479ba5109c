/- Layer 12: how far signs and digits go: the mathematics. -/
import Derived.Test.YtpbenhfnebgbiaaDoorVeA
import Derived.Test.YtpbenhfnebgbiaaDoorVeN
namespace Go.Proofs.YtpbenhfnebgbiaaDoor.Ve
open Go.Proofs.YtpbenhfnebgbiaaDoor.Mem
theorem nxp_gt {s : List UInt8} {p : Nat} (h : p < s.length) : p < nxp s p ∧ nxp s p ≤ s.length := by
  have := nxp_or s p
  omega
theorem not_true' {b : Bool} : (!b) = true ↔ ¬ b = true := by cases b <;> decide
theorem weights_loop (s : List UInt8) : ∀ n p l, ∃ q r, weights_m_l0 s n (p, l) = .inl (q, l ++ r) ∧ (p ≤ s.length → p + r.length ≤ s.length)
  | 0, p, l => ⟨p, [], by rw [List.append_nil]; rfl, fun h => by simpa using h⟩
  | n + 1, p, l => by
    have E : weights_m_l0 s (n + 1) (p, l) = weights_m_b0 s (weights_m_l0 s n) p l := rfl
    rw [E]
    unfold weights_m_b0
    by_cases h1 : p < s.length
    · rw [if_pos h1]
      have hn := nxp_gt h1
      by_cases h2 : digit_m (((dec s p).1 : Nat) : Int) = true
      · rw [if_pos h2]
        exact ⟨_, [], by rw [List.append_nil], fun h => by simpa using h⟩
      · rw [if_neg h2]
        obtain ⟨q, r, h3, h4⟩ := weights_loop s n (nxp s p) (l ++ [weight_m (((dec s p).1 : Nat) : Int)])
        refine ⟨q, weight_m (((dec s p).1 : Nat) : Int) :: r, by rw [h3, List.append_assoc]; rfl, fun _ => ?_⟩
        have := h4 hn.2
        rw [List.length_cons]
        omega
    · rw [if_neg h1]
      exact ⟨_, [], by rw [List.append_nil], fun h => by simpa using h⟩
theorem weights_len (s : List UInt8) : (weights_m s).length ≤ s.length := by
  unfold weights_m
  obtain ⟨q, r, h1, h2⟩ := weights_loop s ((s.length - 0) + 1) 0 []
  rw [h1]
  dsimp only [fin]
  unfold weights_m_k0
  have := h2 (Nat.zero_le _)
  rw [List.nil_append]
  omega
theorem digits_loop (s : List UInt8) : ∀ n p, p ≤ s.length → (∃ y, digits_m_l0 s n p = .inl y) ∨ (∃ q : Nat, digits_m_l0 s n p = .inr (q : Int) ∧ p ≤ q ∧ q < s.length)
  | 0, p, _ => .inl ⟨p, rfl⟩
  | n + 1, p, hp => by
    have E : digits_m_l0 s (n + 1) p = digits_m_b0 s (digits_m_l0 s n) p := rfl
    rw [E]
    unfold digits_m_b0
    by_cases h1 : p < s.length
    · rw [if_pos h1]
      have hn := nxp_gt h1
      by_cases h2 : (!(digit_m (((dec s p).1 : Nat) : Int))) = true
      · rw [if_pos h2]
        exact .inr ⟨p, rfl, Nat.le_refl _, h1⟩
      · rw [if_neg h2]
        rcases digits_loop s n (nxp s p) hn.2 with h3 | ⟨q, h3, h4, h5⟩
        · exact .inl h3
        · exact .inr ⟨q, h3, by omega, h5⟩
    · rw [if_neg h1]
      exact .inl ⟨_, rfl⟩
theorem digits_rng (s : List UInt8) : 0 ≤ digits_m s ∧ digits_m s ≤ (s.length : Int) := by
  unfold digits_m
  rcases digits_loop s ((s.length - 0) + 1) 0 (Nat.zero_le _) with ⟨y, h⟩ | ⟨q, h, _, h2⟩
  · rw [h]; exact ⟨by show (0 : Int) ≤ ((s.length : Nat) : Int); omega, Int.le_refl _⟩
  · rw [h]; exact ⟨by show (0 : Int) ≤ (q : Int); omega, by show (q : Int) ≤ _; omega⟩
theorem progress (a : List UInt8) (h : a ≠ []) : 1 ≤ (weights_m a).length + (digits_m (a.drop (weights_m a).length)).toNat := by
  have hl : 0 < a.length := by
    cases a with
    | nil => exact absurd rfl h
    | cons x r => simp
  have hn := nxp_gt hl
  by_cases hd : digit_m (((dec a 0).1 : Nat) : Int) = true
  · have hw : weights_m a = [] := by
      unfold weights_m
      have E : weights_m_l0 a ((a.length - 0) + 1) (0, []) = weights_m_b0 a (weights_m_l0 a (a.length - 0)) 0 [] := rfl
      rw [E]
      unfold weights_m_b0
      rw [if_pos hl, if_pos hd]
      rfl
    rw [hw, List.length_nil, List.drop_zero, Nat.zero_add]
    unfold digits_m
    have E : digits_m_l0 a ((a.length - 0) + 1) 0 = digits_m_b0 a (digits_m_l0 a (a.length - 0)) 0 := rfl
    rw [E]
    unfold digits_m_b0
    rw [if_pos hl, if_neg (by rw [hd]; decide)]
    rcases digits_loop a (a.length - 0) (nxp a 0) hn.2 with ⟨y, h1⟩ | ⟨q, h1, h2, _⟩
    · rw [h1]
      show 1 ≤ ((a.length : Nat) : Int).toNat
      omega
    · rw [h1]
      show 1 ≤ ((q : Nat) : Int).toNat
      omega
  · have hw : 1 ≤ (weights_m a).length := by
      unfold weights_m
      have E : weights_m_l0 a ((a.length - 0) + 1) (0, []) = weights_m_b0 a (weights_m_l0 a (a.length - 0)) 0 [] := rfl
      rw [E]
      unfold weights_m_b0
      rw [if_pos hl, if_neg hd]
      obtain ⟨q, r, h1, _⟩ := weights_loop a (a.length - 0) (nxp a 0) ([] ++ [weight_m (((dec a 0).1 : Nat) : Int)])
      rw [h1]
      show 1 ≤ (([] ++ [weight_m (((dec a 0).1 : Nat) : Int)]) ++ r).length
      simp
    omega
theorem check_len {a : List UInt8} (h : check_m a = true) : 1 ≤ a.length ∧ a.length ≤ 24 := by
  unfold check_m at h
  by_cases h1 : a = []
  · rw [if_pos h1] at h; cases h
  · rw [if_neg h1] at h
    by_cases h2 : 24 < a.length
    · rw [if_pos h2] at h; cases h
    · refine ⟨?_, by omega⟩
      cases a with
      | nil => exact absurd rfl h1
      | cons x r => simp
theorem check_len' {a : List UInt8} (h : ¬ (!(check_m a)) = true) : a.length ≤ 24 := (check_len (Classical.not_not.1 (fun e => h (not_true'.2 e)))).2
end Go.Proofs.YtpbenhfnebgbiaaDoor.Ve
