/- Layer 12: a number's digits as the law lays them. -/
import Derived.Test.YtdohmmdfenafnaaDoorVeT
namespace Go.Proofs.YtdohmmdfenafnaaDoor.Ve
open Go.Proofs.YtdohmmdfenafnaaDoor.Mem Go.Proofs.YtdohmmdfenafnaaDoor.VeS Go.Proofs.YtdohmmdfenafnaaDoor.Pa
theorem ldigits_l (k : Int) : ∀ n (x : Nat) (s : List UInt8), 2 * x + (1 - s.length) < n → ldigits_m_l0 k n ((x : Int), s) = .inl (0, (if s = [] then dtx x else dt x) ++ s)
  | 0, _, _, h => by omega
  | n + 1, x, s, h => by
    have E : ldigits_m_l0 k (n + 1) ((x : Int), s) = ldigits_m_b0 k (ldigits_m_l0 k n) (x : Int) s := rfl
    rw [E]
    unfold ldigits_m_b0
    have ed : (((48 : Int) + ((x : Int) % (10 : Int))).toNat) = 48 + x % 10 := by omega
    have eq : ((x : Int) / (10 : Int)) = ((x / 10 : Nat) : Int) := by omega
    rw [ed, eq]
    by_cases hx : 0 < x
    · rw [if_pos (by omega), ldigits_l k n (x / 10) _ (by rw [List.length_append, List.length_singleton]; omega), if_neg (by simp)]
      have e1 : (if s = [] then dtx x else dt x) = dt x := by
        split
        · unfold dtx; rw [if_neg (by omega)]
        · rfl
      rw [e1, dt_pos hx, List.append_assoc]
    · obtain rfl : x = 0 := by omega
      rw [if_neg (by omega)]
      by_cases hs : s = []
      · subst hs
        rw [if_pos rfl, ldigits_l k n (0 / 10) _ (by simp at h ⊢; omega), if_neg (by simp), if_pos rfl]
        show Sum.inl ((0 : Int), dt 0 ++ _) = _
        rw [dt]
        rfl
      · rw [if_neg hs, if_neg hs, dt]
        rfl
theorem ldigits_is (n : Nat) : ldigits_m (n : Int) = dtx n := by
  unfold ldigits_m
  rw [ldigits_l _ _ n [] (by rw [Int.toNat_natCast]; simp), if_pos rfl, List.append_nil]
  rfl
theorem dt_len : ∀ k n, n < 10 ^ k → (dt n).length ≤ k
  | 0, n, h => by
    obtain rfl : n = 0 := by simpa using h
    rw [dt]
    exact Nat.le_refl _
  | k + 1, n, h => by
    by_cases hn : 0 < n
    · rw [dt_pos hn, List.length_append, List.length_singleton]
      have := dt_len k (n / 10) (by rw [Nat.pow_succ] at h; omega)
      omega
    · obtain rfl : n = 0 := by omega
      rw [dt]
      exact Nat.zero_le _
theorem dtx_len (n : Nat) (h : n < 65536) : 1 ≤ (dtx n).length ∧ (dtx n).length ≤ 5 := by
  refine ⟨List.length_pos_iff.2 (dtx_ne n), ?_⟩
  unfold dtx
  split
  · simp
  · exact dt_len 5 n (by omega)
theorem ldigits_len (n : Int) (h0 : 0 ≤ n) (h1 : n ≤ 65535) : (ldigits_m n).length ≤ 65536 := by
  obtain ⟨k, rfl⟩ : ∃ k : Nat, n = (k : Int) := ⟨n.toNat, by omega⟩
  rw [ldigits_is]
  have := dtx_len k (by omega)
  omega
end Go.Proofs.YtdohmmdfenafnaaDoor.Ve
