/- Layer 20: SolveTells is true. -/
import Derived.Test.YtpbenhfnebgbiaaDoorSoLT
set_option linter.unusedVariables false
namespace Go.Proofs.YtpbenhfnebgbiaaDoor.So
open Go.RowKit Go.Proofs.YtpbenhfnebgbiaaDoor.Pa Go.Proofs.YtpbenhfnebgbiaaDoor.Mem Go.Proofs.YtpbenhfnebgbiaaDoor.Ve
theorem sawake_ok : sawake_m = true := by decide +kernel
theorem ssame_l (a : List Rul) : ∀ k i, ∃ j, ssame_m_l0 a a k i = .inl j
  | 0, i => ⟨i, rfl⟩
  | k + 1, i => by
    have E : ssame_m_l0 a a (k + 1) i = ssame_m_b0 a a (ssame_m_l0 a a k) i := rfl
    rw [E]
    unfold ssame_m_b0
    by_cases h : i < a.length
    · rw [if_pos h, if_neg (fun c => c rfl)]
      exact ssame_l a k (i + 1)
    · rw [if_neg h]
      exact ⟨i, rfl⟩
theorem ssame_yes (a : List Rul) : ssame_m a a = true := by
  unfold ssame_m
  rw [if_neg (fun c => c rfl)]
  obtain ⟨j, e⟩ := ssame_l a ((a.length - 0) + 1) 0
  rw [e]
  rfl
theorem tells_in (l : List Mf) (r : Rul) (but : List UInt8) (x : Nat) : ∀ k i, ∃ j, ltells_m_l1 l r but x k i = .inl j
  | 0, i => ⟨i, rfl⟩
  | k + 1, i => by
    have E : ltells_m_l1 l r but x (k + 1) i = ltells_m_b1 l r but x (ltells_m_l1 l r but x k) i := rfl
    rw [E]
    unfold ltells_m_b1
    rw [rusers_is]
    by_cases h : i < (users_m l (l.getD x dMf)).length
    · rw [if_pos h, if_neg (fun c => c rfl)]
      exact tells_in l r but x k (i + 1)
    · rw [if_neg h]
      exact ⟨i, rfl⟩
theorem tells_out (l : List Mf) (r : Rul) (but : List UInt8) : ∀ k i, ∃ j, ltells_m_l0 l r but k i = .inl j
  | 0, i => ⟨i, rfl⟩
  | k + 1, i => by
    have E : ltells_m_l0 l r but (k + 1) i = ltells_m_b0 l r but (ltells_m_l0 l r but k) i := rfl
    rw [E]
    unfold ltells_m_b0
    by_cases h : i < l.length
    · rw [if_pos h, if_neg (fun c => c (by rw [rusers_is]))]
      obtain ⟨j, e⟩ := tells_in l r but i (((users_m l (l.getD i dMf)).length - 0) + 1) 0
      rw [e]
      exact tells_out l r but k (i + 1)
    · rw [if_neg h]
      exact ⟨i, rfl⟩
theorem ltells_true (l : List Mf) (r : Rul) (but : List UInt8) : ltells_m l r but = true := by
  unfold ltells_m
  rw [sawake_ok, rlacks_is, rclashes_is, rsolve_is, rmeets_is, ssame_yes, ssame_yes]
  by_cases h : 500 < grn l
  · rw [if_pos h]
  · rw [if_neg h, if_neg (by decide), if_neg (by decide), if_neg (by decide), if_neg (fun c => c rfl), if_neg (by cases meets_m l r but <;> decide)]
    obtain ⟨j, e⟩ := tells_out l r but ((l.length - 0) + 1) 0
    rw [e]
    rfl
end Go.Proofs.YtpbenhfnebgbiaaDoor.So
