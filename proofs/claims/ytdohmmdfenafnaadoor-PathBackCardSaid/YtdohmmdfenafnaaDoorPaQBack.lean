/- Layer 7: PathBack is true: the mathematics. -/
import Derived.Test.YtdohmmdfenafnaaDoorPaM
import Derived.Test.YtdohmmdfenafnaaDoorPaLBack
namespace Go.Proofs.YtdohmmdfenafnaaDoor.Pa
open Go.Proofs.YtdohmmdfenafnaaDoor.Mem
theorem back_loop (s : List UInt8) (l : List (List UInt8)) : ∀ n i, i ≤ l.length → l.length - i < n → (∀ k, k < i → part_m (l.getD k []) = true) → (pback_m_l0 s l n i = .inl l.length ∧ ∀ x ∈ l, part_m x = true) ∨ pback_m_l0 s l n i = .inr true
  | 0, i, _, h, _ => by omega
  | n + 1, i, hi, h, hp => by
    have E : pback_m_l0 s l (n + 1) i = pback_m_b0 s l (pback_m_l0 s l n) i := rfl
    rw [E]
    unfold pback_m_b0
    by_cases h1 : i < l.length
    · rw [if_pos h1]
      by_cases h2 : part_m (l.getD i []) = true
      · rw [if_neg (fun e => not_true'.1 e h2)]
        refine back_loop s l n (i + 1) h1 (by omega) (fun k hk => ?_)
        by_cases h3 : k = i
        · rw [h3]; exact h2
        · exact hp k (by omega)
      · rw [if_pos (not_true'.2 h2), awake_true]
        exact .inr rfl
    · rw [if_neg h1]
      left
      have e : i = l.length := by omega
      exact ⟨by rw [e], (forall_get [] (fun x => part_m x = true) l).1 (fun k hk => hp k (by omega))⟩
theorem pback_true (s : List UInt8) (l : List (List UInt8)) : pback_m s l = true := by
  have hj : pback_m_j1 s l = .inl () := by
    unfold pback_m_j1
    by_cases h : (parts_m s).2 = 0
    · obtain ⟨_, _, _, h4⟩ := parts_ok h
      rw [if_pos h, h4, pjoin_is, if_neg (fun e => e (jn_sp s))]
    · rw [if_neg h]
  unfold pback_m
  rw [hj]
  dsimp only [fin]
  unfold pback_m_c1
  by_cases h1 : l.length < 1
  · rw [if_pos h1]; exact awake_true
  rw [if_neg h1]
  by_cases h2 : 16 < l.length
  · rw [if_pos h2]; exact awake_true
  rw [if_neg h2]
  rcases back_loop s l ((l.length - 0) + 1) 0 (Nat.zero_le _) (by omega) (fun k hk => by omega) with ⟨h3, h4⟩ | h3
  · rw [h3]
    dsimp only [fin]
    unfold pback_m_k0
    have hne : l ≠ [] := fun e => by rw [e] at h1; exact h1 (by decide)
    have hsp := sp_jn l hne (fun x hx => part_not (h4 x hx))
    rw [if_pos awake_true, pjoin_is, parts_is, hsp]
    by_cases h5 : 200 < (jn l).length
    · rw [if_pos h5, if_neg (by decide), if_pos rfl]
      exact decide_eq_true h5
    · rw [if_neg h5, if_pos h4, if_neg h2, if_pos rfl, if_pos (same_self l)]
  · rw [h3]
    rfl
end Go.Proofs.YtdohmmdfenafnaaDoor.Pa
