/- Layer 7: PathJoins is true: the mathematics. -/
import Derived.Test.YtdohmmdfenafnaaDoorPaM
import Derived.Test.YtdohmmdfenafnaaDoorPaLJoins
namespace Go.Proofs.YtdohmmdfenafnaaDoor.Pa
open Go.Proofs.YtdohmmdfenafnaaDoor.Mem
theorem joins_loop (l : List (List UInt8)) : ∀ n x i, (∃ y z, joins_m_l0 l n (x, i) = .inl (y, z)) ∨ joins_m_l0 l n (x, i) = .inr true
  | 0, x, i => .inl ⟨x, i, rfl⟩
  | n + 1, x, i => by
    have E : joins_m_l0 l (n + 1) (x, i) = joins_m_b0 l (joins_m_l0 l n) x i := rfl
    rw [E]
    unfold joins_m_b0
    split
    · split
      · rw [awake_true]; exact .inr rfl
      · exact joins_loop l n _ _
    · exact .inl ⟨x, i, rfl⟩
theorem joins_true (l : List (List UInt8)) : joins_m l = true := by
  unfold joins_m
  rcases joins_loop l ((l.length - 0) + 1) 0 0 with ⟨y, z, h⟩ | h
  · rw [h]
    dsimp only [fin]
    unfold joins_m_k0
    rw [if_pos awake_true, pjoin_is, rjoin_is]
    exact decide_eq_true rfl
  · rw [h]
    rfl
end Go.Proofs.YtdohmmdfenafnaaDoor.Pa
