/- Layer 9: how great sums are: the mathematics. -/
import Derived.Test.YtglnifckngcpkaaDoorHdC
set_option linter.unusedVariables false
namespace Go.Proofs.YtglnifckngcpkaaDoor.Hd
open Go.Proofs.YtglnifckngcpkaaDoor.Mem
theorem hsum_l (s : List UInt8) : ∀ n x i, x ≤ 256 * i → i ≤ s.length → ∃ y j, hsum_m_l0 s n (x, i) = .inl (y, j) ∧ y ≤ 256 * j ∧ j ≤ s.length
  | 0, x, i, h, hi => ⟨x, i, rfl, h, hi⟩
  | n + 1, x, i, h, hi => by
    have E : hsum_m_l0 s (n + 1) (x, i) = hsum_m_b0 s (hsum_m_l0 s n) x i := rfl
    rw [E]
    unfold hsum_m_b0
    have hb := by_lt s i
    repeat' split
    all_goals first
      | exact hsum_l s n _ _ (by omega) (by omega)
      | exact ⟨x, i, rfl, h, hi⟩
theorem hsum_rng (s : List UInt8) : 0 ≤ hsum_m s ∧ hsum_m s ≤ 131072 := by
  unfold hsum_m
  split
  · exact ⟨Int.le_refl _, by decide⟩
  · obtain ⟨y, j, e, h1, h2⟩ := hsum_l s ((s.length - 0) + 1) 0 0 (by omega) (Nat.zero_le _)
    rw [e]
    dsimp only [fin]
    unfold hsum_m_k0
    omega
end Go.Proofs.YtglnifckngcpkaaDoor.Hd
