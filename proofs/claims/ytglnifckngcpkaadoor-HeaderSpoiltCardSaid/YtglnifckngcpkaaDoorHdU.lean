/- Layer 9: the numbers' fields are the document's: the mathematics. -/
import Derived.Test.YtglnifckngcpkaaDoorHdJ4
import Derived.Test.YtglnifckngcpkaaDoorHdS
set_option linter.unusedVariables false
namespace Go.Proofs.YtglnifckngcpkaaDoor.Hd
open Go.Proofs.YtglnifckngcpkaaDoor.Mem
theorem rnums_l (h : Hdr) : ∀ k a b0 b1 b2 b3 b4 c0 c1 c2 c3 c4, c0.length ≤ 12 → c1.length ≤ 12 → c2.length ≤ 12 → c3.length ≤ 12 → c4.length ≤ 12 →
    ((fin (rnums_m_l0 h k (a, b0, b1, b2, b3, b4, c0, c1, c2, c3, c4)) (fun r => r.1) (fun z => (rnums_m_k0 h z.1 z.2.1 z.2.2.1 z.2.2.2.1 z.2.2.2.2.1 z.2.2.2.2.2.1 z.2.2.2.2.2.2.1 z.2.2.2.2.2.2.2.1 z.2.2.2.2.2.2.2.2.1 z.2.2.2.2.2.2.2.2.2.1 z.2.2.2.2.2.2.2.2.2.2).1)) |> fun m => m.i0.length ≤ 12 ∧ m.i1.length ≤ 12 ∧ m.i2.length ≤ 12 ∧ m.i3.length ≤ 12 ∧ m.i4.length ≤ 12)
  | 0, a, b0, b1, b2, b3, b4, c0, c1, c2, c3, c4, h0, h1, h2, h3, h4 => ⟨h0, h1, h2, h3, h4⟩
  | k + 1, a, b0, b1, b2, b3, b4, c0, c1, c2, c3, c4, h0, h1, h2, h3, h4 => by
    have E : rnums_m_l0 h (k + 1) (a, b0, b1, b2, b3, b4, c0, c1, c2, c3, c4) = rnums_m_b0 h (rnums_m_l0 h k) a b0 b1 b2 b3 b4 c0 c1 c2 c3 c4 := rfl
    rw [E]
    unfold rnums_m_b0
    repeat' split
    all_goals first
      | exact ⟨h0, h1, h2, h3, h4⟩
      | exact rnums_l h k _ _ _ _ _ _ _ _ _ _ _ (by first | assumption | exact rput_len _ _) (by first | assumption | exact rput_len _ _) (by first | assumption | exact rput_len _ _) (by first | assumption | exact rput_len _ _) (by first | assumption | exact rput_len _ _)
theorem rnums_len (h : Hdr) : (rnums_m h).1.i0.length ≤ 12 ∧ (rnums_m h).1.i1.length ≤ 12 ∧ (rnums_m h).1.i2.length ≤ 12 ∧ (rnums_m h).1.i3.length ≤ 12 ∧ (rnums_m h).1.i4.length ≤ 12 := by
  have q := rnums_l h ((5 - 0) + 1) 0 [] [] [] [] [] [] [] [] [] [] (by decide) (by decide) (by decide) (by decide) (by decide)
  unfold rnums_m
  revert q
  generalize rnums_m_l0 h ((5 - 0) + 1) (0, ([]), ([]), ([]), ([]), ([]), ([]), ([]), ([]), ([]), ([])) = x
  cases x <;> exact id
end Go.Proofs.YtglnifckngcpkaaDoor.Hd
