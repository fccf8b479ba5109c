/- Layer 8: how long octal digits are: the mathematics. -/
import Derived.Test.YtglnifckngcpkaaDoorHdA
set_option linter.unusedVariables false
namespace Go.Proofs.YtglnifckngcpkaaDoor.Hd
open Go.Proofs.YtglnifckngcpkaaDoor.Mem
theorem octal_l (n0 d : Int) : ∀ n x i l, ∃ x' i' l', octal_m_l0 n0 d n (x, i, l) = .inl (x', i', l') ∧ l'.length = l.length
  | 0, x, i, l => ⟨x, i, l, rfl, rfl⟩
  | n + 1, x, i, l => by
    have E : octal_m_l0 n0 d (n + 1) (x, i, l) = octal_m_b0 n0 d (octal_m_l0 n0 d n) x i l := rfl
    rw [E]
    unfold octal_m_b0
    split
    · obtain ⟨a, b, c, e, h⟩ := octal_l n0 d n _ _ _
      exact ⟨a, b, c, e, by rw [h, List.length_set]⟩
    · exact ⟨_, _, _, rfl, rfl⟩
theorem octal_len (n d : Int) (h0 : 0 ≤ n) (h1 : 0 ≤ d) (h2 : d ≤ 22) : ((octal_m n d).1.length : Int) = d := by
  unfold octal_m
  rw [if_neg (by omega), if_neg (by omega), if_neg (by omega)]
  obtain ⟨a, b, c, e, h⟩ := octal_l n d _ n (d - 1) (List.replicate d.toNat 0)
  rw [e]
  show ((c.length : Nat) : Int) = d
  rw [h, List.length_replicate]
  omega
end Go.Proofs.YtglnifckngcpkaaDoor.Hd
