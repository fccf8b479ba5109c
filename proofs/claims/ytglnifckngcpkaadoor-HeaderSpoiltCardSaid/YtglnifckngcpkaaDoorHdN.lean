/- Layer 8: how long fields are: the mathematics. -/
import Derived.Test.YtglnifckngcpkaaDoorHdB
set_option linter.unusedVariables false
namespace Go.Proofs.YtglnifckngcpkaaDoor.Hd
open Go.Proofs.YtglnifckngcpkaaDoor.Mem
theorem put_l (n0 d : Int) : ∀ n x i l, ∃ x' i' l', put_m_l0 n0 d n (x, i, l) = .inl (x', i', l') ∧ l'.length = l.length
  | 0, x, i, l => ⟨x, i, l, rfl, rfl⟩
  | n + 1, x, i, l => by
    have E : put_m_l0 n0 d (n + 1) (x, i, l) = put_m_b0 n0 d (put_m_l0 n0 d n) x i l := rfl
    rw [E]
    unfold put_m_b0
    split
    · obtain ⟨a, b, c, e, h⟩ := put_l n0 d n _ _ _
      exact ⟨a, b, c, e, by rw [h, List.length_set]⟩
    · exact ⟨_, _, _, rfl, rfl⟩
/-- What is put: refused and empty, or a field as wide as asked. -/
theorem put_all (n w : Int) : ((put_m n w).2 = 0 ∧ (((put_m n w).1.length : Nat) : Int) = w ∧ (w = 8 ∨ w = 12) ∧ 0 ≤ n) ∨ (¬ (put_m n w).2 = 0 ∧ (put_m n w).1 = []) := by
  unfold put_m
  by_cases h0 : n < 0
  · rw [if_pos h0]; exact .inr ⟨by decide, rfl⟩
  rw [if_neg h0]
  have key : (w = 8 ∨ w = 12) → (((if ((octal_m n (w - (1 : Int))).2) = true then (((octal_m n (w - (1 : Int))).1 ++ [0]), 0) else fin (put_m_l0 n w (((w - (1 : Int))).toNat + 1) (n, (w - (1 : Int)), ((List.replicate w.toNat (0 : UInt8)).set 0 (UInt8.ofNat 128)))) (fun r => r) (fun zz => put_m_k0 n w zz.1 zz.2.1 zz.2.2) : List UInt8 × Int)).2 = 0 ∧ ((((if ((octal_m n (w - (1 : Int))).2) = true then (((octal_m n (w - (1 : Int))).1 ++ [0]), 0) else fin (put_m_l0 n w (((w - (1 : Int))).toNat + 1) (n, (w - (1 : Int)), ((List.replicate w.toNat (0 : UInt8)).set 0 (UInt8.ofNat 128)))) (fun r => r) (fun zz => put_m_k0 n w zz.1 zz.2.1 zz.2.2) : List UInt8 × Int)).1.length : Nat) : Int) = w ∧ (w = 8 ∨ w = 12) ∧ 0 ≤ n) ∨ (¬ ((if ((octal_m n (w - (1 : Int))).2) = true then (((octal_m n (w - (1 : Int))).1 ++ [0]), 0) else fin (put_m_l0 n w (((w - (1 : Int))).toNat + 1) (n, (w - (1 : Int)), ((List.replicate w.toNat (0 : UInt8)).set 0 (UInt8.ofNat 128)))) (fun r => r) (fun zz => put_m_k0 n w zz.1 zz.2.1 zz.2.2) : List UInt8 × Int)).2 = 0 ∧ ((if ((octal_m n (w - (1 : Int))).2) = true then (((octal_m n (w - (1 : Int))).1 ++ [0]), 0) else fin (put_m_l0 n w (((w - (1 : Int))).toNat + 1) (n, (w - (1 : Int)), ((List.replicate w.toNat (0 : UInt8)).set 0 (UInt8.ofNat 128)))) (fun r => r) (fun zz => put_m_k0 n w zz.1 zz.2.1 zz.2.2) : List UInt8 × Int)).1 = []) := by
    intro hw
    have hl := octal_len n (w - 1) (by omega) (by omega) (by omega)
    by_cases h1 : ((octal_m n (w - (1 : Int))).2) = true
    · rw [if_pos h1]
      left
      refine ⟨rfl, ?_, hw, by omega⟩
      show (((((octal_m n (w - (1 : Int))).1 ++ [0]).length : Nat)) : Int) = w
      rw [List.length_append, List.length_singleton]
      omega
    · rw [if_neg h1]
      obtain ⟨a, b, c, e, h⟩ := put_l n w (((w - (1 : Int))).toNat + 1) n (w - 1) ((List.replicate w.toNat (0 : UInt8)).set 0 (UInt8.ofNat 128))
      rw [e]
      dsimp only [fin]
      unfold put_m_k0
      by_cases h2 : ¬ a = 0
      · rw [if_pos h2]; exact .inr ⟨by decide, rfl⟩
      · rw [if_neg h2]
        left
        refine ⟨rfl, ?_, hw, by omega⟩
        show ((c.length : Nat) : Int) = w
        rw [h, List.length_set, List.length_replicate]
        omega
  by_cases h8 : w = 8
  · rw [if_neg (fun e => e h8)]; exact key (.inl h8)
  · rw [if_pos h8]
    by_cases h12 : w = 12
    · rw [if_neg (fun e => e h12)]; exact key (.inr h12)
    · rw [if_pos h12]; exact .inr ⟨by decide, rfl⟩
theorem put_len (n w : Int) : ¬ (put_m n w).2 = 0 ∨ (((put_m n w).1.length : Nat) : Int) = w := by
  rcases put_all n w with h | h
  · exact .inr h.2.1
  · exact .inl h.1
end Go.Proofs.YtglnifckngcpkaaDoor.Hd
