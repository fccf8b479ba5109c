/- Layer 7: PathSafe is true: the mathematics. -/
import Derived.Test.YtdohmmdfenafnaaDoorPaM
import Derived.Test.YtdohmmdfenafnaaDoorPaLSafe
namespace Go.Proofs.YtdohmmdfenafnaaDoor.Pa
open Go.Proofs.YtdohmmdfenafnaaDoor.Mem
theorem safe_loop (s : List UInt8) (x : Nat) (h : part_m ((parts_m s).1.getD x []) = true) : ∀ n i, i ≤ ((parts_m s).1.getD x []).length → ((parts_m s).1.getD x []).length - i < n → safe_m_l1 s x n i = .inl ((parts_m s).1.getD x []).length
  | 0, i, _, h => by omega
  | n + 1, i, hi, hn => by
    have E : safe_m_l1 s x (n + 1) i = safe_m_b1 s x (safe_m_l1 s x n) i := rfl
    rw [E]
    unfold safe_m_b1
    by_cases h1 : i < ((parts_m s).1.getD x []).length
    · have hb : bok (by' ((parts_m s).1.getD x []) i) := part_bytes h i h1
      obtain ⟨b1, b2, b3, b4, b5, b6⟩ := hb
      rw [if_pos h1, if_neg (by omega), if_neg b2, if_neg b3, if_neg (by omega), if_neg b5, if_neg b6]
      exact safe_loop s x h n (i + 1) h1 (by omega)
    · rw [if_neg h1]
      congr 1
      omega
theorem safe_true (s : List UInt8) : safe_m s = true := by
  unfold safe_m
  by_cases h : (parts_m s).2 = 0
  · rw [if_neg (fun e => e h)]
    obtain ⟨h1, h2, h3, h4⟩ := parts_ok h
    have h5 := parts_facts s
    have hp : ∀ k, k < (parts_m s).1.length → part_m ((parts_m s).1.getD k []) = true := by
      rw [h4]
      exact (forall_get [] (fun x => part_m x = true) (sp 47 s)).2 h2
    have A2 : ∀ n i, i < (parts_m s).1.length → ¬ False → safe_m_l0 s (n + 1) i = safe_m_l0 s n (i + 1) := by
      intro n i hi _
      have E : safe_m_l0 s (n + 1) i = safe_m_b0 s (safe_m_l0 s n) i := rfl
      rw [E]
      unfold safe_m_b0
      have hpi := hp i hi
      obtain ⟨q1, q2, q3, q4, _⟩ := part_len hpi
      rw [if_pos hi, if_neg (fun e => by rw [e] at q1; simp at q1), if_neg q3, if_neg q4, if_neg (by omega), safe_loop s i hpi _ 0 (Nat.zero_le _) (by omega)]
      rfl
    have A3 : ∀ n i, (parts_m s).1.length ≤ i → safe_m_l0 s (n + 1) i = .inl i := by
      intro n i hi
      have E : safe_m_l0 s (n + 1) i = safe_m_b0 s (safe_m_l0 s n) i := rfl
      rw [E]
      unfold safe_m_b0
      rw [if_neg (by omega)]
    rw [loop_none (P := fun _ => False) (r := false) (fun _ _ _ h => h.elim) A2 A3 _ 0 (Nat.zero_le _) (Nat.lt_succ_self _) (fun _ _ _ h => h)]
    dsimp only [fin]
    unfold safe_m_k0
    rw [if_pos awake_true, if_pos (by omega), if_pos (sp_first h2)]
    have e : (((s.length : Nat) : Int) - (1 : Int)).toNat = s.length - 1 := by omega
    rw [e]
    exact decide_eq_true (sp_end h2)
  · rw [if_pos h, if_pos awake_true, parts_no h]
    rfl
end Go.Proofs.YtdohmmdfenafnaaDoor.Pa
