import Derived.Test.YtnmaaijeamlplaaDoorAl
import Derived.Test.YtnmaaijeamlplaaDoorBkA
set_option linter.unusedVariables false
set_option linter.unusedSimpArgs false
namespace Go.Proofs.YtnmaaijeamlplaaDoor.Bk
open Go.Proofs.YtnmaaijeamlplaaDoor.Mem
def RightP (d : Dk) : Prop := 32 ≤ d.safe.length ∧ d.safe.length ≤ 2048 ∧ (∀ s ∈ d.safe, s.length = 256) ∧ (∀ x ∈ d.loose, 0 ≤ x.at_ ∧ x.at_ < (d.safe.length : Int) ∧ x.data.length = 256)
theorem not_full (s : List UInt8) : (!full_m s) = true ↔ ¬ s.length = 256 := by simp [full_m]
theorem right_iff (d : Dk) : right_m d = true ↔ RightP d := by
 have A1 : ∀ n i, i < d.safe.length → ¬ (d.safe.getD i []).length = 256 → right_m_l0 d (n + 1) i = .inr false := by
  intro n i hi h
  show right_m_b0 d _ i = _
  unfold right_m_b0
  rw [if_pos hi, if_pos ((not_full _).2 h)]
 have A2 : ∀ n i, i < d.safe.length → ¬ ¬ (d.safe.getD i []).length = 256 → right_m_l0 d (n + 1) i = right_m_l0 d n (i + 1) := by
  intro n i hi h
  show right_m_b0 d _ i = _
  unfold right_m_b0
  rw [if_pos hi, if_neg (fun e => h ((not_full _).1 e))]
 have A3 : ∀ n i, d.safe.length ≤ i → right_m_l0 d (n + 1) i = .inl i := by
  intro n i hi
  show right_m_b0 d _ i = _
  unfold right_m_b0
  rw [if_neg (by omega)]
 have B1 : ∀ y n i, i < d.loose.length → ¬ (0 ≤ (d.loose.getD i dWr).at_ ∧ (d.loose.getD i dWr).at_ < (d.safe.length : Int) ∧ (d.loose.getD i dWr).data.length = 256) → right_m_l1 d y (n + 1) i = .inr false := by
  intro y n i hi h
  show right_m_b1 d y _ i = _
  unfold right_m_b1
  rw [if_pos hi]
  by_cases h1 : (d.loose.getD i dWr).at_ < 0
  ·rw [if_pos h1]
  rw [if_neg h1]
  by_cases h2 : (d.safe.length : Int) ≤ (d.loose.getD i dWr).at_
  ·rw [if_pos h2]
  rw [if_neg h2, if_pos]
  refine (not_full _).2 (fun h3 => ?_)
  exact h ⟨by omega, by omega, h3⟩
 have B2 : ∀ y n i, i < d.loose.length → ¬ ¬ (0 ≤ (d.loose.getD i dWr).at_ ∧ (d.loose.getD i dWr).at_ < (d.safe.length : Int) ∧ (d.loose.getD i dWr).data.length = 256) → right_m_l1 d y (n + 1) i = right_m_l1 d y n (i + 1) := by
  intro y n i hi h
  obtain ⟨h1, h2, h3⟩ := Classical.not_not.1 h
  show right_m_b1 d y _ i = _
  unfold right_m_b1
  rw [if_pos hi, if_neg (by omega), if_neg (by omega), if_neg (fun e => (not_full _).1 e h3)]
 have B3 : ∀ y n i, d.loose.length ≤ i → right_m_l1 d y (n + 1) i = .inl i := by
  intro y n i hi
  show right_m_b1 d y _ i = _
  unfold right_m_b1
  rw [if_neg (by omega)]
 unfold right_m RightP
 by_cases c1 : d.safe.length < 32
 ·rw [if_pos c1]
  exact ⟨fun h => (by cases h), fun h => (by omega)⟩
 rw [if_neg c1]
 by_cases c2 : 2048 < d.safe.length
 ·rw [if_pos c2]
  exact ⟨fun h => (by cases h), fun h => (by omega)⟩
 rw [if_neg c2]
 by_cases c3 : ∀ s ∈ d.safe, s.length = 256
 ·have k3 := (forall_get [] (fun s => s.length = 256) d.safe).2 c3
  rw [loop_none A1 A2 A3 _ 0 (Nat.zero_le _) (Nat.lt_succ_self _) (fun k _ hk h => h (k3 k hk))]
  show right_m_k0 d d.safe.length = true ↔ _
  unfold right_m_k0
  by_cases c4 : ∀ x ∈ d.loose, 0 ≤ x.at_ ∧ x.at_ < (d.safe.length : Int) ∧ x.data.length = 256
  ·have k4 := (forall_get dWr (fun x => 0 ≤ x.at_ ∧ x.at_ < (d.safe.length : Int) ∧ x.data.length = 256) d.loose).2 c4
   rw [loop_none (B1 _) (B2 _) (B3 _) _ 0 (Nat.zero_le _) (Nat.lt_succ_self _) (fun k _ hk h => h (k4 k hk))]
   exact ⟨fun _ => ⟨by omega, by omega, c3, c4⟩, fun _ => rfl⟩
  have k4 := fun h => c4 ((forall_get dWr (fun x => 0 ≤ x.at_ ∧ x.at_ < (d.safe.length : Int) ∧ x.data.length = 256) d.loose).1 h)
  rw [loop_some (B1 _) (B2 _) _ 0 (Nat.lt_succ_self _) (ex_not k4)]
  exact ⟨fun h => (by cases h), fun h => absurd h.2.2.2 c4⟩
 have k3 := fun h => c3 ((forall_get [] (fun s => s.length = 256) d.safe).1 h)
 rw [loop_some A1 A2 _ 0 (Nat.lt_succ_self _) (ex_not k3)]
 exact ⟨fun h => (by cases h), fun h => absurd h.2.2.1 c3⟩
theorem rright_eq (d : Dk) : rright_m d = right_m d := by
 have e0 : ∀ n s, rright_m_l0 d n s = right_m_l0 d n s :=
  loop_same (b := rright_m_b0 d) (c := right_m_b0 d) (fun _ => rfl) (fun _ _ => rfl) (fun _ _ => rfl) (fun r s => by
   unfold rright_m_b0 right_m_b0
   by_cases h : (d.safe.getD s []).length = 256
   ·rw [if_neg (fun e : ¬ (d.safe.getD s []).length = 256 => e h), if_neg (fun e => (not_full _).1 e h)]
   rw [if_pos h, if_pos ((not_full _).2 h)])
 have e1 : ∀ y n s, rright_m_l1 d y n s = right_m_l1 d y n s := fun y =>
  loop_same (b := rright_m_b1 d y) (c := right_m_b1 d y) (fun _ => rfl) (fun _ _ => rfl) (fun _ _ => rfl) (fun r s => by
   unfold rright_m_b1 right_m_b1
   by_cases h : ((d.loose.getD s dWr).data).length = 256
   ·rw [if_neg (fun e : ¬ ((d.loose.getD s dWr).data).length = 256 => e h), if_neg (fun e => (not_full _).1 e h)]
   rw [if_pos h, if_pos ((not_full _).2 h)])
 unfold rright_m right_m
 rw [e0]
 have e2 : ∀ y, rright_m_k0 d y = right_m_k0 d y := fun y => by
  unfold rright_m_k0 right_m_k0
  rw [e1]
  rfl
 simp only [e2]
theorem ready_ok {d : Dk} (h : ready_m d = 0) : RightP d ∧ d.down = false := by
 unfold ready_m at h
 by_cases h1 : right_m d = true
 ·refine ⟨(right_iff d).1 h1, ?_⟩
  rw [if_neg (by rw [h1]; decide)] at h
  cases h2 : d.down with
  | false => rfl
  | true => rw [if_pos h2] at h; cases h
 rw [if_pos (by rw [Bool.eq_false_iff.2 h1]; rfl)] at h
 cases h
theorem rready_eq (d : Dk) : rready_m d = ready_m d := by
 unfold rready_m ready_m
 rw [rright_eq]
end Go.Proofs.YtnmaaijeamlplaaDoor.Bk
