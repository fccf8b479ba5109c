/- Texts split and joined again: what is printed is read. -/
import Derived.Test.YtjbnmeofjiokeaaGreatDoorND
set_option linter.all false
namespace Go.Proofs.YtjbnmeofjiokeaaGreatDoor.Ev
open Go.RowKit
open Go.Proofs.YtjbnmeofjiokeaaGreatDoor.Mem
set_option linter.unusedVariables false
set_option linter.unusedSimpArgs false
set_option maxRecDepth 100000
theorem sp_no {c : UInt8} : ∀ {s : List UInt8}, c ∉ s → sp c s = [s]
  | [], _ => rfl
  | x :: r, h => by
    have h1 : ¬ x = c := fun e => h (by simp [e])
    have h2 := sp_no (c := c) (s := r) fun e => h (by simp [e])
    unfold sp
    rw [if_neg h1, h2]
    rfl
theorem sp_app {c : UInt8} : ∀ {a b : List UInt8}, c ∉ a → sp c (a ++ c :: b) = a :: sp c b
  | [], b, _ => by simp [sp]
  | x :: r, b, h => by
    have h1 : ¬ x = c := fun e => h (by simp [e])
    have h2 := sp_app (c := c) (a := r) (b := b) fun e => h (by simp [e])
    rw [List.cons_append]
    conv => lhs; unfold sp
    rw [if_neg h1, h2]
    rfl
theorem join_cc (a b : List UInt8) (l : List (List UInt8)) (c : UInt8) : Lib.join (a :: b :: l) [c] = a ++ c :: Lib.join (b :: l) [c] := by
  rw [Lib.join_cons, Lib.join_cons]
  simp [Lib.joinTail]
theorem join_hd (x : UInt8) (a : List UInt8) (l : List (List UInt8)) (c : UInt8) : Lib.join ((x :: a) :: l) [c] = x :: Lib.join (a :: l) [c] := by
  rw [Lib.join_cons, Lib.join_cons]
  rfl
theorem join_sp (c : UInt8) : ∀ s : List UInt8, Lib.join (sp c s) [c] = s
  | [] => by simp [sp, Lib.join_one]
  | x :: r => by
    have h := join_sp c r
    have hn := sp_ne c r
    cases e : sp c r with
    | nil => exact absurd e hn
    | cons a l =>
      rw [e] at h
      unfold sp
      rw [e]
      split
      · rename_i h1
        rw [join_cc, h, h1]
        rfl
      · rw [List.headD_cons, List.tail_cons, join_hd, h]
/-! ### A manifest's lines -/
/-! ### What is read is written as it stood -/
end Go.Proofs.YtjbnmeofjiokeaaGreatDoor.Ev
namespace Go.Proofs.YtjbnmeofjiokeaaGreatDoor.Ev
open Go.RowKit
open Go.Proofs.YtjbnmeofjiokeaaGreatDoor.Mem
set_option linter.unusedVariables false
set_option linter.unusedSimpArgs false
set_option maxRecDepth 100000
theorem dec_cont (s : List UInt8) (i : Nat) (hb : 128 ≤ by' s i) (k : Nat) (h1 : i < k) (h2 : k < i + (dec s i).2) : 128 ≤ by' s k := by
  have e : ∀ j, ((tx s).get! (i + j)).toNat = by' s (i + j) := fun j => get_by s (i + j)
  unfold dec Utf8.decode Utf8.runeError at h2
  dsimp only at h2
  simp only [e, Nat.add_zero, get_by s i] at h2
  rw [if_neg (by omega)] at h2
  have hk : k = i + 1 ∨ k = i + 2 ∨ k = i + 3 ∨ i + 4 ≤ k := by omega
  repeat' split at h2
  all_goals simp only [Bool.and_eq_true, decide_eq_true_eq, beq_iff_eq] at *
  all_goals rcases hk with rfl | rfl | rfl | hk <;> omega
theorem runs_byte {f : Nat → Bool} {s : List UInt8} : ∀ n p, s.length - p ≤ n → runs f s p = true → ∀ k, p ≤ k → k < s.length → by' s k < 128 → f (by' s k) = true
  | 0, p, h0, h, k, h1, h2, h3 => by omega
  | n + 1, p, h0, h, k, h1, h2, h3 => by
    have hp : p < s.length := by omega
    rw [runs_lt hp, Bool.and_eq_true] at h
    have hd := dec_pos s p
    rcases Nat.lt_or_ge (by' s p) 128 with h4 | h4
    · rw [dec_lo s p hp h4] at h
      rcases Nat.lt_or_ge p k with h5 | h5
      · exact runs_byte n (p + 1) (by omega) h.2 k h5 h2 h3
      · rw [show k = p by omega]; exact h.1
    · rcases Nat.lt_or_ge k (p + (dec s p).2) with h5 | h5
      · rcases Nat.lt_or_ge p k with h6 | h6
        · have := dec_cont s p h4 k h6 h5; omega
        · rw [show k = p by omega] at h3; omega
      · exact runs_byte n _ (by omega) h.2 k h5 h2 h3
theorem mem_by {s : List UInt8} {b : UInt8} (h : b ∈ s) : ∃ i, i < s.length ∧ by' s i = b.toNat := by
  obtain ⟨i, hi, rfl⟩ := List.getElem_of_mem h
  refine ⟨i, hi, ?_⟩
  unfold by'
  rw [List.getD_eq_getElem?_getD, List.getElem?_eq_getElem hi]
  rfl
theorem signs_no {s : List UInt8} {sl : Bool} (h : signsB s sl = true) : 32 ∉ s ∧ 10 ∉ s := by
  unfold signsB at h
  rw [Bool.and_eq_true] at h
  refine ⟨fun hm => ?_, fun hm => ?_⟩ <;>
  · obtain ⟨i, h1, h2⟩ := mem_by hm
    have := runs_byte s.length 0 (by omega) h.2 i (by omega) h1 (by rw [h2]; decide)
    rw [h2] at this
    cases sl <;> exact absurd this (by decide)
theorem join_mem {b c : UInt8} : ∀ {l : List (List UInt8)}, b ∈ Lib.join l [c] → b = c ∨ ∃ w ∈ l, b ∈ w
  | [], h => by simp [Lib.join_nil] at h
  | [a], h => by rw [Lib.join_one] at h; exact .inr ⟨a, by simp, h⟩
  | a :: a2 :: l, h => by
    rw [join_cc] at h
    rcases List.mem_append.1 h with h | h
    · exact .inr ⟨a, by simp, h⟩
    · rcases List.mem_cons.1 h with h | h
      · exact .inl h
      · rcases join_mem h with h | ⟨w, hw, h⟩
        · exact .inl h
        · exact .inr ⟨w, List.mem_cons_of_mem _ hw, h⟩
theorem path_no {s : List UInt8} (h : (partsM s).2 = 0) : 32 ∉ s ∧ 10 ∉ s := by
  have hp : ∀ x ∈ sp 47 s, 32 ∉ x ∧ 10 ∉ x := by
    unfold partsM at h
    split at h
    · cases h
    · split at h
      · cases h
      · rename_i h1
        have h2 := Decidable.not_not.1 h1
        rw [List.all_eq_true] at h2
        intro x hx
        have := h2 x hx
        unfold partB at this
        simp only [Bool.and_eq_true] at this
        exact signs_no this.2
  rw [← join_sp 47 s]
  refine ⟨fun hm => ?_, fun hm => ?_⟩ <;>
  · rcases join_mem hm with h | ⟨w, hw, h⟩
    · exact absurd h (by decide)
    · first | exact (hp w hw).1 h | exact (hp w hw).2 h
end Go.Proofs.YtjbnmeofjiokeaaGreatDoor.Ev
namespace Go.Proofs.YtjbnmeofjiokeaaGreatDoor.Ev
open Go.RowKit
open Go.Proofs.YtjbnmeofjiokeaaGreatDoor.Mem
set_option linter.unusedVariables false
set_option linter.unusedSimpArgs false
set_option maxRecDepth 100000
theorem rule_ok' {r : Rul} (h : ruleB r = true) : nameB r.name = true ∧ (r.op = 0 → r.ver = []) ∧ (¬ r.op = 0 → 1 ≤ r.op ∧ r.op ≤ 5 ∧ verB r.ver = true) := by
  unfold ruleB at h
  rw [Bool.and_eq_true] at h
  refine ⟨h.1, fun e => ?_, fun e => ?_⟩
  · have := h.2
    rw [decide_eq_true e, cond_true, decide_eq_true_eq] at this
    exact this
  · have := h.2
    rw [decide_eq_false e, cond_false, Bool.and_eq_true, Bool.and_eq_true, decide_eq_true_eq, decide_eq_true_eq] at this
    exact ⟨this.1.1, this.1.2, this.2⟩
/-! ### Lines -/
end Go.Proofs.YtjbnmeofjiokeaaGreatDoor.Ev
