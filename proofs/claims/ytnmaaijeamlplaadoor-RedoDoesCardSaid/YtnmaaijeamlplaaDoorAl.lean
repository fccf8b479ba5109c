import Derived.Test.YtnmaaijeamlplaaDoorAx
set_option linter.unusedVariables false
set_option linter.unusedSimpArgs false
namespace Go.Proofs.YtnmaaijeamlplaaDoor.Mem
theorem loop_none {β : Type} {N : Nat} {f : Nat → Nat → Sum Nat β} {P : Nat → Prop} {r : β} (h1 : ∀ n i, i < N → P i → f (n + 1) i = .inr r) (h2 : ∀ n i, i < N → ¬ P i → f (n + 1) i = f n (i + 1)) (h3 : ∀ n i, N ≤ i → f (n + 1) i = .inl i) :
  ∀ n i, i ≤ N → N - i < n → (∀ k, i ≤ k → k < N → ¬ P k) → f n i = .inl N
 | 0, i, _, h, _ => by omega
 | n + 1, i, hi, h, hP => by
  by_cases hN : i < N
  ·rw [h2 n i hN (hP i (Nat.le_refl _) hN)]
   exact loop_none h1 h2 h3 n (i + 1) hN (by omega) (fun k hk => hP k (by omega))
  obtain rfl : i = N := by omega
  exact h3 n i (Nat.le_refl _)
theorem loop_some {β : Type} {N : Nat} {f : Nat → Nat → Sum Nat β} {P : Nat → Prop} {r : β} (h1 : ∀ n i, i < N → P i → f (n + 1) i = .inr r) (h2 : ∀ n i, i < N → ¬ P i → f (n + 1) i = f n (i + 1)) :
  ∀ n i, N - i < n → (∃ k, i ≤ k ∧ k < N ∧ P k) → f n i = .inr r
 | 0, i, h, _ => by omega
 | n + 1, i, h, ⟨k, hk, hN, hP⟩ => by
  by_cases hi : P i
  ·exact h1 n i (by omega) hi
  rw [h2 n i (by omega) hi]
  have : i ≠ k := fun e => hi (by rw [e]; exact hP)
  exact loop_some h1 h2 n (i + 1) (by omega) ⟨k, by omega, hN, hP⟩
theorem forall_get {α : Type} (d : α) (P : α → Prop) (l : List α) : (∀ k, k < l.length → P (l.getD k d)) ↔ ∀ x ∈ l, P x := by
 constructor
 ·intro h x hx
  obtain ⟨k, hk, rfl⟩ := List.getElem_of_mem hx
  have := h k hk
  rwa [List.getD_eq_getElem?_getD, List.getElem?_eq_getElem hk] at this
 intro h k hk
 rw [List.getD_eq_getElem?_getD, List.getElem?_eq_getElem hk]
 exact h _ (List.getElem_mem hk)
theorem getD_mem {α : Type} (l : List α) (k : Nat) (d : α) (hk : k < l.length) : l.getD k d ∈ l := by
 rw [List.getD_eq_getElem?_getD, List.getElem?_eq_getElem hk]
 exact List.getElem_mem hk
theorem take_snoc {α : Type} (l : List α) (i : Nat) (h : i < l.length) (d : α) : l.take (i + 1) = l.take i ++ [l.getD i d] := by
 rw [List.take_add_one, List.getD_eq_getElem?_getD, List.getElem?_eq_getElem h]; rfl
theorem ex_not {N : Nat} {P : Nat → Prop} (h : ¬ ∀ k, k < N → P k) : ∃ k, 0 ≤ k ∧ k < N ∧ ¬ P k := by
 obtain ⟨k, hk⟩ := Classical.not_forall.1 h
 obtain ⟨h1, h2⟩ := Classical.not_imp.1 hk
 exact ⟨k, Nat.zero_le _, h1, h2⟩
theorem loop_same {σ β : Type} {f g : Nat → σ → Sum σ β} {b c : (σ → Sum σ β) → σ → Sum σ β} (h0 : ∀ s, f 0 s = g 0 s) (hf : ∀ n s, f (n + 1) s = b (f n) s) (hg : ∀ n s, g (n + 1) s = c (g n) s) (h : ∀ r s, b r s = c r s) : ∀ n s, f n s = g n s
 | 0, s => h0 s
 | n + 1, s => by rw [hf, hg, h, show f n = g n from funext (loop_same h0 hf hg h n)]
theorem loop_fold {σ τ β α : Type} (l : List α) (d : α) (g : σ → α → σ) (mk : Nat → σ → τ) (f : Nat → τ → Sum τ β) (h1 : ∀ n i s, i < l.length → f (n + 1) (mk i s) = f n (mk (i + 1) (g s (l.getD i d)))) (h2 : ∀ n i s, l.length ≤ i → f (n + 1) (mk i s) = .inl (mk i s)) :
  ∀ n i s, i ≤ l.length → l.length - i < n → f n (mk i s) = .inl (mk l.length ((l.drop i).foldl g s))
 | 0, i, _, _, h => by omega
 | n + 1, i, s, hi, h => by
  by_cases hl : i < l.length
  ·rw [h1 n i s hl, loop_fold l d g mk f h1 h2 n (i + 1) _ hl (by omega)]
   have e : l.drop i = l.getD i d :: l.drop (i + 1) := by
    rw [List.getD_eq_getElem?_getD, List.getElem?_eq_getElem hl, List.drop_eq_getElem_cons hl]; rfl
   rw [e, List.foldl_cons]
  obtain rfl : i = l.length := by omega
  rw [h2 n _ s (Nat.le_refl _), List.drop_length]
  rfl
end Go.Proofs.YtnmaaijeamlplaaDoor.Mem
