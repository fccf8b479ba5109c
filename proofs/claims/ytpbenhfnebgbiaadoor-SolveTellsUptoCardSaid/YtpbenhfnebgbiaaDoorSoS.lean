/- Layer 20: texts in order, each once: the mathematics. -/
import Derived.Test.YtpbenhfnebgbiaaDoorSoL
import Derived.Sort.Walk0
set_option linter.unusedVariables false
namespace Go.Proofs.YtpbenhfnebgbiaaDoor.So
open Go Go.Sort Go.Proofs Go.Proofs.YtpbenhfnebgbiaaDoor.Mem
/-- Rising, none twice. -/
def rise (l : List (List UInt8)) : Prop := l.Pairwise (fun a b => a < b)
theorem lt_of (x y : List UInt8) (h : x ≤ y) (k : x ≠ y) : x < y := Std.lt_of_le_of_ne h k
theorem lt'_is (x y : List UInt8) : lt' x y = decide (x < y) := bytesLess_eq x y
theorem uniq : ∀ a b : List (List UInt8), rise a → rise b → (∀ x, x ∈ a ↔ x ∈ b) → a = b
  | [], [], _, _, _ => rfl
  | [], y :: b, _, _, h => absurd ((h y).2 List.mem_cons_self) (by simp)
  | x :: a, [], _, _, h => absurd ((h x).1 List.mem_cons_self) (by simp)
  | x :: a, y :: b, ha, hb, h => by
    have ha' := List.pairwise_cons.1 ha
    have hb' := List.pairwise_cons.1 hb
    have e : x = y := by
      rcases List.mem_cons.1 ((h x).1 List.mem_cons_self) with e | h1
      · exact e
      · rcases List.mem_cons.1 ((h y).2 List.mem_cons_self) with e | h2
        · exact e.symm
        · exact absurd (List.lt_trans (hb'.1 x h1) (ha'.1 y h2)) (List.lt_irrefl y)
    subst e
    rw [uniq a b ha'.2 hb'.2 (fun z => ⟨fun hz => ?_, fun hz => ?_⟩)]
    · rcases List.mem_cons.1 ((h z).1 (List.mem_cons_of_mem _ hz)) with e | h1
      · subst e; exact absurd (ha'.1 z hz) (List.lt_irrefl z)
      · exact h1
    · rcases List.mem_cons.1 ((h z).2 (List.mem_cons_of_mem _ hz)) with e | h1
      · subst e; exact absurd (hb'.1 z hz) (List.lt_irrefl z)
      · exact h1
theorem srt_le (l : List (List UInt8)) : (srt l).Pairwise (fun a b => a ≤ b) := by
  have tr : ∀ a b c : List UInt8, decide (a ≤ b) = true → decide (b ≤ c) = true → decide (a ≤ c) = true := fun a b c h1 h2 => by
    simp only [decide_eq_true_eq] at *
    exact List.le_trans h1 h2
  have to : ∀ a b : List UInt8, (decide (a ≤ b) || decide (b ≤ a)) = true := fun a b => by
    simp only [Bool.or_eq_true, decide_eq_true_eq]
    exact List.le_total a b
  have := List.pairwise_mergeSort tr to l
  exact this.imp (fun h => of_decide_eq_true h)
theorem srt_mem (l : List (List UInt8)) (x : List UInt8) : x ∈ srt l ↔ x ∈ l := List.mem_mergeSort
theorem bang (l : List (List UInt8)) (j : Nat) (h : j < l.length) : l.toArray[j]! = l[j] := by
  rw [getElem!_pos l.toArray j (by simpa using h)]
  simp
/-- What stands once, up to a place. -/
theorem upto_is (l : List (List UInt8)) (hs : l.Pairwise (fun a b => a ≤ b)) : ∀ m, m ≤ l.length → rise (Lib.compactUpTo l.toArray m) ∧ (∀ x, x ∈ Lib.compactUpTo l.toArray m ↔ ∃ j, j < m ∧ l.toArray[j]! = x)
  | 0, h => ⟨List.Pairwise.nil, fun x => ⟨fun h => by simp [Lib.compactUpTo] at h, fun ⟨j, h, _⟩ => by omega⟩⟩
  | m + 1, h => by
    obtain ⟨h1, h2⟩ := upto_is l hs m (by omega)
    have key : ∀ i j (hi : i < l.length) (hj : j < l.length), i < j → l[i] ≤ l[j] := fun i j hi hj hij => List.pairwise_iff_getElem.1 hs i j hi hj hij
    rw [Lib.compactUpTo_succ]
    by_cases hk : Lib.keeps l.toArray m = true
    · rw [if_pos hk]
      have hk2 : m = 0 ∨ l.toArray[m]! ≠ l.toArray[m - 1]! := of_decide_eq_true hk
      refine ⟨List.pairwise_append.2 ⟨h1, List.pairwise_singleton _ _, fun a ha b hb => ?_⟩, fun x => ?_⟩
      · rw [List.mem_singleton.1 hb]
        obtain ⟨j, hj, rfl⟩ := (h2 a).1 ha
        rcases hk2 with h0 | hne
        · omega
        · rw [bang l m (by omega), bang l (m - 1) (by omega)] at hne
          rw [bang l j (by omega), bang l m (by omega)]
          have hlast : l[m - 1] < l[m] := lt_of _ _ (key (m - 1) m (by omega) (by omega) (by omega)) (fun e => hne e.symm)
          by_cases hjm : j = m - 1
          · subst hjm; exact hlast
          · exact List.lt_of_le_of_lt (key j (m - 1) (by omega) (by omega) (by omega)) hlast
      · rw [List.mem_append, List.mem_singleton, h2 x]
        constructor
        · rintro (⟨j, hj, e⟩ | rfl)
          · exact ⟨j, by omega, e⟩
          · exact ⟨m, by omega, rfl⟩
        · rintro ⟨j, hj, rfl⟩
          by_cases e : j = m
          · subst e; exact .inr rfl
          · exact .inl ⟨j, by omega, rfl⟩
    · rw [if_neg hk, List.append_nil]
      refine ⟨h1, fun x => ?_⟩
      rw [h2 x]
      constructor
      · rintro ⟨j, hj, e⟩; exact ⟨j, by omega, e⟩
      · rintro ⟨j, hj, rfl⟩
        by_cases e : j = m
        · subst e
          have hk2 : ¬ (j = 0 ∨ l.toArray[j]! ≠ l.toArray[j - 1]!) := fun c => hk (decide_eq_true c)
          refine ⟨j - 1, by omega, ?_⟩
          by_cases c : l.toArray[j]! = l.toArray[j - 1]!
          · exact c.symm
          · exact absurd (.inr c) hk2
        · exact ⟨j, by omega, rfl⟩
theorem cpt_is (l : List (List UInt8)) (hs : l.Pairwise (fun a b => a ≤ b)) : rise (cpt l) ∧ ∀ x, x ∈ cpt l ↔ x ∈ l := by
  obtain ⟨h1, h2⟩ := upto_is l hs l.length (Nat.le_refl _)
  refine ⟨h1, fun x => (h2 x).trans ⟨?_, fun hx => ?_⟩⟩
  · rintro ⟨j, hj, rfl⟩
    rw [bang l j hj]
    exact List.getElem_mem hj
  · obtain ⟨j, hj, e⟩ := List.getElem_of_mem hx
    exact ⟨j, hj, (bang l j hj).trans e⟩
theorem sorted_is (l : List (List UInt8)) : rise (cpt (srt l)) ∧ ∀ x, x ∈ cpt (srt l) ↔ x ∈ l := by
  obtain ⟨h1, h2⟩ := cpt_is (srt l) (srt_le l)
  exact ⟨h1, fun x => (h2 x).trans (srt_mem l x)⟩
/-- One more is put at its place. -/
theorem put_is (l : List (List UInt8)) (x : List UInt8) (j : Nat) (hr : rise l) (hj : j ≤ l.length) (hlo : ∀ i, i < j → l.getD i [] < x) (hhi : ∀ i, j ≤ i → i < l.length → x < l.getD i []) :
    rise ((l.take j ++ [x]) ++ l.drop j) ∧ ∀ z, z ∈ (l.take j ++ [x]) ++ l.drop j ↔ z = x ∨ z ∈ l := by
  have hl : l.take j ++ l.drop j = l := List.take_append_drop j l
  have h1 : rise (l.take j ++ l.drop j) := by rw [hl]; exact hr
  obtain ⟨p, q, c⟩ := List.pairwise_append.1 h1
  have ht : ∀ a ∈ l.take j, a < x := fun a ha => by
    obtain ⟨i, hi, e⟩ := List.getElem_of_mem ha
    rw [List.length_take] at hi
    have := hlo i (by omega)
    rw [List.getD_eq_getElem?_getD, List.getElem?_eq_getElem (by omega)] at this
    rw [List.getElem_take] at e
    rw [← e]
    exact this
  have hd : ∀ b ∈ l.drop j, x < b := fun b hb => by
    obtain ⟨i, hi, e⟩ := List.getElem_of_mem hb
    rw [List.length_drop] at hi
    have := hhi (j + i) (by omega) (by omega)
    rw [List.getD_eq_getElem?_getD, List.getElem?_eq_getElem (by omega)] at this
    rw [List.getElem_drop] at e
    rw [← e]
    exact this
  refine ⟨List.pairwise_append.2 ⟨List.pairwise_append.2 ⟨p, List.pairwise_singleton _ _, fun a ha b hb => by rw [List.mem_singleton.1 hb]; exact ht a ha⟩, q, fun a ha b hb => ?_⟩, fun z => ?_⟩
  · rcases List.mem_append.1 ha with ha | ha
    · exact c a ha b hb
    · rw [List.mem_singleton.1 ha]; exact hd b hb
  · rw [List.mem_append, List.mem_append, List.mem_singleton]
    conv => rhs; rw [← hl, List.mem_append]
    constructor
    · rintro ((h | h) | h)
      · exact .inr (.inl h)
      · exact .inl h
      · exact .inr (.inr h)
    · rintro (h | h | h)
      · exact .inl (.inr h)
      · exact .inl (.inl h)
      · exact .inr h
end Go.Proofs.YtpbenhfnebgbiaaDoor.So
