/- Layer 20: the document's answers are the program's: the mathematics. -/
import Derived.Test.YtpbenhfnebgbiaaDoorSoV
import Derived.Test.YtpbenhfnebgbiaaDoorSoS
import Derived.Test.YtpbenhfnebgbiaaDoorSoR
import Derived.Test.YtpbenhfnebgbiaaDoorVeP
set_option linter.unusedVariables false
namespace Go.Proofs.YtpbenhfnebgbiaaDoor.So
open Go.RowKit Go.Proofs.YtpbenhfnebgbiaaDoor.Pa Go.Proofs.YtpbenhfnebgbiaaDoor.Mem Go.Proofs.YtpbenhfnebgbiaaDoor.Ve
theorem rmeets_l (l : List Mf) (r : Rul) (but : List UInt8) : ∀ k i, rmeets_m_l0 l r but k i = meets_m_l0 l r but k i
  | 0, i => rfl
  | k + 1, i => by
    show rmeets_m_b0 l r but (rmeets_m_l0 l r but k) i = meets_m_b0 l r but (meets_m_l0 l r but k) i
    have ih := rmeets_l l r but k
    unfold rmeets_m_b0 meets_m_b0
    simp only [ih, holds_same]
theorem rmeets_is (l : List Mf) (r : Rul) (but : List UInt8) : rmeets_m l r but = meets_m l r but := by
  unfold rmeets_m meets_m
  rw [rmeets_l]
  rfl
theorem rlacks_l1 (l : List Mf) (l7 : List Rul) (x : Nat) : ∀ k z, rlacks_m_l1 l l7 x k z = lacks_m_l1 l l7 x k z
  | 0, z => rfl
  | k + 1, z => by
    show rlacks_m_b1 l l7 x (rlacks_m_l1 l l7 x k) z.1 z.2 = lacks_m_b1 l l7 x (lacks_m_l1 l l7 x k) z.1 z.2
    have ih := rlacks_l1 l l7 x k
    unfold rlacks_m_b1 lacks_m_b1
    simp only [ih, rmeets_is]
theorem rlacks_l0 (l : List Mf) : ∀ k z, rlacks_m_l0 l k z = lacks_m_l0 l k z
  | 0, z => rfl
  | k + 1, z => by
    show rlacks_m_b0 l (rlacks_m_l0 l k) z.1 z.2 = lacks_m_b0 l (lacks_m_l0 l k) z.1 z.2
    have ih := rlacks_l0 l k
    have e : rlacks_m_k1 l z.1 z.2 (rlacks_m_l0 l k) = lacks_m_k1 l z.1 z.2 (lacks_m_l0 l k) := funext fun a => funext fun b => ih (a, z.2 + 1)
    unfold rlacks_m_b0 lacks_m_b0
    rw [rlacks_l1, e]
theorem rlacks_is (l : List Mf) : rlacks_m l = lacks_m l := by
  unfold rlacks_m lacks_m
  rw [rlacks_l0]
  rfl
theorem rclashes_l1 (l : List Mf) (l7 : List Rul) (x : Nat) : ∀ k z, rclashes_m_l1 l l7 x k z = clashes_m_l1 l l7 x k z
  | 0, z => rfl
  | k + 1, z => by
    show rclashes_m_b1 l l7 x (rclashes_m_l1 l l7 x k) z.1 z.2 = clashes_m_b1 l l7 x (clashes_m_l1 l l7 x k) z.1 z.2
    have ih := rclashes_l1 l l7 x k
    unfold rclashes_m_b1 clashes_m_b1
    simp only [ih, rmeets_is]
theorem rclashes_l0 (l : List Mf) : ∀ k z, rclashes_m_l0 l k z = clashes_m_l0 l k z
  | 0, z => rfl
  | k + 1, z => by
    show rclashes_m_b0 l (rclashes_m_l0 l k) z.1 z.2 = clashes_m_b0 l (clashes_m_l0 l k) z.1 z.2
    have ih := rclashes_l0 l k
    have e : rclashes_m_k1 l z.1 z.2 (rclashes_m_l0 l k) = clashes_m_k1 l z.1 z.2 (clashes_m_l0 l k) := funext fun a => funext fun b => ih (a, z.2 + 1)
    unfold rclashes_m_b0 clashes_m_b0
    rw [rclashes_l1, e]
theorem rclashes_is (l : List Mf) : rclashes_m l = clashes_m l := by
  unfold rclashes_m clashes_m
  rw [rclashes_l0]
  rfl
theorem rsolve_is (l : List Mf) : rsolve_m l = solve_m l := by
  unfold rsolve_m solve_m
  rw [rlacks_is, rclashes_is]
/-- The first place that isn't below. -/
theorem ru_l2 (l : List Mf) (m : Mf) (l8 : List (List UInt8)) (x : Nat) (a : List (List UInt8)) (y : Nat) : ∀ k j, a.length ≤ j + k → j ≤ a.length → (∀ i, i < j → a.getD i [] < (l.getD x dMf).name) →
    ∃ e, rusers_m_l2 l m l8 x a y (k + 1) j = .inl e ∧ e ≤ a.length ∧ (∀ i, i < e → a.getD i [] < (l.getD x dMf).name) ∧ (e < a.length → ¬ a.getD e [] < (l.getD x dMf).name)
  | k, j, h, hj, hlo => by
    have E : rusers_m_l2 l m l8 x a y (k + 1) j = rusers_m_b2 l m l8 x a y (rusers_m_l2 l m l8 x a y k) j := rfl
    rw [E]
    unfold rusers_m_b2
    rw [lt'_is]
    by_cases h1 : j < a.length
    · rw [if_pos h1]
      by_cases h2 : a.getD j [] < (l.getD x dMf).name
      · rw [if_pos (decide_eq_true h2)]
        match k, h with
        | 0, h => omega
        | k + 1, h =>
          exact ru_l2 l m l8 x a y k (j + 1) (by omega) (by omega) (fun i hi => by
            by_cases e : i = j
            · rw [e]; exact h2
            · exact hlo i (by omega))
      · rw [if_neg (fun c => h2 (of_decide_eq_true c))]
        exact ⟨j, rfl, hj, hlo, fun _ => h2⟩
    · rw [if_neg h1]
      exact ⟨j, rfl, hj, hlo, fun c => absurd c h1⟩
/-- A name is put among the others, if it isn't there. -/
theorem ru_k2 (l : List Mf) (m : Mf) (l8 : List (List UInt8)) (x : Nat) (a : List (List UInt8)) (y : Nat) (rec : List (List UInt8) × Nat → Sum (List (List UInt8) × Nat) (List (List UInt8))) (hr : rise a) :
    ∃ b, fin (rusers_m_l2 l m l8 x a y ((a.length - 0) + 1) 0) .inr (fun zz => rusers_m_k2 l m l8 x a y rec zz) = rec (b, y + 1) ∧ rise b ∧ ∀ z, z ∈ b ↔ z = (l.getD x dMf).name ∨ z ∈ a := by
  obtain ⟨e, h1, h2, h3, h4⟩ := ru_l2 l m l8 x a y (a.length - 0) 0 (by omega) (Nat.zero_le _) (fun i hi => by omega)
  rw [h1]
  show ∃ b, rusers_m_k2 l m l8 x a y rec e = rec (b, y + 1) ∧ _
  unfold rusers_m_k2
  rw [List.nil_append]
  by_cases q : e = a.length
  · rw [if_pos q]
    obtain ⟨p1, p2⟩ := put_is a (l.getD x dMf).name e hr h2 h3 (fun i hi hl => by omega)
    exact ⟨_, rfl, p1, p2⟩
  · rw [if_neg q]
    have hle : (l.getD x dMf).name ≤ a.getD e [] := h4 (by omega)
    by_cases q2 : a.getD e [] = (l.getD x dMf).name
    · rw [if_neg (fun c => c q2)]
      refine ⟨a, rfl, hr, fun z => ⟨.inr, fun hz => hz.elim (fun hz => ?_) id⟩⟩
      rw [hz, ← q2, List.getD_eq_getElem?_getD, List.getElem?_eq_getElem (by omega)]
      exact List.getElem_mem _
    · rw [if_pos q2]
      have hlt : (l.getD x dMf).name < a.getD e [] := lt_of _ _ hle (fun c => q2 c.symm)
      obtain ⟨p1, p2⟩ := put_is a (l.getD x dMf).name e hr h2 h3 (fun i hi hl => by
        by_cases c : i = e
        · rw [c]; exact hlt
        · have hee : e < a.length := by omega
          have h5 := List.pairwise_iff_getElem.1 hr e i hee hl (by omega)
          have h6 : a.getD e [] = a[e] := by rw [List.getD_eq_getElem?_getD, List.getElem?_eq_getElem hee]; rfl
          have h7 : a.getD i [] = a[i] := by rw [List.getD_eq_getElem?_getD, List.getElem?_eq_getElem hl]; rfl
          rw [h7]
          rw [h6] at hlt
          exact List.lt_trans hlt h5)
      exact ⟨_, rfl, p1, p2⟩
theorem ru_l1 (l : List Mf) (m : Mf) (l8 : List (List UInt8)) (x : Nat) : ∀ k (a : List (List UInt8)) i, ((l.getD x dMf).needs).length ≤ i + k → i ≤ ((l.getD x dMf).needs).length → rise a →
    ∃ b, rusers_m_l1 l m l8 x (k + 1) (a, i) = .inl (b, ((l.getD x dMf).needs).length) ∧ rise b ∧ ∀ z, z ∈ b ↔ z ∈ a ∨ (z = (l.getD x dMf).name ∧ (((l.getD x dMf).needs).drop i).any (mn m) = true)
  | k, a, i, h, hi, hr => by
    have E : rusers_m_l1 l m l8 x (k + 1) (a, i) = rusers_m_b1 l m l8 x (rusers_m_l1 l m l8 x k) a i := rfl
    rw [E]
    unfold rusers_m_b1
    by_cases h1 : i < ((l.getD x dMf).needs).length
    · rw [if_pos h1, getd_drop dRul _ i h1, List.any_cons, holds_same]
      match k, h with
      | 0, h => omega
      | k + 1, h =>
        have no : mn m (((l.getD x dMf).needs).getD i dRul) = false → ∃ b, rusers_m_l1 l m l8 x (k + 1) (a, i + 1) = .inl (b, ((l.getD x dMf).needs).length) ∧ rise b ∧ ∀ z, z ∈ b ↔ z ∈ a ∨ (z = (l.getD x dMf).name ∧ (mn m (((l.getD x dMf).needs).getD i dRul) || (((l.getD x dMf).needs).drop (i + 1)).any (mn m)) = true) := by
          intro M
          rw [M, Bool.false_or]
          exact ru_l1 l m l8 x k a (i + 1) (by omega) (by omega) hr
        by_cases h2 : (((l.getD x dMf).needs).getD i dRul).name = m.name
        · rw [if_neg (fun c => c h2)]
          by_cases h3 : holds_m (((l.getD x dMf).needs).getD i dRul) m.version = true
          · have M : mn m (((l.getD x dMf).needs).getD i dRul) = true := by unfold mn; rw [h3, decide_eq_true h2]; rfl
            rw [if_neg (by rw [h3]; decide), M, Bool.true_or]
            obtain ⟨b, e1, e2, e3⟩ := ru_k2 l m l8 x a i (rusers_m_l1 l m l8 x (k + 1)) hr
            rw [e1]
            obtain ⟨b', f1, f2, f3⟩ := ru_l1 l m l8 x k b (i + 1) (by omega) (by omega) e2
            refine ⟨b', f1, f2, fun z => ?_⟩
            rw [f3, e3]
            constructor
            · rintro ((h | h) | h)
              · exact .inr ⟨h, rfl⟩
              · exact .inl h
              · exact .inr ⟨h.1, rfl⟩
            · rintro (h | h)
              · exact .inl (.inr h)
              · exact .inl (.inl h.1)
          · have M : mn m (((l.getD x dMf).needs).getD i dRul) = false := by unfold mn; rw [Bool.eq_false_iff.2 h3, Bool.and_false]
            rw [if_pos (by rw [Bool.eq_false_iff.2 h3]; decide)]
            exact no M
        · have M : mn m (((l.getD x dMf).needs).getD i dRul) = false := by unfold mn; rw [decide_eq_false h2]; rfl
          rw [if_pos h2]
          exact no M
    · rw [if_neg h1, List.drop_eq_nil_of_le (by omega)]
      exact ⟨a, by rw [show i = ((l.getD x dMf).needs).length by omega], hr, fun z => by simp⟩
theorem ru_l0 (l : List Mf) (m : Mf) : ∀ k (a : List (List UInt8)) i, l.length ≤ i + k → i ≤ l.length → rise a →
    ∃ b, rusers_m_l0 l m (k + 1) (a, i) = .inl (b, l.length) ∧ rise b ∧ ∀ z, z ∈ b ↔ z ∈ a ∨ z ∈ ((l.drop i).filter (fun x => x.needs.any (mn m))).map (fun x => x.name)
  | k, a, i, h, hi, hr => by
    have E : rusers_m_l0 l m (k + 1) (a, i) = rusers_m_b0 l m (rusers_m_l0 l m k) a i := rfl
    rw [E]
    unfold rusers_m_b0
    by_cases h1 : i < l.length
    · rw [if_pos h1, getd_drop dMf l i h1, List.filter_cons]
      obtain ⟨b, e1, e2, e3⟩ := ru_l1 l m a i (((l.getD i dMf).needs).length - 0) a 0 (by omega) (Nat.zero_le _) hr
      rw [e1]
      match k, h with
      | 0, h => omega
      | k + 1, h =>
        show ∃ b', rusers_m_l0 l m (k + 1) (b, i + 1) = _ ∧ _
        obtain ⟨b', f1, f2, f3⟩ := ru_l0 l m k b (i + 1) (by omega) (by omega) e2
        refine ⟨b', f1, f2, fun z => ?_⟩
        rw [f3, e3, List.drop_zero]
        by_cases c : ((l.getD i dMf).needs).any (mn m) = true
        · rw [if_pos c, List.map_cons, List.mem_cons, or_assoc]
          exact ⟨fun h => h.elim .inl (fun h => .inr (h.elim (fun h => .inl h.1) .inr)), fun h => h.elim .inl (fun h => .inr (h.elim (fun h => .inl ⟨h, c⟩) .inr))⟩
        · rw [if_neg c]
          exact ⟨fun h => h.elim (fun h => h.elim .inl (fun h => absurd h.2 c)) .inr, fun h => h.elim (fun h => .inl (.inl h)) .inr⟩
    · rw [if_neg h1, List.drop_eq_nil_of_le (by omega)]
      exact ⟨a, by rw [show i = l.length by omega], hr, fun z => by simp⟩
theorem rusers_is (l : List Mf) (m : Mf) : rusers_m l m = users_m l m := by
  obtain ⟨b, e1, e2, e3⟩ := ru_l0 l m (l.length - 0) [] 0 (by omega) (Nat.zero_le _) List.Pairwise.nil
  unfold rusers_m
  rw [e1, users_is]
  show b = _
  obtain ⟨s1, s2⟩ := sorted_is ((l.filter (fun x => x.needs.any (mn m))).map (fun x => x.name))
  refine uniq _ _ e2 s1 (fun z => ?_)
  rw [e3, s2, List.drop_zero]
  simp
theorem flat_few (f : Mf → List Rul) (c : Nat) : ∀ l : List Mf, (∀ x ∈ l, (f x).length ≤ c) → (l.flatMap f).length ≤ c * l.length
  | [], _ => Nat.zero_le _
  | x :: l, h => by
    have ih := flat_few f c l (fun y hy => h y (List.mem_cons_of_mem _ hy))
    have h1 := h x List.mem_cons_self
    rw [List.flatMap_cons, List.length_append, List.length_cons, Nat.mul_succ]
    omega
theorem lacks_few {l : List Mf} (h : okl l) (hl : l.length ≤ 100000) : (lacks_m l).length ≤ 671088700000 := by
  rw [lacks_is]
  have := flat_few (fun x => x.needs.filter (fun r => !(l.any (mt r [])))) 6710887 l (fun x hx => Nat.le_trans (List.length_filter_le _ _) (h x hx).1)
  omega
theorem clashes_few {l : List Mf} (h : okl l) (hl : l.length ≤ 100000) : (clashes_m l).length ≤ 671088700000 := by
  rw [clashes_is]
  have := flat_few (fun x => x.clashes.filter (fun r => l.any (mt r x.name))) 6710887 l (fun x hx => Nat.le_trans (List.length_filter_le _ _) (h x hx).2)
  omega
theorem rlacks_few {l : List Mf} (h : okl l) (hl : l.length ≤ 100000) : (rlacks_m l).length ≤ 671088700000 := by rw [rlacks_is]; exact lacks_few h hl
theorem rclashes_few {l : List Mf} (h : okl l) (hl : l.length ≤ 100000) : (rclashes_m l).length ≤ 671088700000 := by rw [rclashes_is]; exact clashes_few h hl
theorem users_few (l : List Mf) (m : Mf) : (users_m l m).length ≤ l.length := by
  rw [users_is]
  refine Nat.le_trans (cpt_len _) ?_
  rw [srt_len, List.length_map]
  exact List.length_filter_le _ _
end Go.Proofs.YtpbenhfnebgbiaaDoor.So
