/- Layer 20: what meets, lacks and clashes, in closed form. -/
import Derived.Test.YtpbenhfnebgbiaaDoorSoG
set_option linter.unusedVariables false
namespace Go.Proofs.YtpbenhfnebgbiaaDoor.So
open Go.RowKit Go.Proofs.YtpbenhfnebgbiaaDoor.Pa Go.Proofs.YtpbenhfnebgbiaaDoor.Mem Go.Proofs.YtpbenhfnebgbiaaDoor.Ve
/-- A package that a rule means, but one of a name. -/
def mt (r : Rul) (but : List UInt8) (x : Mf) : Bool := decide (x.name = r.name) && decide (¬ x.name = but) && holds_m r x.version
theorem getd_drop {α : Type} (d : α) (l : List α) (i : Nat) (h : i < l.length) : l.drop i = l.getD i d :: l.drop (i + 1) := by
  rw [List.drop_eq_getElem_cons h, List.getD_eq_getElem?_getD, List.getElem?_eq_getElem h]
  rfl
theorem meets_l (l : List Mf) (r : Rul) (but : List UInt8) : ∀ k i, l.length ≤ i + k → i ≤ l.length → fin (meets_m_l0 l r but (k + 1) i) (fun r => r) (fun zz => meets_m_k0 l r but zz) = (l.drop i).any (mt r but)
  | k, i, h, hi => by
    have E : meets_m_l0 l r but (k + 1) i = meets_m_b0 l r but (meets_m_l0 l r but k) i := rfl
    rw [E]
    unfold meets_m_b0
    by_cases h1 : i < l.length
    · rw [if_pos h1, getd_drop dMf l i h1, List.any_cons]
      match k, h with
      | 0, h => omega
      | k + 1, h =>
        have ih := meets_l l r but k (i + 1) (by omega) (by omega)
        generalize l.getD i dMf = x
        by_cases h2 : x.name = r.name
        · rw [if_pos h2]
          by_cases h3 : x.name = but
          · have M : mt r but x = false := by unfold mt; simp [h3]
            rw [if_neg (show ¬ ¬ x.name = but from fun c => c h3), M, Bool.false_or]
            exact ih
          · rw [if_pos h3]
            by_cases h4 : holds_m r x.version = true
            · have M : mt r but x = true := by unfold mt; rw [h4, decide_eq_true h2, decide_eq_true h3]; rfl
              rw [if_pos h4, M, Bool.true_or]
              rfl
            · have M : mt r but x = false := by unfold mt; rw [Bool.eq_false_iff.2 h4, Bool.and_false]
              rw [if_neg h4, M, Bool.false_or]
              exact ih
        · have M : mt r but x = false := by unfold mt; rw [decide_eq_false h2]; rfl
          rw [if_neg h2, M, Bool.false_or]
          exact ih
    · rw [if_neg h1, List.drop_eq_nil_of_le (by omega)]
      rfl
theorem meets_is (l : List Mf) (r : Rul) (but : List UInt8) : meets_m l r but = l.any (mt r but) := meets_l l r but (l.length - 0) 0 (by omega) (Nat.zero_le _)
theorem lacks_in (l : List Mf) (l7 : List Rul) (x : Nat) : ∀ k (a : List Rul) i, ((l.getD x dMf).needs).length ≤ i + k → i ≤ ((l.getD x dMf).needs).length →
    lacks_m_l1 l l7 x (k + 1) (a, i) = .inl (a ++ (((l.getD x dMf).needs).drop i).filter (fun r => !(meets_m l r [])), ((l.getD x dMf).needs).length)
  | k, a, i, h, hi => by
    have E : lacks_m_l1 l l7 x (k + 1) (a, i) = lacks_m_b1 l l7 x (lacks_m_l1 l l7 x k) a i := rfl
    rw [E]
    unfold lacks_m_b1
    by_cases h1 : i < ((l.getD x dMf).needs).length
    · rw [if_pos h1, getd_drop dRul _ i h1, List.filter_cons]
      match k, h with
      | 0, h => omega
      | k + 1, h =>
        by_cases h2 : (!(meets_m l (((l.getD x dMf).needs).getD i dRul) [])) = true
        · rw [if_pos h2, if_pos h2, lacks_in l l7 x k _ (i + 1) (by omega) (by omega), List.append_assoc]
          rfl
        · rw [if_neg h2, if_neg h2, lacks_in l l7 x k _ (i + 1) (by omega) (by omega)]
    · rw [if_neg h1, List.drop_eq_nil_of_le (by omega), List.filter_nil, List.append_nil, show i = ((l.getD x dMf).needs).length by omega]
theorem lacks_out (l : List Mf) : ∀ k (a : List Rul) i, l.length ≤ i + k → i ≤ l.length →
    lacks_m_l0 l (k + 1) (a, i) = .inl (a ++ (l.drop i).flatMap (fun x => x.needs.filter (fun r => !(meets_m l r []))), l.length)
  | k, a, i, h, hi => by
    have E : lacks_m_l0 l (k + 1) (a, i) = lacks_m_b0 l (lacks_m_l0 l k) a i := rfl
    rw [E]
    unfold lacks_m_b0
    by_cases h1 : i < l.length
    · rw [if_pos h1, lacks_in l a i _ a 0 (by omega) (Nat.zero_le _)]
      match k, h with
      | 0, h => omega
      | k + 1, h =>
        show lacks_m_l0 l (k + 1) (_, i + 1) = _
        rw [lacks_out l k _ (i + 1) (by omega) (by omega), getd_drop dMf l i h1, List.flatMap_cons, List.append_assoc, List.drop_zero]
    · rw [if_neg h1, List.drop_eq_nil_of_le (by omega), List.flatMap_nil, List.append_nil, show i = l.length by omega]
theorem lacks_is (l : List Mf) : lacks_m l = l.flatMap (fun x => x.needs.filter (fun r => !(l.any (mt r [])))) := by
  unfold lacks_m
  rw [lacks_out l (l.length - 0) [] 0 (by omega) (Nat.zero_le _), List.drop_zero, List.nil_append]
  show l.flatMap (fun x => x.needs.filter (fun r => !(meets_m l r []))) = _
  have e : (fun r => !(meets_m l r [])) = (fun r => !(l.any (mt r []))) := funext fun r => by rw [meets_is]
  rw [e]
theorem clashes_in (l : List Mf) (l7 : List Rul) (x : Nat) : ∀ k (a : List Rul) i, ((l.getD x dMf).clashes).length ≤ i + k → i ≤ ((l.getD x dMf).clashes).length →
    clashes_m_l1 l l7 x (k + 1) (a, i) = .inl (a ++ (((l.getD x dMf).clashes).drop i).filter (fun r => meets_m l r (l.getD x dMf).name), ((l.getD x dMf).clashes).length)
  | k, a, i, h, hi => by
    have E : clashes_m_l1 l l7 x (k + 1) (a, i) = clashes_m_b1 l l7 x (clashes_m_l1 l l7 x k) a i := rfl
    rw [E]
    unfold clashes_m_b1
    by_cases h1 : i < ((l.getD x dMf).clashes).length
    · rw [if_pos h1, getd_drop dRul _ i h1, List.filter_cons]
      match k, h with
      | 0, h => omega
      | k + 1, h =>
        by_cases h2 : meets_m l (((l.getD x dMf).clashes).getD i dRul) (l.getD x dMf).name = true
        · rw [if_pos h2, if_pos h2, clashes_in l l7 x k _ (i + 1) (by omega) (by omega), List.append_assoc]
          rfl
        · rw [if_neg h2, if_neg h2, clashes_in l l7 x k _ (i + 1) (by omega) (by omega)]
    · rw [if_neg h1, List.drop_eq_nil_of_le (by omega), List.filter_nil, List.append_nil, show i = ((l.getD x dMf).clashes).length by omega]
theorem clashes_out (l : List Mf) : ∀ k (a : List Rul) i, l.length ≤ i + k → i ≤ l.length →
    clashes_m_l0 l (k + 1) (a, i) = .inl (a ++ (l.drop i).flatMap (fun x => x.clashes.filter (fun r => meets_m l r x.name)), l.length)
  | k, a, i, h, hi => by
    have E : clashes_m_l0 l (k + 1) (a, i) = clashes_m_b0 l (clashes_m_l0 l k) a i := rfl
    rw [E]
    unfold clashes_m_b0
    by_cases h1 : i < l.length
    · rw [if_pos h1, clashes_in l a i _ a 0 (by omega) (Nat.zero_le _)]
      match k, h with
      | 0, h => omega
      | k + 1, h =>
        show clashes_m_l0 l (k + 1) (_, i + 1) = _
        rw [clashes_out l k _ (i + 1) (by omega) (by omega), getd_drop dMf l i h1, List.flatMap_cons, List.append_assoc, List.drop_zero]
    · rw [if_neg h1, List.drop_eq_nil_of_le (by omega), List.flatMap_nil, List.append_nil, show i = l.length by omega]
theorem clashes_is (l : List Mf) : clashes_m l = l.flatMap (fun x => x.clashes.filter (fun r => l.any (mt r x.name))) := by
  unfold clashes_m
  rw [clashes_out l (l.length - 0) [] 0 (by omega) (Nat.zero_le _), List.drop_zero, List.nil_append]
  show l.flatMap (fun x => x.clashes.filter (fun r => meets_m l r x.name)) = _
  have e : (fun x : Mf => x.clashes.filter (fun r => meets_m l r x.name)) = (fun x => x.clashes.filter (fun r => l.any (mt r x.name))) := funext fun x => by
    congr 1
    exact funext fun r => by rw [meets_is]
  rw [e]
/-- More is picked by less. -/
theorem pick_le (f : Mf → List Rul) (p q : Mf → Rul → Bool) (h : ∀ x r, p x r = true → q x r = true) : ∀ l : List Mf, (l.flatMap (fun x => (f x).filter (p x))).length ≤ (l.flatMap (fun x => (f x).filter (q x))).length
  | [] => Nat.le_refl _
  | x :: l => by
    rw [List.flatMap_cons, List.flatMap_cons, List.length_append, List.length_append]
    have ih := pick_le f p q h l
    have e : ∀ rs : List Rul, (rs.filter (p x)).length ≤ (rs.filter (q x)).length := by
      intro rs
      induction rs with
      | nil => exact Nat.le_refl _
      | cons r rs ih =>
        rw [List.filter_cons, List.filter_cons]
        by_cases hp : p x r = true
        · rw [if_pos hp, if_pos (h x r hp), List.length_cons, List.length_cons]; omega
        · rw [if_neg hp]
          by_cases hq : q x r = true
          · rw [if_pos hq, List.length_cons]; omega
          · rw [if_neg hq]; exact ih
    have := e (f x)
    omega
theorem more_lacks (l : List Mf) (m : Mf) (h : m.needs = []) : (lacks_m (l ++ [m])).length ≤ (lacks_m l).length := by
  rw [lacks_is, lacks_is, List.flatMap_append, List.flatMap_cons, List.flatMap_nil, h, List.filter_nil, List.append_nil, List.append_nil]
  exact pick_le (fun x => x.needs) (fun _ r => !((l ++ [m]).any (mt r []))) (fun _ r => !(l.any (mt r []))) (fun x r hr => by
    rw [List.any_append] at hr
    cases e : l.any (mt r []) with
    | false => rfl
    | true => rw [e] at hr; exact hr) l
theorem more_clashes (l : List Mf) (m : Mf) (h : m.clashes = []) : (clashes_m l).length ≤ (clashes_m (l ++ [m])).length := by
  rw [clashes_is, clashes_is, List.flatMap_append, List.flatMap_cons, List.flatMap_nil, h, List.filter_nil, List.append_nil, List.append_nil]
  exact pick_le (fun x => x.clashes) (fun x r => l.any (mt r x.name)) (fun x r => (l ++ [m]).any (mt r x.name)) (fun x r hr => by
    rw [List.any_append, hr]
    rfl) l
theorem less_clashes (l : List Mf) : (clashes_m (l.drop 1)).length ≤ (clashes_m l).length := by
  cases l with
  | nil => exact Nat.le_refl _
  | cons x l =>
    rw [List.drop_succ_cons, List.drop_zero, clashes_is, clashes_is, List.flatMap_cons, List.length_append]
    have := pick_le (fun x => x.clashes) (fun y r => l.any (mt r y.name)) (fun y r => (x :: l).any (mt r y.name)) (fun y r hr => by
      rw [List.any_cons, hr, Bool.or_true]) l
    omega
end Go.Proofs.YtpbenhfnebgbiaaDoor.So
