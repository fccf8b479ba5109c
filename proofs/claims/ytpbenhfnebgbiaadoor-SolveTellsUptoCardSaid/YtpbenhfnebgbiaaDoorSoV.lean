/- Layer 20: who needs one, in closed form. -/
import Derived.Test.YtpbenhfnebgbiaaDoorSoM
set_option linter.unusedVariables false
namespace Go.Proofs.YtpbenhfnebgbiaaDoor.So
open Go.RowKit Go.Proofs.YtpbenhfnebgbiaaDoor.Pa Go.Proofs.YtpbenhfnebgbiaaDoor.Mem Go.Proofs.YtpbenhfnebgbiaaDoor.Ve
/-- A rule that means a package. -/
def mn (m : Mf) (r : Rul) : Bool := decide (r.name = m.name) && holds_m r m.version
theorem needs_l (l : List Rul) (m : Mf) : ∀ k i, l.length ≤ i + k → i ≤ l.length → fin (needs_m_l0 l m (k + 1) i) (fun r => r) (fun zz => needs_m_k0 l m zz) = (l.drop i).any (mn m)
  | k, i, h, hi => by
    have E : needs_m_l0 l m (k + 1) i = needs_m_b0 l m (needs_m_l0 l m k) i := rfl
    rw [E]
    unfold needs_m_b0
    by_cases h1 : i < l.length
    · rw [if_pos h1, getd_drop dRul l i h1, List.any_cons]
      match k, h with
      | 0, h => omega
      | k + 1, h =>
        have ih := needs_l l m k (i + 1) (by omega) (by omega)
        generalize l.getD i dRul = r
        by_cases h2 : r.name = m.name
        · rw [if_pos h2]
          by_cases h4 : holds_m r m.version = true
          · have M : mn m r = true := by unfold mn; rw [h4, decide_eq_true h2]; rfl
            rw [if_pos h4, M, Bool.true_or]
            rfl
          · have M : mn m r = false := by unfold mn; rw [Bool.eq_false_iff.2 h4, Bool.and_false]
            rw [if_neg h4, M, Bool.false_or]
            exact ih
        · have M : mn m r = false := by unfold mn; rw [decide_eq_false h2]; rfl
          rw [if_neg h2, M, Bool.false_or]
          exact ih
    · rw [if_neg h1, List.drop_eq_nil_of_le (by omega)]
      rfl
theorem needs_is (l : List Rul) (m : Mf) : needs_m l m = l.any (mn m) := needs_l l m (l.length - 0) 0 (by omega) (Nat.zero_le _)
theorem users_l (l : List Mf) (m : Mf) : ∀ k (a : List (List UInt8)) i, l.length ≤ i + k → i ≤ l.length →
    users_m_l0 l m (k + 1) (a, i) = .inl (a ++ ((l.drop i).filter (fun x => x.needs.any (mn m))).map (fun x => x.name), l.length)
  | k, a, i, h, hi => by
    have E : users_m_l0 l m (k + 1) (a, i) = users_m_b0 l m (users_m_l0 l m k) a i := rfl
    rw [E]
    unfold users_m_b0
    by_cases h1 : i < l.length
    · rw [if_pos h1, getd_drop dMf l i h1, List.filter_cons, needs_is]
      match k, h with
      | 0, h => omega
      | k + 1, h =>
        by_cases h2 : ((l.getD i dMf).needs).any (mn m) = true
        · rw [if_pos h2, if_pos h2, users_l l m k _ (i + 1) (by omega) (by omega), List.append_assoc]
          rfl
        · rw [if_neg h2, if_neg h2, users_l l m k _ (i + 1) (by omega) (by omega)]
    · rw [if_neg h1, List.drop_eq_nil_of_le (by omega), List.filter_nil, List.map_nil, List.append_nil, show i = l.length by omega]
theorem users_is (l : List Mf) (m : Mf) : users_m l m = cpt (srt ((l.filter (fun x => x.needs.any (mn m))).map (fun x => x.name))) := by
  unfold users_m
  rw [users_l l m (l.length - 0) [] 0 (by omega) (Nat.zero_le _), List.drop_zero, List.nil_append]
  rfl
theorem cpt_pos (l : List (List UInt8)) (h : 0 < l.length) : 0 < (cpt l).length := by
  unfold cpt Lib.compact Lib.compactUpTo
  rw [List.length_map]
  refine List.length_pos_of_mem (a := 0) (List.mem_filter.2 ⟨List.mem_range.2 h, ?_⟩)
  exact Lib.keeps_lt_one _ 0 (by decide)
theorem users_none {l : List Mf} {m : Mf} (h : (users_m l m).length = 0) : ∀ x ∈ l, ∀ r ∈ x.needs, mn m r = false := by
  intro x hx r hr
  cases e : mn m r with
  | false => rfl
  | true =>
    have h1 : x ∈ l.filter (fun x => x.needs.any (mn m)) := List.mem_filter.2 ⟨hx, List.any_eq_true.2 ⟨r, hr, e⟩⟩
    have h2 : 0 < ((l.filter (fun x => x.needs.any (mn m))).map (fun x => x.name)).length := by rw [List.length_map]; exact List.length_pos_of_mem h1
    have h3 := cpt_pos (srt ((l.filter (fun x => x.needs.any (mn m))).map (fun x => x.name))) (by rw [srt_len]; exact h2)
    rw [users_is] at h
    omega
theorem lacks_none {l : List Mf} : (lacks_m l).length = 0 ↔ ∀ x ∈ l, ∀ r ∈ x.needs, l.any (mt r []) = true := by
  rw [lacks_is, List.length_eq_zero_iff, List.flatMap_eq_nil_iff]
  constructor
  · intro h x hx r hr
    have := List.filter_eq_nil_iff.1 (h x hx) r hr
    simpa using this
  · intro h x hx
    refine List.filter_eq_nil_iff.2 (fun r hr => ?_)
    rw [h x hx r hr]
    decide
end Go.Proofs.YtpbenhfnebgbiaaDoor.So
