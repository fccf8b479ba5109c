/- Layer 12: VersionRules, VersionNumbers are true: the mathematics. -/
import Derived.Test.YtdohmmdfenafnaaDoorVeG
namespace Go.Proofs.YtdohmmdfenafnaaDoor.Ve
open Go.Proofs.YtdohmmdfenafnaaDoor.Mem Go.Proofs.YtdohmmdfenafnaaDoor.VeS Go.Proofs.YtdohmmdfenafnaaDoor.Pa
/-- What a rule says of how two stand. -/
def hk (c k : Int) : Bool := if k = 0 then true else if k = 1 then decide (c = 0) else if k = 2 then decide (c < 0) else if k = 3 then decide (c ≤ 0) else if k = 4 then decide (0 < c) else if k = 5 then decide (0 ≤ c) else false
theorem holds_hk (a b : List UInt8) (k : Int) : holds_m (Rul.mk [] k b) a = hk (compare_m a b) k := rfl
theorem vrules_true (a b : List UInt8) : vrules_m a b = true := by
  unfold vrules_m
  rcases compare_three a b with ec | ec | ec
  · have h : ∀ k, holds_m (Rul.mk [] k b) a = hk (-1) k := fun k => by rw [holds_hk, ec]
    simp [vrules_m_l0, vrules_m_b0, h, hk, fin, vrules_m_k0, vawake_true]
  · have h : ∀ k, holds_m (Rul.mk [] k b) a = hk 0 k := fun k => by rw [holds_hk, ec]
    simp [vrules_m_l0, vrules_m_b0, h, hk, fin, vrules_m_k0, vawake_true]
  · have h : ∀ k, holds_m (Rul.mk [] k b) a = hk 1 k := fun k => by rw [holds_hk, ec]
    simp [vrules_m_l0, vrules_m_b0, h, hk, fin, vrules_m_k0, vawake_true]
theorem vok_of {s : List UInt8} (h0 : s ≠ []) (h1 : s.length ≤ 24) (h2 : ∀ c ∈ s, dg c = true ∨ c = 46) (h3 : ∀ c r, s = c :: r → dg c = true) : vok s := by
  refine ⟨h0, h1, fun i hi => ?_⟩
  have hm : s.getD i 0 ∈ s := by
    rw [List.getD_eq_getElem?_getD, List.getElem?_eq_getElem hi]
    exact List.getElem_mem hi
  have hd : ∀ c : UInt8, dg c = true → 48 ≤ c.toNat ∧ c.toNat ≤ 57 := fun c h => of_decide_eq_true h
  unfold okr at0
  by_cases hz : i = 0
  · subst hz
    obtain ⟨c, r, rfl⟩ := List.exists_cons_of_ne_nil h0
    exact .inl (hd c (h3 c r rfl))
  · rcases h2 _ hm with h | h
    · exact .inl (hd _ h)
    · rw [h]
      exact .inr (.inr (.inr ⟨hz, .inl rfl⟩))
theorem vok_pair (a c : List UInt8) (ha : a ≠ []) (da : ∀ x ∈ a, dg x = true) (dc : ∀ x ∈ c, dg x = true) (hl : a.length + c.length ≤ 20) : vok ((a ++ [46]) ++ c) := by
  refine vok_of (by simp) (by simp; omega) ?_ ?_
  · intro x hx
    rcases List.mem_append.1 hx with hx | hx
    · rcases List.mem_append.1 hx with hx | hx
      · exact .inl (da x hx)
      · exact .inr (by simpa using hx)
    · exact .inl (dc x hx)
  · intro x r e
    obtain ⟨y, t, rfl⟩ := List.exists_cons_of_ne_nil ha
    rw [List.append_assoc, List.cons_append] at e
    have := (List.cons.inj e).1
    subst this
    exact da y (by simp)
theorem two_is (p q r s : Nat) (hp : p < 65536) (hq : q < 65536) (hr : r < 65536) (hs : s < 65536) :
    compare_m ((dtx p ++ [46]) ++ dtx q) ((dtx r ++ [46]) ++ dtx s) = (if c3 (p : Int) (r : Int) ≠ 0 then c3 (p : Int) (r : Int) else c3 (q : Int) (s : Int)) ∧
    compare_m ([48] ++ ((dtx p ++ [46]) ++ dtx q)) ((dtx r ++ [46]) ++ dtx s) = (if c3 (p : Int) (r : Int) ≠ 0 then c3 (p : Int) (r : Int) else c3 (q : Int) (s : Int)) ∧ check_m ((dtx p ++ [46]) ++ dtx q) = true := by
  have lp := dtx_len p hp
  have lq := dtx_len q hq
  have lr := dtx_len r hr
  have ls := dtx_len s hs
  have v1 : vok ((dtx p ++ [46]) ++ dtx q) := vok_pair _ _ (dtx_ne p) (dtx_dg p) (dtx_dg q) (by omega)
  have v2 : vok ((dtx r ++ [46]) ++ dtx s) := vok_pair _ _ (dtx_ne r) (dtx_dg r) (dtx_dg s) (by omega)
  have d0 : ∀ x ∈ (48 :: dtx p), dg x = true := by
    intro x hx
    rcases List.mem_cons.1 hx with rfl | hx
    · decide
    · exact dtx_dg p x hx
  have e0 : [48] ++ ((dtx p ++ [46]) ++ dtx q) = ((48 :: dtx p) ++ [46]) ++ dtx q := rfl
  have v3 : vok (((48 :: dtx p) ++ [46]) ++ dtx q) := vok_pair _ _ (by simp) d0 (dtx_dg q) (by simp; omega)
  have ea : ∀ x y : List UInt8, (x ++ [46]) ++ y = x ++ 46 :: y := fun x y => by simp
  refine ⟨?_, ?_, (check_iff _).2 v1⟩
  · rw [compare_is v1 v2, scmp_any wt _ (50 + 2) _ _ (by omega) (by omega) (by have := v1.2.1; omega) (by have := v2.2.1; omega), ea, ea,
      scmp_pair wt _ _ _ _ 50 (dtx_ne p) (dtx_ne r) (dtx_ne q) (dtx_ne s) (dtx_dg p) (dtx_dg r) (dtx_dg q) (dtx_dg s), ncmp_dtx, ncmp_dtx]
  · rw [e0, compare_is v3 v2, scmp_any wt _ (50 + 2) _ _ (by omega) (by omega) (by have := v3.2.1; omega) (by have := v2.2.1; omega), ea, ea,
      scmp_pair wt _ _ _ _ 50 (by simp) (dtx_ne r) (dtx_ne q) (dtx_ne s) d0 (dtx_dg r) (dtx_dg q) (dtx_dg s), ncmp_nought, ncmp_dtx, ncmp_dtx]
theorem vnumbers_true (l m : A45) (h0 : l.i0 < 65536) (h1 : l.i1 < 65536) (h2 : m.i0 < 65536) (h3 : m.i1 < 65536) : vnumbers_m l m = true := by
  obtain ⟨t1, t2, t3⟩ := two_is l.i0 l.i1 m.i0 m.i1 h0 h1 h2 h3
  have key : ∀ k : Int, (if c3 (l.i0 : Int) (m.i0 : Int) ≠ 0 then c3 (l.i0 : Int) (m.i0 : Int) else c3 (l.i1 : Int) (m.i1 : Int)) = k →
      (if vawake_m = true then
        if (compare_m (((ldigits_m ((l.i0 : Nat) : Int)) ++ [46]) ++ (ldigits_m ((l.i1 : Nat) : Int))) (((ldigits_m ((m.i0 : Nat) : Int)) ++ [46]) ++ (ldigits_m ((m.i1 : Nat) : Int)))) = k then
          if (compare_m ([48] ++ (((ldigits_m ((l.i0 : Nat) : Int)) ++ [46]) ++ (ldigits_m ((l.i1 : Nat) : Int)))) (((ldigits_m ((m.i0 : Nat) : Int)) ++ [46]) ++ (ldigits_m ((m.i1 : Nat) : Int)))) = k then
            (check_m (((ldigits_m ((l.i0 : Nat) : Int)) ++ [46]) ++ (ldigits_m ((l.i1 : Nat) : Int))))
          else
            false
        else
          false
      else
        false) = true := by
    intro k hk
    simp only [ldigits_is]
    rw [if_pos vawake_true, if_pos (t1.trans hk), if_pos (t2.trans hk)]
    exact t3
  unfold vnumbers_m
  by_cases c1 : l.i0 < m.i0
  · rw [if_pos c1]
    refine key (-1) ?_
    rw [c3_of_lt (by omega)]
    rfl
  · rw [if_neg c1]
    by_cases c2 : l.i0 = m.i0
    · have e0 : c3 (l.i0 : Int) (m.i0 : Int) = 0 := by rw [c2]; exact c3_self _
      rw [if_pos c2]
      unfold vnumbers_m_j1
      by_cases c4 : l.i1 < m.i1
      · rw [if_pos c4]
        refine key (-1) ?_
        rw [e0, c3_of_lt (show (l.i1 : Int) < (m.i1 : Int) by omega)]
        rfl
      · rw [if_neg c4, if_neg (by omega), if_pos c2]
        by_cases c5 : m.i1 < l.i1
        · rw [if_pos c5]
          refine key 1 ?_
          rw [e0, c3_of_gt (show (m.i1 : Int) < (l.i1 : Int) by omega)]
          rfl
        · rw [if_neg c5]
          refine key 0 ?_
          rw [e0, show l.i1 = m.i1 from by omega, c3_self]
          rfl
    · rw [if_neg c2, if_pos (by omega)]
      refine key 1 ?_
      rw [c3_of_gt (by omega)]
      rfl
end Go.Proofs.YtdohmmdfenafnaaDoor.Ve
