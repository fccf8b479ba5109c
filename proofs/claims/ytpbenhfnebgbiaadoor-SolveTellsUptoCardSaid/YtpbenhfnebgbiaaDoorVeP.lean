/- Layer 12: the document's way to compare; VersionTells, VersionOrders, VersionGrows are true: the mathematics. -/
import Derived.Test.YtpbenhfnebgbiaaDoorVeO
import Derived.Test.YtpbenhfnebgbiaaDoorVeH
namespace Go.Proofs.YtpbenhfnebgbiaaDoor.Ve
open Go.Proofs.YtpbenhfnebgbiaaDoor.Mem Go.Proofs.YtpbenhfnebgbiaaDoor.VeS Go.Proofs.YtpbenhfnebgbiaaDoor.Pa
/-- What the sign at a place weighs, or an end, or a digit. -/
def hw (s : List UInt8) (x : Nat) : Int := if x < s.length ∧ ¬ (48 ≤ at0 s x ∧ at0 s x ≤ 57) then wr (s.getD x 0) else 0
theorem rw_zero : rweight_m 0 = 0 := by unfold rweight_m; rw [if_neg (by decide), if_pos rfl]
theorem rw_dg {r : Int} (h : 48 ≤ r ∧ r ≤ 57) : rweight_m r = 0 := by unfold rweight_m; rw [if_neg (by omega), if_neg (by omega), if_pos h]
theorem hw_is (s : List UInt8) (x : Nat) : rweight_m (rat_m (bi s) ((x : Nat) : Int)) = hw s x := by
  rw [rat_bi]
  unfold hw
  by_cases hx : x < s.length
  · rw [if_pos hx]
    by_cases hd : 48 ≤ at0 s x ∧ at0 s x ≤ 57
    · rw [if_neg (by omega), rw_dg (by omega)]
    · rw [if_pos ⟨hx, hd⟩]
      rfl
  · rw [if_neg hx, if_neg (by omega), rw_zero]
theorem wr_ne {s : List UInt8} (hs : vok s) {x : Nat} (hx : x < s.length) (hd : ¬ (48 ≤ at0 s x ∧ at0 s x ≤ 57)) : wr (s.getD x 0) ≠ 0 := by
  have h1 := vok_rng hs x hx
  have h2 := rweight_fact ((at0 s x : Nat) : Int) (by omega)
  have e : wr (s.getD x 0) = rweight_m ((at0 s x : Nat) : Int) := rfl
  rw [e]
  omega
def gd (s : List UInt8) (x : Nat) : Prop := x < s.length ∧ ¬ (48 ≤ at0 s x ∧ at0 s x ≤ 57)
theorem rb1 (a b : List UInt8) (ha : asc a) (hb : asc b) (p q : Int) (rec : Int × Int → Sum (Int × Int) Int) (x y : Nat) :
    (gd a x ∨ gd b y → rcompare_m_b1 a b p q rec (x : Int) (y : Int) = if c3 (hw a x) (hw b y) ≠ 0 then .inr (c3 (hw a x) (hw b y)) else rec (((x + 1 : Nat) : Int), ((y + 1 : Nat) : Int))) ∧
    (¬ (gd a x ∨ gd b y) → rcompare_m_b1 a b p q rec (x : Int) (y : Int) = .inl ((x : Int), (y : Int))) := by
  have key : ∀ u v : Int, (if ¬ u = v then (if u < v then (.inr (-1) : Sum (Int × Int) Int) else .inr 1) else rec (((x : Int) + 1), ((y : Int) + 1))) = if c3 u v ≠ 0 then .inr (c3 u v) else rec (((x + 1 : Nat) : Int), ((y + 1 : Nat) : Int)) := by
    intro u v
    by_cases h : u = v
    · subst h
      rw [if_neg (by simp), c3_self, if_neg (by simp)]
      rfl
    · rw [if_pos h, if_pos (c3_ne h)]
      by_cases h2 : u < v
      · rw [if_pos h2, c3_of_lt h2]
      · rw [if_neg h2, c3_of_gt (by omega)]
  unfold gd rcompare_m_b1
  rw [rrunes_is ha, rrunes_is hb, bi_len, bi_len, Int.toNat_natCast, Int.toNat_natCast, bi_get, bi_get, hw_is, hw_is, key]
  constructor
  · intro h
    by_cases h1 : x < a.length
    · rw [if_pos (by omega)]
      by_cases h2 : 48 ≤ at0 a x ∧ at0 a x ≤ 57
      · rw [if_neg (by omega), if_pos (by omega), if_pos (by omega)]
      · rw [if_pos (by omega)]
    · rw [if_neg (by omega), if_pos (by omega), if_pos (by omega)]
  · intro h
    by_cases h1 : x < a.length
    · rw [if_pos (by omega), if_neg (by omega)]
      by_cases h3 : y < b.length
      · rw [if_pos (by omega), if_neg (by omega)]
      · rw [if_neg (by omega)]
    · rw [if_neg (by omega)]
      by_cases h3 : y < b.length
      · rw [if_pos (by omega), if_neg (by omega)]
      · rw [if_neg (by omega)]
theorem nd_gd {s : List UInt8} {x : Nat} (h : gd s x) : nd (s.drop x) = s.getD x 0 :: nd (s.drop (x + 1)) := by rw [nd_at h.1, if_neg h.2]
theorem nd_no {s : List UInt8} {x : Nat} (h : ¬ gd s x) : nd (s.drop x) = [] := by
  unfold gd at h
  by_cases hx : x < s.length
  · rw [nd_at hx, if_pos (Classical.not_not.1 (fun e => h ⟨hx, e⟩))]
  · rw [List.drop_eq_nil_of_le (by omega)]
    rfl
theorem hw_gd {s : List UInt8} {x : Nat} (h : gd s x) : hw s x = wr (s.getD x 0) := if_pos h
theorem hw_no {s : List UInt8} {x : Nat} (h : ¬ gd s x) : hw s x = 0 := if_neg h
theorem inner_l (a b : List UInt8) (ha : vok a) (hb : vok b) (p q : Int) : ∀ n x y, (a.length - x) + (b.length - y) < n →
    rcompare_m_l1 a b p q n ((x : Int), (y : Int)) = if lz ((nd (a.drop x)).map wr) ((nd (b.drop y)).map wr) ≠ 0 then .inr (lz ((nd (a.drop x)).map wr) ((nd (b.drop y)).map wr)) else .inl (((x + (nd (a.drop x)).length : Nat) : Int), ((y + (nd (b.drop y)).length : Nat) : Int))
  | 0, _, _, h => by omega
  | n + 1, x, y, h => by
    have E : rcompare_m_l1 a b p q (n + 1) ((x : Int), (y : Int)) = rcompare_m_b1 a b p q (rcompare_m_l1 a b p q n) (x : Int) (y : Int) := rfl
    obtain ⟨r1, r2⟩ := rb1 a b (vok_asc ha) (vok_asc hb) p q (rcompare_m_l1 a b p q n) x y
    rw [E]
    by_cases hA : gd a x
    · have hA' := hA
      unfold gd at hA'
      have na := wr_ne ha hA'.1 hA'.2
      rw [r1 (.inl hA), hw_gd hA, nd_gd hA]
      by_cases hB : gd b y
      · rw [hw_gd hB, nd_gd hB, List.map_cons, List.map_cons, lz_cc]
        by_cases hc : c3 (wr (a.getD x 0)) (wr (b.getD y 0)) = 0
        · simp only [hc, ne_eq, not_true_eq_false, ite_false]
          rw [inner_l a b ha hb p q n (x + 1) (y + 1) (by omega), List.length_cons, List.length_cons]
          have e1 : ∀ (k l : Nat), ((k + 1 + l : Nat) : Int) = ((k + (l + 1) : Nat) : Int) := fun k l => by omega
          rw [e1, e1]
        · simp only [ne_eq, hc, not_false_eq_true, ite_true]
      · rw [hw_no hB, nd_no hB, List.map_cons, List.map_nil, lz_cn]
        have hc : c3 (wr (a.getD x 0)) 0 ≠ 0 := c3_ne na
        simp only [ne_eq, hc, not_false_eq_true, ite_true]
    · by_cases hB : gd b y
      · have hB' := hB
        unfold gd at hB'
        have nb := wr_ne hb hB'.1 hB'.2
        rw [r1 (.inr hB), hw_gd hB, hw_no hA, nd_gd hB, nd_no hA, List.map_cons, List.map_nil, lz_nc]
        have hc : c3 0 (wr (b.getD y 0)) ≠ 0 := c3_ne (fun e => nb e.symm)
        simp only [ne_eq, hc, not_false_eq_true, ite_true]
      · rw [r2 (fun e => e.elim hA hB), nd_no hA, nd_no hB, List.map_nil, lz_nil]
        rfl
theorem lt_ne {s t : List UInt8} : (!lt' s t && !decide (s = t)) = true ↔ ¬ lt' s t = true ∧ ¬ s = t := by
  cases lt' s t <;> by_cases h : s = t <;> simp [h]
/-- The numbers' part of a round. -/
theorem rk1 (a b : List UInt8) (ha : asc a) (hb : asc b) (p q : Int) (rec : Int × Int → Sum (Int × Int) Int) (x y : Nat) :
    rcompare_m_k1 a b p q rec ((x : Nat) : Int) ((y : Nat) : Int) = if ncmp (num (a.drop x)) (num (b.drop y)) ≠ 0 then .inr (ncmp (num (a.drop x)) (num (b.drop y))) else rec (((x + (num (a.drop x)).length : Nat) : Int), ((y + (num (b.drop y)).length : Nat) : Int)) := by
  unfold rcompare_m_k1 ncmp
  rw [rrunes_is ha, rrunes_is hb, rnumber_is a ha, rnumber_is b hb]
  dsimp only
  generalize strip (num (a.drop x)) = s
  generalize strip (num (b.drop y)) = t
  by_cases h1 : s.length < t.length
  · have e : c3 ((s.length : Nat) : Int) ((t.length : Nat) : Int) = -1 := c3_of_lt (by omega)
    rw [if_pos h1, e]
    rfl
  · rw [if_neg h1]
    by_cases h2 : t.length < s.length
    · have e : c3 ((s.length : Nat) : Int) ((t.length : Nat) : Int) = 1 := c3_of_gt (by omega)
      rw [if_neg (by omega), if_pos h2, e]
      rfl
    · have hl : s.length = t.length := by omega
      obtain ⟨l1, l2⟩ := lt_lz s t hl
      have e : c3 ((s.length : Nat) : Int) ((t.length : Nat) : Int) = 0 := by rw [hl]; exact c3_self _
      rw [if_pos hl, e]
      simp only [ne_eq, not_true_eq_false, ite_false]
      by_cases h3 : lt' s t = true
      · rw [if_pos h3, l1.1 h3]
        rfl
      · rw [if_neg h3, if_neg h2]
        by_cases h4 : s = t
        · rw [if_neg (by rw [lt_ne]; exact fun e => e.2 h4), l2.1 h4]
          rfl
        · rw [if_pos (lt_ne.2 ⟨h3, h4⟩)]
          rcases lz_three (bi s) (bi t) with e | e | e
          · exact absurd (l1.2 e) h3
          · exact absurd (l2.2 e) h4
          · rw [e]
            rfl
theorem outer_l (a b : List UInt8) (ha : vok a) (hb : vok b) : ∀ n x y, x ≤ a.length → y ≤ b.length →
    fin (rcompare_m_l0 a b n ((x : Int), (y : Int))) (fun r => r) (fun zz => rcompare_m_k0 a b zz.1 zz.2) = scmp wr n (a.drop x) (b.drop y)
  | 0, _, _, _, _ => rfl
  | n + 1, x, y, hx, hy => by
    have E : rcompare_m_l0 a b (n + 1) ((x : Int), (y : Int)) = rcompare_m_b0 a b (rcompare_m_l0 a b n) (x : Int) (y : Int) := rfl
    have sa : ∀ (s : List UInt8) k, (s.drop k).drop (nd (s.drop k)).length = rd (s.drop k) := fun s k => (tw_drop ndg (s.drop k)).1
    have sn : ∀ s : List UInt8, s.drop (num s).length = s.dropWhile dg := fun s => (tw_drop dg s).1
    have key : fin (fin (rcompare_m_l1 a b (x : Int) (y : Int) ((((((rrunes_m a).length : Nat) : Int) + (((rrunes_m b).length : Nat) : Int)) - ((x : Int) + (y : Int))).toNat + 1) ((x : Int), (y : Int))) .inr (fun zz => rcompare_m_k1 a b (x : Int) (y : Int) (rcompare_m_l0 a b n) zz.1 zz.2)) (fun r => r) (fun zz => rcompare_m_k0 a b zz.1 zz.2) = scmp wr (n + 1) (a.drop x) (b.drop y) := by
      rw [inner_l a b ha hb _ _ _ x y (by rw [rrunes_is (vok_asc ha), rrunes_is (vok_asc hb), bi_len, bi_len]; omega)]
      unfold scmp
      by_cases h1 : lz ((nd (a.drop x)).map wr) ((nd (b.drop y)).map wr) = 0
      · simp only [h1, ne_eq, not_true_eq_false, ite_false]
        dsimp only [fin]
        rw [rk1 a b (vok_asc ha) (vok_asc hb), ← List.drop_drop, ← List.drop_drop, sa, sa]
        by_cases h2 : ncmp (num (rd (a.drop x))) (num (rd (b.drop y))) = 0
        · simp only [h2, ne_eq, not_true_eq_false, ite_false]
          have l1 := rst_len (a.drop x)
          have l2 := rst_len (b.drop y)
          rw [List.length_drop] at l1 l2
          have ih := outer_l a b ha hb n (x + (nd (a.drop x)).length + (num (rd (a.drop x))).length) (y + (nd (b.drop y)).length + (num (rd (b.drop y))).length) (by omega) (by omega)
          rw [← List.drop_drop, ← List.drop_drop, ← List.drop_drop, ← List.drop_drop, sa, sa, sn, sn] at ih
          exact ih
        · simp only [ne_eq, h2, not_false_eq_true, ite_true]
      · simp only [ne_eq, h1, not_false_eq_true, ite_true]
        rfl
    rw [E]
    unfold rcompare_m_b0
    by_cases h1 : (x : Int) < (((rrunes_m a).length : Nat) : Int)
    · rw [if_pos h1]; exact key
    · rw [if_neg h1]
      by_cases h2 : (y : Int) < (((rrunes_m b).length : Nat) : Int)
      · rw [if_pos h2]; exact key
      · rw [if_neg h2]
        rw [rrunes_is (vok_asc ha), bi_len] at h1
        rw [rrunes_is (vok_asc hb), bi_len] at h2
        rw [List.drop_eq_nil_of_le (by omega), List.drop_eq_nil_of_le (by omega), scmp_self]
        rfl
theorem rcompare_is {a b : List UInt8} (ha : vok a) (hb : vok b) : rcompare_m a b = scmp wr (a.length + b.length + 1) a b := by
  unfold rcompare_m
  rw [if_neg (by rw [(rcheck_iff a).2 ha]; decide), if_neg (by rw [(rcheck_iff b).2 hb]; decide)]
  have h := outer_l a b ha hb ((((((rrunes_m a).length : Nat) : Int) + (((rrunes_m b).length : Nat) : Int)) - (0 + 0)).toNat + 1) 0 0 (Nat.zero_le _) (Nat.zero_le _)
  rw [List.drop_zero, List.drop_zero] at h
  refine h.trans ?_
  rw [rrunes_is (vok_asc ha), rrunes_is (vok_asc hb), bi_len, bi_len]
  congr 1 <;> omega
theorem wt_wr (c : UInt8) (hd : dg c = false) (hr : 43 ≤ c.toNat ∧ c.toNat < 128) : (c.toNat = 126 ∧ wt c = -1 ∧ wr c = -1) ∨ (((97 ≤ c.toNat ∧ c.toNat ≤ 122) ∨ (65 ≤ c.toNat ∧ c.toNat ≤ 90)) ∧ wt c = (c.toNat : Int) ∧ wr c = (c.toNat : Int)) ∨ (wt c = 2097152 + (c.toNat : Int) ∧ wr c = 256 + (c.toNat : Int)) := by
  unfold dg at hd
  rw [decide_eq_false_iff_not] at hd
  unfold wt wr weight_m rweight_m
  rw [letter_is, rletter_is]
  by_cases h1 : c.toNat = 126
  · left
    rw [if_pos (by omega), if_pos (by omega)]
    exact ⟨h1, rfl, rfl⟩
  · right
    by_cases h2 : (97 ≤ c.toNat ∧ c.toNat ≤ 122) ∨ (65 ≤ c.toNat ∧ c.toNat ≤ 90)
    · left
      refine ⟨h2, ?_, ?_⟩
      · rw [if_neg (by omega), if_pos (decide_eq_true (by omega))]
      · rw [if_neg (by omega), if_neg (by omega), if_neg (by omega), if_pos (decide_eq_true (by omega))]
    · right
      refine ⟨?_, ?_⟩
      · rw [if_neg (by omega), if_neg (by rw [decide_eq_true_iff]; omega)]
      · rw [if_neg (by omega), if_neg (by omega), if_neg (by omega), if_neg (by rw [decide_eq_true_iff]; omega)]
theorem vok_mem {s : List UInt8} (h : vok s) : ∀ c ∈ s, 43 ≤ c.toNat ∧ c.toNat < 128 := by
  intro c hc
  obtain ⟨i, hi, rfl⟩ := List.getElem_of_mem hc
  have := vok_rng h i hi
  have e : at0 s i = (s[i]).toNat := by unfold at0; simp [List.getD_eq_getElem?_getD, List.getElem?_eq_getElem hi]
  omega
theorem compare_same (a b : List UInt8) : rcompare_m a b = compare_m a b := by
  by_cases ha : vok a
  · by_cases hb : vok b
    · rw [rcompare_is ha hb, compare_is ha hb]
      refine scmp_congr (fun c => 43 ≤ c.toNat ∧ c.toNat < 128) wr wt ?_ ?_ _ a b (vok_mem ha) (vok_mem hb)
      · intro c d hc hd
        rcases wt_wr c hc.2 hc.1 with ⟨h0, h1, h2⟩ | ⟨h0, h1, h2⟩ | ⟨h1, h2⟩ <;> rcases wt_wr d hd.2 hd.1 with ⟨g0, g1, g2⟩ | ⟨g0, g1, g2⟩ | ⟨g1, g2⟩ <;> rw [h1, h2, g1, g2] <;> unfold c3 <;> (repeat' split) <;> omega
      · intro c hc
        rcases wt_wr c hc.2 hc.1 with ⟨h0, h1, h2⟩ | ⟨h0, h1, h2⟩ | ⟨h1, h2⟩ <;> rw [h1, h2] <;> unfold c3 <;> constructor <;> (repeat' split) <;> omega
    · unfold compare_m rcompare_m
      rw [check_same, check_same, (check_iff a).2 ha, show check_m b = false from Bool.eq_false_iff.2 (fun e => hb ((check_iff b).1 e)), cmps_is]
      rfl
  · unfold compare_m rcompare_m
    rw [check_same, check_same, show check_m a = false from Bool.eq_false_iff.2 (fun e => ha ((check_iff a).1 e)), cmps_is]
    rfl
theorem holds_same (r : Rul) (v : List UInt8) : rholds_m r v = holds_m r v := by
  unfold rholds_m holds_m
  rw [compare_same]
end Go.Proofs.YtpbenhfnebgbiaaDoor.Ve
