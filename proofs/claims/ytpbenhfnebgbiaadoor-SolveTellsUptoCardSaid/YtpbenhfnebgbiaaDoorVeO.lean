/- Layer 12: both ways to compare come to one: the mathematics. -/
import Derived.Test.YtpbenhfnebgbiaaDoorVeB
import Derived.Test.YtpbenhfnebgbiaaDoorVeD
namespace Go.Proofs.YtpbenhfnebgbiaaDoor.Ve
open Go.Proofs.YtpbenhfnebgbiaaDoor.Mem Go.Proofs.YtpbenhfnebgbiaaDoor.VeS
theorem asc_drop {s : List UInt8} (h : asc s) (k : Nat) : asc (s.drop k) := by
  intro i hi
  rw [at0_drop]
  rw [List.length_drop] at hi
  exact h _ (by omega)
theorem bi_drop (s : List UInt8) (k : Nat) : (bi s).drop k = bi (s.drop k) := (List.map_drop ..).symm
theorem digit_is (r : Int) : digit_m r = decide (48 ≤ r ∧ r ≤ 57) := by
  unfold digit_m
  by_cases h : 48 ≤ r
  · rw [if_pos h]; exact decide_eq_decide.2 ⟨fun h2 => ⟨h, h2⟩, fun h2 => h2.2⟩
  · rw [if_neg h]; exact (decide_eq_false (fun h2 => h h2.1)).symm
theorem letter_is (r : Int) : letter_m r = decide ((97 ≤ r ∧ r ≤ 122) ∨ (65 ≤ r ∧ r ≤ 90)) := by
  unfold letter_m
  repeat' split
  all_goals first
    | exact (decide_eq_true (by omega)).symm
    | exact (decide_eq_false (by omega)).symm
    | exact decide_eq_decide.2 (by omega)
theorem check_b0 (s : List UInt8) (rec : Nat → Sum Nat Bool) (p : Nat) : check_m_b0 s rec p = if p < s.length then if okr p (dec s p).1 then rec (nxp s p) else .inr false else .inl (nxp s p) := by
  unfold check_m_b0
  by_cases hp : p < s.length
  · rw [if_pos hp, if_pos hp]
    generalize (dec s p).1 = r
    unfold crune_m
    simp only [letter_is, digit_is, Bool.not_eq_true', decide_eq_false_iff_not]
    by_cases hk : okr p r
    · rw [if_pos hk]
      unfold okr at hk
      repeat' split
      all_goals first
        | rfl
        | (exfalso; omega)
    · rw [if_neg hk]
      unfold okr at hk
      repeat' split
      all_goals first
        | rfl
        | (exfalso; omega)
  · rw [if_neg hp, if_neg hp]
theorem check_l0 (s : List UInt8) : ∀ n p, fin (check_m_l0 s n p) (fun r => r) (fun zz => check_m_k0 s zz) = chk s n p
  | 0, _ => rfl
  | n + 1, p => by
    have E : check_m_l0 s (n + 1) p = check_m_b0 s (check_m_l0 s n) p := rfl
    rw [E, check_b0]
    unfold chk
    by_cases hp : p < s.length
    · rw [if_pos hp, if_pos hp]
      by_cases hk : okr p (dec s p).1
      · rw [if_pos hk, if_pos hk]
        exact check_l0 s n (nxp s p)
      · rw [if_neg hk, if_neg hk]
        rfl
    · rw [if_neg hp, if_neg hp]
      rfl
theorem check_iff (s : List UInt8) : check_m s = true ↔ vok s := by
  unfold check_m vok
  by_cases h1 : s = []
  · rw [if_pos h1]; exact ⟨(fun e => by cases e), fun e => absurd h1 e.1⟩
  · rw [if_neg h1]
    by_cases h2 : 24 < s.length
    · rw [if_pos h2]; exact ⟨(fun e => by cases e), fun e => by omega⟩
    · rw [if_neg h2, check_l0, chk_iff s _ 0 (by omega)]
      exact ⟨fun e => ⟨h1, by omega, fun i hi => e i (Nat.zero_le _) hi⟩, fun e i _ hi => e.2.2 i hi⟩
theorem check_pos {a : List UInt8} (h : ¬ (!(check_m a)) = true) : 0 < a.length := List.length_pos_iff.2 ((check_iff a).1 (nn h)).1
theorem check_same (s : List UInt8) : rcheck_m s = check_m s := by
  rw [Bool.eq_iff_iff, rcheck_iff, check_iff]
/-- What a sign weighs. -/
def wt (c : UInt8) : Int := weight_m ((c.toNat : Nat) : Int)
def wr (c : UInt8) : Int := rweight_m ((c.toNat : Nat) : Int)
theorem ndg_at (s : List UInt8) (i : Nat) : ndg (s.getD i 0) = decide (¬ (48 ≤ at0 s i ∧ at0 s i ≤ 57)) := by
  unfold ndg
  rw [at_dg, decide_not]
theorem nd_at {s : List UInt8} {p : Nat} (hp : p < s.length) : nd (s.drop p) = if 48 ≤ at0 s p ∧ at0 s p ≤ 57 then [] else s.getD p 0 :: nd (s.drop (p + 1)) := by
  rw [drop_at hp]
  unfold nd
  by_cases h : 48 ≤ at0 s p ∧ at0 s p ≤ 57
  · rw [if_pos h, List.takeWhile_cons_of_neg (by rw [ndg_at]; simpa using h)]
  · rw [if_neg h, List.takeWhile_cons_of_pos (by rw [ndg_at]; exact decide_eq_true h)]
theorem weights_l (s : List UInt8) (hs : asc s) : ∀ n p l, s.length - p < n → ∃ q, weights_m_l0 s n (p, l) = .inl (q, l ++ (nd (s.drop p)).map wt)
  | 0, _, _, h => by omega
  | n + 1, p, l, h => by
    have E : weights_m_l0 s (n + 1) (p, l) = weights_m_b0 s (weights_m_l0 s n) p l := rfl
    rw [E]
    unfold weights_m_b0
    by_cases hp : p < s.length
    · obtain ⟨e1, e2⟩ := asc_dec hs hp
      rw [if_pos hp, digit_is, e1, e2, nd_at hp]
      by_cases h1 : 48 ≤ at0 s p ∧ at0 s p ≤ 57
      · rw [if_pos h1, if_pos (decide_eq_true (by show 48 ≤ ((at0 s p : Nat) : Int) ∧ ((at0 s p : Nat) : Int) ≤ 57; omega))]
        exact ⟨_, by rw [List.map_nil, List.append_nil]⟩
      · rw [if_neg h1, if_neg (by rw [decide_eq_true_iff]; show ¬ (48 ≤ ((at0 s p : Nat) : Int) ∧ ((at0 s p : Nat) : Int) ≤ 57); omega)]
        obtain ⟨q, hq⟩ := weights_l s hs n (p + 1) (l ++ [weight_m ((at0 s p : Nat) : Int)]) (by omega)
        refine ⟨q, ?_⟩
        rw [hq, List.append_assoc]
        rfl
    · rw [if_neg hp, List.drop_eq_nil_of_le (by omega)]
      exact ⟨_, by rw [show (nd []).map wt = [] from rfl, List.append_nil]⟩
theorem weights_is {s : List UInt8} (hs : asc s) : weights_m s = (nd s).map wt := by
  unfold weights_m
  obtain ⟨q, hq⟩ := weights_l s hs ((s.length - 0) + 1) 0 [] (by omega)
  rw [hq]
  rfl
theorem digits_l (s : List UInt8) (hs : asc s) : ∀ n p, s.length - p < n → p ≤ s.length → fin (digits_m_l0 s n p) (fun r => r) (fun zz => digits_m_k0 s zz) = ((p + (num (s.drop p)).length : Nat) : Int)
  | 0, _, h, _ => by omega
  | n + 1, p, h, hq => by
    have E : digits_m_l0 s (n + 1) p = digits_m_b0 s (digits_m_l0 s n) p := rfl
    rw [E]
    unfold digits_m_b0
    by_cases hp : p < s.length
    · obtain ⟨e1, e2⟩ := asc_dec hs hp
      rw [if_pos hp, digit_is, e1, e2, drop_at hp]
      unfold num
      by_cases h1 : 48 ≤ at0 s p ∧ at0 s p ≤ 57
      · rw [if_neg (by rw [decide_eq_true (by show 48 ≤ ((at0 s p : Nat) : Int) ∧ ((at0 s p : Nat) : Int) ≤ 57; omega)]; decide), List.takeWhile_cons_of_pos (by rw [at_dg]; exact decide_eq_true h1)]
        have ih := digits_l s hs n (p + 1) (by omega) (by omega)
        unfold num at ih
        rw [ih, List.length_cons]
        omega
      · rw [if_pos (by rw [decide_eq_false (by show ¬ (48 ≤ ((at0 s p : Nat) : Int) ∧ ((at0 s p : Nat) : Int) ≤ 57); omega)]; decide), List.takeWhile_cons_of_neg (by rw [at_dg]; simpa using h1)]
        rfl
    · rw [if_neg hp, List.drop_eq_nil_of_le (by omega)]
      show ((s.length : Nat) : Int) = ((p + 0 : Nat) : Int)
      omega
theorem digits_is {s : List UInt8} (hs : asc s) : digits_m s = (((num s).length : Nat) : Int) := by
  unfold digits_m
  rw [digits_l s hs _ 0 (by omega) (Nat.zero_le _), List.drop_zero, Nat.zero_add]
theorem tw_drop (p : UInt8 → Bool) : ∀ s : List UInt8, s.drop (s.takeWhile p).length = s.dropWhile p ∧ s.take (s.takeWhile p).length = s.takeWhile p
  | [] => ⟨rfl, rfl⟩
  | c :: t => by
    obtain ⟨h1, h2⟩ := tw_drop p t
    by_cases hc : p c = true
    · rw [List.takeWhile_cons_of_pos hc, List.dropWhile_cons_of_pos hc, List.length_cons, List.drop_succ_cons, List.take_succ_cons, h1, h2]
      exact ⟨rfl, rfl⟩
    · rw [List.takeWhile_cons_of_neg hc, List.dropWhile_cons_of_neg hc]
      exact ⟨rfl, rfl⟩
theorem cmpi_is (x y : Int) : cmpi_m x y = c3 x y := by
  unfold cmpi_m Lib.compareInt c3
  rfl
theorem at_head (l : List Int) (i : Nat) : at_m l ((i : Nat) : Int) = (l.drop i).headD 0 := by
  unfold at_m
  rw [Int.toNat_natCast]
  by_cases h : i < l.length
  · rw [if_pos (by omega), List.drop_eq_getElem_cons h]
    simp [List.getD_eq_getElem?_getD, List.getElem?_eq_getElem h]
  · rw [if_neg (by omega), List.drop_eq_nil_of_le (by omega)]
    rfl
theorem lz_step (x y : List Int) (h : ¬ (x = [] ∧ y = [])) : lz x y = if c3 (x.headD 0) (y.headD 0) ≠ 0 then c3 (x.headD 0) (y.headD 0) else lz x.tail y.tail := by
  match x, y with
  | [], [] => exact absurd ⟨rfl, rfl⟩ h
  | a :: x, [] => exact lz_cn a x
  | [], b :: y => exact lz_nc b y
  | a :: x, b :: y => exact lz_cc a b x y
theorem vsigns_l (a b : List Int) : ∀ n i, max a.length b.length - i < n → fin (vsigns_m_l0 a b n i) (fun r => r) (fun zz => vsigns_m_k0 a b zz) = lz (a.drop i) (b.drop i)
  | 0, _, h => by omega
  | n + 1, i, h => by
    have E : vsigns_m_l0 a b (n + 1) i = vsigns_m_b0 a b (vsigns_m_l0 a b n) i := rfl
    rw [E]
    unfold vsigns_m_b0
    by_cases hi : i < max a.length b.length
    · rw [if_pos hi, cmpi_is, at_head, at_head, lz_step _ _ (fun e => by
        have h1 := List.drop_eq_nil_iff.1 e.1
        have h2 := List.drop_eq_nil_iff.1 e.2
        omega)]
      by_cases hc : c3 ((a.drop i).headD 0) ((b.drop i).headD 0) = 0
      · rw [if_neg (by omega), if_neg (by omega), vsigns_l a b n (i + 1) (by omega), List.tail_drop, List.tail_drop]
      · rw [if_pos hc, if_pos hc]
        rfl
    · rw [if_neg hi, List.drop_eq_nil_of_le (by omega), List.drop_eq_nil_of_le (by omega), lz_nil]
      rfl
theorem vsigns_is (a b : List Int) : vsigns_m a b = lz a b := by
  unfold vsigns_m
  rw [vsigns_l a b _ 0 (by omega), List.drop_zero, List.drop_zero]
theorem lt_lz : ∀ (s t : List UInt8), s.length = t.length → (lt' s t = true ↔ lz (bi s) (bi t) = -1) ∧ (s = t ↔ lz (bi s) (bi t) = 0)
  | [], [], _ => ⟨⟨(fun h => by cases h), (fun h => by rw [show bi [] = [] from rfl, lz_nil] at h; cases h)⟩, ⟨fun _ => lz_nil, fun _ => rfl⟩⟩
  | [], _ :: _, h => by cases h
  | _ :: _, [], h => by cases h
  | a :: s, b :: t, h => by
    obtain ⟨h1, h2⟩ := lt_lz s t (by simpa using h)
    have e : lz (bi (a :: s)) (bi (b :: t)) = if c3 ((a.toNat : Nat) : Int) ((b.toNat : Nat) : Int) ≠ 0 then c3 ((a.toNat : Nat) : Int) ((b.toNat : Nat) : Int) else lz (bi s) (bi t) := lz_cc _ _ _ _
    have e2 : lt' (a :: s) (b :: t) = (decide (a < b) || (a == b && lt' s t)) := rfl
    have e3 : (a < b) ↔ a.toNat < b.toNat := Iff.rfl
    rw [e, e2, Bool.or_eq_true, Bool.and_eq_true, decide_eq_true_iff, beq_iff_eq, e3]
    by_cases hab : a = b
    · subst hab
      rw [c3_self, if_neg (by omega)]
      constructor
      · rw [← h1]; constructor
        · rintro (h | h)
          · omega
          · exact h.2
        · exact fun h => .inr ⟨rfl, h⟩
      · rw [← h2]; constructor
        · intro h; exact (List.cons.inj h).2
        · intro h; rw [h]
    · have hn : a.toNat ≠ b.toNat := fun e => hab (UInt8.toNat_inj.1 e)
      rw [if_pos (c3_ne (by omega))]
      constructor
      · constructor
        · rintro (h | h)
          · exact c3_of_lt (by omega)
          · exact absurd h.1 hab
        · intro h
          left
          unfold c3 at h
          split at h
          · omega
          · split at h <;> omega
      · constructor
        · intro h; exact absurd (List.cons.inj h).1 hab
        · intro h; exact absurd h (c3_ne (by omega))
theorem lz_three (x y : List Int) : lz x y = -1 ∨ lz x y = 0 ∨ lz x y = 1 := by
  rw [lz_lexz (max x.length y.length) x y (by omega) (by omega)]
  exact lexz_three _ _ _
theorem cmps_is (x y : List UInt8) : cmps_m x y = rplain_m x y := by
  unfold cmps_m rplain_m nans_m
  rw [if_neg (by decide), if_neg (by decide)]
theorem plain_lz (x y : List UInt8) (h : x.length = y.length) : rplain_m x y = lz (bi x) (bi y) := by
  obtain ⟨h1, h2⟩ := lt_lz x y h
  unfold rplain_m
  by_cases hl : lt' x y = true
  · rw [if_pos hl, h1.1 hl]
  · rw [if_neg hl]
    by_cases he : x = y
    · rw [if_neg (by simp [he]), h2.1 he]
    · have : lt' x y = false := by simpa using hl
      rw [if_pos (by rw [this]; simp [he])]
      rcases lz_three (bi x) (bi y) with e | e | e
      · exact absurd (h1.2 e) hl
      · exact absurd (h2.2 e) he
      · exact e.symm
theorem numbers_is (a b : List UInt8) : numbers_m a b = ncmp a b := by
  unfold numbers_m ncmp
  rw [cmpi_is]
  have e : ∀ s, trimz_m s [48] = strip s := fun _ => rfl
  rw [e, e]
  by_cases h : c3 (((strip a).length : Nat) : Int) (((strip b).length : Nat) : Int) = 0
  · rw [if_neg (by omega), if_neg (by omega), cmps_is, plain_lz _ _ (by have := c3_eq h; omega)]
  · rw [if_pos h, if_pos h]
theorem asc_rst {s : List UInt8} (h : asc s) : asc (rd s) ∧ asc (rst s) := by
  have h1 : asc (rd s) := by
    unfold rd
    rw [← (tw_drop ndg s).1]
    exact asc_drop h _
  refine ⟨h1, ?_⟩
  unfold rst
  rw [← (tw_drop dg (rd s)).1]
  exact asc_drop h1 _
theorem compare_l (a b : List UInt8) : ∀ n x y, asc x → asc y → fin (compare_m_l0 a b n (x, y)) (fun r => r) (fun zz => compare_m_k0 a b zz.1 zz.2) = scmp wt n x y
  | 0, _, _, _, _ => rfl
  | n + 1, x, y, hx, hy => by
    have E : compare_m_l0 a b (n + 1) (x, y) = compare_m_b0 a b (compare_m_l0 a b n) x y := rfl
    rw [E]
    unfold compare_m_b0
    have hd : ∀ s, asc s → s.drop (weights_m s).length = rd s := by
      intro s h
      rw [weights_is h, List.length_map]
      exact (tw_drop ndg s).1
    have hnum : ∀ s, asc s → (rd s).take (digits_m (rd s)).toNat = num (rd s) ∧ (rd s).drop (digits_m (rd s)).toNat = rst s := by
      intro s h
      rw [digits_is (asc_rst h).1, Int.toNat_natCast]
      exact ⟨(tw_drop dg (rd s)).2, (tw_drop dg (rd s)).1⟩
    rw [hd x hx, hd y hy, (hnum x hx).1, (hnum x hx).2, (hnum y hy).1, (hnum y hy).2, weights_is hx, weights_is hy, vsigns_is, numbers_is]
    have ih := compare_l a b n (rst x) (rst y) (asc_rst hx).2 (asc_rst hy).2
    have key : fin (if ¬ lz ((nd x).map wt) ((nd y).map wt) = 0 then .inr (lz ((nd x).map wt) ((nd y).map wt)) else if ¬ ncmp (num (rd x)) (num (rd y)) = 0 then .inr (ncmp (num (rd x)) (num (rd y))) else compare_m_l0 a b n (rst x, rst y)) (fun r => r) (fun zz => compare_m_k0 a b zz.1 zz.2) = scmp wt (n + 1) x y := by
      unfold scmp
      by_cases h1 : lz ((nd x).map wt) ((nd y).map wt) = 0
      · by_cases h2 : ncmp (num (rd x)) (num (rd y)) = 0
        · simp only [h1, h2, ne_eq, eq_self, not_true_eq_false, ite_false]
          exact ih
        · simp only [h1, h2, ne_eq, eq_self, not_true_eq_false, not_false_eq_true, ite_false, ite_true]
          rfl
      · simp only [h1, ne_eq, not_false_eq_true, ite_true]
        rfl
    by_cases h1 : x = []
    · rw [if_neg (by simpa using h1)]
      by_cases h2 : y = []
      · rw [if_neg (by simpa using h2), h1, h2, scmp_self]
        rfl
      · rw [if_pos h2]
        exact key
    · rw [if_pos h1]
      exact key
/-- Versions stand as their keys do. -/
theorem compare_is {a b : List UInt8} (ha : vok a) (hb : vok b) : compare_m a b = scmp wt (a.length + b.length + 1) a b := by
  unfold compare_m
  rw [if_neg (by rw [(check_iff a).2 ha]; decide), if_neg (by rw [(check_iff b).2 hb]; decide), compare_l a b _ a b (vok_asc ha) (vok_asc hb)]
theorem wt_ne (c : UInt8) : wt c ≠ 0 := by
  unfold wt weight_m
  rw [letter_is]
  split
  · decide
  · split
    · rename_i h
      rw [decide_eq_true_iff] at h
      omega
    · omega
theorem c3_mem (x y : Int) : -1 ≤ c3 x y ∧ c3 x y ≤ 1 := by rcases c3_three x y with e | e | e <;> rw [e] <;> decide
theorem scmp_three (n : Nat) (a b : List UInt8) : scmp wt n a b = -1 ∨ scmp wt n a b = 0 ∨ scmp wt n a b = 1 := by
  rw [scmp_key wt (fun c _ => wt_ne c)]
  exact lz_three _ _
theorem plain_three (a b : List UInt8) : rplain_m a b = -1 ∨ rplain_m a b = 0 ∨ rplain_m a b = 1 := by
  unfold rplain_m
  split
  · exact .inl rfl
  · split
    · exact .inr (.inr rfl)
    · exact .inr (.inl rfl)
theorem compare_three (a b : List UInt8) : compare_m a b = -1 ∨ compare_m a b = 0 ∨ compare_m a b = 1 := by
  by_cases ha : vok a
  · by_cases hb : vok b
    · rw [compare_is ha hb]; exact scmp_three _ _ _
    · unfold compare_m
      rw [if_neg (by rw [(check_iff a).2 ha]; decide), if_pos (by rw [show check_m b = false from Bool.eq_false_iff.2 (fun e => hb ((check_iff b).1 e))]; rfl), cmps_is]
      exact plain_three _ _
  · unfold compare_m
    rw [if_pos (by rw [show check_m a = false from Bool.eq_false_iff.2 (fun e => ha ((check_iff a).1 e))]; rfl), cmps_is]
    exact plain_three _ _
theorem compare_rng (a b : List UInt8) : -1 ≤ compare_m a b ∧ compare_m a b ≤ 1 := by rcases compare_three a b with e | e | e <;> rw [e] <;> decide
end Go.Proofs.YtpbenhfnebgbiaaDoor.Ve
