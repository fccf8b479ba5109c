/- Layer 7: what paths are made of: the mathematics. -/
import Derived.Test.YtdohmmdfenafnaaDoorPaF
namespace Go.Proofs.YtdohmmdfenafnaaDoor.Pa
open Go.Proofs.YtdohmmdfenafnaaDoor.Mem
theorem awake_true : awake_m = true := by decide +kernel
theorem same_self (a : List (List UInt8)) : same_m a a = true := by
  have A2 : ∀ n i, i < a.length → ¬ False → same_m_l0 a a (n + 1) i = same_m_l0 a a n (i + 1) := by
    intro n i hi _
    show same_m_b0 a a _ i = _
    unfold same_m_b0
    rw [if_pos hi, if_neg (fun h => h rfl)]
  have A3 : ∀ n i, a.length ≤ i → same_m_l0 a a (n + 1) i = .inl i := by
    intro n i hi
    show same_m_b0 a a _ i = _
    unfold same_m_b0
    rw [if_neg (by omega)]
  unfold same_m
  rw [if_neg (fun h => h rfl), loop_none (P := fun _ => False) (r := false) (fun _ _ _ h => h.elim) A2 A3 _ 0 (Nat.zero_le _) (Nat.lt_succ_self _) (fun _ _ _ h => h)]
  rfl
/-! ### Texts put together -/
theorem at0_app (x y : List UInt8) (i : Nat) (h : i < x.length) : at0 (x ++ y) i = at0 x i := by
  unfold at0
  rw [List.getD_eq_getElem?_getD, List.getD_eq_getElem?_getD, List.getElem?_append_left h]
theorem dec_app (x y : List UInt8) (p : Nat) (h : p < x.length) (hd : dec x p ≠ (65533, 1)) : dec (x ++ y) p = dec x p := by
  have hl : (x ++ y).length = x.length + y.length := List.length_append
  rcases dec_cases x p with ⟨c0, e⟩ | ⟨_, e⟩ | ⟨l1, c0, c1, e, c2⟩ | ⟨l1, c0, c1, c2, e, c3, hv⟩ | ⟨l1, c0, c1, c2, c3, e, c4, hv⟩
  · rw [e]
    unfold dec Utf8.decode
    simp only [tx_get!, Nat.add_zero, at0_app x y p h, if_pos c0]
  · exact absurd e hd
  · rw [e]
    unfold dec Utf8.decode
    simp only [tx_get!, tx_size, Nat.add_zero, at0_app x y p h, at0_app x y (p + 1) (by omega), c0, c1]
    rw [if_neg (by omega), decide_eq_true (show p + 1 < (x ++ y).length by omega)]
    simp [c2]
  · rw [e]
    unfold dec Utf8.decode
    have e32 : at0 x p / 32 = 7 := by omega
    simp only [tx_get!, tx_size, Nat.add_zero, at0_app x y p h, at0_app x y (p + 1) (by omega), at0_app x y (p + 2) (by omega), c0, c1, c2, e32]
    rw [if_neg (by omega), decide_eq_true (show p + 1 < (x ++ y).length by omega), decide_eq_true (show p + 2 < (x ++ y).length by omega)]
    have hv' := (valid_iff _).2 hv
    simp only [show ((7 : Nat) == 6) = false from rfl, beq_self_eq_true, Bool.false_eq_true, if_false, Bool.and_true, Bool.and_self, if_true, ge_iff_le, decide_eq_true c3, hv']
  · rw [e]
    unfold dec Utf8.decode
    have e32 : at0 x p / 32 = 7 := by omega
    have e16 : at0 x p / 16 = 15 := by omega
    simp only [tx_get!, tx_size, Nat.add_zero, at0_app x y p h, at0_app x y (p + 1) (by omega), at0_app x y (p + 2) (by omega), at0_app x y (p + 3) (by omega), c0, c1, c2, c3, e32, e16]
    rw [if_neg (by omega), decide_eq_true (show p + 1 < (x ++ y).length by omega), decide_eq_true (show p + 2 < (x ++ y).length by omega), decide_eq_true (show p + 3 < (x ++ y).length by omega)]
    have hv' := (valid_iff _).2 hv
    simp only [show ((7 : Nat) == 6) = false from rfl, show ((15 : Nat) == 14) = false from rfl, beq_self_eq_true, Bool.false_eq_true, if_false, Bool.and_true, Bool.and_self, if_true, ge_iff_le, decide_eq_true c4, hv']
theorem dec_shift (x y : List UInt8) (q : Nat) : dec (x ++ y) (x.length + q) = dec y q := by
  rw [← dec_drop (x ++ y), ← dec_drop y, List.drop_append, List.drop_eq_nil_of_le (by omega), List.nil_append, Nat.add_sub_cancel_left]
theorem nxp_shift (x y : List UInt8) (q : Nat) : nxp (x ++ y) (x.length + q) = x.length + nxp y q := by
  unfold nxp
  rw [dec_shift, List.length_append]
  by_cases h : q < y.length
  · rw [if_pos h, if_pos (by omega), Nat.add_assoc]
  · rw [if_neg h, if_neg (by omega)]
theorem good_shift (f : Nat → Bool) (x y : List UInt8) : ∀ n q, good f (x ++ y) n (x.length + q) = good f y n q
  | 0, _ => rfl
  | n + 1, q => by
    unfold good
    rw [dec_shift, nxp_shift, good_shift f x y n, List.length_append]
    by_cases h : q < y.length
    · rw [if_pos h, if_pos (by omega)]
    · rw [if_neg h, if_neg (by omega)]
theorem good_fuel (f : Nat → Bool) (s : List UInt8) : ∀ n m p, s.length - p < n → s.length - p < m → good f s n p = good f s m p
  | 0, _, p, h, _ => by omega
  | _ + 1, 0, p, _, h => by omega
  | n + 1, m + 1, p, h1, h2 => by
    unfold good
    by_cases h : p < s.length
    · have := nxp_gt h
      rw [if_pos h, if_pos h, good_fuel f s n m (nxp s p) (by omega) (by omega)]
    · rw [if_neg h, if_neg h]
theorem good_app (f : Nat → Bool) (x y : List UInt8) : ∀ n p, p ≤ x.length → x.length - p < n → good f x n p = true → ∀ m, (x ++ y).length - p < m → good f (x ++ y) m p = good f (x ++ y) m x.length
  | 0, p, _, h, _, _, _ => by omega
  | n + 1, p, hp, h, hg, m, hm => by
    by_cases h1 : p < x.length
    · unfold good at hg
      rw [if_pos h1] at hg
      simp only [Bool.and_eq_true, Bool.not_eq_true', decide_eq_false_iff_not] at hg
      have hn := nxp_gt h1
      have hd := dec_app x y p h1 hg.1.1
      have hl : (x ++ y).length = x.length + y.length := List.length_append
      have hx : nxp (x ++ y) p = nxp x p := by
        rw [nxp_lt h1, nxp_lt (show p < (x ++ y).length by omega), hd]
      cases m with
      | zero => omega
      | succ m =>
        have ih := good_app f x y n (nxp x p) hn.2 (by omega) hg.2 m (by omega)
        conv => lhs; unfold good
        rw [if_pos (by omega), hd, hx, ih, decide_eq_false hg.1.1, hg.1.2]
        simp only [Bool.not_false, Bool.true_and]
        exact good_fuel f _ m (m + 1) _ (by omega) (by omega)
    · obtain rfl : p = x.length := by omega
      rfl
theorem good_mono (f g : Nat → Bool) (hfg : ∀ c, f c = true → g c = true) (s : List UInt8) : ∀ n p, good f s n p = true → good g s n p = true
  | 0, _, _ => rfl
  | n + 1, p, h => by
    unfold good at h ⊢
    by_cases h1 : p < s.length
    · rw [if_pos h1] at h ⊢
      simp only [Bool.and_eq_true] at h ⊢
      exact ⟨⟨h.1.1, hfg _ h.1.2⟩, good_mono f g hfg s n _ h.2⟩
    · rw [if_neg h1]
theorem good_join : ∀ l : List (List UInt8), (∀ x ∈ l, good (fs false) x (x.length + 1) 0 = true) → good (fs true) (jn l) ((jn l).length + 1) 0 = true
  | [], _ => rfl
  | [x], h => by
    refine good_mono _ _ (fun c hc => ?_) x _ _ (h x (by simp))
    unfold fs at hc ⊢
    rw [Bool.false_and, Bool.or_false] at hc
    rw [hc]
    rfl
  | x :: y :: r, h => by
    rw [jn_cons x (by simp)]
    have hx : good (fs true) x (x.length + 1) 0 = true := by
      refine good_mono _ _ (fun c hc => ?_) x _ _ (h x (by simp))
      unfold fs at hc ⊢
      rw [Bool.false_and, Bool.or_false] at hc
      rw [hc]
      rfl
    have ih := good_join (y :: r) (fun z hz => h z (by simp at hz ⊢; exact .inr hz))
    generalize jn (y :: r) = t at ih
    have h1 := good_app (fs true) x (47 :: t) (x.length + 1) 0 (Nat.zero_le _) (by omega) hx ((x ++ 47 :: t).length + 1) (by omega)
    have h2 : good (fs true) (x ++ 47 :: t) ((x ++ 47 :: t).length + 1) x.length = good (fs true) (47 :: t) ((x ++ 47 :: t).length + 1) 0 := good_shift (fs true) x (47 :: t) ((x ++ 47 :: t).length + 1) 0
    rw [h1, h2]
    have ha : at0 (47 :: t) 0 = 47 := rfl
    have hd : dec (47 :: t) 0 = (47, 1) := by
      rcases dec_cases (47 :: t) 0 with ⟨c0, e⟩ | ⟨c0, e⟩ | ⟨_, c0, _⟩ | ⟨_, c0, _⟩ | ⟨_, c0, _⟩
      · exact e
      all_goals
        rw [ha] at c0
        omega
    have hn : nxp (47 :: t) 0 = 1 := by
      rw [nxp_lt (by simp), hd, Nat.zero_add]
    unfold good
    rw [if_pos (by simp), hd, hn]
    have h4 : good (fs true) (47 :: t) (x ++ 47 :: t).length 1 = good (fs true) t (x ++ 47 :: t).length 0 := good_shift (fs true) [47] t (x ++ 47 :: t).length 0
    rw [h4, good_fuel (fs true) t _ (t.length + 1) 0 (by simp; omega) (by omega), ih]
    decide
/-- What a part's bytes are. -/
def bok (b : Nat) : Prop := 32 < b ∧ b ≠ 127 ∧ b ≠ 47 ∧ b < 248 ∧ b ≠ 192 ∧ b ≠ 193
theorem sign_ok {c : Nat} (h : fs false c = true) (hc : c < 128) : bok c := by
  unfold fs at h
  rw [Bool.false_and, Bool.or_false] at h
  unfold sign_m at h
  by_cases h1 : (32 : Int) < (c : Int)
  · rw [if_pos h1] at h
    by_cases h2 : (c : Int) = 47
    · rw [if_neg (fun e => e h2)] at h; cases h
    · rw [if_pos h2] at h
      by_cases h3 : (c : Int) = 127
      · rw [if_neg (fun e => e h3)] at h; cases h
      · unfold bok; omega
  · rw [if_neg h1] at h; cases h
theorem good_bytes (s : List UInt8) : ∀ n p, p ≤ s.length → s.length - p < n → good (fs false) s n p = true → ∀ k, p ≤ k → k < s.length → bok (at0 s k)
  | 0, p, _, h, _, _, _, _ => by omega
  | n + 1, p, hp, h, hg, k, hk, hl => by
    have h1 : p < s.length := by omega
    unfold good at hg
    rw [if_pos h1] at hg
    simp only [Bool.and_eq_true, Bool.not_eq_true', decide_eq_false_iff_not] at hg
    have hn := nxp_gt h1
    have ih := good_bytes s n (nxp s p) hn.2 (by omega) hg.2 k
    have hx := nxp_lt h1
    have b0 := at0_lt s p
    have b1 := at0_lt s (p + 1)
    have b2 := at0_lt s (p + 2)
    have b3 := at0_lt s (p + 3)
    rcases dec_cases s p with ⟨c0, e⟩ | ⟨_, e⟩ | ⟨l1, c0, c1, e, c2⟩ | ⟨l1, c0, c1, c2, e, c3, hv⟩ | ⟨l1, c0, c1, c2, c3, e, c4, hv⟩
    · rw [e] at hx hg
      simp only at hx
      by_cases h2 : k = p
      · rw [h2]; exact sign_ok hg.1.2 c0
      · exact ih (by omega) hl
    · exact absurd e hg.1.1
    · rw [e] at hx
      simp only at hx
      unfold bok at ih ⊢
      by_cases h2 : k = p
      · rw [h2]; omega
      by_cases h3 : k = p + 1
      · rw [h3]; omega
      · exact ih (by omega) hl
    · rw [e] at hx
      simp only at hx
      unfold bok at ih ⊢
      by_cases h2 : k = p
      · rw [h2]; omega
      by_cases h3 : k = p + 1
      · rw [h3]; omega
      by_cases h4 : k = p + 2
      · rw [h4]; omega
      · exact ih (by omega) hl
    · rw [e] at hx
      simp only at hx
      unfold bok at ih ⊢
      by_cases h2 : k = p
      · rw [h2]; omega
      by_cases h3 : k = p + 1
      · rw [h3]; omega
      by_cases h4 : k = p + 2
      · rw [h4]; omega
      by_cases h5 : k = p + 3
      · rw [h5]; omega
      · exact ih (by omega) hl
theorem part_bytes {x : List UInt8} (h : part_m x = true) (k : Nat) (hk : k < x.length) : bok (at0 x k) := by
  have h1 := (part_len h).2.2.2.2
  rw [signs_is] at h1
  exact good_bytes x _ 0 (Nat.zero_le _) (by omega) h1 k (Nat.zero_le _) hk
theorem part_not {x : List UInt8} (h : part_m x = true) : (47 : UInt8) ∉ x := by
  intro hm
  obtain ⟨k, hk, e⟩ := List.getElem_of_mem hm
  have h1 := part_bytes h k hk
  unfold at0 at h1
  rw [List.getD_eq_getElem?_getD, List.getElem?_eq_getElem hk, Option.getD_some, e] at h1
  exact h1.2.2.1 rfl
theorem not_part_nil : ¬ part_m [] = true := by decide
theorem sp_first {s : List UInt8} (h : ∀ x ∈ sp 47 s, part_m x = true) : ¬ by' s 0 = 47 := by
  intro e
  cases s with
  | nil => exact absurd (h [] (by simp [sp])) not_part_nil
  | cons a r =>
    have ha : a = 47 := UInt8.toNat_inj.1 e
    refine not_part_nil (h [] ?_)
    rw [sp_cons, if_pos ha]
    simp
theorem sp_end {s : List UInt8} (h : ∀ x ∈ sp 47 s, part_m x = true) : ¬ by' s (s.length - 1) = 47 := by
  intro e
  by_cases h0 : s = []
  · subst h0; exact absurd (h [] (by simp [sp])) not_part_nil
  obtain ⟨a, b, rfl⟩ : ∃ a b, s = a ++ [b] := ⟨s.dropLast, s.getLast h0, (List.dropLast_concat_getLast h0).symm⟩
  have hb : b = 47 := by
    apply UInt8.toNat_inj.1
    unfold by' at e
    simpa using e
  refine not_part_nil (h [] ?_)
  rw [hb, sp_app]
  simp [sp]
end Go.Proofs.YtdohmmdfenafnaaDoor.Pa
