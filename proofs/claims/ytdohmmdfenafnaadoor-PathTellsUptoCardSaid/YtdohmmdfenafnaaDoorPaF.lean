/- Layer 7: paths and the document's: the mathematics. -/
import Derived.Test.YtdohmmdfenafnaaDoorPaE
namespace Go.Proofs.YtdohmmdfenafnaaDoor.Pa
open Go.Proofs.YtdohmmdfenafnaaDoor.Mem
/-! ### Runes -/
/-- Each rune from a place on is well encoded, and f holds of it. -/
def good (f : Nat → Bool) (s : List UInt8) : Nat → Nat → Bool
  | 0, _ => true
  | n + 1, p => if p < s.length then (!decide (dec s p = (65533, 1))) && f (dec s p).1 && good f s n (nxp s p) else true
def fs (slash : Bool) (c : Nat) : Bool := sign_m (c : Int) || (slash && decide (c = 47))
theorem nxp_gt {s : List UInt8} {p : Nat} (h : p < s.length) : p < nxp s p ∧ nxp s p ≤ s.length := by
  rcases nxp_or s p with h1 | h1 <;> omega
theorem signs_loop (s : List UInt8) (slash : Bool) : ∀ n p, p ≤ s.length → s.length - p < n → Lib.validD (s.drop p) = true →
    ((∃ y, signs_m_l0 s slash n p = .inl y) ∧ good (fs slash) s n p = true) ∨ (signs_m_l0 s slash n p = .inr false ∧ good (fs slash) s n p = false)
  | 0, p, _, h, _ => by omega
  | n + 1, p, hp, h, hv => by
    have E : signs_m_l0 s slash (n + 1) p = signs_m_b0 s slash (signs_m_l0 s slash n) p := rfl
    rw [E]
    unfold signs_m_b0 good
    by_cases h1 : p < s.length
    · rw [if_pos h1, if_pos h1]
      have hn := nxp_gt h1
      rw [valid_at s p h1] at hv
      have hd : ¬ dec s p = (65533, 1) := by
        intro e
        rw [if_pos e] at hv
        cases hv
      rw [if_neg hd] at hv
      have ih := signs_loop s slash n (nxp s p) hn.2 (by omega) hv
      rw [decide_eq_false hd]
      have hf : fs slash (dec s p).1 = (sign_m (((dec s p).1 : Nat) : Int) || (slash && decide ((dec s p).1 = 47))) := rfl
      rw [hf]
      cases hs : sign_m (((dec s p).1 : Nat) : Int) with
      | true =>
        rw [if_neg (by decide)]
        simpa using ih
      | false =>
        rw [if_pos (show (!false) = true from rfl)]
        cases slash with
        | false => right; exact ⟨rfl, rfl⟩
        | true =>
          rw [if_pos rfl]
          by_cases h2 : (dec s p).1 = 47
          · rw [if_neg (fun e => e h2), decide_eq_true h2]
            simpa using ih
          · rw [if_pos h2, decide_eq_false h2]
            right
            exact ⟨rfl, rfl⟩
    · rw [if_neg h1, if_neg h1]
      exact .inl ⟨⟨_, rfl⟩, rfl⟩
theorem good_valid (f : Nat → Bool) (s : List UInt8) : ∀ n p, p ≤ s.length → s.length - p < n → good f s n p = true → Lib.validD (s.drop p) = true
  | 0, p, _, h, _ => by omega
  | n + 1, p, hp, h, hg => by
    by_cases h1 : p < s.length
    · unfold good at hg
      rw [if_pos h1] at hg
      simp only [Bool.and_eq_true, Bool.not_eq_true', decide_eq_false_iff_not] at hg
      have hn := nxp_gt h1
      rw [valid_at s p h1, if_neg hg.1.1]
      exact good_valid f s n (nxp s p) hn.2 (by omega) hg.2
    · rw [List.drop_eq_nil_of_le (by omega)]
      rfl
theorem signs_is (s : List UInt8) (slash : Bool) : signs_m s slash = good (fs slash) s (s.length + 1) 0 := by
  unfold signs_m valid_m
  cases hv : Lib.validD s with
  | false =>
    rw [if_pos (show (!false) = true from rfl)]
    cases hg : good (fs slash) s (s.length + 1) 0 with
    | false => rfl
    | true =>
      have := good_valid _ s _ 0 (Nat.zero_le _) (by omega) hg
      rw [List.drop_zero, hv] at this
      cases this
  | true =>
    rw [if_neg (by decide), Nat.sub_zero]
    rcases signs_loop s slash (s.length + 1) 0 (Nat.zero_le _) (by omega) hv with ⟨⟨y, h1⟩, h2⟩ | ⟨h1, h2⟩
    · rw [h1, h2]; rfl
    · rw [h1, h2]; rfl
/-! ### The document's runes -/
theorem dec_ff (s : List UInt8) (p : Nat) (h1 : (dec s p).1 = 65533) : (dec s p).2 = 1 ∨ ((dec s p).2 = 3 ∧ p + 3 ≤ s.length ∧ at0 s p = 239 ∧ at0 s (p + 1) = 191 ∧ at0 s (p + 2) = 189) := by
  have b0 := at0_lt s p
  have b1 := at0_lt s (p + 1)
  have b2 := at0_lt s (p + 2)
  rcases dec_cases s p with ⟨_, e⟩ | ⟨_, e⟩ | ⟨_, _, _, e, _⟩ | ⟨hl, c0, c1, c2, e, _⟩ | ⟨_, c0, c1, c2, c3, e, _, hv⟩
  · left; rw [e]
  · left; rw [e]
  · rw [e] at h1
    simp only at h1
    omega
  · rw [e] at h1
    simp only at h1
    right
    rw [e]
    exact ⟨rfl, hl, by omega, by omega, by omega⟩
  · rw [e] at h1
    simp only at h1
    omega
theorem dec_w (s : List UInt8) (p : Nat) (h1 : ¬ (dec s p).1 = 65533) : rsize_m (((dec s p).1 : Nat) : Int) = (((dec s p).2 : Nat) : Int) := by
  have b0 := at0_lt s p
  have b1 := at0_lt s (p + 1)
  have b2 := at0_lt s (p + 2)
  have b3 := at0_lt s (p + 3)
  unfold rsize_m
  rw [rune1_len]
  have key : ∀ c w : Nat, validR c → (w = if c < 128 then 1 else if c < 2048 then 2 else if c < 65536 then 3 else 4) → (((if Utf8.valid (c : Int) = true then (if ((c : Int)).toNat < 128 then 1 else if ((c : Int)).toNat < 2048 then 2 else if ((c : Int)).toNat < 65536 then 3 else 4) else 3 : Nat)) : Int) = (w : Int) := by
    intro c w hc hw
    rw [if_pos ((valid_iff c).2 hc), Int.toNat_natCast, hw]
  rcases dec_cases s p with ⟨c0, e⟩ | ⟨_, e⟩ | ⟨_, c0, c1, e, c2⟩ | ⟨hl, c0, c1, c2, e, c3, hv⟩ | ⟨_, c0, c1, c2, c3, e, c4, hv⟩
  · rw [e]; exact key _ _ (.inl (by omega)) (by rw [if_pos c0])
  · rw [e] at h1; exact absurd rfl h1
  · rw [e]; exact key _ _ (.inl (by omega)) (by rw [if_neg (by omega), if_pos (by omega)])
  · rw [e]; exact key _ _ hv (by rw [if_neg (by omega), if_neg (by omega), if_pos (by omega)])
  · rw [e]; exact key _ _ hv (by rw [if_neg (by omega), if_neg (by omega), if_neg (by omega)])
theorem three_at (s : List UInt8) (p : Nat) (h : p + 3 ≤ s.length) : (s.take (p + 3)).drop p = [s.getD p 0, s.getD (p + 1) 0, s.getD (p + 2) 0] := by
  apply List.ext_getElem?
  intro j
  rw [List.getElem?_drop, List.getElem?_take]
  match j with
  | 0 => rw [if_pos (by omega), List.getD_eq_getElem?_getD, Nat.add_zero, List.getElem?_eq_getElem (by omega)]; rfl
  | 1 => rw [if_pos (by omega), List.getD_eq_getElem?_getD, List.getElem?_eq_getElem (by omega)]; simp [List.getD_eq_getElem?_getD, List.getElem?_eq_getElem (show p + 1 < s.length by omega)]
  | 2 => rw [if_pos (by omega), List.getElem?_eq_getElem (by omega)]; simp [List.getD_eq_getElem?_getD, List.getElem?_eq_getElem (show p + 2 < s.length by omega)]
  | j + 3 => rw [if_neg (by omega)]; rfl
theorem three_iff (s : List UInt8) (p : Nat) (h : p + 3 ≤ s.length) : (s.take (p + 3)).drop p = [239, 191, 189] ↔ at0 s p = 239 ∧ at0 s (p + 1) = 191 ∧ at0 s (p + 2) = 189 := by
  rw [three_at s p h]
  unfold at0
  constructor
  · intro e
    simp only [List.cons.injEq, and_true] at e
    rw [e.1, e.2.1, e.2.2]
    exact ⟨rfl, rfl, rfl⟩
  · rintro ⟨h0, h1, h2⟩
    have e0 : s.getD p 0 = 239 := UInt8.toNat_inj.1 h0
    have e1 : s.getD (p + 1) 0 = 191 := UInt8.toNat_inj.1 h1
    have e2 : s.getD (p + 2) 0 = 189 := UInt8.toNat_inj.1 h2
    rw [e0, e1, e2]
theorem dec_fffd (s : List UInt8) (p : Nat) (hl : p + 3 ≤ s.length) (h0 : at0 s p = 239) (h1 : at0 s (p + 1) = 191) (h2 : at0 s (p + 2) = 189) : dec s p = (65533, 3) := by
  unfold dec Utf8.decode
  simp only [tx_get!, tx_size, Nat.add_zero, h0, h1, h2]
  have d1 : decide (p + 1 < s.length) = true := decide_eq_true (by omega)
  have d2 : decide (p + 2 < s.length) = true := decide_eq_true (by omega)
  rw [d1, d2]
  rfl
theorem rsign_not (r : Int) (h : r ≠ 65533) (n : Int) : rsign_m r n = sign_m r := by
  unfold rsign_m sign_m
  rw [if_neg h]
  by_cases h1 : 32 < r
  · rw [if_pos h1, if_pos h1]
    by_cases h2 : r = 127
    · rw [if_neg (fun e => e h2), if_pos (show ¬ r = 47 by omega), if_neg (fun e => e h2)]
    · rw [if_pos h2]
      by_cases h3 : r = 47
      · rw [if_neg (fun e => e h3), if_neg (fun e => e h3)]
      · rw [if_pos h3, if_pos h3, if_pos h2]
        by_cases h4 : 128 ≤ r
        · rw [if_pos h4, if_neg (by omega)]
          exact decide_eq_decide.2 (by omega)
        · rw [if_neg h4, if_pos (by omega)]
  · rw [if_neg h1, if_neg h1]
/-- What the document's round does. -/
theorem step_ff {β : Type} (s : List UInt8) (p : Nat) (h1 : (dec s p).1 = 65533) (A B C : β) :
    (if (((s.length : Nat) : Int) - (p : Int)) < 3 then A else if ¬ ((s.take (((p : Int) + (3 : Int)).toNat)).drop (p : Int).toNat) = [239, 191, 189] then B else C) = if dec s p = (65533, 1) then (if (((s.length : Nat) : Int) - (p : Int)) < 3 then A else B) else C := by
  have e1 : ((p : Int) + (3 : Int)).toNat = p + 3 := by omega
  have e2 : (p : Int).toNat = p := by omega
  rw [e1, e2]
  rcases dec_ff s p h1 with h2 | ⟨h2, hl, c0, c1, c2⟩
  · have hd : dec s p = (65533, 1) := Prod.ext h1 h2
    rw [if_pos hd]
    by_cases h3 : (((s.length : Nat) : Int) - (p : Int)) < 3
    · rw [if_pos h3, if_pos h3]
    · rw [if_neg h3, if_neg h3, if_pos]
      intro e
      obtain ⟨c0, c1, c2⟩ := (three_iff s p (by omega)).1 e
      have := dec_fffd s p (by omega) c0 c1 c2
      rw [hd] at this
      cases this
  · rw [if_neg (show ¬ dec s p = (65533, 1) from fun e => by rw [e] at h2; cases h2), if_neg (by omega), if_neg (fun e => e ((three_iff s p hl).2 ⟨c0, c1, c2⟩))]
theorem rpart_loop (s : List UInt8) : ∀ n p, p ≤ s.length → s.length - p < n →
    ((∃ y z, rpart_m_l0 s n (p, (p : Int)) = .inl (y, z)) ∧ good (fs false) s n p = true) ∨ (rpart_m_l0 s n (p, (p : Int)) = .inr false ∧ good (fs false) s n p = false)
  | 0, p, _, h => by omega
  | n + 1, p, hp, h => by
    have E : rpart_m_l0 s (n + 1) (p, (p : Int)) = rpart_m_b0 s (rpart_m_l0 s n) p (p : Int) := rfl
    rw [E]
    unfold rpart_m_b0 good
    by_cases h1 : p < s.length
    · rw [if_pos h1, if_pos h1]
      have hn := nxp_gt h1
      have ih := rpart_loop s n (nxp s p) hn.2 (by omega)
      by_cases h2 : (dec s p).1 = 65533
      · rw [if_pos h2, step_ff s p h2]
        by_cases h3 : dec s p = (65533, 1)
        · rw [if_pos h3, decide_eq_true h3, h3]
          right
          have e : rsign_m ((65533 : Nat) : Int) 1 = false := by decide
          refine ⟨?_, rfl⟩
          show (if _ then (if (!(rsign_m ((65533 : Nat) : Int) 1)) = true then _ else _) else (if (!(rsign_m ((65533 : Nat) : Int) 1)) = true then _ else _)) = _
          rw [e]
          split <;> rfl
        · have hw : (dec s p).2 = 3 := by
            rcases dec_ff s p h2 with h4 | h4
            · exact absurd (Prod.ext h2 h4) h3
            · exact h4.1
          rw [if_neg h3, decide_eq_false h3, h2]
          have e : rsign_m ((65533 : Nat) : Int) (rsize_m ((65533 : Nat) : Int)) = true := by decide
          have e2 : rsize_m ((65533 : Nat) : Int) = 3 := by decide
          have e3 : (p : Int) + rsize_m ((65533 : Nat) : Int) = ((nxp s p : Nat) : Int) := by rw [nxp_lt h1, hw, e2]; rfl
          have e4 : fs false 65533 = true := by decide
          rw [e, e3, e4]
          rw [if_neg (by decide)]
          simpa using ih
      · rw [if_neg h2, decide_eq_false (fun e => h2 (by rw [e]))]
        have e3 : (p : Int) + rsize_m (((dec s p).1 : Nat) : Int) = ((nxp s p : Nat) : Int) := by rw [nxp_lt h1, dec_w s p h2]; rfl
        rw [e3, rsign_not _ (by omega)]
        have hf : fs false (dec s p).1 = sign_m (((dec s p).1 : Nat) : Int) := by unfold fs; rw [Bool.false_and, Bool.or_false]
        rw [hf]
        cases hs : sign_m (((dec s p).1 : Nat) : Int) with
        | true =>
          rw [if_neg (by decide)]
          simpa using ih
        | false =>
          rw [if_pos (show (!false) = true from rfl)]
          exact .inr ⟨rfl, rfl⟩
    · rw [if_neg h1, if_neg h1]
      exact .inl ⟨⟨_, _, rfl⟩, rfl⟩
theorem rtarget_loop (s : List UInt8) : ∀ n p, p ≤ s.length → s.length - p < n →
    ((∃ y z, rtarget_m_l0 s n (p, (p : Int)) = .inl (y, z)) ∧ good (fs true) s n p = true) ∨ (rtarget_m_l0 s n (p, (p : Int)) = .inr false ∧ good (fs true) s n p = false)
  | 0, p, _, h => by omega
  | n + 1, p, hp, h => by
    have E : rtarget_m_l0 s (n + 1) (p, (p : Int)) = rtarget_m_b0 s (rtarget_m_l0 s n) p (p : Int) := rfl
    rw [E]
    unfold rtarget_m_b0 good
    by_cases h1 : p < s.length
    · rw [if_pos h1, if_pos h1]
      have hn := nxp_gt h1
      have ih := rtarget_loop s n (nxp s p) hn.2 (by omega)
      by_cases h2 : (dec s p).1 = 65533
      · rw [if_pos h2, step_ff s p h2]
        by_cases h3 : dec s p = (65533, 1)
        · rw [if_pos h3, decide_eq_true h3, h3]
          right
          have e : rsign_m ((65533 : Nat) : Int) 1 = false := by decide
          refine ⟨?_, rfl⟩
          show (if _ then (if ¬ (65533 : Nat) = 47 then (if (!(rsign_m ((65533 : Nat) : Int) 1)) = true then _ else _) else _) else (if ¬ (65533 : Nat) = 47 then (if (!(rsign_m ((65533 : Nat) : Int) 1)) = true then _ else _) else _)) = _
          rw [e]
          split <;> rfl
        · have hw : (dec s p).2 = 3 := by
            rcases dec_ff s p h2 with h4 | h4
            · exact absurd (Prod.ext h2 h4) h3
            · exact h4.1
          rw [if_neg h3, decide_eq_false h3, h2]
          have e : rsign_m ((65533 : Nat) : Int) (rsize_m ((65533 : Nat) : Int)) = true := by decide
          have e2 : rsize_m ((65533 : Nat) : Int) = 3 := by decide
          have e3 : (p : Int) + rsize_m ((65533 : Nat) : Int) = ((nxp s p : Nat) : Int) := by rw [nxp_lt h1, hw, e2]; rfl
          have e4 : fs true 65533 = true := by decide
          rw [e, e3, e4, if_pos (show ¬ (65533 : Nat) = 47 by decide), if_neg (by decide)]
          simpa using ih
      · rw [if_neg h2, decide_eq_false (fun e => h2 (by rw [e]))]
        have e3 : (p : Int) + rsize_m (((dec s p).1 : Nat) : Int) = ((nxp s p : Nat) : Int) := by rw [nxp_lt h1, dec_w s p h2]; rfl
        rw [e3, rsign_not _ (by omega)]
        have hf : fs true (dec s p).1 = (sign_m (((dec s p).1 : Nat) : Int) || decide ((dec s p).1 = 47)) := by unfold fs; rw [Bool.true_and]
        rw [hf]
        by_cases h4 : (dec s p).1 = 47
        · rw [if_neg (fun e => e h4), decide_eq_true h4, Bool.or_true]
          simpa using ih
        · rw [if_pos h4, decide_eq_false h4, Bool.or_false]
          cases hs : sign_m (((dec s p).1 : Nat) : Int) with
          | true =>
            rw [if_neg (by decide)]
            simpa using ih
          | false =>
            rw [if_pos (show (!false) = true from rfl)]
            exact .inr ⟨rfl, rfl⟩
    · rw [if_neg h1, if_neg h1]
      exact .inl ⟨⟨_, _, rfl⟩, rfl⟩
theorem rpart_is (s : List UInt8) : rpart_m s = part_m s := by
  unfold rpart_m part_m
  rw [signs_is]
  by_cases h0 : s = []
  · rw [if_pos h0, if_neg (by rw [h0]; decide)]
  have hl : 1 ≤ s.length := by
    cases s with
    | nil => exact absurd rfl h0
    | cons a r => simp
  rw [if_neg h0, if_pos hl]
  by_cases h1 : 64 < s.length
  · rw [if_pos h1, if_neg (show ¬ s.length ≤ 64 by omega)]
  rw [if_neg h1, if_pos (show s.length ≤ 64 by omega)]
  by_cases h2 : s = [46]
  · rw [if_pos h2, if_neg (fun e => e h2)]
  rw [if_neg h2, if_pos h2]
  by_cases h3 : s = [46, 46]
  · rw [if_pos h3, if_neg (fun e => e h3)]
  rw [if_neg h3, if_pos h3, Nat.sub_zero]
  rcases rpart_loop s (s.length + 1) 0 (Nat.zero_le _) (by omega) with ⟨⟨y, z, h4⟩, h5⟩ | ⟨h4, h5⟩
  · rw [show ((0 : Int)) = ((0 : Nat) : Int) from rfl, h4, h5]; rfl
  · rw [show ((0 : Int)) = ((0 : Nat) : Int) from rfl, h4, h5]; rfl
theorem rtarget_is (s : List UInt8) : rtarget_m s = target_m s := by
  unfold rtarget_m target_m
  rw [signs_is]
  by_cases h0 : s = []
  · rw [if_pos h0, if_neg (by rw [h0]; decide)]
  have hl : 1 ≤ s.length := by
    cases s with
    | nil => exact absurd rfl h0
    | cons a r => simp
  rw [if_neg h0, if_pos hl]
  by_cases h1 : 200 < s.length
  · rw [if_pos h1, if_neg (by omega)]
  rw [if_neg h1, if_pos (by omega), Nat.sub_zero]
  rcases rtarget_loop s (s.length + 1) 0 (Nat.zero_le _) (by omega) with ⟨⟨y, z, h4⟩, h5⟩ | ⟨h4, h5⟩
  · rw [show ((0 : Int)) = ((0 : Nat) : Int) from rfl, h4, h5]; rfl
  · rw [show ((0 : Int)) = ((0 : Nat) : Int) from rfl, h4, h5]; rfl
/-! ### Paths -/
theorem not_true' {b : Bool} : (!b) = true ↔ ¬ b = true := by cases b <;> decide
theorem parts_is (s : List UInt8) : parts_m s = if 200 < s.length then ([], 3) else if ∀ x ∈ sp 47 s, part_m x = true then (if 16 < (sp 47 s).length then ([], 3) else (sp 47 s, 0)) else ([], 4) := by
  unfold parts_m
  by_cases h0 : 200 < s.length
  · rw [if_pos h0, if_pos h0]
  rw [if_neg h0, if_neg h0, split_is]
  have A1 : ∀ n i, i < (sp 47 s).length → ¬ part_m ((sp 47 s).getD i []) = true → parts_m_l0 s (n + 1) i = .inr (([] : List (List UInt8)), 4) := by
    intro n i hi h
    show parts_m_b0 s _ i = _
    unfold parts_m_b0
    rw [split_is, if_pos hi, if_pos (not_true'.2 h)]
  have A2 : ∀ n i, i < (sp 47 s).length → ¬ ¬ part_m ((sp 47 s).getD i []) = true → parts_m_l0 s (n + 1) i = parts_m_l0 s n (i + 1) := by
    intro n i hi h
    show parts_m_b0 s _ i = _
    unfold parts_m_b0
    rw [split_is, if_pos hi, if_neg (fun e => h (not_true'.1 e))]
  have A3 : ∀ n i, (sp 47 s).length ≤ i → parts_m_l0 s (n + 1) i = .inl i := by
    intro n i hi
    show parts_m_b0 s _ i = _
    unfold parts_m_b0
    rw [split_is, if_neg (by omega)]
  by_cases h1 : ∀ x ∈ sp 47 s, part_m x = true
  · rw [if_pos h1]
    have h2 := (forall_get [] (fun x => part_m x = true) (sp 47 s)).2 h1
    rw [loop_none A1 A2 A3 _ 0 (Nat.zero_le _) (Nat.lt_succ_self _) (fun k _ hk h => h (h2 k hk))]
    show parts_m_k0 s (sp 47 s).length = _
    unfold parts_m_k0
    rw [split_is]
  · rw [if_neg h1]
    have h2 := fun h => h1 ((forall_get [] (fun x => part_m x = true) (sp 47 s)).1 h)
    rw [loop_some A1 A2 _ 0 (Nat.lt_succ_self _) (ex_not h2)]
    rfl
theorem rparts_is (s : List UInt8) : rparts_m s = parts_m s := by
  rw [parts_is]
  unfold rparts_m
  by_cases h0 : 200 < s.length
  · rw [if_pos h0, if_pos h0]
  rw [if_neg h0, if_neg h0, rsplit_is]
  have A1 : ∀ n i, i < (sp 47 s).length → ¬ part_m ((sp 47 s).getD i []) = true → rparts_m_l0 s (n + 1) i = .inr (([] : List (List UInt8)), 4) := by
    intro n i hi h
    show rparts_m_b0 s _ i = _
    unfold rparts_m_b0
    rw [rsplit_is, if_pos hi, rpart_is, if_pos (not_true'.2 h)]
  have A2 : ∀ n i, i < (sp 47 s).length → ¬ ¬ part_m ((sp 47 s).getD i []) = true → rparts_m_l0 s (n + 1) i = rparts_m_l0 s n (i + 1) := by
    intro n i hi h
    show rparts_m_b0 s _ i = _
    unfold rparts_m_b0
    rw [rsplit_is, if_pos hi, rpart_is, if_neg (fun e => h (not_true'.1 e))]
  have A3 : ∀ n i, (sp 47 s).length ≤ i → rparts_m_l0 s (n + 1) i = .inl i := by
    intro n i hi
    show rparts_m_b0 s _ i = _
    unfold rparts_m_b0
    rw [rsplit_is, if_neg (by omega)]
  by_cases h1 : ∀ x ∈ sp 47 s, part_m x = true
  · rw [if_pos h1]
    have h2 := (forall_get [] (fun x => part_m x = true) (sp 47 s)).2 h1
    rw [loop_none A1 A2 A3 _ 0 (Nat.zero_le _) (Nat.lt_succ_self _) (fun k _ hk h => h (h2 k hk))]
    show rparts_m_k0 s (sp 47 s).length = _
    unfold rparts_m_k0
    rw [rsplit_is]
  · rw [if_neg h1]
    have h2 := fun h => h1 ((forall_get [] (fun x => part_m x = true) (sp 47 s)).1 h)
    rw [loop_some A1 A2 _ 0 (Nat.lt_succ_self _) (ex_not h2)]
    rfl
theorem parts_len (s : List UInt8) : (parts_m s).1.length ≤ 201 := by
  rw [parts_is]
  split
  · simp
  split
  · split
    · simp
    · have := (sp_len 47 s).1
      simp only
      omega
  · simp
/-! ### Joining -/
theorem sp_cons (c x : UInt8) (r : List UInt8) : sp c (x :: r) = if x = c then [] :: sp c r else (x :: (sp c r).headD []) :: (sp c r).tail := rfl
theorem sp_app (c : UInt8) (b : List UInt8) : ∀ a : List UInt8, sp c (a ++ c :: b) = sp c a ++ sp c b
  | [] => by
    rw [List.nil_append, sp_cons, if_pos rfl]
    rfl
  | x :: a => by
    have ih := sp_app c b a
    rw [List.cons_append, sp_cons, sp_cons, ih]
    by_cases h : x = c
    · rw [if_pos h, if_pos h]; rfl
    · rw [if_neg h, if_neg h]
      cases hs : sp c a with
      | nil => exact absurd hs (sp_ne c a)
      | cons y t => rfl
theorem sp_none (c : UInt8) : ∀ s : List UInt8, c ∉ s → sp c s = [s]
  | [], _ => rfl
  | x :: r, h => by
    have h1 : ¬ x = c := fun e => h (by simp [e])
    unfold sp
    rw [if_neg h1, sp_none c r (fun e => h (by simp [e]))]
    rfl
theorem sp_not (c : UInt8) : ∀ (s x : List UInt8), x ∈ sp c s → c ∉ x
  | [], x, h => by
    simp only [sp, List.mem_singleton] at h
    subst h
    simp
  | y :: r, x, h => by
    unfold sp at h
    by_cases h1 : y = c
    · rw [if_pos h1] at h
      rcases List.mem_cons.1 h with h | h
      · rw [h]; simp
      · exact sp_not c r x h
    · rw [if_neg h1] at h
      cases hs : sp c r with
      | nil => exact absurd hs (sp_ne c r)
      | cons z t =>
        rw [hs] at h
        rcases List.mem_cons.1 h with h | h
        · rw [h]
          have := sp_not c r z (by rw [hs]; simp)
          intro e
          rcases List.mem_cons.1 e with e | e
          · exact h1 e.symm
          · exact this e
        · exact sp_not c r x (by rw [hs]; simp at h ⊢; exact .inr h)
/-- Texts with a stroke between. -/
def jn : List (List UInt8) → List UInt8
  | [] => []
  | [x] => x
  | x :: r => x ++ 47 :: jn r
theorem jn_cons (x : List UInt8) {r : List (List UInt8)} (h : r ≠ []) : jn (x :: r) = x ++ 47 :: jn r := by
  cases r with
  | nil => exact absurd rfl h
  | cons y t => rfl
theorem join_is : ∀ l : List (List UInt8), join_m l [47] = jn l
  | [] => rfl
  | [x] => Lib.join_one x _
  | x :: y :: r => by
    rw [jn_cons x (by simp), ← join_is (y :: r)]
    unfold join_m
    rw [Lib.join_cons, Lib.join_cons]
    simp [Lib.joinTail]
theorem jn_sp : ∀ s : List UInt8, jn (sp 47 s) = s
  | [] => rfl
  | x :: r => by
    have ih := jn_sp r
    unfold sp
    by_cases h : x = 47
    · rw [if_pos h, jn_cons _ (sp_ne 47 r), ih, h]; rfl
    · rw [if_neg h]
      cases hs : sp 47 r with
      | nil => exact absurd hs (sp_ne 47 r)
      | cons y t =>
        rw [hs] at ih
        cases t with
        | nil =>
          show (x :: y) = _
          have : jn [y] = y := rfl
          rw [← ih, this]
        | cons z t =>
          rw [jn_cons _ (by simp)] at ih
          show jn ((x :: y) :: z :: t) = _
          rw [jn_cons _ (by simp), ← ih]
          rfl
theorem sp_jn : ∀ l : List (List UInt8), l ≠ [] → (∀ x ∈ l, (47 : UInt8) ∉ x) → sp 47 (jn l) = l
  | [], h, _ => absurd rfl h
  | [x], _, h => sp_none 47 x (h x (by simp))
  | x :: y :: r, _, h => by
    rw [jn_cons x (by simp), sp_app, sp_none 47 x (h x (by simp)), sp_jn (y :: r) (by simp) (fun z hz => h z (by simp at hz ⊢; exact .inr hz))]
    rfl
theorem jn_snoc (y : List UInt8) : ∀ l : List (List UInt8), l ≠ [] → jn (l ++ [y]) = jn l ++ 47 :: y
  | [], h => absurd rfl h
  | [x], _ => rfl
  | x :: z :: r, _ => by
    rw [List.cons_append, jn_cons x (by simp), jn_cons x (by simp), jn_snoc y (z :: r) (by simp)]
    simp
theorem jn_take (l : List (List UInt8)) (i : Nat) (hi : i < l.length) (h : 0 < i) : jn (l.take (i + 1)) = jn (l.take i) ++ [47] ++ l.getD i [] := by
  have h0 : l.take i ≠ [] := by
    intro e
    have h' : (l.take i).length = i := by rw [List.length_take]; omega
    rw [e] at h'
    simp at h'
    omega
  rw [take_snoc l i hi [], jn_snoc _ _ h0]
  simp
theorem rjoin_loop (l : List (List UInt8)) : ∀ n i, i ≤ l.length → l.length - i < n → rjoin_m_l0 l n (jn (l.take i), i) = .inl (jn l, l.length)
  | 0, i, _, h => by omega
  | n + 1, i, hi, h => by
    have E : rjoin_m_l0 l (n + 1) (jn (l.take i), i) = rjoin_m_b0 l (rjoin_m_l0 l n) (jn (l.take i)) i := rfl
    rw [E]
    unfold rjoin_m_b0
    by_cases h1 : i < l.length
    · rw [if_pos h1]
      by_cases h2 : 0 < i
      · rw [if_pos h2, ← jn_take l i h1 h2]
        exact rjoin_loop l n (i + 1) h1 (by omega)
      · obtain rfl : i = 0 := by omega
        rw [if_neg h2]
        have e : jn (l.take 0) ++ l.getD 0 [] = jn (l.take (0 + 1)) := by
          rw [take_snoc l 0 h1 []]; rfl
        rw [e]
        exact rjoin_loop l n (0 + 1) h1 (by omega)
    · obtain rfl : i = l.length := by omega
      rw [if_neg h1, List.take_length]
theorem rjoin_is (l : List (List UInt8)) : rjoin_m l = jn l := by
  unfold rjoin_m
  have h := rjoin_loop l ((l.length - 0) + 1) 0 (Nat.zero_le _) (by omega)
  rw [List.take_zero] at h
  rw [show (([] : List UInt8), 0) = (jn [], 0) from rfl, h]
  rfl
theorem pjoin_is (l : List (List UInt8)) : pjoin_m l = jn l := join_is l
/-! ### What a path stands in -/
theorem cut_last : ∀ s : List UInt8, (47 : UInt8) ∉ s ∨ ∃ a b, s = a ++ 47 :: b ∧ (47 : UInt8) ∉ b
  | [] => .inl (by simp)
  | x :: r => by
    rcases cut_last r with h | ⟨a, b, rfl, h⟩
    · by_cases hx : x = 47
      · exact .inr ⟨[], r, by rw [hx]; rfl, h⟩
      · left
        intro e
        rcases List.mem_cons.1 e with e | e
        · exact hx e.symm
        · exact h e
    · exact .inr ⟨x :: a, b, rfl, h⟩
theorem at_mem {s : List UInt8} {i : Nat} (h : i < s.length) : s.getD i 0 ∈ s := by
  rw [List.getD_eq_getElem?_getD, List.getElem?_eq_getElem h]
  exact List.getElem_mem h
theorem lix_none {s : List UInt8} (h : (47 : UInt8) ∉ s) : lix_m s (UInt8.ofNat 47) = -1 := by
  unfold lix_m
  rcases Lib.lastIndexByte_spec (tx s) ((UInt8.ofNat 47).toNat : Int) with ⟨h1, _⟩ | ⟨i, h1, _, h3, _⟩
  · exact h1
  · rw [tx_size] at h1
    exfalso
    apply h
    have e : s.getD i 0 = 47 := by
      apply UInt8.toNat_inj.1
      have : ((tx s).data[i]!).toNat = at0 s i := tx_get! s i
      rw [this] at h3
      unfold at0 at h3
      exact Int.ofNat.inj h3
    rw [← e]
    exact at_mem h1
theorem lix_some {a b : List UInt8} (h : (47 : UInt8) ∉ b) : lix_m (a ++ 47 :: b) (UInt8.ofNat 47) = a.length := by
  unfold lix_m
  have hat : ∀ i, ((tx (a ++ 47 :: b)).data[i]!).toNat = at0 (a ++ 47 :: b) i := fun i => tx_get! _ i
  rcases Lib.lastIndexByte_spec (tx (a ++ 47 :: b)) ((UInt8.ofNat 47).toNat : Int) with ⟨_, h1⟩ | ⟨i, h1, h2, h3, h4⟩
  · exfalso
    refine h1 a.length (by rw [tx_size]; simp) ?_
    rw [hat]
    unfold at0
    simp
  · rw [h2]
    rw [tx_size] at h1
    rcases Nat.lt_trichotomy i a.length with h5 | h5 | h5
    · exfalso
      refine h4 a.length h5 (by rw [tx_size]; simp) ?_
      rw [hat]
      unfold at0
      simp
    · rw [h5]
    · exfalso
      apply h
      rw [hat] at h3
      have e : (a ++ 47 :: b).getD i 0 = 47 := UInt8.toNat_inj.1 (Int.ofNat.inj h3)
      obtain ⟨k, rfl⟩ : ∃ k, i = a.length + 1 + k := ⟨i - (a.length + 1), by omega⟩
      have e2 : (a ++ 47 :: b).getD (a.length + 1 + k) 0 = b.getD k 0 := by
        rw [List.getD_eq_getElem?_getD, List.getElem?_append_right (by omega), List.getD_eq_getElem?_getD]
        rw [show a.length + 1 + k - a.length = k + 1 by omega]
        rfl
      rw [e2] at e
      have hk : k < b.length := by simp at h1; omega
      rw [← e]
      exact at_mem hk
theorem parent_none {s : List UInt8} (h : (47 : UInt8) ∉ s) : parent_m s = [] := by
  unfold parent_m
  rw [lix_none h, if_pos (by decide)]
theorem parent_some {a b : List UInt8} (h : (47 : UInt8) ∉ b) : parent_m (a ++ 47 :: b) = a := by
  unfold parent_m
  rw [lix_some h, if_neg (by omega)]
  simp
theorem rparent_is (s : List UInt8) : rparent_m s = parent_m s := by
  unfold rparent_m
  rw [rsplit_is, rjoin_is]
  rcases cut_last s with h | ⟨a, b, rfl, h⟩
  · rw [parent_none h, sp_none 47 s h]
    rfl
  · rw [parent_some h, sp_app, sp_none 47 b h]
    have e : (((sp 47 a ++ [b]).length : Nat) : Int) - 1 = ((sp 47 a).length : Int) := by simp
    rw [e, Int.toNat_natCast, List.take_left]
    exact jn_sp a
theorem cut_head : ∀ s : List UInt8, (cut_m s [47]).1 = (sp 47 s).headD []
  | [] => by
    unfold cut_m Lib.cut
    rw [Lib.index_one]
    rfl
  | x :: r => by
    have ih := cut_head r
    unfold cut_m Lib.cut at ih ⊢
    rw [Lib.index_one] at ih ⊢
    rw [sp_cons]
    by_cases h : x = 47
    · subst h
      simp [Lib.indexByte]
    · rw [ibn 47 x r h, if_neg h]
      have hge := Lib.indexByte_ge r 47
      by_cases h2 : Lib.indexByte r 47 = -1
      · rw [if_pos h2, if_neg (by decide)]
        rw [h2, if_neg (by decide)] at ih
        simp only at ih ⊢
        rw [← ih]; rfl
      · rw [if_neg h2, if_pos (by omega)]
        rw [if_pos (by omega)] at ih
        simp only at ih ⊢
        rw [← ih, show (Lib.indexByte r 47 + 1).toNat = (Lib.indexByte r 47).toNat + 1 by omega]
        rfl
theorem rown_is : rown_m = own_m := rfl
theorem reserved_is (s : List UInt8) : reserved_m s = decide ((sp 47 s).headD [] = own_m) := by
  unfold reserved_m
  rw [cut_head]
theorem rreserved_is (s : List UInt8) : rreserved_m s = reserved_m s := by
  rw [reserved_is]
  unfold rreserved_m
  rw [rsplit_is]
  cases hs : sp 47 s with
  | nil => exact absurd hs (sp_ne 47 s)
  | cons y t => rfl
/-! ### How long what is told is -/
theorem parts_ok {s : List UInt8} (h : (parts_m s).2 = 0) : s.length ≤ 200 ∧ (∀ x ∈ sp 47 s, part_m x = true) ∧ (sp 47 s).length ≤ 16 ∧ parts_m s = (sp 47 s, 0) := by
  rw [parts_is] at h ⊢
  by_cases h0 : 200 < s.length
  · rw [if_pos h0] at h; exact absurd h (by decide)
  rw [if_neg h0] at h ⊢
  by_cases h1 : ∀ x ∈ sp 47 s, part_m x = true
  · rw [if_pos h1] at h ⊢
    by_cases h2 : 16 < (sp 47 s).length
    · rw [if_pos h2] at h; exact absurd h (by decide)
    · rw [if_neg h2]
      exact ⟨by omega, h1, by omega, rfl⟩
  · rw [if_neg h1] at h; exact absurd h (by decide)
theorem parts_no {s : List UInt8} (h : ¬ (parts_m s).2 = 0) : (parts_m s).1 = [] := by
  rw [parts_is] at h ⊢
  split
  · rfl
  · rename_i h0
    rw [if_neg h0] at h
    split
    · rename_i h1
      rw [if_pos h1] at h
      split
      · rfl
      · rename_i h2
        rw [if_neg h2] at h
        exact absurd rfl h
    · rfl
theorem part_len {x : List UInt8} (h : part_m x = true) : 1 ≤ x.length ∧ x.length ≤ 64 ∧ x ≠ [46] ∧ x ≠ [46, 46] ∧ signs_m x false = true := by
  unfold part_m at h
  by_cases h1 : 1 ≤ x.length
  · rw [if_pos h1] at h
    by_cases h2 : x.length ≤ 64
    · rw [if_pos h2] at h
      by_cases h3 : x = [46]
      · rw [if_neg (fun e => e h3)] at h; cases h
      rw [if_pos h3] at h
      by_cases h4 : x = [46, 46]
      · rw [if_neg (fun e => e h4)] at h; cases h
      rw [if_pos h4] at h
      exact ⟨h1, h2, h3, h4, h⟩
    · rw [if_neg h2] at h; cases h
  · rw [if_neg h1] at h; cases h
theorem parts_facts (s : List UInt8) : (parts_m s).1.length ≤ 201 ∧ (join_m (parts_m s).1 [47]).length ≤ s.length ∧ ((parts_m s).2 ≠ 0 ∨ (s.length ≤ 200 ∧ 1 ≤ s.length ∧ 1 ≤ (parts_m s).1.length ∧ (parts_m s).1.length ≤ 16)) := by
  refine ⟨parts_len s, ?_⟩
  by_cases h : (parts_m s).2 = 0
  · obtain ⟨h1, h2, h3, h4⟩ := parts_ok h
    rw [h4, join_is, jn_sp]
    refine ⟨Nat.le_refl _, .inr ⟨h1, ?_, (sp_len 47 s).2, h3⟩⟩
    cases s with
    | nil => exact absurd (part_len (h2 [] (by simp [sp]))).1 (by decide)
    | cons a r => simp
  · rw [parts_no h]
    exact ⟨Nat.zero_le _, .inl h⟩
theorem parent_len (s : List UInt8) : (parent_m s).length ≤ s.length := by
  unfold parent_m
  split
  · simp
  · rw [List.length_take]; omega
theorem jn_len : ∀ l : List (List UInt8), (jn l).length ≤ tot l + l.length
  | [] => by simp [jn]
  | [x] => by rw [tot_cons]; simp [jn]; omega
  | x :: y :: r => by
    have h := jn_len (y :: r)
    rw [jn_cons x (by simp), tot_cons]
    simp only [List.length_append, List.length_cons] at h ⊢
    omega
theorem tot_max (m : Nat) : ∀ l : List (List UInt8), (∀ x ∈ l, x.length ≤ m) → tot l ≤ l.length * m
  | [], _ => by simp [tot]
  | x :: l, h => by
    have h1 := tot_max m l (fun y hy => h y (by simp [hy]))
    have h2 := h x (by simp)
    rw [tot_cons, List.length_cons, Nat.add_mul, Nat.one_mul]
    omega
theorem back_len (l : List (List UInt8)) (i : Nat) (h : ∀ k, k < i → part_m (l.getD k []) = true) (hi : l.length ≤ i) (hl : l.length ≤ 16) : (join_m l [47]).length ≤ 140737488355328 := by
  have h1 := jn_len l
  have h2 := tot_max 64 l ((forall_get [] (fun x => x.length ≤ 64) l).1 (fun k hk => (part_len (h k (by omega))).2.1))
  rw [join_is]
  have h3 : l.length * 64 ≤ 16 * 64 := Nat.mul_le_mul_right _ hl
  omega
theorem parts_el (s : List UInt8) (k : Nat) : ((parts_m s).1.getD k []).length ≤ 64 := by
  rw [List.getD_eq_getElem?_getD]
  cases hk : (parts_m s).1[k]? with
  | none => simp
  | some x =>
    have hx := List.mem_of_getElem? hk
    by_cases h : (parts_m s).2 = 0
    · obtain ⟨_, h2, _, h4⟩ := parts_ok h
      rw [h4] at hx
      exact (part_len (h2 x hx)).2.1
    · rw [parts_no h] at hx
      cases hx
theorem joins_len (l : List (List UInt8)) (i : Nat) (x : Nat) (h : x = tot (l.take i) ∧ x ≤ 100000 ∧ l.length ≤ i) (hl : l.length ≤ 8796093022207) : (join_m l [47]).length ≤ 140737488355328 := by
  have h1 := jn_len l
  obtain ⟨h2, h3, hi⟩ := h
  rw [List.take_of_length_le hi] at h2
  rw [join_is]
  omega
theorem joins_tot (l : List (List UInt8)) (i : Nat) (x : Nat) (h : x = tot (l.take i) ∧ x ≤ 100000 ∧ l.length ≤ i) : tot l ≤ 140737488355328 := by
  obtain ⟨h2, h3, hi⟩ := h
  rw [List.take_of_length_le hi] at h2
  omega
end Go.Proofs.YtdohmmdfenafnaaDoor.Pa
