/- Layer 12: what the document's functions give, in plain words. -/
import Derived.Test.YtpbenhfnebgbiaaDoorVeC
import Derived.Test.YtpbenhfnebgbiaaDoorVeS
namespace Go.Proofs.YtpbenhfnebgbiaaDoor.Ve
open Go.Proofs.YtpbenhfnebgbiaaDoor.Mem Go.Proofs.YtpbenhfnebgbiaaDoor.VeS
/-- A sign that may stand at a place. -/
def okr (p r : Nat) : Prop := (48 ≤ r ∧ r ≤ 57) ∨ (97 ≤ r ∧ r ≤ 122) ∨ (65 ≤ r ∧ r ≤ 90) ∨ (p ≠ 0 ∧ (r = 46 ∨ r = 45 ∨ r = 43 ∨ r = 126 ∨ r = 95))
instance (p r : Nat) : Decidable (okr p r) := by unfold okr; infer_instance
/-- What may be a version. -/
def vok (s : List UInt8) : Prop := s ≠ [] ∧ s.length ≤ 24 ∧ ∀ i, i < s.length → okr i (at0 s i)
theorem rletter_is (r : Int) : rletter_m r = decide ((97 ≤ r ∧ r ≤ 122) ∨ (65 ≤ r ∧ r ≤ 90)) := by
  unfold rletter_m
  repeat' split
  all_goals first
    | exact (decide_eq_true (by omega)).symm
    | exact (decide_eq_false (by omega)).symm
    | exact decide_eq_decide.2 (by omega)
/-- Whether all signs from a place on may be. -/
def chk (s : List UInt8) : Nat → Nat → Bool
  | 0, _ => true
  | n + 1, p => if p < s.length then if okr p (dec s p).1 then chk s n (nxp s p) else false else true
theorem not_okr {p r : Nat} (h : 128 ≤ r) : ¬ okr p r := by unfold okr; omega
theorem chk_iff (s : List UInt8) : ∀ n p, s.length - p < n → (chk s n p = true ↔ ∀ i, p ≤ i → i < s.length → okr i (at0 s i))
  | 0, p, h => by omega
  | n + 1, p, h => by
    unfold chk
    by_cases hp : p < s.length
    · rw [if_pos hp]
      have hi : 128 ≤ at0 s p → 128 ≤ (dec s p).1 → ((if okr p (dec s p).1 then chk s n (nxp s p) else false) = true ↔ ∀ i, p ≤ i → i < s.length → okr i (at0 s i)) := by
        intro h1 h2
        rw [if_neg (not_okr h2)]
        exact ⟨(fun e => by cases e), fun e => absurd (e p (Nat.le_refl _) hp) (not_okr h1)⟩
      rcases dec_cases s p with ⟨h1, h2⟩ | ⟨h1, h2⟩ | ⟨_, h1, _, h2, h3⟩ | ⟨_, h1, _, _, h2, h3, _⟩ | ⟨_, h1, _, _, _, h2, h3, _⟩
      · have e : nxp s p = p + 1 := by rw [nxp_lt hp, h2]
        rw [h2, e]
        show (if okr p (at0 s p) then chk s n (p + 1) else false) = true ↔ _
        have ih := chk_iff s n (p + 1) (by omega)
        by_cases ho : okr p (at0 s p)
        · rw [if_pos ho, ih]
          constructor
          · intro k i h3 h4
            by_cases e3 : i = p
            · subst e3; exact ho
            · exact k i (by omega) h4
          · intro k i h3 h4
            exact k i (by omega) h4
        · rw [if_neg ho]
          exact ⟨(fun e => by cases e), fun e => absurd (e p (Nat.le_refl _) hp) ho⟩
      · exact hi h1 (by rw [h2]; show 128 ≤ 65533; omega)
      · exact hi (by omega) (by rw [h2]; exact h3)
      · exact hi (by omega) (by rw [h2]; show 128 ≤ _; omega)
      · exact hi (by omega) (by rw [h2]; show 128 ≤ _; omega)
    · rw [if_neg hp]
      exact ⟨fun _ i h1 h2 => by omega, fun _ => rfl⟩
theorem rcheck_b0 (s : List UInt8) (rec : Nat → Sum Nat Bool) (p : Nat) : rcheck_m_b0 s rec p = if p < s.length then if okr p (dec s p).1 then rec (nxp s p) else .inr false else .inl (nxp s p) := by
  unfold rcheck_m_b0
  by_cases hp : p < s.length
  · rw [if_pos hp, if_pos hp]
    generalize (dec s p).1 = r
    simp only [rletter_is, Bool.not_eq_true', decide_eq_false_iff_not]
    by_cases hk : okr p r
    · rw [if_pos hk]
      unfold okr at hk
      repeat' split
      all_goals first
        | rfl
        | (exfalso; omega)
    · rw [if_neg hk]
      unfold okr at hk
      repeat' split
      all_goals first
        | rfl
        | (exfalso; omega)
  · rw [if_neg hp, if_neg hp]
theorem rcheck_l0 (s : List UInt8) : ∀ n p, fin (rcheck_m_l0 s n p) (fun r => r) (fun zz => rcheck_m_k0 s zz) = chk s n p
  | 0, _ => rfl
  | n + 1, p => by
    have E : rcheck_m_l0 s (n + 1) p = rcheck_m_b0 s (rcheck_m_l0 s n) p := rfl
    rw [E, rcheck_b0]
    unfold chk
    by_cases hp : p < s.length
    · rw [if_pos hp, if_pos hp]
      by_cases hk : okr p (dec s p).1
      · rw [if_pos hk, if_pos hk]
        exact rcheck_l0 s n (nxp s p)
      · rw [if_neg hk, if_neg hk]
        rfl
    · rw [if_neg hp, if_neg hp]
      rfl
theorem rcheck_iff (s : List UInt8) : rcheck_m s = true ↔ vok s := by
  unfold rcheck_m vok
  by_cases h1 : s = []
  · rw [if_pos h1]; exact ⟨(fun e => by cases e), fun e => absurd h1 e.1⟩
  · rw [if_neg h1]
    by_cases h2 : 24 < s.length
    · rw [if_pos h2]; exact ⟨(fun e => by cases e), fun e => by omega⟩
    · rw [if_neg h2, rcheck_l0, chk_iff s _ 0 (by omega)]
      exact ⟨fun e => ⟨h1, by omega, fun i hi => e i (Nat.zero_le _) hi⟩, fun e i _ hi => e.2.2 i hi⟩
theorem nn {b : Bool} (h : ¬ (!b) = true) : b = true := by cases b <;> simp_all
theorem rvok {s : List UInt8} (h : ¬ (!(rcheck_m s)) = true) : vok s := (rcheck_iff s).1 (nn h)
theorem vok_rng {s : List UInt8} (h : vok s) : ∀ i, i < s.length → 43 ≤ at0 s i ∧ at0 s i ≤ 126 := by
  intro i hi
  have := h.2.2 i hi
  unfold okr at this
  omega
/-- Texts of one byte a sign. -/
def asc (s : List UInt8) : Prop := ∀ i, i < s.length → at0 s i < 128
theorem vok_asc {s : List UInt8} (h : vok s) : asc s := fun i hi => by have := vok_rng h i hi; omega
theorem asc_dec {s : List UInt8} (h : asc s) {p : Nat} (hp : p < s.length) : dec s p = (at0 s p, 1) ∧ nxp s p = p + 1 := by
  have h1 := h p hp
  have e : dec s p = (at0 s p, 1) := by
    rcases dec_cases s p with ⟨_, h2⟩ | ⟨h3, _⟩ | ⟨_, h3, _⟩ | ⟨_, h3, _⟩ | ⟨_, h3, _⟩
    · exact h2
    · omega
    · omega
    · omega
    · omega
  exact ⟨e, by rw [nxp_lt hp, e]⟩
theorem drop_at {s : List UInt8} {p : Nat} (hp : p < s.length) : s.drop p = s.getD p 0 :: s.drop (p + 1) := by
  rw [List.drop_eq_getElem_cons hp]
  simp [List.getD_eq_getElem?_getD, List.getElem?_eq_getElem hp]
theorem rrunes_loop (s : List UInt8) (h : asc s) : ∀ n p l, s.length - p < n → ∃ q, rrunes_m_l0 s n (p, l) = .inl (q, l ++ bi (s.drop p))
  | 0, _, _, hn => by omega
  | n + 1, p, l, hn => by
    have E : rrunes_m_l0 s (n + 1) (p, l) = rrunes_m_b0 s (rrunes_m_l0 s n) p l := rfl
    rw [E]
    unfold rrunes_m_b0
    by_cases hp : p < s.length
    · obtain ⟨e1, e2⟩ := asc_dec h hp
      rw [if_pos hp, e1, e2]
      obtain ⟨q, hq⟩ := rrunes_loop s h n (p + 1) (l ++ [((at0 s p : Nat) : Int)]) (by omega)
      refine ⟨q, ?_⟩
      rw [hq, drop_at hp, List.append_assoc]
      rfl
    · rw [if_neg hp, List.drop_eq_nil_of_le (by omega)]
      exact ⟨_, by rw [show bi [] = [] from rfl, List.append_nil]⟩
theorem rrunes_is {s : List UInt8} (h : asc s) : rrunes_m s = bi s := by
  unfold rrunes_m
  obtain ⟨q, hq⟩ := rrunes_loop s h ((s.length - 0) + 1) 0 [] (by omega)
  rw [hq]
  rfl
theorem bi_len (s : List UInt8) : (bi s).length = s.length := List.length_map _
theorem bi_get (s : List UInt8) (i : Nat) : (bi s).getD i 0 = ((at0 s i : Nat) : Int) := by
  unfold bi at0
  rw [List.getD_eq_getElem?_getD, List.getD_eq_getElem?_getD, List.getElem?_map]
  cases s[i]? <;> rfl
theorem rat_bi (s : List UInt8) (i : Nat) : rat_m (bi s) (i : Int) = if i < s.length then ((at0 s i : Nat) : Int) else 0 := by
  unfold rat_m
  rw [bi_len, Int.toNat_natCast, bi_get]
  by_cases h : i < s.length
  · rw [if_pos h, if_pos (by omega)]
  · rw [if_neg h, if_neg (by omega)]
theorem at_dg (s : List UInt8) (i : Nat) : dg (s.getD i 0) = decide (48 ≤ at0 s i ∧ at0 s i ≤ 57) := rfl
theorem at_48 (s : List UInt8) (i : Nat) : q48 (s.getD i 0) = decide (at0 s i = 48) := by
  unfold q48
  rw [Bool.eq_iff_iff, beq_iff_eq, decide_eq_true_iff]
  unfold at0
  exact ⟨fun h => by rw [h]; rfl, fun h => UInt8.toNat_inj.1 h⟩
def zs (s : List UInt8) : List UInt8 := s.takeWhile q48
theorem zs_drop : ∀ s : List UInt8, s.drop (zs s).length = strip s
  | [] => rfl
  | c :: t => by
    have ih := zs_drop t
    unfold zs strip at *
    by_cases hc : q48 c = true
    · rw [List.takeWhile_cons_of_pos hc, List.dropWhile_cons_of_pos hc, List.length_cons, List.drop_succ_cons]
      exact ih
    · rw [List.takeWhile_cons_of_neg hc, List.dropWhile_cons_of_neg hc]
      rfl
theorem num_strip : ∀ t : List UInt8, strip (num t) = num (strip t) ∧ (zs t).length + (num (strip t)).length = (num t).length
  | [] => ⟨rfl, rfl⟩
  | c :: t => by
    obtain ⟨h1, h2⟩ := num_strip t
    unfold num strip zs at *
    by_cases hc : q48 c = true
    · have hd : dg c = true := by rw [show c = 48 from eq_of_beq hc]; decide
      rw [List.takeWhile_cons_of_pos hd, List.dropWhile_cons_of_pos hc, List.dropWhile_cons_of_pos hc, List.takeWhile_cons_of_pos hc]
      refine ⟨h1, ?_⟩
      simp only [List.length_cons]
      omega
    · rw [List.dropWhile_cons_of_neg hc, List.takeWhile_cons_of_neg hc]
      by_cases hd : dg c = true
      · rw [List.takeWhile_cons_of_pos hd, List.dropWhile_cons_of_neg hc]
        exact ⟨rfl, by simp⟩
      · rw [List.takeWhile_cons_of_neg hd]
        exact ⟨rfl, by simp⟩
theorem rnumber_l0 (s : List UInt8) (i : Int) : ∀ n (x : Nat), s.length - x < n → rnumber_m_l0 (bi s) i n (x : Int) = .inl (((x + (zs (s.drop x)).length : Nat)) : Int)
  | 0, _, h => by omega
  | n + 1, x, h => by
    have E : rnumber_m_l0 (bi s) i (n + 1) (x : Int) = rnumber_m_b0 (bi s) i (rnumber_m_l0 (bi s) i n) (x : Int) := rfl
    rw [E]
    unfold rnumber_m_b0
    rw [rat_bi]
    by_cases hx : x < s.length
    · rw [if_pos hx, drop_at hx]
      unfold zs
      by_cases h1 : 48 ≤ ((at0 s x : Nat) : Int) ∧ ((at0 s x : Nat) : Int) ≤ 57
      · rw [if_pos h1]
        by_cases h2 : ((at0 s x : Nat) : Int) = 48
        · rw [if_pos h2, List.takeWhile_cons_of_pos (by rw [at_48]; exact decide_eq_true (by omega))]
          have := rnumber_l0 s i n (x + 1) (by omega)
          rw [show ((x + 1 : Nat) : Int) = (x : Int) + 1 from rfl] at this
          rw [this]
          unfold zs
          rw [List.length_cons]
          congr 2
          omega
        · rw [if_neg h2, List.takeWhile_cons_of_neg (by rw [at_48]; simp; omega)]
          rfl
      · rw [if_neg h1, List.takeWhile_cons_of_neg (by rw [at_48]; simp; omega)]
        rfl
    · rw [if_neg hx, if_neg (by omega), List.drop_eq_nil_of_le (by omega)]
      rfl
theorem rune1_fin : ∀ m : Fin 128, rune1 ((m.val : Nat) : Int) = [UInt8.ofNat m.val] := by decide +kernel
theorem rune1_asc (c : UInt8) (h : c.toNat < 128) : rune1 ((c.toNat : Nat) : Int) = [c] := by
  have := rune1_fin ⟨c.toNat, h⟩
  rw [UInt8.ofNat_toNat] at this
  exact this
theorem rnumber_l1 (s : List UInt8) (hs : asc s) (i y : Int) : ∀ n (x : Nat) (t : List UInt8), s.length - x < n → rnumber_m_l1 (bi s) i y n ((x : Int), t) = .inl (((x + (num (s.drop x)).length : Nat) : Int), t ++ num (s.drop x))
  | 0, _, _, h => by omega
  | n + 1, x, t, h => by
    have E : rnumber_m_l1 (bi s) i y (n + 1) ((x : Int), t) = rnumber_m_b1 (bi s) i y (rnumber_m_l1 (bi s) i y n) (x : Int) t := rfl
    rw [E]
    unfold rnumber_m_b1
    rw [rat_bi]
    by_cases hx : x < s.length
    · rw [if_pos hx, drop_at hx]
      unfold num
      by_cases h1 : 48 ≤ ((at0 s x : Nat) : Int) ∧ ((at0 s x : Nat) : Int) ≤ 57
      · rw [if_pos h1, List.takeWhile_cons_of_pos (by rw [at_dg]; exact decide_eq_true (by omega)), Int.toNat_natCast, bi_get]
        have e1 : rune1 ((at0 s x : Nat) : Int) = [s.getD x 0] := rune1_asc _ (hs x hx)
        have := rnumber_l1 s hs i y n (x + 1) (t ++ [s.getD x 0]) (by omega)
        rw [show ((x + 1 : Nat) : Int) = (x : Int) + 1 from rfl] at this
        rw [e1, this]
        unfold num
        rw [List.append_assoc, List.length_cons]
        exact congrArg Sum.inl (Prod.ext (by show ((x + 1 + _ : Nat) : Int) = ((x + (_ + 1) : Nat) : Int); omega) rfl)
      · rw [if_neg h1, List.takeWhile_cons_of_neg (by rw [at_dg]; simp; omega), List.append_nil]
        rfl
    · rw [if_neg hx, if_neg (by omega), List.drop_eq_nil_of_le (by omega)]
      show _ = Sum.inl (_, t ++ [])
      rw [List.append_nil]
      rfl
/-- The document's number from a place on: its digits without noughts ahead, and where they end. -/
theorem rnumber_is (s : List UInt8) (hs : asc s) (i : Nat) : rnumber_m (bi s) (i : Int) = (strip (num (s.drop i)), ((i + (num (s.drop i)).length : Nat) : Int)) := by
  unfold rnumber_m
  rw [bi_len, Int.toNat_natCast, rnumber_l0 s _ _ _ (by omega)]
  dsimp only [fin]
  unfold rnumber_m_k0
  rw [bi_len, Int.toNat_natCast, rnumber_l1 s hs _ _ _ _ _ (by omega)]
  dsimp only [fin]
  unfold rnumber_m_k1
  obtain ⟨h1, h2⟩ := num_strip (s.drop i)
  rw [← List.drop_drop, zs_drop, List.nil_append, h1]
  exact Prod.ext rfl (by show ((_ : Nat) : Int) = ((_ : Nat) : Int); omega)
/-! What the walk of Compare asks. -/
theorem rrunes_any_len (s : List UInt8) : ∀ n p l, p ≤ s.length → ∃ q r, rrunes_m_l0 s n (p, l) = .inl (q, l ++ r) ∧ p + r.length ≤ s.length
  | 0, p, l, h => ⟨p, [], by rw [List.append_nil]; rfl, by simpa using h⟩
  | n + 1, p, l, h => by
    have E : rrunes_m_l0 s (n + 1) (p, l) = rrunes_m_b0 s (rrunes_m_l0 s n) p l := rfl
    rw [E]
    unfold rrunes_m_b0
    by_cases hp : p < s.length
    · rw [if_pos hp]
      have h2 := nxp_or s p
      obtain ⟨q, r, h3, h4⟩ := rrunes_any_len s n (nxp s p) (l ++ [(((dec s p).1 : Nat) : Int)]) (by omega)
      refine ⟨q, (((dec s p).1 : Nat) : Int) :: r, by rw [h3, List.append_assoc]; rfl, ?_⟩
      rw [List.length_cons]
      omega
    · rw [if_neg hp]
      exact ⟨_, [], by rw [List.append_nil], by simpa using h⟩
theorem rrunes_len (s : List UInt8) : (rrunes_m s).length ≤ s.length := by
  unfold rrunes_m
  obtain ⟨q, r, h1, h2⟩ := rrunes_any_len s ((s.length - 0) + 1) 0 [] (Nat.zero_le _)
  rw [h1]
  dsimp only [fin]
  unfold rrunes_m_k0
  rw [List.nil_append]
  omega
theorem rrunes_ok {a : List UInt8} (h : ¬ (!(rcheck_m a)) = true) : rrunes_m a = bi a ∧ (rrunes_m a).length = a.length ∧ a.length ≤ 24 :=
  ⟨rrunes_is (vok_asc (rvok h)), by rw [rrunes_is (vok_asc (rvok h)), bi_len], (rvok h).2.1⟩
theorem rat_rng (a : List UInt8) (i : Int) (h : ¬ (!(rcheck_m a)) = true) (h0 : 0 ≤ i) : (i < (((rrunes_m a).length : Nat) : Int) ∧ rat_m (rrunes_m a) i = (rrunes_m a).getD i.toNat 0 ∧ 43 ≤ (rrunes_m a).getD i.toNat 0 ∧ (rrunes_m a).getD i.toNat 0 ≤ 126) ∨ ((((rrunes_m a).length : Nat) : Int) ≤ i ∧ rat_m (rrunes_m a) i = 0) := by
  rw [(rrunes_ok h).1]
  obtain ⟨k, rfl⟩ : ∃ k : Nat, i = (k : Int) := ⟨i.toNat, by omega⟩
  rw [rat_bi, bi_len, Int.toNat_natCast, bi_get]
  by_cases hk : k < a.length
  · have := vok_rng (rvok h) k hk
    exact .inl ⟨by omega, if_pos hk, by omega, by omega⟩
  · exact .inr ⟨by omega, if_neg hk⟩
theorem rweight_fact (r : Int) (h : 0 ≤ r) : (rweight_m r = 0 ∧ (r = 0 ∨ (48 ≤ r ∧ r ≤ 57))) ∨ (rweight_m r ≠ 0 ∧ ¬ r = 0 ∧ ¬ (48 ≤ r ∧ r ≤ 57)) := by
  unfold rweight_m
  repeat' split
  all_goals omega
theorem rnum_fact (a : List UInt8) (i : Int) (h : ¬ (!(rcheck_m a)) = true) (h0 : 0 ≤ i) (h1 : i ≤ (((rrunes_m a).length : Nat) : Int)) : i ≤ (rnumber_m (rrunes_m a) i).2 ∧ (rnumber_m (rrunes_m a) i).2 ≤ (((rrunes_m a).length : Nat) : Int) ∧ (i < (rnumber_m (rrunes_m a) i).2 ∨ (((rrunes_m a).length : Nat) : Int) ≤ i ∨ ¬ (48 ≤ (rrunes_m a).getD i.toNat 0 ∧ (rrunes_m a).getD i.toNat 0 ≤ 57)) := by
  rw [(rrunes_ok h).1] at h1 ⊢
  obtain ⟨k, rfl⟩ : ∃ k : Nat, i = (k : Int) := ⟨i.toNat, by omega⟩
  rw [rnumber_is a (vok_asc (rvok h)), bi_len, Int.toNat_natCast, bi_get]
  rw [bi_len] at h1
  have hl : (num (a.drop k)).length ≤ (a.drop k).length := (List.takeWhile_sublist _).length_le
  rw [List.length_drop] at hl
  refine ⟨by show (k : Int) ≤ ((_ : Nat) : Int); omega, by show ((_ : Nat) : Int) ≤ _; omega, ?_⟩
  by_cases hk : k < a.length
  · by_cases hd : 48 ≤ at0 a k ∧ at0 a k ≤ 57
    · left
      have : 1 ≤ (num (a.drop k)).length := by
        rw [drop_at hk]
        unfold num
        rw [List.takeWhile_cons_of_pos (by rw [at_dg]; exact decide_eq_true hd)]
        simp
      show (k : Int) < ((_ : Nat) : Int)
      omega
    · right; right; omega
  · right; left; omega
end Go.Proofs.YtpbenhfnebgbiaaDoor.Ve
