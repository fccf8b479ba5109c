/- Layer 10: texts of records, read both ways: the mathematics. -/
import Derived.Test.YtglnifckngcpkaaDoorPxJ
set_option linter.unusedVariables false
namespace Go.Proofs.YtglnifckngcpkaaDoor.Px
open Go.Proofs.YtglnifckngcpkaaDoor.Mem
theorem rlen_run (s : List UInt8) (r : List UInt8) : ∀ (E P : List UInt8) (x n : Nat), s = P ++ (E ++ 32 :: r) → (∀ c ∈ E, dg c = true) → P.length + E.length ≤ 8 → E.length < n → rlen_m_l0 s n (x, P.length) = .inl (val x E, P.length + E.length)
  | [], P, x, 0, _, _, _, h => by simp at h
  | [], P, x, n + 1, hs, _, _, _ => by
    have E' : rlen_m_l0 s (n + 1) (x, P.length) = rlen_m_b0 s (rlen_m_l0 s n) x P.length := rfl
    rw [E']
    unfold rlen_m_b0
    have hl : P.length < s.length := by rw [hs]; simp
    have hb : by' s P.length = 32 := by rw [hs, List.nil_append]; exact by_app P r 32
    rw [if_pos hl, if_neg (by omega)]
    rfl
  | c :: E, P, x, 0, _, _, _, h => by simp at h
  | c :: E, P, x, n + 1, hs, hd, h8, hn => by
    have E' : rlen_m_l0 s (n + 1) (x, P.length) = rlen_m_b0 s (rlen_m_l0 s n) x P.length := rfl
    rw [E']
    unfold rlen_m_b0
    have hl : P.length < s.length := by rw [hs]; simp
    have hb : by' s P.length = c.toNat := by rw [hs, List.cons_append]; exact by_app P _ c
    have hc : 48 ≤ c.toNat ∧ c.toNat ≤ 57 := of_decide_eq_true (hd c (by simp))
    rw [List.length_cons] at h8 hn
    have ih := rlen_run s r E (P ++ [c]) (10 * x + (c.toNat - 48)) n (by rw [hs]; simp) (fun d hd' => hd d (by simp [hd'])) (by simp; omega) (by omega)
    rw [List.length_append, List.length_singleton] at ih
    rw [if_pos hl, hb, if_pos hc.1, if_pos hc.2, if_pos (by omega), ih, List.length_cons]
    show Sum.inl (val (10 * x + (c.toNat - 48)) E, P.length + 1 + E.length) = Sum.inl (val x (c :: E), P.length + (E.length + 1))
    rw [show P.length + 1 + E.length = P.length + (E.length + 1) from by omega]
    rfl
theorem dd_head : ∀ n, 0 < n → ∃ c r, Lib.decDigits n = c :: r ∧ c.toNat ≠ 48 := by
  intro n
  induction n using Nat.strongRecOn with
  | _ n ih =>
    intro hn
    by_cases h : n < 10
    · refine ⟨_, [], dd_small h, ?_⟩
      rw [UInt8.toNat_ofNat', Nat.mod_eq_of_lt (by omega)]
      omega
    · obtain ⟨c, r, e, hc⟩ := ih (n / 10) (by omega) (by omega)
      exact ⟨c, r ++ [UInt8.ofNat (48 + n % 10)], by rw [dd_big h, e]; rfl, hc⟩
section
variable {p : Par} {t s D : List UInt8} (h : Head p t s D)
include h
theorem Head.sizes : D.length ≤ 7 ∧ 1 ≤ D.length ∧ p.key.length ≤ 1048576 ∧ p.value.length ≤ 1048576 := by
  have h0 := h.big
  have h2 := h.slen
  have h3 := rec_len p
  have := dd_len 6 (record_m p).length (by omega)
  rw [← h.dd] at this
  omega
theorem Head.rlen : rlen_m s = (((record_m p).length : Int), (D.length : Int)) := by
  obtain ⟨a1, a2, _, _⟩ := h.sizes
  have h2 := h.slen
  have h3 := rec_len p
  have hs := h.is
  have hr := rlen_run s (bod p ++ 10 :: t) D [] 0 ((s.length - 0) + 1) (by rw [List.nil_append]; exact hs) (by rw [h.dd]; exact dd_dg _) (by simp; omega) (by have := congrArg List.length hs; rw [List.length_append] at this; omega)
  unfold rlen_m
  have hr' : rlen_m_l0 s ((s.length - 0) + 1) (0, 0) = .inl (val 0 D, 0 + D.length) := hr
  rw [hr']
  dsimp only [fin]
  unfold rlen_m_k0
  have hv : val 0 D = (record_m p).length := by rw [h.dd]; exact val_dd _
  obtain ⟨c, r, e, hc⟩ := dd_head (record_m p).length (by omega)
  have hb : by' s 0 = c.toNat := by
    rw [hs, h.dd, e]
    rfl
  rw [if_neg (by omega), hb, if_neg hc]
  show (((val 0 D : Nat) : Int), ((0 + D.length : Nat) : Int)) = _
  rw [hv, Nat.zero_add]
end
theorem place_of (p : Par) (hk : keyok p.key) : rplace_m (bod p) (UInt8.ofNat 61) = (p.key.length : Int) := by
  obtain ⟨k, a1, a2, a3, a4⟩ := rplace_is (bod p) (UInt8.ofNat 61)
  rw [a1]
  have e61 : UInt8.ofNat 61 = 61 := rfl
  rw [e61] at a3 a4
  have hg : (bod p).getD p.key.length 0 = 61 := get_app p.key p.value 61
  have hl : p.key.length < (bod p).length := by unfold bod; simp
  have h1 : k ≤ p.key.length := Nat.le_of_not_lt fun e => a4 _ e hg
  by_cases h2 : k = p.key.length
  · rw [h2]
  · exfalso
    have h3 := a3 (by omega)
    have h4 : (bod p).getD k 0 ∈ p.key := by
      unfold bod
      rw [List.getD_eq_getElem?_getD, List.getElem?_append_left (by omega), List.getElem?_eq_getElem (by omega)]
      exact List.getElem_mem _
    rw [h3] at h4
    exact (hk.2 _ h4).1 rfl
/-- A step of reading: a record, and what is behind. -/
def step (x : List UInt8) : Option (Par × List UInt8) := if (first_m x).2 = 0 then none else some ((first_m x).1, x.drop ((first_m x).2).toNat)
def body (x : List UInt8) : List UInt8 := (x.take (((rlen_m x).1 - (1 : Int)).toNat)).drop (((rlen_m x).2 + (1 : Int)).toNat)
def rpar (x : List UInt8) : Par := Par.mk ((body x).take ((rplace_m (body x) (UInt8.ofNat 61)).toNat)) ((body x).drop (((rplace_m (body x) (UInt8.ofNat 61)) + (1 : Int)).toNat))
def rstep (x : List UInt8) : Option (Par × List UInt8) :=
  if (rlen_m x).2 = 0 then none
  else if ((x.length : Nat) : Int) < (rlen_m x).1 then none
  else if (rlen_m x).1 < ((rlen_m x).2 + (4 : Int)) then none
  else if ¬ by' x (((rlen_m x).2).toNat) = 32 then none
  else if ¬ by' x (((rlen_m x).1 - (1 : Int)).toNat) = 10 then none
  else if (rplace_m (body x) (UInt8.ofNat 61)) = (((body x).length : Nat) : Int) then none
  else if (!(rkey_m ((body x).take ((rplace_m (body x) (UInt8.ofNat 61)).toNat)))) = true then none
  else if ¬ (rone_m (rpar x)) = (x.take (((rlen_m x).1).toNat)) then none
  else some (rpar x, x.drop (((rlen_m x).1).toNat))
def Spec (f : List UInt8 → Option (Par × List UInt8)) : Prop := ∀ x, x.length ≤ 1048576 →
  (∃ p t, keyok p.key ∧ x = record_m p ++ t ∧ f x = some (p, t)) ∨ ((∀ p t, keyok p.key → x ≠ record_m p ++ t) ∧ f x = none)
theorem step_spec : Spec step := by
  intro x hx
  unfold step
  by_cases hn : (first_m x).2 = 0
  · right
    rw [if_pos hn]
    refine ⟨fun p t hk e => ?_, rfl⟩
    obtain ⟨D, h⟩ := head_of p t (by rw [← e]; exact hx)
    have h1 := h.first hk
    rw [← e] at h1
    rw [h1] at hn
    have := rec_len p
    have hn' : ((record_m p).length : Int) = 0 := hn
    omega
  · left
    rw [if_neg hn]
    obtain ⟨a, b⟩ := first_B x hx hn
    exact ⟨_, _, a, b, rfl⟩
theorem rstep_spec : Spec rstep := by
  intro x hx
  by_cases hh : ∃ p t, keyok p.key ∧ x = record_m p ++ t
  · left
    obtain ⟨p, t, hk, e⟩ := hh
    obtain ⟨D, h⟩ := head_of p t (by rw [← e]; exact hx)
    rw [← e] at h
    refine ⟨p, t, hk, e, ?_⟩
    obtain ⟨s1, s2, s3, s4⟩ := h.sizes
    have h2 := h.slen
    have hl := h.len
    have h3 := rec_len p
    have e1 : ((D.length : Int)).toNat = D.length := Int.toNat_natCast _
    have e2 : (((record_m p).length : Int) - 1).toNat = (record_m p).length - 1 := by omega
    have e3 : ((D.length : Int) + 1).toNat = D.length + 1 := by omega
    have eb : body x = bod p := by unfold body; rw [h.rlen]; dsimp only; rw [e2, e3, h.body]
    have epl := place_of p hk
    have ep : rpar x = p := by
      unfold rpar
      rw [eb, epl, Int.toNat_natCast, show ((p.key.length : Int) + 1).toNat = (p.key ++ [61]).length from by simp]
      have q1 : (bod p).take p.key.length = p.key := by unfold bod; exact List.take_left
      have q2 : (bod p).drop (p.key ++ [61]).length = p.value := by unfold bod; rw [show p.key ++ 61 :: p.value = (p.key ++ [61]) ++ p.value from by simp, List.drop_left]
      rw [q1, q2]
    have ek : (bod p).take p.key.length = p.key := by unfold bod; exact List.take_left
    have hbl : (bod p).length = p.key.length + (p.value.length + 1) := by unfold bod; rw [List.length_append, List.length_cons]
    have hkl : 0 < p.key.length := List.length_pos_iff.2 hk.1
    unfold rstep
    rw [ep, eb, epl, h.rlen]
    dsimp only
    rw [if_neg (by omega), if_neg (by omega), if_neg (by omega), e1, if_neg (fun q => q h.b32), e2, if_neg (fun q => q h.b10), if_neg (by unfold bod; simp only [List.length_append, List.length_cons]; omega), Int.toNat_natCast, ek, rkey_is, if_neg (by rw [(key_iff _).2 hk]; decide), Int.toNat_natCast, h.whole.1, if_neg (fun q => q (rone_is p s3 s4)), h.whole.2]
  · right
    have hno : ∀ p t, keyok p.key → x ≠ record_m p ++ t := fun p t hk e => hh ⟨p, t, hk, e⟩
    refine ⟨hno, ?_⟩
    have hr := rlen_rng x
    unfold rstep
    by_cases c1 : (rlen_m x).2 = 0
    · rw [if_pos c1]
    rw [if_neg c1]
    by_cases c2 : ((x.length : Nat) : Int) < (rlen_m x).1
    · rw [if_pos c2]
    rw [if_neg c2]
    by_cases c3 : (rlen_m x).1 < ((rlen_m x).2 + (4 : Int))
    · rw [if_pos c3]
    rw [if_neg c3]
    by_cases c4 : ¬ by' x (((rlen_m x).2).toNat) = 32
    · rw [if_pos c4]
    rw [if_neg c4]
    by_cases c5 : ¬ by' x (((rlen_m x).1 - (1 : Int)).toNat) = 10
    · rw [if_pos c5]
    rw [if_neg c5]
    by_cases c6 : (rplace_m (body x) (UInt8.ofNat 61)) = (((body x).length : Nat) : Int)
    · rw [if_pos c6]
    rw [if_neg c6]
    by_cases c7 : (!(rkey_m ((body x).take ((rplace_m (body x) (UInt8.ofNat 61)).toNat)))) = true
    · rw [if_pos c7]
    rw [if_neg c7]
    by_cases c8 : ¬ (rone_m (rpar x)) = (x.take (((rlen_m x).1).toNat))
    · rw [if_pos c8]
    exfalso
    have hk : keyok (rpar x).key := (key_iff _).1 (by have := nn c7; rw [rkey_is] at this; exact this)
    have hbl : (body x).length ≤ x.length := by
      unfold body
      rw [List.length_drop, List.length_take]
      omega
    have k1 : (rpar x).key.length ≤ 1048576 := by
      show ((body x).take _).length ≤ _
      rw [List.length_take]
      omega
    have k2 : (rpar x).value.length ≤ 1048576 := by
      show ((body x).drop _).length ≤ _
      rw [List.length_drop]
      omega
    refine hno (rpar x) (x.drop (((rlen_m x).1).toNat)) hk ?_
    rw [← rone_is _ k1 k2, Classical.not_not.1 c8, List.take_append_drop]
theorem spec_same {f g : List UInt8 → Option (Par × List UInt8)} (hf : Spec f) (hg : Spec g) (x : List UInt8) (hx : x.length ≤ 1048576) : f x = g x := by
  rcases hf x hx with ⟨p, t, hk, e, h⟩ | ⟨hno, h⟩
  · rcases hg x hx with ⟨q, u, hk', e', h'⟩ | ⟨hno', h'⟩
    · obtain ⟨rfl, rfl⟩ := one_head hk hk' (e.symm.trans e') (by rw [← e]; exact hx)
      rw [h, h']
    · exact absurd e (hno' p t hk)
  · rcases hg x hx with ⟨q, u, hk', e', h'⟩ | ⟨hno', h'⟩
    · exact absurd e' (hno q u hk')
    · rw [h, h']
/-- Reading on, by whatever step. -/
def run (f : List UInt8 → Option (Par × List UInt8)) : Nat → List UInt8 → List Par → List Par × Int
  | 0, _, l => (l, 0)
  | n + 1, x, l => if x = [] then (l, 0) else match f x with
    | none => ([], 2)
    | some (p, t) => run f n t (l ++ [p])
theorem decode_run (s : List UInt8) : ∀ n x l, fin (decode_m_l0 s n (x, l)) (fun r => r) (fun zz => decode_m_k0 s zz.1 zz.2) = run step n x l
  | 0, _, _ => rfl
  | n + 1, x, l => by
    have E : decode_m_l0 s (n + 1) (x, l) = decode_m_b0 s (decode_m_l0 s n) x l := rfl
    rw [E]
    unfold decode_m_b0 run step
    by_cases hx : x = []
    · rw [if_neg (fun e => e hx), if_pos hx]; rfl
    · rw [if_pos hx, if_neg hx]
      by_cases hn : (first_m x).2 = 0
      · rw [if_pos hn, if_pos hn]; rfl
      · rw [if_neg hn, if_neg hn]
        exact decode_run s n _ _
theorem rdecode_run (s : List UInt8) : ∀ n x l, fin (rdecode_m_l0 s n (x, l)) (fun r => r) (fun zz => rdecode_m_k0 s zz.1 zz.2) = run rstep n x l
  | 0, _, _ => rfl
  | n + 1, x, l => by
    have E : rdecode_m_l0 s (n + 1) (x, l) = rdecode_m_b0 s (rdecode_m_l0 s n) x l := rfl
    rw [E]
    have hb : rdecode_m_b0 s (rdecode_m_l0 s n) x l = if x = [] then .inl (x, l) else match rstep x with
      | none => .inr (([] : List Par), 2)
      | some (p, t) => rdecode_m_l0 s n (t, l ++ [p]) := by
      unfold rdecode_m_b0 rstep
      by_cases hx : x = []
      · rw [if_pos hx, if_neg (by rw [hx]; simp)]
      · rw [if_neg hx, if_pos (List.length_pos_iff.2 hx)]
        by_cases c1 : (rlen_m x).2 = 0
        · rw [if_pos c1, if_pos c1]
        rw [if_neg c1, if_neg c1]
        by_cases c2 : ((x.length : Nat) : Int) < (rlen_m x).1
        · rw [if_pos c2, if_pos c2]
        rw [if_neg c2, if_neg c2]
        by_cases c3 : (rlen_m x).1 < ((rlen_m x).2 + (4 : Int))
        · rw [if_pos c3, if_pos c3]
        rw [if_neg c3, if_neg c3]
        by_cases c4 : ¬ by' x (((rlen_m x).2).toNat) = 32
        · rw [if_pos c4, if_pos c4]
        rw [if_neg c4, if_neg c4]
        by_cases c5 : ¬ by' x (((rlen_m x).1 - (1 : Int)).toNat) = 10
        · rw [if_pos c5, if_pos c5]
        rw [if_neg c5, if_neg c5]
        by_cases c6 : (rplace_m (body x) (UInt8.ofNat 61)) = (((body x).length : Nat) : Int)
        · rw [if_pos c6]; unfold body at c6; rw [if_pos c6]
        rw [if_neg c6]
        unfold body at c6
        rw [if_neg c6]
        by_cases c7 : (!(rkey_m ((body x).take ((rplace_m (body x) (UInt8.ofNat 61)).toNat)))) = true
        · rw [if_pos c7]; unfold body at c7; rw [if_pos c7]
        rw [if_neg c7]
        unfold body at c7
        rw [if_neg c7]
        by_cases c8 : ¬ (rone_m (rpar x)) = (x.take (((rlen_m x).1).toNat))
        · rw [if_pos c8]; unfold rpar body at c8; rw [if_pos c8]
        rw [if_neg c8]
        unfold rpar body at c8
        rw [if_neg c8]
        rfl
    rw [hb]
    unfold run
    by_cases hx : x = []
    · rw [if_pos hx, if_pos hx]; rfl
    · rw [if_neg hx, if_neg hx]
      cases rstep x with
      | none => rfl
      | some q => exact rdecode_run s n q.2 (l ++ [q.1])
theorem runs_same {f g : List UInt8 → Option (Par × List UInt8)} (hf : Spec f) (hg : Spec g) : ∀ n x l, x.length ≤ 1048576 → run f n x l = run g n x l
  | 0, _, _, _ => rfl
  | n + 1, x, l, hx => by
    unfold run
    by_cases h : x = []
    · rw [if_pos h, if_pos h]
    · rw [if_neg h, if_neg h, spec_same hf hg x hx]
      rcases hg x hx with ⟨q, u, _, e, h'⟩ | ⟨_, h'⟩
      · rw [h']
        exact runs_same hf hg n u _ (by rw [e, List.length_append] at hx; omega)
      · rw [h']
theorem decode_same (s : List UInt8) : rdecode_m s = decode_m s := by
  unfold rdecode_m decode_m
  by_cases h : 1048576 < s.length
  · rw [if_pos h, if_pos h]
  · rw [if_neg h, if_neg h, rdecode_run, decode_run]
    exact runs_same rstep_spec step_spec _ _ _ (by omega)
/-! Which texts are read. -/
def cat (l : List Par) : List UInt8 := l.flatMap record_m
def Dec (x : List UInt8) (k : List Par) : Prop := x = cat k ∧ ∀ p ∈ k, keyok p.key
theorem cat_cons (p : Par) (k : List Par) : cat (p :: k) = record_m p ++ cat k := rfl
theorem cat_len : ∀ k : List Par, k.length ≤ (cat k).length
  | [] => Nat.le_refl _
  | p :: k => by
    rw [cat_cons, List.length_append, List.length_cons]
    have := rec_len p
    have := cat_len k
    omega
theorem dec_strip : ∀ (a c : List Par) (t : List UInt8), (∀ p ∈ a, keyok p.key) → (∀ p ∈ c, keyok p.key) → cat a ++ t = cat c → (cat a ++ t).length ≤ 1048576 → ∃ b, c = a ++ b ∧ t = cat b
  | [], c, t, _, _, e, _ => ⟨c, rfl, e⟩
  | p :: a, c, t, ha, hc, e, hl => by
    match c with
    | [] =>
      exfalso
      have h1 : (cat (p :: a) ++ t).length = 0 := by rw [e]; rfl
      have := rec_len p
      rw [List.length_append, cat_cons, List.length_append] at h1
      omega
    | q :: c =>
      rw [cat_cons, cat_cons, List.append_assoc] at e
      rw [cat_cons, List.append_assoc] at hl
      obtain ⟨rfl, e2⟩ := one_head (ha p (by simp)) (hc q (by simp)) e hl
      obtain ⟨b, rfl, hb⟩ := dec_strip a c t (fun x hx => ha x (by simp [hx])) (fun x hx => hc x (by simp [hx])) e2 (by rw [List.length_append] at hl; omega)
      exact ⟨b, rfl, hb⟩
theorem dec_uniq {x : List UInt8} {a c : List Par} (ha : Dec x a) (hc : Dec x c) (hl : x.length ≤ 1048576) : a = c := by
  obtain ⟨b, rfl, hb⟩ := dec_strip a c [] ha.2 hc.2 (by rw [List.append_nil, ← ha.1, hc.1]) (by rw [List.append_nil, ← ha.1]; exact hl)
  have : b = [] := List.eq_nil_of_length_eq_zero (by have := cat_len b; rw [← hb] at this; simpa using this)
  rw [this, List.append_nil]
theorem run_dec : ∀ n x l, x.length ≤ 1048576 → x.length < n → (∃ k, Dec x k ∧ run step n x l = (l ++ k, 0)) ∨ ((¬ ∃ k, Dec x k) ∧ run step n x l = ([], 2))
  | 0, _, _, _, h => by omega
  | n + 1, x, l, hx, h => by
    unfold run
    by_cases e : x = []
    · left
      rw [if_pos e]
      exact ⟨[], ⟨e, by intro p hp; cases hp⟩, by rw [List.append_nil]⟩
    · rw [if_neg e]
      rcases step_spec x hx with ⟨p, t, hk, e1, h1⟩ | ⟨hno, h1⟩
      · rw [h1]
        have hr := rec_len p
        rw [e1, List.length_append] at hx h
        rcases run_dec n t (l ++ [p]) (by omega) (by omega) with ⟨k, hd, hr'⟩ | ⟨hd, hr'⟩
        · left
          refine ⟨p :: k, ⟨by rw [e1, hd.1]; rfl, ?_⟩, ?_⟩
          · intro q hq
            rcases List.mem_cons.1 hq with rfl | hq
            · exact hk
            · exact hd.2 q hq
          · show run step n t (l ++ [p]) = _
            rw [hr']
            simp
        · right
          refine ⟨?_, hr'⟩
          rintro ⟨k, hd1, hd2⟩
          match k with
          | [] =>
            rw [e1] at hd1
            have h0 : (record_m p ++ t).length = 0 := by rw [hd1]; rfl
            rw [List.length_append] at h0
            omega
          | q :: k =>
            rw [cat_cons, e1] at hd1
            obtain ⟨rfl, rfl⟩ := one_head hk (hd2 q (by simp)) hd1 (by rw [List.length_append]; omega)
            exact hd ⟨k, rfl, fun x hx => hd2 x (by simp [hx])⟩
      · right
        rw [h1]
        refine ⟨?_, rfl⟩
        rintro ⟨k, hd1, hd2⟩
        match k with
        | [] => exact e hd1
        | q :: k => exact hno q (cat k) (hd2 q (by simp)) hd1
/-- What is read of a text. -/
theorem decode_dec (s : List UInt8) : (1048576 < s.length ∧ decode_m s = ([], 3)) ∨ (s.length ≤ 1048576 ∧ ((∃ k, Dec s k ∧ decode_m s = (k, 0)) ∨ ((¬ ∃ k, Dec s k) ∧ decode_m s = ([], 2)))) := by
  by_cases h : 1048576 < s.length
  · left
    exact ⟨h, by unfold decode_m; rw [if_pos h]⟩
  · right
    refine ⟨by omega, ?_⟩
    have e : decode_m s = run step (s.length + 1) s [] := by unfold decode_m; rw [if_neg h, decode_run]
    rw [e]
    exact run_dec (s.length + 1) s [] (by omega) (by omega)
theorem decode_len (s : List UInt8) : (decode_m s).1.length ≤ 1048576 := by
  rcases decode_dec s with ⟨_, e⟩ | ⟨hl, ⟨k, hd, e⟩ | ⟨_, e⟩⟩
  · rw [e]; simp
  · rw [e]
    have := cat_len k
    rw [← hd.1] at this
    show k.length ≤ _
    omega
  · rw [e]; simp
theorem rdecode_len (s : List UInt8) : (rdecode_m s).1.length ≤ 1048576 := by rw [decode_same]; exact decode_len s
end Go.Proofs.YtglnifckngcpkaaDoor.Px
