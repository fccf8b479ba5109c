/- Layer 10: records go there and back: the mathematics. -/
import Derived.Test.YtglnifckngcpkaaDoorPxC
import Derived.Test.YtglnifckngcpkaaDoorPxH
import Derived.Test.YtglnifckngcpkaaDoorPxI
set_option linter.unusedVariables false
namespace Go.Proofs.YtglnifckngcpkaaDoor.Px
open Go.Proofs.YtglnifckngcpkaaDoor.Mem
/-! What a number's digits spell. -/
theorem dd_dg : ∀ n, ∀ c ∈ Lib.decDigits n, dg c = true := by
  intro n
  induction n using Nat.strongRecOn with
  | _ n ih =>
    have e : ∀ k, k < 10 → dg (UInt8.ofNat (48 + k)) = true := by
      intro k hk
      unfold dg
      rw [UInt8.toNat_ofNat', Nat.mod_eq_of_lt (by omega)]
      exact decide_eq_true (by omega)
    intro c hc
    by_cases h : n < 10
    · rw [dd_small h, List.mem_singleton] at hc
      subst hc
      exact e n h
    · rw [dd_big h] at hc
      rcases List.mem_append.1 hc with hc | hc
      · exact ih (n / 10) (by omega) c hc
      · rw [List.mem_singleton] at hc
        subst hc
        exact e _ (by omega)
theorem dd_ne (n : Nat) : Lib.decDigits n ≠ [] := by
  by_cases h : n < 10
  · rw [dd_small h]; simp
  · rw [dd_big h]; simp
def val (a : Nat) (s : List UInt8) : Nat := s.foldl (fun x c => 10 * x + (c.toNat - 48)) a
theorem val_dd : ∀ n, val 0 (Lib.decDigits n) = n := by
  intro n
  induction n using Nat.strongRecOn with
  | _ n ih =>
    have e : ∀ k, k < 10 → (UInt8.ofNat (48 + k)).toNat = 48 + k := fun k hk => by rw [UInt8.toNat_ofNat', Nat.mod_eq_of_lt (by omega)]
    by_cases h : n < 10
    · rw [dd_small h]
      show 10 * 0 + ((UInt8.ofNat (48 + n)).toNat - 48) = n
      rw [e n h]
      omega
    · rw [dd_big h]
      unfold val
      rw [List.foldl_append]
      have := ih (n / 10) (by omega)
      unfold val at this
      rw [this]
      show 10 * (n / 10) + ((UInt8.ofNat (48 + n % 10)).toNat - 48) = n
      rw [e _ (by omega)]
      omega
theorem val_le : ∀ (s : List UInt8) (a : Nat), a ≤ val a s
  | [], a => Nat.le_refl _
  | c :: s, a => Nat.le_trans (by omega) (val_le s (10 * a + (c.toNat - 48)))
theorem parse_val : ∀ (s : List UInt8) (a : Nat), (∀ c ∈ s, dg c = true) → val a s < 1000000000000000000 → Lib.parseUint10 a s = .ok (val a s)
  | [], a, _, _ => rfl
  | c :: s, a, h, hv => by
    have hc : 48 ≤ c.toNat ∧ c.toNat ≤ 57 := of_decide_eq_true (h c (by simp))
    have hv' : val (10 * a + (c.toNat - 48)) s < 1000000000000000000 := hv
    have hl := val_le s (10 * a + (c.toNat - 48))
    have e : a * 10 + (c.toNat - 48) = 10 * a + (c.toNat - 48) := by omega
    unfold Lib.parseUint10
    rw [if_pos hc, if_neg (by omega), if_neg (by omega), e, parse_val s _ (fun d hd => h d (by simp [hd])) hv']
    rfl
theorem atoi_dd (n : Nat) (h : n < 1000000000000000000) : Lib.atoiAll (Lib.decDigits n) = .ok (n : Int) := by
  obtain ⟨c, r, e⟩ := List.exists_cons_of_ne_nil (dd_ne n)
  have hc : 48 ≤ c.toNat ∧ c.toNat ≤ 57 := of_decide_eq_true (dd_dg n c (by rw [e]; simp))
  have hp := parse_val (Lib.decDigits n) 0 (dd_dg n) (by rw [val_dd]; exact h)
  rw [val_dd] at hp
  have hm : Lib.parseMag (Lib.decDigits n) = .ok n := by
    unfold Lib.parseMag
    rw [if_neg (dd_ne n), hp]
  rw [e] at hm ⊢
  unfold Lib.atoiAll
  dsimp only
  rw [if_neg (by omega), hm]
  dsimp only
  have h1 : ¬ (¬ c.toNat = 45 ∧ 9223372036854775808 ≤ n) := by omega
  have h2 : ¬ (c.toNat = 45 ∧ 9223372036854775808 < n) := by omega
  rw [if_neg h1, if_neg h2, if_neg (by omega)]
theorem atoi_of (n : Nat) (h : n < 1000000000000000000) : atoi_ok (Lib.decDigits n) = true ∧ atoi_v (Lib.decDigits n) = (n : Int) := by
  unfold atoi_ok atoi_v
  rw [atoi_dd n h]
  exact ⟨rfl, rfl⟩
theorem hd_app (D r : List UInt8) (c : UInt8) (hD : ∀ d ∈ D, dg d = true) (hc : dg c = false) : hd (D ++ c :: r) = D := by
  unfold hd
  induction D with
  | nil => rw [List.nil_append, List.takeWhile_cons_of_neg (by rw [hc]; decide)]
  | cons d D ih => rw [List.cons_append, List.takeWhile_cons_of_pos (hD d (by simp)), ih (fun x hx => hD x (by simp [hx]))]
/-- What stands between the lengths' blank and the line feed. -/
def bod (p : Par) : List UInt8 := p.key ++ 61 :: p.value
theorem rst_bod (p : Par) : rst p = 32 :: (bod p ++ [10]) := by unfold rst bod; simp
theorem bod_len (p : Par) : (bod p).length + 2 = (rst p).length := by rw [rst_bod]; simp
theorem cut_bod (p : Par) (h : (61 : UInt8) ∉ p.key) : cut_m (bod p) [61] = (p.key, p.value, true) := by
  have hi : ∀ k : List UInt8, (61 : UInt8) ∉ k → Lib.indexByte (k ++ 61 :: p.value) 61 = (k.length : Int) := by
    intro k
    induction k with
    | nil => intro _; rw [List.nil_append, ib_cons, if_pos rfl]; rfl
    | cons b k ih =>
      intro hk
      have hb : b ≠ 61 := fun e => hk (by rw [e]; simp)
      have := ih (fun e => hk (by simp [e]))
      rw [List.cons_append, ib_cons, if_neg hb, this, if_neg (by omega), List.length_cons]
      rfl
  unfold cut_m Lib.cut
  rw [Lib.index_one]
  unfold bod
  rw [hi p.key h]
  simp
theorem cut_inv (b : List UInt8) (h : (cut_m b [61]).2.2 = true) : b = (cut_m b [61]).1 ++ 61 :: (cut_m b [61]).2.1 := by
  have hi : ∀ k : List UInt8, ¬ Lib.indexByte k 61 = -1 → 0 ≤ Lib.indexByte k 61 ∧ k = k.take (Lib.indexByte k 61).toNat ++ 61 :: k.drop ((Lib.indexByte k 61).toNat + 1) := by
    intro k
    induction k with
    | nil => intro h; exact absurd rfl h
    | cons c k ih =>
      intro h
      rw [ib_cons] at h ⊢
      by_cases hc : c = 61
      · rw [if_pos hc, hc]; exact ⟨Int.le_refl _, rfl⟩
      · rw [if_neg hc] at h ⊢
        by_cases h1 : Lib.indexByte k 61 = -1
        · rw [if_pos h1] at h; exact absurd rfl h
        · rw [if_neg h1]
          obtain ⟨h2, h3⟩ := ih h1
          have e : (Lib.indexByte k 61 + 1).toNat = (Lib.indexByte k 61).toNat + 1 := by omega
          rw [e]
          exact ⟨by omega, by rw [List.take_succ_cons, List.drop_succ_cons, List.cons_append, ← h3]⟩
  unfold cut_m Lib.cut at h ⊢
  rw [Lib.index_one] at h ⊢
  by_cases h1 : Lib.indexByte b 61 = -1
  · rw [h1] at h
    simp at h
  · obtain ⟨h2, h3⟩ := hi b h1
    have hn : ¬ Lib.indexByte b 61 < 0 := by omega
    simp only [h2, if_true, List.length_singleton] at h ⊢
    exact h3
theorem plen_nat (p : Par) (h1 : p.key.length ≤ 1048576) (h2 : p.value.length ≤ 1048576) : plen_m ((rst p).length : Int) = ((record_m p).length : Int) := (record_size p h1 h2).symm
theorem rec_len (p : Par) : p.key.length + p.value.length + 3 ≤ (record_m p).length := by
  rw [record_is, List.length_append, rst_len]
  omega
/-- Of a text that begins with a record. -/
structure Head (p : Par) (t s D : List UInt8) : Prop where
  is : s = D ++ 32 :: (bod p ++ 10 :: t)
  dd : D = Lib.decDigits (record_m p).length
  rc : record_m p = D ++ 32 :: (bod p ++ [10])
  len : (record_m p).length = D.length + (bod p).length + 2
  pl : itoa_m (plen_m (((record_m p).length : Int) - (D.length : Int))) = D
  big : s.length ≤ 1048576
theorem head_of (p : Par) (t : List UInt8) (hs : (record_m p ++ t).length ≤ 1048576) : ∃ D, Head p t (record_m p ++ t) D := by
  have hl := rec_len p
  rw [List.length_append] at hs
  have e := plen_nat p (by omega) (by omega)
  have hr : record_m p = Lib.decDigits (record_m p).length ++ 32 :: (bod p ++ [10]) := by
    conv => lhs; rw [record_is, e, itoa_nat _ (by omega), Int.toNat_natCast, rst_bod]
  have hb := bod_len p
  have hlen : (record_m p).length = (Lib.decDigits (record_m p).length).length + (bod p).length + 2 := by
    have := congrArg List.length hr
    rw [List.length_append, List.length_cons, List.length_append, List.length_singleton] at this
    omega
  refine ⟨Lib.decDigits (record_m p).length, ?_, rfl, hr, hlen, ?_, by rw [List.length_append]; omega⟩
  · conv => lhs; rw [hr]
    simp
  · have e2 : ((record_m p).length : Int) - ((Lib.decDigits (record_m p).length).length : Int) = ((rst p).length : Int) := by omega
    rw [e2, e, itoa_nat _ (by omega), Int.toNat_natCast]
theorem get_app (a r : List UInt8) (c : UInt8) : (a ++ c :: r).getD a.length 0 = c := by simp [List.getD_eq_getElem?_getD]
theorem by_app (a r : List UInt8) (c : UInt8) : by' (a ++ c :: r) a.length = c.toNat := by unfold by'; rw [get_app]
section
variable {p : Par} {t s D : List UInt8} (h : Head p t s D)
include h
theorem Head.hd_is : hd s = D := by rw [h.is]; exact hd_app D _ 32 (by rw [h.dd]; exact dd_dg _) (by decide)
theorem Head.pdig_is : pdig_m s = (D.length : Int) := by rw [Px.pdig_is, h.hd_is]
theorem Head.take_is : s.take D.length = D := by rw [h.is, List.take_left]
theorem Head.two : s = (D ++ 32 :: bod p) ++ 10 :: t := by rw [h.is]; simp
theorem Head.b32 : by' s D.length = 32 := by rw [h.is]; exact by_app D _ 32
theorem Head.b10 : by' s ((record_m p).length - 1) = 10 := by
  have e : (record_m p).length - 1 = (D ++ 32 :: bod p).length := by rw [h.len, List.length_append, List.length_cons]; omega
  rw [h.two, e]
  exact by_app _ _ 10
theorem Head.body : (s.take ((record_m p).length - 1)).drop (D.length + 1) = bod p := by
  have e : (record_m p).length - 1 = (D ++ 32 :: bod p).length := by rw [h.len, List.length_append, List.length_cons]; omega
  rw [h.two, e, List.take_left, show D.length + 1 = (D ++ [32]).length from by simp, show D ++ 32 :: bod p = (D ++ [32]) ++ bod p from by simp, List.drop_left]
theorem Head.slen : s.length = (record_m p).length + t.length := by
  rw [h.is, h.len]
  simp
  omega
theorem Head.whole : s.take (record_m p).length = record_m p ∧ s.drop (record_m p).length = t := by
  have e : s = record_m p ++ t := by rw [h.is, h.rc]; simp
  rw [e, List.take_left, List.drop_left]
  exact ⟨rfl, rfl⟩
theorem Head.first (hk : keyok p.key) : first_m s = (p, ((record_m p).length : Int)) := by
  have h0 := h.big
  have h1 := h.len
  have h2 := h.slen
  obtain ⟨a1, a2⟩ := atoi_of (record_m p).length (by omega)
  rw [← h.dd] at a1 a2
  have e1 : (pdig_m s).toNat = D.length := by rw [h.pdig_is, Int.toNat_natCast]
  have e2 : (((record_m p).length : Int) - 1).toNat = (record_m p).length - 1 := by omega
  have e3 : ((D.length : Int) + 1).toNat = D.length + 1 := by omega
  have hc := cut_bod p (fun e => (hk.2 _ e).1 rfl)
  unfold first_m
  rw [e1, h.take_is, if_pos a1, a2, h.pdig_is, if_neg (by omega), if_neg (by omega), if_neg (fun e => e h.b32), e2, if_neg (fun e => e h.b10), e3, h.body, hc]
  dsimp only
  rw [if_neg (by decide), if_neg (by rw [(key_iff _).2 hk]; decide), if_neg (fun e => e h.pl)]
end
theorem one_head {p q : Par} {t u : List UInt8} (hp : keyok p.key) (hq : keyok q.key) (e : record_m p ++ t = record_m q ++ u) (hs : (record_m p ++ t).length ≤ 1048576) : p = q ∧ t = u := by
  obtain ⟨D, h1⟩ := head_of p t hs
  obtain ⟨E, h2⟩ := head_of q u (by rw [← e]; exact hs)
  have a1 := h1.first hp
  have a2 := h2.first hq
  rw [e, a2] at a1
  have : p = q := (congrArg Prod.fst a1).symm
  subst this
  exact ⟨rfl, List.append_cancel_left e⟩
theorem nn {b : Bool} (h : ¬ (!b) = true) : b = true := by cases b <;> simp_all
theorem first_B (s : List UInt8) (hs : s.length ≤ 1048576) (hn : (first_m s).2 ≠ 0) : keyok (first_m s).1.key ∧ s = record_m (first_m s).1 ++ s.drop ((first_m s).2).toNat := by
  have hk0 := pdig_is s
  have hl0 := hd_len s
  unfold first_m at hn ⊢
  generalize hK : (hd s).length = k at *
  have e1 : (pdig_m s).toNat = k := by rw [hk0, Int.toNat_natCast]
  rw [e1, hk0] at hn ⊢
  generalize hD : s.take k = D at *
  by_cases c1 : atoi_ok D = true
  · rw [if_pos c1] at hn ⊢
    generalize hN : atoi_v D = n at *
    by_cases c2 : n ≤ (k : Int)
    · rw [if_pos c2] at hn; exact absurd rfl hn
    rw [if_neg c2] at hn ⊢
    by_cases c3 : ((s.length : Nat) : Int) < n
    · rw [if_pos c3] at hn; exact absurd rfl hn
    rw [if_neg c3] at hn ⊢
    obtain ⟨m, rfl⟩ : ∃ m : Nat, n = (m : Int) := ⟨n.toNat, by omega⟩
    have e2 : ((m : Int) - 1).toNat = m - 1 := by omega
    have e3 : ((k : Int) + 1).toNat = k + 1 := by omega
    rw [e2, e3] at hn ⊢
    by_cases c4 : ¬ by' s k = 32
    · rw [if_pos c4] at hn; exact absurd rfl hn
    rw [if_neg c4] at hn ⊢
    by_cases c5 : ¬ by' s (m - 1) = 10
    · rw [if_pos c5] at hn; exact absurd rfl hn
    rw [if_neg c5] at hn ⊢
    have c4' := Classical.not_not.1 c4
    have c5' := Classical.not_not.1 c5
    have ck := ten_ne c4' c5'
    generalize hb : (s.take (m - 1)).drop (k + 1) = b at *
    by_cases c6 : (!((cut_m b [61]).2.2)) = true
    · rw [if_pos c6] at hn; exact absurd rfl hn
    rw [if_neg c6] at hn ⊢
    by_cases c7 : (!(key_m (cut_m b [61]).1)) = true
    · rw [if_pos c7] at hn; exact absurd rfl hn
    rw [if_neg c7] at hn ⊢
    by_cases c8 : ¬ itoa_m (plen_m ((m : Int) - (k : Int))) = D
    · rw [if_pos c8] at hn; exact absurd rfl hn
    rw [if_neg c8]
    have c8' := Classical.not_not.1 c8
    have hcut := cut_inv b (nn c6)
    have hkey : keyok (cut_m b [61]).1 := (key_iff _).1 (nn c7)
    refine ⟨hkey, ?_⟩
    show s = record_m (Par.mk (cut_m b [61]).1 (cut_m b [61]).2.1) ++ s.drop ((m : Int)).toNat
    rw [Int.toNat_natCast]
    have hbod : bod (Par.mk (cut_m b [61]).1 (cut_m b [61]).2.1) = b := hcut.symm
    generalize Par.mk (cut_m b [61]).1 (cut_m b [61]).2.1 = p at hbod ⊢
    -- the text up to the line feed
    have g1 : s.take (m - 1) = D ++ 32 :: b := by
      have hlt : k < (s.take (m - 1)).length := by rw [List.length_take]; omega
      have q1 : s.take (m - 1) = (s.take (m - 1)).take k ++ (s.take (m - 1)).drop k := (List.take_append_drop k _).symm
      have q2 : (s.take (m - 1)).take k = D := by rw [List.take_take, Nat.min_eq_left (by omega), hD]
      have q3 : (s.take (m - 1)).getD k 0 = 32 := by
        have : s.getD k 0 = 32 := (by_get s k 32).1 c4'
        rw [List.getD_eq_getElem?_getD] at this ⊢
        rw [List.getElem?_take_of_lt (by omega)]
        exact this
      rw [q1, q2, drop_at hlt, q3, hb]
    have g2 : s.take m = D ++ 32 :: (b ++ [10]) := by
      have q4 : s.take m = s.take (m - 1) ++ [s.getD (m - 1) 0] := by
        have hlt : m - 1 < s.length := by omega
        have := List.take_concat_get (l := s) (i := m - 1) hlt
        rw [show m - 1 + 1 = m from by omega] at this
        rw [← this]
        simp [List.getD_eq_getElem?_getD, List.getElem?_eq_getElem hlt]
      rw [q4, g1, (by_get s (m - 1) 10).1 c5']
      simp
    have hbl : b.length + 2 = m - k := by
      have := congrArg List.length hb
      rw [List.length_drop, List.length_take] at this
      omega
    have hrl : ((rst p).length : Int) = (m : Int) - (k : Int) := by
      have := bod_len p
      rw [hbod] at this
      omega
    have g3 : record_m p = s.take m := by rw [record_is, hrl, c8', rst_bod, hbod, g2]
    rw [g3, List.take_append_drop]
  · rw [if_neg c1] at hn; exact absurd rfl hn
end Go.Proofs.YtglnifckngcpkaaDoor.Px
