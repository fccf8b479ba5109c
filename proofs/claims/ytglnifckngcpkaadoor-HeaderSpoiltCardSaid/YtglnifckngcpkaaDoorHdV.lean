/- Layer 8: what is read is the document's: the mathematics. -/
import Derived.Test.YtglnifckngcpkaaDoorHdI4
import Derived.Test.YtglnifckngcpkaaDoorHdB
set_option linter.unusedVariables false
namespace Go.Proofs.YtglnifckngcpkaaDoor.Hd
open Go.Proofs.YtglnifckngcpkaaDoor.Mem
theorem by_drop (s : List UInt8) (e x : Nat) : by' (s.drop e) x = by' s (e + x) := by
  unfold by'
  simp only [List.getD, List.getElem?_drop]
theorem by_part (s : List UInt8) (e a x : Nat) (h : a + x < e) : by' ((s.take e).drop a) x = by' s (a + x) := by
  rw [by_drop]
  unfold by'
  simp only [List.getD, List.getElem?_take, if_pos h]
theorem wide_l (s : List UInt8) : ∀ k x i, nA_m_l0 s k (x, i) = rwide_m_l0 s k (x, i)
  | 0, x, i => rfl
  | k + 1, x, i => by
    show nA_m_b0 s (nA_m_l0 s k) x i = rwide_m_b0 s (rwide_m_l0 s k) x i
    unfold nA_m_b0 rwide_m_b0
    have hb := by_lt s i
    have hd : (UInt8.ofNat (by' s i + 256 - 0)).toNat = by' s i := by rw [UInt8.toNat_ofNat']; omega
    rw [hd]
    by_cases h1 : i < s.length
    · rw [if_pos h1, if_pos h1]
      by_cases h2 : 36028797018963968 ≤ x
      · rw [if_pos h2, if_pos (by omega)]
      · rw [if_neg h2, if_neg (by omega)]
        exact wide_l s k _ _
    · rw [if_neg h1, if_neg h1]
theorem wide_is (s : List UInt8) : nA_m s = rwide_m s := by
  unfold nA_m rwide_m
  rw [wide_l]
  rfl
theorem sp_l (s : List UInt8) : ∀ k i, get_m_l0 s k i = rget_m_l0 s k i
  | 0, i => rfl
  | k + 1, i => by
    show get_m_b0 s (get_m_l0 s k) i = rget_m_b0 s (rget_m_l0 s k) i
    unfold get_m_b0 rget_m_b0
    rw [sp_l s k]
/-- The number of digits from a place on, or none. -/
def nm (s : List UInt8) : Nat → Nat → Nat → Option Nat
  | 0, _, n => some n
  | j + 1, i, n => if 1152921504606846976 ≤ n then none else nm s j (i + 1) (8 * n + (by' s i - 48))
def dg (s : List UInt8) (i : Nat) : Prop := 48 ≤ by' s i ∧ by' s i ≤ 55
theorem end_l (s : List UInt8) (y : Nat) : ∀ k i, s.length ≤ i + k → i ≤ s.length → ∃ e, get_m_l1 s y (k + 1) i = .inl e ∧ i ≤ e ∧ e ≤ s.length ∧ (∀ m, i ≤ m → m < e → dg s m) ∧ (e < s.length → ¬ dg s e)
  | k, i, h, hi => by
    have E : get_m_l1 s y (k + 1) i = get_m_b1 s y (get_m_l1 s y k) i := rfl
    rw [E]
    unfold get_m_b1
    by_cases h1 : i < s.length
    · rw [if_pos h1]
      by_cases h2 : 48 ≤ by' s i
      · rw [if_pos h2]
        by_cases h3 : by' s i ≤ 55
        · rw [if_pos h3]
          match k, h with
          | 0, h => omega
          | k + 1, h =>
            obtain ⟨e, a, b, c, d, f⟩ := end_l s y k (i + 1) (by omega) (by omega)
            refine ⟨e, a, by omega, c, fun m hm hl => ?_, f⟩
            by_cases hmi : m = i
            · rw [hmi]; exact ⟨h2, h3⟩
            · exact d m (by omega) hl
        · rw [if_neg h3]; exact ⟨i, rfl, Nat.le_refl _, hi, fun m a b => by omega, fun _ c => h3 c.2⟩
      · rw [if_neg h2]; exact ⟨i, rfl, Nat.le_refl _, hi, fun m a b => by omega, fun _ c => h2 c.1⟩
    · rw [if_neg h1]; exact ⟨i, rfl, Nat.le_refl _, hi, fun m a b => by omega, fun c => absurd c h1⟩
theorem rnum_l (s : List UInt8) (y e : Nat) (he : e ≤ s.length) (hn : e < s.length → ¬ dg s e) : ∀ j k i n d, i + j = e → j < k → (∀ m, i ≤ m → m < e → dg s m) →
    rget_m_l1 s y k (i, n, d) = match nm s j i n with | none => .inr (0, 3) | some v => .inl (e, v, d + j)
  | j, 0, i, n, d, h, hk, hd => by omega
  | 0, k + 1, i, n, d, h, hk, hd => by
    show rget_m_b1 s y (rget_m_l1 s y k) i n d = .inl (e, n, d + 0)
    obtain rfl : i = e := by omega
    unfold rget_m_b1
    repeat' split
    all_goals first
      | rfl
      | exact absurd ⟨by assumption, by assumption⟩ (hn (by assumption))
  | j + 1, k + 1, i, n, d, h, hk, hd => by
    show rget_m_b1 s y (rget_m_l1 s y k) i n d = _
    have q := hd i (Nat.le_refl _) (by omega)
    unfold rget_m_b1
    rw [if_pos (by omega), if_pos q.1, if_pos q.2]
    unfold nm
    by_cases h2 : 1152921504606846976 ≤ n
    · rw [if_pos h2, if_pos h2]
    · rw [if_neg h2, if_neg h2, rnum_l s y e he hn j k (i + 1) _ (d + 1) (by omega) (by omega) (fun m a b => hd m (by omega) b), show d + 1 + j = d + (j + 1) by omega]
theorem nB_l (s : List UInt8) (a e : Nat) (he : e ≤ s.length) (ha : a ≤ e) (hd : ∀ m, a ≤ m → m < e → dg s m) : ∀ j k n x, x + j = e - a → j < k →
    nB_m_l0 ((s.take e).drop a) k (n, x) = match nm s j (a + x) n with | none => .inr (0, 3) | some v => .inl (v, e - a)
  | j, 0, n, x, h, hk => by omega
  | 0, k + 1, n, x, h, hk => by
    show nB_m_b0 ((s.take e).drop a) (nB_m_l0 ((s.take e).drop a) k) n x = .inl (n, e - a)
    have hl : ((s.take e).drop a).length = e - a := by rw [List.length_drop, List.length_take]; omega
    unfold nB_m_b0
    rw [if_neg (by omega), show x = e - a by omega]
  | j + 1, k + 1, n, x, h, hk => by
    show nB_m_b0 ((s.take e).drop a) (nB_m_l0 ((s.take e).drop a) k) n x = _
    have hl : ((s.take e).drop a).length = e - a := by rw [List.length_drop, List.length_take]; omega
    have q := hd (a + x) (by omega) (by omega)
    unfold dg at q
    have hb := by_lt s (a + x)
    unfold nB_m_b0
    rw [if_pos (by omega), by_part s e a x (by omega)]
    have hdd : (UInt8.ofNat (by' s (a + x) + 256 - 48)).toNat = by' s (a + x) - 48 := by rw [UInt8.toNat_ofNat']; omega
    rw [hdd]
    unfold nm
    by_cases h2 : 1152921504606846976 ≤ n
    · rw [if_pos h2, if_pos (by omega)]
    · rw [if_neg h2, if_neg (by omega), nB_l s a e he ha hd j k _ (x + 1) (by omega) (by omega), show a + (x + 1) = a + x + 1 by omega, Nat.mul_comm n 8]
theorem rest_l (s : List UInt8) (y e n d : Nat) (he : e ≤ s.length) : ∀ k x, s.length ≤ e + x + k → e + x ≤ s.length →
    (nothing_m_l0 (s.drop e) (k + 1) x = .inr false ∧ rget_m_l2 s y e n d (k + 1) (e + x) = .inr (0, 2)) ∨ (∃ p q, nothing_m_l0 (s.drop e) (k + 1) x = .inl p ∧ rget_m_l2 s y e n d (k + 1) (e + x) = .inl q)
  | k, x, h, hx => by
    have E1 : nothing_m_l0 (s.drop e) (k + 1) x = nothing_m_b0 (s.drop e) (nothing_m_l0 (s.drop e) k) x := rfl
    have E2 : rget_m_l2 s y e n d (k + 1) (e + x) = rget_m_b2 s y e n d (rget_m_l2 s y e n d k) (e + x) := rfl
    have hl : (s.drop e).length = s.length - e := List.length_drop
    have next : x < (s.drop e).length → (nothing_m_l0 (s.drop e) k (x + 1) = .inr false ∧ rget_m_l2 s y e n d k (e + x + 1) = .inr (0, 2)) ∨ (∃ p q, nothing_m_l0 (s.drop e) k (x + 1) = .inl p ∧ rget_m_l2 s y e n d k (e + x + 1) = .inl q) := by
      intro h1
      match k, h with
      | 0, h => omega
      | k + 1, h => exact rest_l s y e n d he k (x + 1) (by omega) (by omega)
    rw [E1, E2]
    unfold nothing_m_b0 rget_m_b2
    rw [by_drop]
    by_cases h1 : x < (s.drop e).length
    · rw [if_pos h1, if_pos (show e + x < s.length by omega)]
      by_cases h2 : by' s (e + x) = 32
      · rw [if_neg (show ¬ ¬ by' s (e + x) = 32 from fun c => c h2), if_neg (show ¬ ¬ by' s (e + x) = 32 from fun c => c h2)]
        exact next h1
      · rw [if_pos h2, if_pos h2]
        by_cases h3 : by' s (e + x) = 0
        · rw [if_neg (show ¬ ¬ by' s (e + x) = 0 from fun c => c h3), if_neg (show ¬ ¬ by' s (e + x) = 0 from fun c => c h3)]
          exact next h1
        · rw [if_pos h3, if_pos h3]
          exact .inl ⟨rfl, rfl⟩
    · rw [if_neg h1, if_neg (show ¬ e + x < s.length by omega)]
      exact .inr ⟨_, _, rfl, rfl⟩
theorem dig_is (s : List UInt8) (a : Nat) (ha : a ≤ s.length) : get_m_k0 s a = rget_m_k0 s a := by
  unfold get_m_k0 rget_m_k0
  obtain ⟨e, e1, b, c, d, f⟩ := end_l s a (s.length - a) a (by omega) ha
  rw [e1, rnum_l s a e c f (e - a) _ a 0 0 (by omega) (by omega) d]
  show get_m_k1 s a e = _
  unfold get_m_k1
  have hl : ((s.take e).drop a).length = e - a := by rw [List.length_drop, List.length_take]; omega
  have hB : nB_m ((s.take e).drop a) = match nm s (e - a) a 0 with | none => (0, 3) | some v => (((v : Nat) : Int), 0) := by
    unfold nB_m
    rw [hl, nB_l s a e c b d (e - a) _ 0 0 (by omega) (by omega), Nat.add_zero]
    cases nm s (e - a) a 0 <;> rfl
  rw [hB]
  cases nm s (e - a) a 0 with
  | none => rfl
  | some v =>
    show (if ¬ (0 : Int) = 0 then _ else if e = a then (0, 2) else if (!(nothing_m (s.drop e))) = true then (0, 2) else (((v : Nat) : Int), 0)) = rget_m_k1 s a e v (0 + (e - a))
    rw [if_neg (by decide)]
    unfold rget_m_k1 nothing_m
    have hl2 : (s.drop e).length = s.length - e := List.length_drop
    rw [hl2, Nat.sub_zero]
    rcases rest_l s a e v (0 + (e - a)) c (s.length - e) 0 (by omega) (by omega) with ⟨p, q⟩ | ⟨p, q, g, r⟩
    · have q' : rget_m_l2 s a e v (0 + (e - a)) (s.length - e + 1) e = .inr (0, 2) := q
      rw [p, q']
      by_cases h : e = a
      · rw [if_pos h]; rfl
      · rw [if_neg h]; rfl
    · rw [g]
      have r' : rget_m_l2 s a e v (0 + (e - a)) (s.length - e + 1) e = .inl q := r
      rw [r']
      by_cases h : e = a
      · rw [if_pos h]
        show _ = rget_m_k2 s a e v (0 + (e - a)) q
        unfold rget_m_k2
        rw [if_pos (show 0 + (e - a) = 0 by omega)]
      · rw [if_neg h]
        show _ = rget_m_k2 s a e v (0 + (e - a)) q
        unfold rget_m_k2
        rw [if_neg (show ¬ 0 + (e - a) = 0 by omega)]
        rfl
theorem sp_end (s : List UInt8) : ∀ k i, s.length ≤ i + k → i ≤ s.length → ∃ e, get_m_l0 s (k + 1) i = .inl e ∧ e ≤ s.length
  | k, i, h, hi => by
    have E : get_m_l0 s (k + 1) i = get_m_b0 s (get_m_l0 s k) i := rfl
    rw [E]
    unfold get_m_b0
    by_cases h1 : i < s.length
    · rw [if_pos h1]
      by_cases h2 : by' s i = 32
      · rw [if_pos h2]
        match k, h with
        | 0, h => omega
        | k + 1, h => exact sp_end s k (i + 1) (by omega) (by omega)
      · rw [if_neg h2]; exact ⟨i, rfl, hi⟩
    · rw [if_neg h1]; exact ⟨i, rfl, hi⟩
theorem get_is (s : List UInt8) : get_m s = rget_m s := by
  unfold get_m rget_m
  obtain ⟨e, e1, e2⟩ := sp_end s (s.length - 0) 0 (by omega) (Nat.zero_le _)
  have E : fin (get_m_l0 s ((s.length - 0) + 1) 0) (fun r => r) (fun zz => get_m_k0 s zz) = fin (rget_m_l0 s ((s.length - 0) + 1) 0) (fun r => r) (fun zz => rget_m_k0 s zz) := by
    rw [← sp_l, e1]
    exact dig_is s e e2
  rw [E, wide_is]
  by_cases h : s = []
  · subst h; rfl
  · rw [if_pos (List.length_pos_iff.2 h), if_pos h]
end Go.Proofs.YtglnifckngcpkaaDoor.Hd
