/- Layer 8: what was put is read again: the mathematics. -/
import Derived.Test.YtglnifckngcpkaaDoorHdV
import Derived.Test.YtglnifckngcpkaaDoorHdP
set_option linter.unusedVariables false
namespace Go.Proofs.YtglnifckngcpkaaDoor.Hd
open Go.Proofs.YtglnifckngcpkaaDoor.Mem
theorem nm_snoc (s : List UInt8) : ∀ j i acc, nm s (j + 1) i acc = match nm s j i acc with | none => none | some v => if 1152921504606846976 ≤ v then none else some (8 * v + (by' s (i + j) - 48))
  | 0, i, acc => rfl
  | j + 1, i, acc => by
    have E : ∀ k, nm s (k + 1) i acc = if 1152921504606846976 ≤ acc then none else nm s k (i + 1) (8 * acc + (by' s i - 48)) := fun _ => rfl
    rw [E (j + 1), E j]
    by_cases h : 1152921504606846976 ≤ acc
    · rw [if_pos h, if_pos h]
    · rw [if_neg h, if_neg h, nm_snoc s j, show i + 1 + j = i + (j + 1) by omega]
theorem by_mid (p q r : List UInt8) (c : UInt8) : by' (p ++ (q ++ c :: r)) (p.length + q.length) = c.toNat := by
  unfold by'
  rw [← List.append_assoc, List.getD, List.getElem?_append_right (by rw [List.length_append]; omega), List.length_append, Nat.sub_self]
  rfl
theorem nm_od : ∀ (j : Nat) (n : Int) (p r : List UInt8), 0 ≤ n → n ≤ 9223372036854775807 → oq j n = 0 → nm (p ++ (od j n ++ r)) j p.length 0 = some n.toNat
  | 0, n, p, r, h0, h1, hq => by
    have : n = 0 := hq
    subst this
    rfl
  | j + 1, n, p, r, h0, h1, hq => by
    have e : od (j + 1) n ++ r = od j (n / 8) ++ UInt8.ofNat ((48 : Int) + (n % (8 : Int))).toNat :: r := by
      show (od j (n / 8) ++ [UInt8.ofNat ((48 : Int) + (n % (8 : Int))).toNat]) ++ r = _
      rw [List.append_assoc]
      rfl
    rw [nm_snoc, e, nm_od j (n / 8) p _ (by omega) (by omega) hq]
    have b := by_mid p (od j (n / 8)) r (UInt8.ofNat ((48 : Int) + (n % (8 : Int))).toNat)
    rw [od_len, UInt8.toNat_ofNat'] at b
    show (if 1152921504606846976 ≤ (n / 8).toNat then none else some (8 * (n / 8).toNat + (by' _ (p.length + j) - 48))) = _
    rw [if_neg (by omega), b]
    congr 1
    omega
theorem od_dig : ∀ (j : Nat) (n : Int) (p r : List UInt8), ∀ m, p.length ≤ m → m < p.length + j → dg (p ++ (od j n ++ r)) m
  | 0, n, p, r, m, h1, h2 => by omega
  | j + 1, n, p, r, m, h1, h2 => by
    have e : od (j + 1) n ++ r = od j (n / 8) ++ UInt8.ofNat ((48 : Int) + (n % (8 : Int))).toNat :: r := by
      show (od j (n / 8) ++ [UInt8.ofNat ((48 : Int) + (n % (8 : Int))).toNat]) ++ r = _
      rw [List.append_assoc]
      rfl
    rw [e]
    by_cases h : m = p.length + j
    · have b := by_mid p (od j (n / 8)) r (UInt8.ofNat ((48 : Int) + (n % (8 : Int))).toNat)
      rw [od_len, UInt8.toNat_ofNat'] at b
      unfold dg
      rw [h, b]
      omega
    · exact od_dig j (n / 8) p _ m h1 (by omega)
theorem nothing_z (r : List UInt8) (h : ∀ m, m < r.length → by' r m = 32 ∨ by' r m = 0) : nothing_m r = true := by
  have L : ∀ k i, r.length ≤ i + k → i ≤ r.length → ∃ j, nothing_m_l0 r (k + 1) i = .inl j := by
    intro k
    induction k with
    | zero =>
      intro i a b
      show ∃ j, nothing_m_b0 r (nothing_m_l0 r 0) i = .inl j
      unfold nothing_m_b0
      rw [if_neg (by omega)]
      exact ⟨i, rfl⟩
    | succ k ih =>
      intro i a b
      show ∃ j, nothing_m_b0 r (nothing_m_l0 r (k + 1)) i = .inl j
      unfold nothing_m_b0
      by_cases h1 : i < r.length
      · rw [if_pos h1]
        have q := ih (i + 1) (by omega) (by omega)
        rcases h i h1 with e | e
        · rw [if_neg (show ¬ ¬ by' r i = 32 from fun c => c e)]; exact q
        · rw [if_pos (by omega), if_neg (show ¬ ¬ by' r i = 0 from fun c => c e)]; exact q
      · rw [if_neg h1]; exact ⟨i, rfl⟩
  unfold nothing_m
  obtain ⟨j, e⟩ := L (r.length - 0) 0 (by omega) (Nat.zero_le _)
  rw [e]
  rfl
/-- Digits and what is nothing behind them: the number. -/
theorem get_dig (d : Nat) (n : Int) (r : List UInt8) (hd : 0 < d) (h0 : 0 ≤ n) (h1 : n ≤ 9223372036854775807) (hq : oq d n = 0) (hr : 0 < r.length) (hn : ∀ m, m < r.length → by' r m = 32 ∨ by' r m = 0) : get_m (od d n ++ r) = (n, 0) := by
  have hl : (od d n ++ r).length = d + r.length := by rw [List.length_append, od_len]
  have hdg : ∀ m, 0 ≤ m → m < d → dg (od d n ++ r) m := fun m _ hm => od_dig d n [] r m (Nat.zero_le _) (by rw [List.length_nil]; omega)
  have hend : ¬ dg (od d n ++ r) d := by
    have b : by' (od d n ++ r) d = by' r 0 := by
      unfold by'
      rw [List.getD, List.getElem?_append_right (by rw [od_len]; exact Nat.le_refl _), od_len, Nat.sub_self]
      rfl
    unfold dg
    rw [b]
    rcases hn 0 hr with e | e <;> omega
  have f0 := hdg 0 (Nat.le_refl _) hd
  have sp : get_m_l0 (od d n ++ r) (((od d n ++ r).length - 0) + 1) 0 = .inl 0 := by
    show get_m_b0 (od d n ++ r) _ 0 = _
    unfold dg at f0
    unfold get_m_b0
    rw [if_pos (by omega), if_neg (by omega)]
  unfold get_m
  rw [if_pos (by omega), if_neg (by unfold dg at f0; omega), sp]
  show get_m_k0 (od d n ++ r) 0 = _
  unfold get_m_k0
  obtain ⟨e, e1, b, c, dd, f⟩ := end_l (od d n ++ r) 0 ((od d n ++ r).length - 0) 0 (by omega) (Nat.zero_le _)
  have ed : e = d := by
    by_cases q1 : e < d
    · exact absurd (hdg e (Nat.zero_le _) q1) (f (by omega))
    · by_cases q2 : d < e
      · exact absurd (dd d (Nat.zero_le _) q2) hend
      · omega
  subst ed
  rw [e1]
  show get_m_k1 (od e n ++ r) 0 e = _
  unfold get_m_k1
  have hl2 : (((od e n ++ r).take e).drop 0).length = e - 0 := by rw [List.length_drop, List.length_take]; omega
  have hnm : nm (od e n ++ r) (e - 0) (0 + 0) 0 = some n.toNat := nm_od e n [] r h0 h1 hq
  have hB : nB_m (((od e n ++ r).take e).drop 0) = (n, 0) := by
    unfold nB_m
    rw [hl2, nB_l (od e n ++ r) 0 e c b dd (e - 0) _ 0 0 (by omega) (by omega), hnm]
    show (((n.toNat : Nat) : Int), (0 : Int)) = (n, 0)
    rw [Int.toNat_of_nonneg h0]
  have hr2 : (od e n ++ r).drop e = r := by
    have := List.drop_left (l₁ := od e n) (l₂ := r)
    rwa [od_len] at this
  rw [hB, hr2, nothing_z r hn, if_neg (show ¬ ¬ ((n, (0 : Int)) : Int × Int).2 = 0 from fun c => c rfl), if_neg (by omega)]
  rfl
/-- The number of bytes from a place on, or none. -/
def nw (s : List UInt8) : Nat → Nat → Nat → Option Nat
  | 0, _, n => some n
  | j + 1, i, n => if 36028797018963968 ≤ n then none else nw s j (i + 1) (n * 2 ^ 8 + by' s i)
theorem nw_snoc (s : List UInt8) : ∀ j i acc, nw s (j + 1) i acc = match nw s j i acc with | none => none | some v => if 36028797018963968 ≤ v then none else some (v * 2 ^ 8 + by' s (i + j))
  | 0, i, acc => rfl
  | j + 1, i, acc => by
    have E : ∀ k, nw s (k + 1) i acc = if 36028797018963968 ≤ acc then none else nw s k (i + 1) (acc * 2 ^ 8 + by' s i) := fun _ => rfl
    rw [E (j + 1), E j]
    by_cases h : 36028797018963968 ≤ acc
    · rw [if_pos h, if_pos h]
    · rw [if_neg h, if_neg h, nw_snoc s j, show i + 1 + j = i + (j + 1) by omega]
theorem nw_bd : ∀ (j : Nat) (n : Int) (p r : List UInt8), 0 ≤ n → n ≤ 9223372036854775807 → bq j n = 0 → nw (p ++ (bd j n ++ r)) j p.length 0 = some n.toNat
  | 0, n, p, r, h0, h1, hq => by
    have : n = 0 := hq
    subst this
    rfl
  | j + 1, n, p, r, h0, h1, hq => by
    have e : bd (j + 1) n ++ r = bd j (n / 256) ++ UInt8.ofNat n.toNat :: r := by
      show (bd j (n / 256) ++ [UInt8.ofNat n.toNat]) ++ r = _
      rw [List.append_assoc]
      rfl
    rw [nw_snoc, e, nw_bd j (n / 256) p _ (by omega) (by omega) hq]
    have b := by_mid p (bd j (n / 256)) r (UInt8.ofNat n.toNat)
    rw [bd_len, UInt8.toNat_ofNat'] at b
    show (if 36028797018963968 ≤ (n / 256).toNat then none else some ((n / 256).toNat * 2 ^ 8 + by' _ (p.length + j))) = _
    rw [if_neg (by omega), b]
    congr 1
    omega
theorem rwide_n (s : List UInt8) : ∀ j k n i, i + j = s.length → j < k → rwide_m_l0 s k (n, i) = match nw s j i n with | none => .inr (0, 3) | some v => .inl (v, s.length)
  | j, 0, n, i, h, hk => by omega
  | 0, k + 1, n, i, h, hk => by
    show rwide_m_b0 s (rwide_m_l0 s k) n i = .inl (n, s.length)
    unfold rwide_m_b0
    rw [if_neg (by omega), show i = s.length by omega]
  | j + 1, k + 1, n, i, h, hk => by
    show rwide_m_b0 s (rwide_m_l0 s k) n i = _
    unfold rwide_m_b0
    rw [if_pos (by omega)]
    unfold nw
    by_cases h2 : 36028797018963968 ≤ n
    · rw [if_pos h2, if_pos h2]
    · rw [if_neg h2, if_neg h2, rwide_n s j k _ (i + 1) (by omega) (by omega)]
theorem get_wide (j : Nat) (n : Int) (h0 : 0 ≤ n) (h1 : n ≤ 9223372036854775807) (hq : bq j n = 0) : get_m (128 :: bd j n) = (n, 0) := by
  have e : nw (bd j n) j 0 0 = some n.toNat := by
    have := nw_bd j n [] [] h0 h1 hq
    rwa [List.append_nil] at this
  unfold get_m
  rw [if_pos (show 0 < (128 :: bd j n).length from Nat.succ_pos _), if_pos (show by' (128 :: bd j n) 0 = 128 from rfl), wide_is]
  show ((rwide_m (bd j n)).1, (rwide_m (bd j n)).2) = (n, 0)
  have w : rwide_m (bd j n) = (n, 0) := by
    unfold rwide_m
    rw [rwide_n (bd j n) j _ 0 0 (by rw [bd_len]; omega) (by rw [bd_len]; omega), e]
    show (((n.toNat : Nat) : Int), (0 : Int)) = (n, 0)
    rw [Int.toNat_of_nonneg h0]
  rw [w]
/-- What was put is read. -/
theorem get_put (n w : Int) (h1 : n ≤ 9223372036854775807) (h : (put_m n w).2 = 0) : get_m (put_m n w).1 = (n, 0) := by
  rcases put_all n w with ⟨_, hl, hw, h0⟩ | ⟨a, _⟩
  rotate_left
  · exact absurd h a
  rw [put_is] at h ⊢
  have key : ∀ d : Int, (d = 7 ∨ d = 11) → w - 1 = d → rput_m n w = (if ((roct_m n (w - (1 : Int))).2) = true then (((roct_m n (w - (1 : Int))).1 ++ [0]), 0) else fin (rput_m_l0 n w ((w - 1 - ((([] : List UInt8).length : Nat) : Int)).toNat + 1) (n, [])) (fun r => r) (fun zz => rput_m_k0 n w zz.1 zz.2)) := by
    intro d hd hwd
    unfold rput_m
    rw [if_neg (by omega)]
    rcases hw with rfl | rfl
    · rw [if_neg (by decide)]
    · rw [if_pos (by decide), if_neg (by decide)]
  have k := key (w - 1) (by omega) rfl
  rw [roct_is n (w - 1) h0 (by omega) (by omega), rput_l n w (w - 1).toNat _ n [] (by rw [List.length_nil]; omega) (by rw [List.length_nil]; omega), List.append_nil] at k
  by_cases c : oq (w - 1).toNat n = 0
  · rw [if_pos (decide_eq_true c)] at k
    rw [k]
    exact get_dig _ n [0] (by omega) h0 h1 c (by decide) (fun m hm => by
      match m, hm with
      | 0, _ => exact .inr rfl)
  · rw [if_neg (by simpa using c)] at k
    have k' : rput_m n w = rput_m_k0 n w (bq (w - 1).toNat n) (bd (w - 1).toNat n) := k
    unfold rput_m_k0 at k'
    by_cases q : bq (w - 1).toNat n = 0
    · rw [if_neg (fun c => c q)] at k'
      rw [k']
      exact get_wide _ n h0 h1 q
    · rw [if_pos q] at k'
      rw [k'] at h
      exact absurd h (by decide)
end Go.Proofs.YtglnifckngcpkaaDoor.Hd
