/- Layer 9: what is written is read again; with one byte changed: the mathematics. -/
import Derived.Test.YtglnifckngcpkaaDoorHdS
import Derived.Test.YtglnifckngcpkaaDoorHdV
import Derived.Test.YtglnifckngcpkaaDoorHdP
import Derived.Test.YtglnifckngcpkaaDoorHdEM
set_option linter.unusedVariables false
set_option linter.unusedSimpArgs false
namespace Go.Proofs.YtglnifckngcpkaaDoor.Hd
open Go.Proofs.YtglnifckngcpkaaDoor.Mem
def nz (b : UInt8) : Bool := b != 0
theorem cut_is : ∀ s : List UInt8, hcut_m s = s.takeWhile nz
  | [] => by
    unfold hcut_m cut_m Lib.cut
    rw [Lib.index_one]
    rfl
  | x :: r => by
    have ih := cut_is r
    unfold hcut_m cut_m Lib.cut at ih ⊢
    rw [Lib.index_one] at ih ⊢
    have E : Lib.indexByte (x :: r) 0 = if x == (0 : UInt8) then 0 else if Lib.indexByte r 0 == -1 then -1 else Lib.indexByte r 0 + 1 := rfl
    by_cases h : x = 0
    · subst h
      rfl
    · rw [List.takeWhile_cons_of_pos (by unfold nz; simpa using h)]
      have E2 : Lib.indexByte (x :: r) 0 = if Lib.indexByte r 0 == -1 then -1 else Lib.indexByte r 0 + 1 := by rw [E, if_neg (by simpa using h)]
      have hge := Lib.indexByte_ge r 0
      by_cases h2 : Lib.indexByte r 0 = -1
      · have E3 : Lib.indexByte (x :: r) 0 = -1 := by rw [E2, h2]; rfl
        rw [E3, if_neg (by decide)]
        rw [h2, if_neg (by decide)] at ih
        simp only at ih ⊢
        rw [← ih]
      · have E3 : Lib.indexByte (x :: r) 0 = Lib.indexByte r 0 + 1 := by rw [E2, if_neg (by simpa using h2)]
        rw [E3, if_pos (by omega)]
        rw [if_pos (by omega)] at ih
        simp only at ih ⊢
        rw [← ih, show (Lib.indexByte r 0 + 1).toNat = (Lib.indexByte r 0).toNat + 1 by omega]
        rfl
theorem by_z (s : List UInt8) (i : Nat) (h : i < s.length) : by' s i = 0 ↔ s[i] = 0 := by
  rw [← by_at s i h]
  exact ⟨fun e => UInt8.toNat_inj.1 e, fun e => by rw [e]; rfl⟩
end Go.Proofs.YtglnifckngcpkaaDoor.Hd
namespace Go.Proofs.YtglnifckngcpkaaDoor.Hd
open Go.Proofs.YtglnifckngcpkaaDoor.Mem
theorem nm_snoc (s : List UInt8) : ∀ j i acc, nm s (j + 1) i acc = match nm s j i acc with | none => none | some v => if 1152921504606846976 ≤ v then none else some (8 * v + (by' s (i + j) - 48))
  | 0, i, acc => rfl
  | j + 1, i, acc => by
    have E : ∀ k, nm s (k + 1) i acc = if 1152921504606846976 ≤ acc then none else nm s k (i + 1) (8 * acc + (by' s i - 48)) := fun _ => rfl
    rw [E (j + 1), E j]
    by_cases h : 1152921504606846976 ≤ acc
    · rw [if_pos h, if_pos h]
    · rw [if_neg h, if_neg h, nm_snoc s j, show i + 1 + j = i + (j + 1) by omega]
theorem by_mid (p q r : List UInt8) (c : UInt8) : by' (p ++ (q ++ c :: r)) (p.length + q.length) = c.toNat := by
  unfold by'
  rw [← List.append_assoc, List.getD, List.getElem?_append_right (by rw [List.length_append]; omega), List.length_append, Nat.sub_self]
  rfl
theorem nm_od : ∀ (j : Nat) (n : Int) (p r : List UInt8), 0 ≤ n → n ≤ 9223372036854775807 → oq j n = 0 → nm (p ++ (od j n ++ r)) j p.length 0 = some n.toNat
  | 0, n, p, r, h0, h1, hq => by
    have : n = 0 := hq
    subst this
    rfl
  | j + 1, n, p, r, h0, h1, hq => by
    have e : od (j + 1) n ++ r = od j (n / 8) ++ UInt8.ofNat ((48 : Int) + (n % (8 : Int))).toNat :: r := by
      show (od j (n / 8) ++ [UInt8.ofNat ((48 : Int) + (n % (8 : Int))).toNat]) ++ r = _
      rw [List.append_assoc]
      rfl
    rw [nm_snoc, e, nm_od j (n / 8) p _ (by omega) (by omega) hq]
    have b := by_mid p (od j (n / 8)) r (UInt8.ofNat ((48 : Int) + (n % (8 : Int))).toNat)
    rw [od_len, UInt8.toNat_ofNat'] at b
    show (if 1152921504606846976 ≤ (n / 8).toNat then none else some (8 * (n / 8).toNat + (by' _ (p.length + j) - 48))) = _
    rw [if_neg (by omega), b]
    congr 1
    omega
theorem od_dig : ∀ (j : Nat) (n : Int) (p r : List UInt8), ∀ m, p.length ≤ m → m < p.length + j → dg (p ++ (od j n ++ r)) m
  | 0, n, p, r, m, h1, h2 => by omega
  | j + 1, n, p, r, m, h1, h2 => by
    have e : od (j + 1) n ++ r = od j (n / 8) ++ UInt8.ofNat ((48 : Int) + (n % (8 : Int))).toNat :: r := by
      show (od j (n / 8) ++ [UInt8.ofNat ((48 : Int) + (n % (8 : Int))).toNat]) ++ r = _
      rw [List.append_assoc]
      rfl
    rw [e]
    by_cases h : m = p.length + j
    · have b := by_mid p (od j (n / 8)) r (UInt8.ofNat ((48 : Int) + (n % (8 : Int))).toNat)
      rw [od_len, UInt8.toNat_ofNat'] at b
      unfold dg
      rw [h, b]
      omega
    · exact od_dig j (n / 8) p _ m h1 (by omega)
theorem nothing_z (r : List UInt8) (h : ∀ m, m < r.length → by' r m = 32 ∨ by' r m = 0) : nothing_m r = true := by
  have L : ∀ k i, r.length ≤ i + k → i ≤ r.length → ∃ j, nothing_m_l0 r (k + 1) i = .inl j := by
    intro k
    induction k with
    | zero =>
      intro i a b
      show ∃ j, nothing_m_b0 r (nothing_m_l0 r 0) i = .inl j
      unfold nothing_m_b0
      rw [if_neg (by omega)]
      exact ⟨i, rfl⟩
    | succ k ih =>
      intro i a b
      show ∃ j, nothing_m_b0 r (nothing_m_l0 r (k + 1)) i = .inl j
      unfold nothing_m_b0
      by_cases h1 : i < r.length
      · rw [if_pos h1]
        have q := ih (i + 1) (by omega) (by omega)
        rcases h i h1 with e | e
        · rw [if_neg (show ¬ ¬ by' r i = 32 from fun c => c e)]; exact q
        · rw [if_pos (by omega), if_neg (show ¬ ¬ by' r i = 0 from fun c => c e)]; exact q
      · rw [if_neg h1]; exact ⟨i, rfl⟩
  unfold nothing_m
  obtain ⟨j, e⟩ := L (r.length - 0) 0 (by omega) (Nat.zero_le _)
  rw [e]
  rfl
/-- Digits and what is nothing behind them: the number. -/
theorem get_dig (d : Nat) (n : Int) (r : List UInt8) (hd : 0 < d) (h0 : 0 ≤ n) (h1 : n ≤ 9223372036854775807) (hq : oq d n = 0) (hr : 0 < r.length) (hn : ∀ m, m < r.length → by' r m = 32 ∨ by' r m = 0) : get_m (od d n ++ r) = (n, 0) := by
  have hl : (od d n ++ r).length = d + r.length := by rw [List.length_append, od_len]
  have hdg : ∀ m, 0 ≤ m → m < d → dg (od d n ++ r) m := fun m _ hm => od_dig d n [] r m (Nat.zero_le _) (by rw [List.length_nil]; omega)
  have hend : ¬ dg (od d n ++ r) d := by
    have b : by' (od d n ++ r) d = by' r 0 := by
      unfold by'
      rw [List.getD, List.getElem?_append_right (by rw [od_len]; exact Nat.le_refl _), od_len, Nat.sub_self]
      rfl
    unfold dg
    rw [b]
    rcases hn 0 hr with e | e <;> omega
  have f0 := hdg 0 (Nat.le_refl _) hd
  have sp : get_m_l0 (od d n ++ r) (((od d n ++ r).length - 0) + 1) 0 = .inl 0 := by
    show get_m_b0 (od d n ++ r) _ 0 = _
    unfold dg at f0
    unfold get_m_b0
    rw [if_pos (by omega), if_neg (by omega)]
  unfold get_m
  rw [if_pos (by omega), if_neg (by unfold dg at f0; omega), sp]
  show get_m_k0 (od d n ++ r) 0 = _
  unfold get_m_k0
  obtain ⟨e, e1, b, c, dd, f⟩ := end_l (od d n ++ r) 0 ((od d n ++ r).length - 0) 0 (by omega) (Nat.zero_le _)
  have ed : e = d := by
    by_cases q1 : e < d
    · exact absurd (hdg e (Nat.zero_le _) q1) (f (by omega))
    · by_cases q2 : d < e
      · exact absurd (dd d (Nat.zero_le _) q2) hend
      · omega
  subst ed
  rw [e1]
  show get_m_k1 (od e n ++ r) 0 e = _
  unfold get_m_k1
  have hl2 : (((od e n ++ r).take e).drop 0).length = e - 0 := by rw [List.length_drop, List.length_take]; omega
  have hnm : nm (od e n ++ r) (e - 0) (0 + 0) 0 = some n.toNat := nm_od e n [] r h0 h1 hq
  have hB : nB_m (((od e n ++ r).take e).drop 0) = (n, 0) := by
    unfold nB_m
    rw [hl2, nB_l (od e n ++ r) 0 e c b dd (e - 0) _ 0 0 (by omega) (by omega), hnm]
    show (((n.toNat : Nat) : Int), (0 : Int)) = (n, 0)
    rw [Int.toNat_of_nonneg h0]
  have hr2 : (od e n ++ r).drop e = r := by
    have := List.drop_left (l₁ := od e n) (l₂ := r)
    rwa [od_len] at this
  rw [hB, hr2, nothing_z r hn, if_neg (show ¬ ¬ ((n, (0 : Int)) : Int × Int).2 = 0 from fun c => c rfl), if_neg (by omega)]
  rfl
/-- The number of bytes from a place on, or none. -/
def nw (s : List UInt8) : Nat → Nat → Nat → Option Nat
  | 0, _, n => some n
  | j + 1, i, n => if 36028797018963968 ≤ n then none else nw s j (i + 1) (n * 2 ^ 8 + by' s i)
theorem nw_snoc (s : List UInt8) : ∀ j i acc, nw s (j + 1) i acc = match nw s j i acc with | none => none | some v => if 36028797018963968 ≤ v then none else some (v * 2 ^ 8 + by' s (i + j))
  | 0, i, acc => rfl
  | j + 1, i, acc => by
    have E : ∀ k, nw s (k + 1) i acc = if 36028797018963968 ≤ acc then none else nw s k (i + 1) (acc * 2 ^ 8 + by' s i) := fun _ => rfl
    rw [E (j + 1), E j]
    by_cases h : 36028797018963968 ≤ acc
    · rw [if_pos h, if_pos h]
    · rw [if_neg h, if_neg h, nw_snoc s j, show i + 1 + j = i + (j + 1) by omega]
theorem nw_bd : ∀ (j : Nat) (n : Int) (p r : List UInt8), 0 ≤ n → n ≤ 9223372036854775807 → bq j n = 0 → nw (p ++ (bd j n ++ r)) j p.length 0 = some n.toNat
  | 0, n, p, r, h0, h1, hq => by
    have : n = 0 := hq
    subst this
    rfl
  | j + 1, n, p, r, h0, h1, hq => by
    have e : bd (j + 1) n ++ r = bd j (n / 256) ++ UInt8.ofNat n.toNat :: r := by
      show (bd j (n / 256) ++ [UInt8.ofNat n.toNat]) ++ r = _
      rw [List.append_assoc]
      rfl
    rw [nw_snoc, e, nw_bd j (n / 256) p _ (by omega) (by omega) hq]
    have b := by_mid p (bd j (n / 256)) r (UInt8.ofNat n.toNat)
    rw [bd_len, UInt8.toNat_ofNat'] at b
    show (if 36028797018963968 ≤ (n / 256).toNat then none else some ((n / 256).toNat * 2 ^ 8 + by' _ (p.length + j))) = _
    rw [if_neg (by omega), b]
    congr 1
    omega
theorem rwide_n (s : List UInt8) : ∀ j k n i, i + j = s.length → j < k → rwide_m_l0 s k (n, i) = match nw s j i n with | none => .inr (0, 3) | some v => .inl (v, s.length)
  | j, 0, n, i, h, hk => by omega
  | 0, k + 1, n, i, h, hk => by
    show rwide_m_b0 s (rwide_m_l0 s k) n i = .inl (n, s.length)
    unfold rwide_m_b0
    rw [if_neg (by omega), show i = s.length by omega]
  | j + 1, k + 1, n, i, h, hk => by
    show rwide_m_b0 s (rwide_m_l0 s k) n i = _
    unfold rwide_m_b0
    rw [if_pos (by omega)]
    unfold nw
    by_cases h2 : 36028797018963968 ≤ n
    · rw [if_pos h2, if_pos h2]
    · rw [if_neg h2, if_neg h2, rwide_n s j k _ (i + 1) (by omega) (by omega)]
theorem get_wide (j : Nat) (n : Int) (h0 : 0 ≤ n) (h1 : n ≤ 9223372036854775807) (hq : bq j n = 0) : get_m (128 :: bd j n) = (n, 0) := by
  have e : nw (bd j n) j 0 0 = some n.toNat := by
    have := nw_bd j n [] [] h0 h1 hq
    rwa [List.append_nil] at this
  unfold get_m
  rw [if_pos (show 0 < (128 :: bd j n).length from Nat.succ_pos _), if_pos (show by' (128 :: bd j n) 0 = 128 from rfl), wide_is]
  show ((rwide_m (bd j n)).1, (rwide_m (bd j n)).2) = (n, 0)
  have w : rwide_m (bd j n) = (n, 0) := by
    unfold rwide_m
    rw [rwide_n (bd j n) j _ 0 0 (by rw [bd_len]; omega) (by rw [bd_len]; omega), e]
    show (((n.toNat : Nat) : Int), (0 : Int)) = (n, 0)
    rw [Int.toNat_of_nonneg h0]
  rw [w]
/-- What was put is read. -/
theorem get_put (n w : Int) (h1 : n ≤ 9223372036854775807) (h : (put_m n w).2 = 0) : get_m (put_m n w).1 = (n, 0) := by
  rcases put_all n w with ⟨_, hl, hw, h0⟩ | ⟨a, _⟩
  rotate_left
  · exact absurd h a
  rw [put_is] at h ⊢
  have key : ∀ d : Int, (d = 7 ∨ d = 11) → w - 1 = d → rput_m n w = (if ((roct_m n (w - (1 : Int))).2) = true then (((roct_m n (w - (1 : Int))).1 ++ [0]), 0) else fin (rput_m_l0 n w ((w - 1 - ((([] : List UInt8).length : Nat) : Int)).toNat + 1) (n, [])) (fun r => r) (fun zz => rput_m_k0 n w zz.1 zz.2)) := by
    intro d hd hwd
    unfold rput_m
    rw [if_neg (by omega)]
    rcases hw with rfl | rfl
    · rw [if_neg (by decide)]
    · rw [if_pos (by decide), if_neg (by decide)]
  have k := key (w - 1) (by omega) rfl
  rw [roct_is n (w - 1) h0 (by omega) (by omega), rput_l n w (w - 1).toNat _ n [] (by rw [List.length_nil]; omega) (by rw [List.length_nil]; omega), List.append_nil] at k
  by_cases c : oq (w - 1).toNat n = 0
  · rw [if_pos (decide_eq_true c)] at k
    rw [k]
    exact get_dig _ n [0] (by omega) h0 h1 c (by decide) (fun m hm => by
      match m, hm with
      | 0, _ => exact .inr rfl)
  · rw [if_neg (by simpa using c)] at k
    have k' : rput_m n w = rput_m_k0 n w (bq (w - 1).toNat n) (bd (w - 1).toNat n) := k
    unfold rput_m_k0 at k'
    by_cases q : bq (w - 1).toNat n = 0
    · rw [if_neg (fun c => c q)] at k'
      rw [k']
      exact get_wide _ n h0 h1 q
    · rw [if_pos q] at k'
      rw [k'] at h
      exact absurd h (by decide)
end Go.Proofs.YtglnifckngcpkaaDoor.Hd
namespace Go.Proofs.YtglnifckngcpkaaDoor.Hd
open Go.Proofs.YtglnifckngcpkaaDoor.Mem
theorem cut_fill (s : List UInt8) (n : Int) (h : ib_m s 0 < 0) : hcut_m (fill_m s n) = s := by
  rw [cut_is, fill_is, List.takeWhile_append_of_pos]
  · have : ∀ k, (List.replicate k (0 : UInt8)).takeWhile nz = [] := by
      intro k
      cases k with
      | zero => rfl
      | succ k => rw [List.replicate_succ, List.takeWhile_cons_of_neg (by decide)]
    unfold rep_m
    rw [this, List.append_nil]
  · intro b hb
    obtain ⟨m, hm, rfl⟩ := List.getElem_of_mem hb
    have q := (ib_lt s).1 h m hm
    unfold nz
    simpa using fun e => q ((by_z s m hm).2 e)
/-- Where the fields stand. -/
theorem at_all {h : Hdr} (l : Lies h) : (((hencode_m h).1).take 100).drop 0 = fill_m h.name 100 ∧ (((hencode_m h).1).take 108).drop 100 = (put_m h.mode 8).1 ∧ (((hencode_m h).1).take 116).drop 108 = (put_m h.uid 8).1 ∧ (((hencode_m h).1).take 124).drop 116 = (put_m h.gid 8).1 ∧ (((hencode_m h).1).take 136).drop 124 = (put_m h.size 12).1 ∧ (((hencode_m h).1).take 148).drop 136 = (put_m h.time 12).1 ∧ (((hencode_m h).1).take 156).drop 148 = sumOf h ++ [0, 32] := by
  have a := fill_len h.name 100 l.name.1
  have b := l.lens
  have c := sum_len h
  have f := front_len l
  have e : (hencode_m h).1 = fill_m h.name 100 ++ ((put_m h.mode 8).1 ++ ((put_m h.uid 8).1 ++ ((put_m h.gid 8).1 ++ ((put_m h.size 12).1 ++ ((put_m h.time 12).1 ++ ((sumOf h ++ [0, 32]) ++ backOf h)))))) := by
    rw [l.is]
    show ((frontOf h ++ sumOf h) ++ [0, 32]) ++ backOf h = _
    unfold frontOf
    simp only [List.append_assoc]
  refine ⟨?_, ?_, ?_, ?_, ?_, ?_, ?_⟩
  · rw [e]; exact piece [] _ _ rfl (by omega)
  · rw [e]; exact piece _ _ _ (by omega) (by omega)
  · rw [e, ← List.append_assoc]; exact piece _ _ _ (by simp only [List.length_append]; omega) (by omega)
  · rw [e, ← List.append_assoc, ← List.append_assoc]; exact piece _ _ _ (by simp only [List.length_append]; omega) (by omega)
  · rw [e, ← List.append_assoc, ← List.append_assoc, ← List.append_assoc]; exact piece _ _ _ (by simp only [List.length_append]; omega) (by omega)
  · rw [e, ← List.append_assoc, ← List.append_assoc, ← List.append_assoc, ← List.append_assoc]; exact piece _ _ _ (by simp only [List.length_append]; omega) (by omega)
  · rw [e, ← List.append_assoc, ← List.append_assoc, ← List.append_assoc, ← List.append_assoc, ← List.append_assoc]; exact piece _ _ _ (by simp only [List.length_append]; omega) (by simp only [List.length_append, List.length_cons, List.length_nil]; omega)
end Go.Proofs.YtglnifckngcpkaaDoor.Hd
namespace Go.Proofs.YtglnifckngcpkaaDoor.Hd
open Go.Proofs.YtglnifckngcpkaaDoor.Mem
set_option maxHeartbeats 2000000 in
theorem dec_of (s : List UInt8) (h : Hdr) (hl : s.length = 512) (hm : (s.take 265).drop 257 = [117, 115, 116, 97, 114, 0, 48, 48]) (hs : get_m ((s.take 156).drop 148) = (hsum_m s, 0))
    (g0 : get_m ((s.take 108).drop 100) = (h.mode, 0))
    (g1 : get_m ((s.take 116).drop 108) = (h.uid, 0))
    (g2 : get_m ((s.take 124).drop 116) = (h.gid, 0))
    (g3 : get_m ((s.take 136).drop 124) = (h.size, 0))
    (g4 : get_m ((s.take 148).drop 136) = (h.time, 0))
    : hdecode_m s = (Hdr.mk (hcut_m (s.take 100)) h.mode h.uid h.gid h.size h.time (s.getD 156 0) (hcut_m ((s.take 257).drop 157)) (hcut_m ((s.take 500).drop 345)), 0) := by
  unfold hdecode_m
  rw [if_neg (show ¬ ¬ s.length = 512 from fun c => c hl), if_neg (show ¬ ¬ (s.take 265).drop 257 = [117, 115, 116, 97, 114, 0, 48, 48] from fun c => c hm), hs, if_neg (show ¬ ¬ ((hsum_m s, (0 : Int)) : Int × Int).2 = 0 from fun c => c rfl), if_neg (show ¬ ¬ ((hsum_m s, (0 : Int)) : Int × Int).1 = hsum_m s from fun c => c rfl)]
  have a0 : hdecode_m_l0 s (5 - 0 + 1) (100, 0, [], 0, 0, 0, 0, 0, UInt8.ofNat 0, [], [], 0, 0, 0, 0, 0) = hdecode_m_l0 s 5 (108, 1, [], 0, 0, 0, 0, 0, UInt8.ofNat 0, [], [], h.mode, 0, 0, 0, 0) := by
    show hdecode_m_b0 s (hdecode_m_l0 s 5) 100 0 [] 0 0 0 0 0 (UInt8.ofNat 0) [] [] 0 0 0 0 0 = _
    unfold hdecode_m_b0
    rw [if_pos (by decide), if_pos rfl, (show get_m ((s.take (100 + 8)).drop 100) = (h.mode, 0) from g0), if_neg (show ¬ ¬ ((h.mode, (0 : Int)) : Int × Int).2 = 0 from fun c => c rfl)] <;> rfl
  rw [a0]
  have a1 : hdecode_m_l0 s 5 (108, 1, [], 0, 0, 0, 0, 0, UInt8.ofNat 0, [], [], h.mode, 0, 0, 0, 0) = hdecode_m_l0 s 4 (116, 2, [], 0, 0, 0, 0, 0, UInt8.ofNat 0, [], [], h.mode, h.uid, 0, 0, 0) := by
    show hdecode_m_b0 s (hdecode_m_l0 s 4) 108 1 [] 0 0 0 0 0 (UInt8.ofNat 0) [] [] h.mode 0 0 0 0 = _
    unfold hdecode_m_b0
    rw [if_pos (by decide), if_neg (by decide), if_pos rfl, (show get_m ((s.take (108 + 8)).drop 108) = (h.uid, 0) from g1), if_neg (show ¬ ¬ ((h.uid, (0 : Int)) : Int × Int).2 = 0 from fun c => c rfl)] <;> rfl
  rw [a1]
  have a2 : hdecode_m_l0 s 4 (116, 2, [], 0, 0, 0, 0, 0, UInt8.ofNat 0, [], [], h.mode, h.uid, 0, 0, 0) = hdecode_m_l0 s 3 (124, 3, [], 0, 0, 0, 0, 0, UInt8.ofNat 0, [], [], h.mode, h.uid, h.gid, 0, 0) := by
    show hdecode_m_b0 s (hdecode_m_l0 s 3) 116 2 [] 0 0 0 0 0 (UInt8.ofNat 0) [] [] h.mode h.uid 0 0 0 = _
    unfold hdecode_m_b0
    rw [if_pos (by decide), if_neg (by decide), if_neg (by decide), if_pos rfl, (show get_m ((s.take (116 + 8)).drop 116) = (h.gid, 0) from g2), if_neg (show ¬ ¬ ((h.gid, (0 : Int)) : Int × Int).2 = 0 from fun c => c rfl)] <;> rfl
  rw [a2]
  have a3 : hdecode_m_l0 s 3 (124, 3, [], 0, 0, 0, 0, 0, UInt8.ofNat 0, [], [], h.mode, h.uid, h.gid, 0, 0) = hdecode_m_l0 s 2 (136, 4, [], 0, 0, 0, 0, 0, UInt8.ofNat 0, [], [], h.mode, h.uid, h.gid, h.size, 0) := by
    show hdecode_m_b0 s (hdecode_m_l0 s 2) 124 3 [] 0 0 0 0 0 (UInt8.ofNat 0) [] [] h.mode h.uid h.gid 0 0 = _
    unfold hdecode_m_b0
    rw [if_pos (by decide), if_neg (by decide), if_neg (by decide), if_neg (by decide), if_pos rfl, (show get_m ((s.take (124 + 12)).drop 124) = (h.size, 0) from g3), if_neg (show ¬ ¬ ((h.size, (0 : Int)) : Int × Int).2 = 0 from fun c => c rfl)] <;> rfl
  rw [a3]
  have a4 : hdecode_m_l0 s 2 (136, 4, [], 0, 0, 0, 0, 0, UInt8.ofNat 0, [], [], h.mode, h.uid, h.gid, h.size, 0) = hdecode_m_l0 s 1 (148, 5, [], 0, 0, 0, 0, 0, UInt8.ofNat 0, [], [], h.mode, h.uid, h.gid, h.size, h.time) := by
    show hdecode_m_b0 s (hdecode_m_l0 s 1) 136 4 [] 0 0 0 0 0 (UInt8.ofNat 0) [] [] h.mode h.uid h.gid h.size 0 = _
    unfold hdecode_m_b0
    rw [if_pos (by decide), if_neg (by decide), if_neg (by decide), if_neg (by decide), if_neg (by decide), (show get_m ((s.take (136 + 12)).drop 136) = (h.time, 0) from g4), if_neg (show ¬ ¬ ((h.time, (0 : Int)) : Int × Int).2 = 0 from fun c => c rfl)] <;> rfl
  rw [a4]
  have a5 : hdecode_m_l0 s 1 (148, 5, [], 0, 0, 0, 0, 0, UInt8.ofNat 0, [], [], h.mode, h.uid, h.gid, h.size, h.time) = .inl (148, 5, [], 0, 0, 0, 0, 0, UInt8.ofNat 0, [], [], h.mode, h.uid, h.gid, h.size, h.time) := by
    show hdecode_m_b0 s (hdecode_m_l0 s 0) 148 5 [] 0 0 0 0 0 (UInt8.ofNat 0) [] [] h.mode h.uid h.gid h.size h.time = _
    unfold hdecode_m_b0
    rw [if_neg (by decide)]
  rw [a5]
  rfl
theorem sum_get {h : Hdr} (l : Lies h) : get_m ((((hencode_m h).1).take 156).drop 148) = (hsum_m (hencode_m h).1, 0) := by
  have X := hsum_rng ((frontOf h ++ (fill_m ([]) 8)) ++ backOf h)
  have e : hsum_m (hencode_m h).1 = hsum_m ((frontOf h ++ (fill_m ([]) 8)) ++ backOf h) := by
    rw [l.is]
    show hsum_m (((frontOf h ++ sumOf h) ++ [0, 32]) ++ backOf h) = _
    rw [List.append_assoc (frontOf h) (sumOf h) [0, 32]]
    exact hsum_mid _ _ _ _ (front_len l) (by rw [List.length_append, sum_len]; rfl) rfl
  rw [(at_all l).2.2.2.2.2.2, e]
  unfold sumOf
  rw [octal_is, roct_is _ 6 X.1 (by decide) (by decide)]
  generalize hsum_m ((frontOf h ++ (fill_m ([]) 8)) ++ backOf h) = x at X
  refine get_dig 6 x [0, 32] (by decide) X.1 (by omega) ?_ (by decide) (fun m hm => ?_)
  · show x / 8 / 8 / 8 / 8 / 8 / 8 = 0
    omega
  · match m, hm with
    | 0, _ => exact .inr rfl
    | 1, _ => exact .inl rfl
theorem at_fills {h : Hdr} (l : Lies h) : (((hencode_m h).1).take 257).drop 157 = fill_m h.link 100 ∧ (((hencode_m h).1).take 500).drop 345 = fill_m h.pfx 155 := by
  have a := head_len l
  have b := fill_len h.link 100 l.link.1
  have c := fill_len [] 80 (by decide)
  have d := fill_len h.pfx 155 l.pfx.1
  have e : (hencode_m h).1 = (((frontOf h ++ sumOf h) ++ [0, 32]) ++ [h.flag]) ++ (fill_m h.link 100 ++ ([117, 115, 116, 97, 114, 0, 48, 48] ++ (fill_m ([]) 80 ++ (fill_m h.pfx 155 ++ fill_m ([]) 12)))) := by
    rw [l.is]
    show ((frontOf h ++ sumOf h) ++ [0, 32]) ++ backOf h = _
    unfold backOf
    simp only [List.append_assoc]
  have e2 : (hencode_m h).1 = ((((((frontOf h ++ sumOf h) ++ [0, 32]) ++ [h.flag]) ++ fill_m h.link 100) ++ [117, 115, 116, 97, 114, 0, 48, 48]) ++ fill_m ([]) 80) ++ (fill_m h.pfx 155 ++ fill_m ([]) 12) := by
    rw [e]
    simp only [List.append_assoc]
  constructor
  · rw [e]; exact piece _ _ _ (by rw [List.length_append, a]; rfl) (by omega)
  · rw [e2]
    refine piece _ _ _ ?_ (by omega)
    rw [List.length_append, List.length_append, List.length_append, List.length_append, a]
    simp only [List.length_cons, List.length_nil]
    omega
theorem dec_enc {h : Hdr} (l : Lies h) (p0 : h.mode ≤ 9223372036854775807) (p1 : h.uid ≤ 9223372036854775807) (p2 : h.gid ≤ 9223372036854775807) (p3 : h.size ≤ 9223372036854775807) (p4 : h.time ≤ 9223372036854775807) : hdecode_m (hencode_m h).1 = (h, 0) := by
  obtain ⟨q, q0, q1, q2, q3, q4, _⟩ := at_all l
  obtain ⟨o0, o1, o2, o3, o4⟩ := l.ok
  have w := dec_of (hencode_m h).1 h (lies_len l) (at_magic l) (sum_get l) (by rw [q0]; exact get_put _ _ p0 o0) (by rw [q1]; exact get_put _ _ p1 o1) (by rw [q2]; exact get_put _ _ p2 o2) (by rw [q3]; exact get_put _ _ p3 o3) (by rw [q4]; exact get_put _ _ p4 o4)
  rw [w, (at_fills l).1, (at_fills l).2, show ((hencode_m h).1).take 100 = fill_m h.name 100 from q, cut_fill _ _ l.name.2, cut_fill _ _ l.link.2, cut_fill _ _ l.pfx.2]
  have f : (hencode_m h).1.getD 156 0 = h.flag := UInt8.toNat_inj.1 (at_flag l)
  rw [f]
theorem lencodes_true (h : Hdr) (p0 : h.mode ≤ 9223372036854775807) (p1 : h.uid ≤ 9223372036854775807) (p2 : h.gid ≤ 9223372036854775807) (p3 : h.size ≤ 9223372036854775807) (p4 : h.time ≤ 9223372036854775807) : lencodes_m h = true := by
  unfold lencodes_m
  rw [if_pos hawake_true, ← enc_is, if_pos rfl, if_pos rfl]
  by_cases e : (hencode_m h).2 = 0
  · have l := henc_lies e
    rw [if_neg (fun c => c e), dec_enc l p0 p1 p2 p3 p4, if_pos rfl, if_pos rfl]
    exact decide_eq_true (lies_len l)
  · rw [if_pos e]
end Go.Proofs.YtglnifckngcpkaaDoor.Hd
namespace Go.Proofs.YtglnifckngcpkaaDoor.Hd
open Go.Proofs.YtglnifckngcpkaaDoor.Mem
/-- The number of digits, with no guard. -/
def nv (s : List UInt8) : Nat → Nat → Nat → Nat
  | 0, _, n => n
  | j + 1, i, n => nv s j (i + 1) (8 * n + (by' s i - 48))
theorem nm_nv (s : List UInt8) : ∀ j i n v, nm s j i n = some v → v = nv s j i n
  | 0, i, n, v, h => (Option.some.inj h).symm
  | j + 1, i, n, v, h => by
    unfold nm at h
    by_cases c : 1152921504606846976 ≤ n
    · rw [if_pos c] at h; cases h
    · rw [if_neg c] at h; exact nm_nv s j _ _ v h
theorem nothing_all (r : List UInt8) (h : nothing_m r = true) : ∀ m, m < r.length → by' r m = 32 ∨ by' r m = 0 := by
  have L : ∀ k i, r.length ≤ i + k → i ≤ r.length → (∃ j, nothing_m_l0 r (k + 1) i = .inl j ∧ ∀ m, i ≤ m → m < r.length → by' r m = 32 ∨ by' r m = 0) ∨ nothing_m_l0 r (k + 1) i = .inr false := by
    intro k
    induction k with
    | zero =>
      intro i a b
      refine .inl ⟨i, ?_, fun m _ _ => by omega⟩
      show nothing_m_b0 r (nothing_m_l0 r 0) i = .inl i
      unfold nothing_m_b0
      rw [if_neg (by omega)]
    | succ k ih =>
      intro i a b
      have E : nothing_m_l0 r (k + 1 + 1) i = nothing_m_b0 r (nothing_m_l0 r (k + 1)) i := rfl
      rw [E]
      unfold nothing_m_b0
      by_cases h1 : i < r.length
      · rw [if_pos h1]
        have q := ih (i + 1) (by omega) (by omega)
        have next : (by' r i = 32 ∨ by' r i = 0) → (∃ j, nothing_m_l0 r (k + 1) (i + 1) = .inl j ∧ ∀ m, i ≤ m → m < r.length → by' r m = 32 ∨ by' r m = 0) ∨ nothing_m_l0 r (k + 1) (i + 1) = .inr false := by
          intro hi
          rcases q with ⟨j, e, f⟩ | e
          · refine .inl ⟨j, e, fun m hm hl => ?_⟩
            by_cases hmi : m = i
            · rw [hmi]; exact hi
            · exact f m (by omega) hl
          · exact .inr e
        by_cases h2 : by' r i = 32
        · rw [if_neg (show ¬ ¬ by' r i = 32 from fun c => c h2)]; exact next (.inl h2)
        · rw [if_pos h2]
          by_cases h3 : by' r i = 0
          · rw [if_neg (show ¬ ¬ by' r i = 0 from fun c => c h3)]; exact next (.inr h3)
          · rw [if_pos h3]; exact .inr rfl
      · rw [if_neg h1]; exact .inl ⟨i, rfl, fun m _ _ => by omega⟩
  intro m hm
  unfold nothing_m at h
  rcases L (r.length - 0) 0 (by omega) (Nat.zero_le _) with ⟨j, e, f⟩ | e
  · exact f m (Nat.zero_le _) hm
  · rw [e] at h; exact absurd (show false = true from h) (by decide)
theorem sp_all (s : List UInt8) : ∀ k i, s.length ≤ i + k → i ≤ s.length → ∃ e, get_m_l0 s (k + 1) i = .inl e ∧ e ≤ s.length ∧ ∀ m, i ≤ m → m < e → by' s m = 32
  | k, i, h, hi => by
    have E : get_m_l0 s (k + 1) i = get_m_b0 s (get_m_l0 s k) i := rfl
    rw [E]
    unfold get_m_b0
    by_cases h1 : i < s.length
    · rw [if_pos h1]
      by_cases h2 : by' s i = 32
      · rw [if_pos h2]
        match k, h with
        | 0, h => omega
        | k + 1, h =>
          obtain ⟨e, a, b, c⟩ := sp_all s k (i + 1) (by omega) (by omega)
          refine ⟨e, a, b, fun m hm hl => ?_⟩
          by_cases hmi : m = i
          · rw [hmi]; exact h2
          · exact c m (by omega) hl
      · rw [if_neg h2]; exact ⟨i, rfl, hi, fun m _ _ => by omega⟩
    · rw [if_neg h1]; exact ⟨i, rfl, hi, fun m _ _ => by omega⟩
/-- What a field that is read holds. -/
theorem get_inv (s : List UInt8) (v : Int) (h : get_m s = (v, 0)) : (0 < s.length ∧ by' s 0 = 128 ∧ nA_m (s.drop 1) = (v, 0)) ∨
    ∃ a e, a < e ∧ e ≤ s.length ∧ (∀ m, m < a → by' s m = 32) ∧ (∀ m, a ≤ m → m < e → dg s m) ∧ (∀ m, e ≤ m → m < s.length → by' s m = 32 ∨ by' s m = 0) ∧ v = ((nv s (e - a) a 0 : Nat) : Int) := by
  obtain ⟨a, e1, e2, e3⟩ := sp_all s (s.length - 0) 0 (by omega) (Nat.zero_le _)
  have D : get_m_k0 s a = (v, 0) → ∃ a e, a < e ∧ e ≤ s.length ∧ (∀ m, m < a → by' s m = 32) ∧ (∀ m, a ≤ m → m < e → dg s m) ∧ (∀ m, e ≤ m → m < s.length → by' s m = 32 ∨ by' s m = 0) ∧ v = ((nv s (e - a) a 0 : Nat) : Int) := by
    intro h
    obtain ⟨e, f1, b, c, d, f⟩ := end_l s a (s.length - a) a (by omega) e2
    unfold get_m_k0 at h
    rw [f1] at h
    have h' : get_m_k1 s a e = (v, 0) := h
    have hl : ((s.take e).drop a).length = e - a := by rw [List.length_drop, List.length_take]; omega
    have hB : nB_m ((s.take e).drop a) = match nm s (e - a) a 0 with | none => (0, 3) | some v => (((v : Nat) : Int), 0) := by
      unfold nB_m
      rw [hl, nB_l s a e c b d (e - a) _ 0 0 (by omega) (by omega), Nat.add_zero]
      cases nm s (e - a) a 0 <;> rfl
    unfold get_m_k1 at h'
    rw [hB] at h'
    cases hn : nm s (e - a) a 0 with
    | none => rw [hn] at h'; exact absurd (congrArg Prod.snd h') (by show ¬ (3 : Int) = 0; decide)
    | some u =>
      rw [hn] at h'
      have h2 : (if e = a then ((0 : Int), (2 : Int)) else if (!(nothing_m (s.drop e))) = true then (0, 2) else (((u : Nat) : Int), 0)) = (v, 0) := h'
      by_cases q : e = a
      · rw [if_pos q] at h2; exact absurd (congrArg Prod.snd h2) (by show ¬ (2 : Int) = 0; decide)
      · rw [if_neg q] at h2
        cases hz : nothing_m (s.drop e) with
        | false => rw [hz] at h2; exact absurd (congrArg Prod.snd h2) (by show ¬ (2 : Int) = 0; decide)
        | true =>
          rw [hz] at h2
          have h3 : (((u : Nat) : Int), (0 : Int)) = (v, 0) := h2
          have h4 := nothing_all _ hz
          refine ⟨a, e, by omega, c, fun m hm => e3 m (Nat.zero_le _) hm, d, fun m hm hl => ?_, ?_⟩
          · have := h4 (m - e) (by rw [List.length_drop]; omega)
            rwa [by_drop, show e + (m - e) = m by omega] at this
          · rw [← nm_nv s _ _ _ _ hn]; exact (congrArg Prod.fst h3).symm
  unfold get_m at h
  rw [e1] at h
  by_cases h1 : 0 < s.length
  · rw [if_pos h1] at h
    by_cases h2 : by' s 0 = 128
    · rw [if_pos h2] at h; exact .inl ⟨h1, h2, h⟩
    · rw [if_neg h2] at h; exact .inr (D h)
  · rw [if_neg h1] at h; exact .inr (D h)
theorem nw_low (s : List UInt8) : ∀ j i n v, nw s j i n = some v → n * 256 ^ j ≤ v
  | 0, i, n, v, h => by obtain rfl : n = v := Option.some.inj h; omega
  | j + 1, i, n, v, h => by
    unfold nw at h
    by_cases c : 36028797018963968 ≤ n
    · rw [if_pos c] at h; cases h
    · rw [if_neg c] at h
      have := nw_low s j _ _ v h
      refine Nat.le_trans ?_ this
      rw [Nat.pow_succ, Nat.mul_comm (256 ^ j) 256, ← Nat.mul_assoc]
      exact Nat.mul_le_mul_right _ (by omega)
/-- A wide number whose first byte is a digit's is great. -/
theorem wide_big (s : List UInt8) (v : Int) (hl : s.length = 7) (h0 : 48 ≤ by' s 0) (h : nA_m s = (v, 0)) : 262144 ≤ v := by
  rw [wide_is] at h
  unfold rwide_m at h
  rw [rwide_n s 7 _ 0 0 (by omega) (by omega)] at h
  cases hn : nw s 7 0 0 with
  | none => rw [hn] at h; exact absurd (congrArg Prod.snd h) (by show ¬ (3 : Int) = 0; decide)
  | some u =>
    rw [hn] at h
    have h1 : (((u : Nat) : Int), (0 : Int)) = (v, 0) := h
    have h2 := congrArg Prod.fst h1
    have h3 : nw s 6 1 (0 * 2 ^ 8 + by' s 0) = some u := hn
    have := nw_low s 6 _ _ u h3
    have h4 : ((u : Nat) : Int) = v := h2
    omega
theorem set_by (s : List UInt8) (k : Nat) (c : UInt8) (hk : k < s.length) (i : Nat) : by' (s.set k c) i = if i = k then c.toNat else by' s i := by
  unfold by'
  simp only [List.getD, List.getElem?_set]
  by_cases h : k = i
  · subst h; rw [if_pos rfl, if_pos hk, if_pos rfl]; rfl
  · rw [if_neg h, if_neg (fun e => h e.symm)]
set_option maxRecDepth 4000 in
set_option maxHeartbeats 4000000 in
/-- A sum's field with one byte changed holds the sum only so. -/
theorem field_bad (x : List UInt8) (n : Int) (hl : x.length = 8) (hx : ∀ m, m < 6 → dg x m) (h6 : by' x 6 = 0) (h7 : by' x 7 = 32) (hn : n = ((nv x 6 0 0 : Nat) : Int)) (hp : 0 < n) (hq : n < 262144) (j : Nat) (hj : j < 8) (c : UInt8) (h : get_m (x.set j c) = (n, 0)) :
    c.toNat = by' x j ∨ (j = 6 ∧ (c.toNat = 0 ∨ c.toNat = 32)) ∨ (j = 7 ∧ (c.toNat = 0 ∨ c.toNat = 32)) ∨ (j = 0 ∧ by' x 0 = 48 ∧ c.toNat = 32) := by
  have S := set_by x j c (by omega)
  have hl' : (x.set j c).length = 8 := by rw [List.length_set]; exact hl
  have x0 := hx 0 (by decide)
  have x1 := hx 1 (by decide)
  have x2 := hx 2 (by decide)
  have x3 := hx 3 (by decide)
  have x4 := hx 4 (by decide)
  have x5 := hx 5 (by decide)
  have N : nv x 6 0 0 = 8 * (8 * (8 * (8 * (8 * (8 * 0 + (by' x 0 - 48)) + (by' x 1 - 48)) + (by' x 2 - 48)) + (by' x 3 - 48)) + (by' x 4 - 48)) + (by' x 5 - 48) := rfl
  rw [N] at hn
  clear N hx
  unfold dg at x0 x1 x2 x3 x4 x5
  rcases get_inv _ _ h with ⟨_, w, g⟩ | ⟨a, e, hae, hel, sp, ds, rs, hv⟩
  · have := wide_big _ _ (by rw [List.length_drop, hl']) (by
      rw [by_drop, S]
      by_cases q : 1 + 0 = j
      · rw [S] at w
        rw [if_neg (by omega)] at w
        omega
      · rw [if_neg q]; exact x1.1) g
    omega
  · rw [hl'] at hel rs
    have y0 := S 0
    have y1 := S 1
    have y2 := S 2
    have y3 := S 3
    have y4 := S 4
    have y5 := S 5
    have y6 := S 6
    have y7 := S 7
    clear S
    generalize x.set j c = y at *
    have A : a = 0 ∨ a = 1 := by
      by_cases q : 2 ≤ a
      · have s0 := sp 0 (by omega)
        have s1 := sp 1 (by omega)
        rw [y0] at s0
        rw [y1] at s1
        split at s0 <;> split at s1 <;> omega
      · omega
    have B : e = 5 ∨ e = 6 ∨ e = 7 := by
      by_cases q : e ≤ 4
      · have s0 := rs 4 (by omega) (by omega)
        have s1 := rs 5 (by omega) (by omega)
        rw [y4] at s0
        rw [y5] at s1
        split at s0 <;> split at s1 <;> omega
      · by_cases q2 : 8 ≤ e
        · have s0 := ds 6 (by omega) (by omega)
          have s1 := ds 7 (by omega) (by omega)
          unfold dg at s0 s1
          rw [y6] at s0
          rw [y7] at s1
          split at s0 <;> split at s1 <;> omega
        · omega
    have a0 : a = 1 → by' y 0 = 32 := fun h => sp 0 (by omega)
    have d0 : a = 0 → dg y 0 := fun h => ds 0 (by omega) (by omega)
    have d1 := ds 1 (by omega) (by omega)
    have d2 := ds 2 (by omega) (by omega)
    have d3 := ds 3 (by omega) (by omega)
    have d4 := ds 4 (by omega) (by omega)
    have d5 : 6 ≤ e → dg y 5 := fun h => ds 5 (by omega) (by omega)
    have d6 : e = 7 → dg y 6 := fun h => ds 6 (by omega) (by omega)
    have r5 : e = 5 → by' y 5 = 32 ∨ by' y 5 = 0 := fun h => rs 5 (by omega) (by omega)
    have r6 : e ≤ 6 → by' y 6 = 32 ∨ by' y 6 = 0 := fun h => rs 6 (by omega) (by omega)
    have r7 := rs 7 (by omega) (by omega)
    clear ds rs sp
    unfold dg at d0 d1 d2 d3 d4 d5 d6
    rcases A with rfl | rfl <;> rcases B with rfl | rfl | rfl
    · have N : nv y (5 - 0) 0 0 = 8 * (8 * (8 * (8 * (8 * 0 + (by' y 0 - 48)) + (by' y 1 - 48)) + (by' y 2 - 48)) + (by' y 3 - 48)) + (by' y 4 - 48) := rfl
      rw [N] at hv
      clear N
      match j, hj with
      | 0, _ | 1, _ | 2, _ | 3, _ | 4, _ | 5, _ | 6, _ | 7, _ => simp at y0 y1 y2 y3 y4 y5 y6 y7; omega
    · have N : nv y (6 - 0) 0 0 = 8 * (8 * (8 * (8 * (8 * (8 * 0 + (by' y 0 - 48)) + (by' y 1 - 48)) + (by' y 2 - 48)) + (by' y 3 - 48)) + (by' y 4 - 48)) + (by' y 5 - 48) := rfl
      rw [N] at hv
      clear N
      match j, hj with
      | 0, _ | 1, _ | 2, _ | 3, _ | 4, _ | 5, _ | 6, _ | 7, _ => simp at y0 y1 y2 y3 y4 y5 y6 y7; omega
    · have N : nv y (7 - 0) 0 0 = 8 * (8 * (8 * (8 * (8 * (8 * (8 * 0 + (by' y 0 - 48)) + (by' y 1 - 48)) + (by' y 2 - 48)) + (by' y 3 - 48)) + (by' y 4 - 48)) + (by' y 5 - 48)) + (by' y 6 - 48) := rfl
      rw [N] at hv
      clear N
      match j, hj with
      | 0, _ | 1, _ | 2, _ | 3, _ | 4, _ | 5, _ | 6, _ | 7, _ => simp at y0 y1 y2 y3 y4 y5 y6 y7; omega
    · have N : nv y (5 - 1) 1 0 = 8 * (8 * (8 * (8 * 0 + (by' y 1 - 48)) + (by' y 2 - 48)) + (by' y 3 - 48)) + (by' y 4 - 48) := rfl
      rw [N] at hv
      clear N
      match j, hj with
      | 0, _ | 1, _ | 2, _ | 3, _ | 4, _ | 5, _ | 6, _ | 7, _ => simp at y0 y1 y2 y3 y4 y5 y6 y7; omega
    · have N : nv y (6 - 1) 1 0 = 8 * (8 * (8 * (8 * (8 * 0 + (by' y 1 - 48)) + (by' y 2 - 48)) + (by' y 3 - 48)) + (by' y 4 - 48)) + (by' y 5 - 48) := rfl
      rw [N] at hv
      clear N
      match j, hj with
      | 0, _ | 1, _ | 2, _ | 3, _ | 4, _ | 5, _ | 6, _ | 7, _ => simp at y0 y1 y2 y3 y4 y5 y6 y7; omega
    · have N : nv y (7 - 1) 1 0 = 8 * (8 * (8 * (8 * (8 * (8 * 0 + (by' y 1 - 48)) + (by' y 2 - 48)) + (by' y 3 - 48)) + (by' y 4 - 48)) + (by' y 5 - 48)) + (by' y 6 - 48) := rfl
      rw [N] at hv
      clear N
      match j, hj with
      | 0, _ | 1, _ | 2, _ | 3, _ | 4, _ | 5, _ | 6, _ | 7, _ => simp at y0 y1 y2 y3 y4 y5 y6 y7; omega
/-- A blank, digits, and what is nothing behind them. -/
theorem get_sp (n : Int) (r : List UInt8) (h0 : 0 ≤ n) (h1 : n ≤ 9223372036854775807) (hq : oq 5 n = 0) (hr : r.length = 2) (hn : ∀ m, m < r.length → by' r m = 32 ∨ by' r m = 0) : get_m ([32] ++ (od 5 n ++ r)) = (n, 0) := by
  have hl : ([32] ++ (od 5 n ++ r)).length = 8 := by rw [List.length_append, List.length_append, od_len, hr]; rfl
  have hdg : ∀ m, 1 ≤ m → m < 6 → dg ([32] ++ (od 5 n ++ r)) m := fun m h hm => od_dig 5 n [32] r m h (by simp; omega)
  have b0 : by' ([32] ++ (od 5 n ++ r)) 0 = 32 := rfl
  have hrest : ([32] ++ (od 5 n ++ r)).drop 6 = r := by
    rw [← List.append_assoc]
    exact List.drop_left' (by rw [List.length_append, od_len]; rfl)
  have hnm : nm ([32] ++ (od 5 n ++ r)) (6 - 1) (1 + 0) 0 = some n.toNat := nm_od 5 n [32] r h0 h1 hq
  have hend : ¬ dg ([32] ++ (od 5 n ++ r)) 6 := by
    have b := by_drop ([32] ++ (od 5 n ++ r)) 6 0
    rw [hrest] at b
    unfold dg
    rw [← b]
    rcases hn 0 (by omega) with e | e <;> omega
  generalize [32] ++ (od 5 n ++ r) = y at *
  have f1 := hdg 1 (by decide) (by decide)
  have sp : get_m_l0 y ((y.length - 0) + 1) 0 = .inl 1 := by
    rw [hl]
    show get_m_b0 y (get_m_b0 y (get_m_l0 y 7)) 0 = _
    unfold dg at f1
    unfold get_m_b0
    rw [if_pos (show 0 < y.length by omega), if_pos b0, if_pos (show 0 + 1 < y.length by omega), if_neg (show ¬ by' y 1 = 32 by omega)]
  unfold get_m
  rw [if_pos (by omega), if_neg (by omega), sp]
  show get_m_k0 y 1 = _
  unfold get_m_k0
  obtain ⟨e, e1, b, c, dd, f⟩ := end_l y 1 (y.length - 1) 1 (by omega) (by omega)
  have ed : e = 6 := by
    by_cases q1 : e < 6
    · exact absurd (hdg e b q1) (f (by omega))
    · by_cases q2 : 6 < e
      · exact absurd (dd 6 (by decide) q2) hend
      · omega
  subst ed
  rw [e1]
  show get_m_k1 y 1 6 = _
  unfold get_m_k1
  have hl2 : ((y.take 6).drop 1).length = 6 - 1 := by rw [List.length_drop, List.length_take]; omega
  have hB : nB_m ((y.take 6).drop 1) = (n, 0) := by
    unfold nB_m
    rw [hl2, nB_l y 1 6 c b dd (6 - 1) _ 0 0 (by omega) (by omega), hnm]
    show (((n.toNat : Nat) : Int), (0 : Int)) = (n, 0)
    rw [Int.toNat_of_nonneg h0]
  rw [hB, hrest, nothing_z r hn, if_neg (show ¬ ¬ ((n, (0 : Int)) : Int × Int).2 = 0 from fun c => c rfl), if_neg (by omega)]
  rfl
end Go.Proofs.YtglnifckngcpkaaDoor.Hd
namespace Go.Proofs.YtglnifckngcpkaaDoor.Hd
open Go.Proofs.YtglnifckngcpkaaDoor.Mem
/-- What a place adds to the sum. -/
def wt (s : List UInt8) (i : Nat) : Nat := if 148 ≤ i ∧ i < 156 then 32 else by' s i
def tot (s : List UInt8) : Nat → Nat → Nat
  | 0, _ => 0
  | k + 1, i => wt s i + tot s k (i + 1)
theorem hsum_tot (s : List UInt8) : ∀ k x i, i + k = s.length → hsum_m_l0 s (k + 1) (x, i) = .inl (x + tot s k i, s.length)
  | 0, x, i, h => by
    show hsum_m_b0 s (hsum_m_l0 s 0) x i = .inl (x + 0, s.length)
    unfold hsum_m_b0
    rw [if_neg (by omega), Nat.add_zero, ← h, Nat.add_zero]
  | k + 1, x, i, h => by
    have E : hsum_m_l0 s (k + 1 + 1) (x, i) = hsum_m_b0 s (hsum_m_l0 s (k + 1)) x i := rfl
    have T : tot s (k + 1) i = wt s i + tot s k (i + 1) := rfl
    rw [E, T]
    unfold hsum_m_b0
    rw [if_pos (by omega)]
    unfold wt
    by_cases h2 : 148 ≤ i
    · rw [if_pos h2]
      by_cases h3 : i < 156
      · rw [if_pos h3, if_pos ⟨h2, h3⟩, hsum_tot s k _ _ (by omega), Nat.add_assoc]
      · rw [if_neg h3, if_neg (fun c => h3 c.2), hsum_tot s k _ _ (by omega), Nat.add_assoc]
    · rw [if_neg h2, if_neg (fun c => h2 c.1), hsum_tot s k _ _ (by omega), Nat.add_assoc]
theorem hsum_is (s : List UInt8) (h : s.length = 512) : hsum_m s = ((tot s 512 0 : Nat) : Int) := by
  unfold hsum_m
  rw [if_neg (fun c => c h), h, hsum_tot s (512 - 0) 0 0 (by omega), Nat.zero_add]
  rfl
theorem tot_ge (s : List UInt8) : ∀ k i, i ≤ 148 → 148 < i + k → 32 ≤ tot s k i
  | 0, i, h, h2 => by omega
  | k + 1, i, h, h2 => by
    have T : tot s (k + 1) i = wt s i + tot s k (i + 1) := rfl
    rw [T]
    by_cases e : i = 148
    · subst e
      unfold wt
      rw [if_pos ⟨by decide, by decide⟩]
      omega
    · have := tot_ge s k (i + 1) (by omega) (by omega)
      omega
theorem tot_same (s : List UInt8) (p : Nat) (c : UInt8) (hp : p < s.length) : ∀ k i, p < i → tot (s.set p c) k i = tot s k i
  | 0, i, h => rfl
  | k + 1, i, h => by
    show wt (s.set p c) i + tot (s.set p c) k (i + 1) = wt s i + tot s k (i + 1)
    rw [tot_same s p c hp k (i + 1) (by omega)]
    congr 1
    unfold wt
    rw [set_by s p c hp, if_neg (show ¬ i = p by omega)]
theorem tot_set (s : List UInt8) (p : Nat) (c : UInt8) (hp : p < s.length) : ∀ k i, i ≤ p → p < i + k → tot (s.set p c) k i + wt s p = tot s k i + wt (s.set p c) p
  | 0, i, h, h2 => by omega
  | k + 1, i, h, h2 => by
    have T : ∀ z, tot z (k + 1) i = wt z i + tot z k (i + 1) := fun _ => rfl
    rw [T, T]
    by_cases e : i = p
    · subst e
      rw [tot_same s i c hp k (i + 1) (by omega)]
      omega
    · have q := tot_set s p c hp k (i + 1) (by omega) (by omega)
      have w : wt (s.set p c) i = wt s i := by
        unfold wt
        rw [set_by s p c hp, if_neg e]
      omega
theorem hsum_set (s : List UInt8) (p : Nat) (c : UInt8) (hl : s.length = 512) (hp : p < 512) (hf : ¬ (148 ≤ p ∧ p < 156)) : hsum_m (s.set p c) + ((by' s p : Nat) : Int) = hsum_m s + ((c.toNat : Nat) : Int) := by
  rw [hsum_is _ (by rw [List.length_set]; exact hl), hsum_is _ hl]
  have q := tot_set s p c (by omega) 512 0 (Nat.zero_le _) (by omega)
  unfold wt at q
  rw [if_neg hf, if_neg hf, set_by s p c (by omega), if_pos rfl] at q
  omega
theorem part_set (s : List UInt8) (k : Nat) (c : UInt8) (a b : Nat) (h : k < a ∨ b ≤ k) : ((s.set k c).take b).drop a = (s.take b).drop a := by
  apply List.ext_getElem?
  intro i
  rw [List.getElem?_drop, List.getElem?_drop, List.getElem?_take, List.getElem?_take]
  by_cases q : a + i < b
  · rw [if_pos q, if_pos q, List.getElem?_set_ne (by omega)]
  · rw [if_neg q, if_neg q]
theorem part_in (s : List UInt8) (k : Nat) (c : UInt8) (a b : Nat) (h1 : a ≤ k) (h2 : k < b) : ((s.set k c).take b).drop a = ((s.take b).drop a).set (k - a) c := by
  apply List.ext_getElem?
  intro i
  rw [List.getElem?_set, List.getElem?_drop, List.getElem?_drop, List.getElem?_take, List.getElem?_take, List.getElem?_set, List.length_drop, List.length_take]
  by_cases e : k = a + i
  · rw [if_pos (show a + i < b by omega), if_pos (show a + i < b by omega), if_pos e, if_pos (show k - a = i by omega)]
    by_cases q : k < s.length
    · rw [if_pos q, if_pos (by omega)]
    · rw [if_neg q, if_neg (by omega)]
  · rw [if_neg e, if_neg (show ¬ k - a = i by omega)]
theorem dec_need (s : List UInt8) (h : (hdecode_m s).2 = 0) : get_m ((s.take 156).drop 148) = (hsum_m s, 0) := by
  unfold hdecode_m at h
  by_cases h1 : s.length = 512
  · rw [if_neg (fun c => c h1)] at h
    by_cases h2 : (s.take 265).drop 257 = [117, 115, 116, 97, 114, 0, 48, 48]
    · rw [if_neg (fun c => c h2)] at h
      by_cases h3 : (get_m ((s.take 156).drop 148)).2 = 0
      · rw [if_neg (fun c => c h3)] at h
        by_cases h4 : (get_m ((s.take 156).drop 148)).1 = hsum_m s
        · exact Prod.ext h4 h3
        · rw [if_pos h4] at h; exact absurd h (by decide)
      · rw [if_pos h3] at h; exact absurd h h3
    · rw [if_pos h2] at h; exact absurd h (by decide)
  · rw [if_pos h1] at h; exact absurd h (by decide)
theorem field_is {h : Hdr} (l : Lies h) : (((hencode_m h).1).take 156).drop 148 = od 6 (hsum_m (hencode_m h).1) ++ [0, 32] := by
  have X := hsum_rng ((frontOf h ++ (fill_m ([]) 8)) ++ backOf h)
  have e : hsum_m (hencode_m h).1 = hsum_m ((frontOf h ++ (fill_m ([]) 8)) ++ backOf h) := by
    rw [l.is]
    show hsum_m (((frontOf h ++ sumOf h) ++ [0, 32]) ++ backOf h) = _
    rw [List.append_assoc (frontOf h) (sumOf h) [0, 32]]
    exact hsum_mid _ _ _ _ (front_len l) (by rw [List.length_append, sum_len]; rfl) rfl
  rw [(at_all l).2.2.2.2.2.2, e]
  unfold sumOf
  rw [octal_is, roct_is _ 6 X.1 (by decide) (by decide)]
  rfl
theorem set_self (s : List UInt8) (k : Nat) (c : UInt8) (hk : k < s.length) (h : c.toNat = by' s k) : s.set k c = s := by
  apply List.ext_getElem?
  intro i
  rw [List.getElem?_set]
  by_cases e : k = i
  · subst e
    rw [if_pos rfl, if_pos hk, List.getElem?_eq_getElem hk]
    congr 1
    apply UInt8.toNat_inj.1
    rw [h]
    unfold by'
    rw [List.getD, List.getElem?_eq_getElem hk]
    rfl
  · rw [if_neg e]
/-- A block with one byte changed is read only so, and then it is. -/
theorem spoilt_is {h : Hdr} (l : Lies h) (p0 : h.mode ≤ 9223372036854775807) (p1 : h.uid ≤ 9223372036854775807) (p2 : h.gid ≤ 9223372036854775807) (p3 : h.size ≤ 9223372036854775807) (p4 : h.time ≤ 9223372036854775807) (k : Nat) (hk : k < 512) (c : UInt8) :
    (hdecode_m ((hencode_m h).1.set k c)).2 = 0 ↔ (c.toNat = by' (hencode_m h).1 k ∨ (k = 154 ∧ (c.toNat = 0 ∨ c.toNat = 32)) ∨ (k = 155 ∧ (c.toNat = 0 ∨ c.toNat = 32)) ∨ (k = 148 ∧ by' (hencode_m h).1 148 = 48 ∧ c.toNat = 32)) := by
  have hl := lies_len l
  have hfi := field_is l
  have hsg := sum_get l
  have hmg := at_magic l
  have hde := dec_enc l p0 p1 p2 p3 p4
  obtain ⟨q, q0, q1, q2, q3, q4, _⟩ := at_all l
  obtain ⟨o0, o1, o2, o3, o4⟩ := l.ok
  have g0 : get_m (((hencode_m h).1.take 108).drop 100) = (h.mode, 0) := by rw [q0]; exact get_put _ _ p0 o0
  have g1 : get_m (((hencode_m h).1.take 116).drop 108) = (h.uid, 0) := by rw [q1]; exact get_put _ _ p1 o1
  have g2 : get_m (((hencode_m h).1.take 124).drop 116) = (h.gid, 0) := by rw [q2]; exact get_put _ _ p2 o2
  have g3 : get_m (((hencode_m h).1.take 136).drop 124) = (h.size, 0) := by rw [q3]; exact get_put _ _ p3 o3
  have g4 : get_m (((hencode_m h).1.take 148).drop 136) = (h.time, 0) := by rw [q4]; exact get_put _ _ p4 o4
  clear q q0 q1 q2 q3 q4 o0 o1 o2 o3 o4
  generalize (hencode_m h).1 = s at *
  have X := hsum_rng s
  have P : 0 < hsum_m s := by
    rw [hsum_is s hl]
    have := tot_ge s 512 0 (by decide) (by decide)
    omega
  have hF : ((s.take 156).drop 148).length = 8 := by rw [hfi, List.length_append, od_len]; rfl
  have hb : ∀ j, j < 8 → by' ((s.take 156).drop 148) j = by' s (148 + j) := fun j hj => by_part s 156 148 j (by omega)
  constructor
  · intro hd
    have hg := dec_need _ hd
    by_cases hf : 148 ≤ k ∧ k < 156
    · rw [part_in s k c 148 156 hf.1 hf.2, hsum_skip (s.set k c) s (by rw [List.length_set]) (fun i hi => by rw [set_by s k c (by omega), if_neg (by omega)])] at hg
      have r := field_bad _ (hsum_m s) hF (fun m hm => by rw [hfi]; exact od_dig 6 _ [] [0, 32] m (Nat.zero_le _) (by simp; omega)) (by rw [hfi]; rfl) (by rw [hfi]; rfl) (by
        have e : nm (od 6 (hsum_m s) ++ [0, 32]) 6 0 0 = some (hsum_m s).toNat := nm_od 6 (hsum_m s) [] [0, 32] X.1 (by omega) (by
          show hsum_m s / 8 / 8 / 8 / 8 / 8 / 8 = 0
          omega)
        rw [hfi, ← nm_nv _ _ _ _ _ e]
        omega) P (by omega) (k - 148) (by omega) c hg
      rw [hb _ (by omega), hb 0 (by decide), show 148 + (k - 148) = k by omega] at r
      rcases r with r | ⟨a, r⟩ | ⟨a, r⟩ | ⟨a, r1, r2⟩
      · exact .inl r
      · exact .inr (.inl ⟨by omega, r⟩)
      · exact .inr (.inr (.inl ⟨by omega, r⟩))
      · exact .inr (.inr (.inr ⟨by omega, r1, r2⟩))
    · rw [part_set s k c 148 156 (by omega), hsg] at hg
      have e : hsum_m s = hsum_m (s.set k c) := congrArg Prod.fst hg
      have := hsum_set s k c hl hk hf
      left
      omega
  · intro hc
    by_cases hs : c.toNat = by' s k
    · rw [set_self s k c (by omega) hs, hde]
    · have hk2 : 148 ≤ k ∧ k < 156 := by omega
      have hg : get_m (((s.take 156).drop 148).set (k - 148) c) = (hsum_m s, 0) := by
        rw [hfi]
        have q6 : oq 6 (hsum_m s) = 0 := by
          show hsum_m s / 8 / 8 / 8 / 8 / 8 / 8 = 0
          omega
        rcases hc with hc | ⟨rfl, hc⟩ | ⟨rfl, hc⟩ | ⟨rfl, h48, hc⟩
        · exact absurd hc hs
        · have e : (od 6 (hsum_m s) ++ [0, 32]).set (154 - 148) c = od 6 (hsum_m s) ++ [c, 32] := rfl
          rw [e]
          exact get_dig 6 _ _ (by decide) X.1 (by omega) q6 (Nat.succ_pos _) (fun m hm => by
            match m, hm with
            | 0, _ => show c.toNat = 32 ∨ c.toNat = 0; omega
            | 1, _ => exact .inl rfl)
        · have e : (od 6 (hsum_m s) ++ [0, 32]).set (155 - 148) c = od 6 (hsum_m s) ++ [0, c] := rfl
          rw [e]
          exact get_dig 6 _ _ (by decide) X.1 (by omega) q6 (Nat.succ_pos _) (fun m hm => by
            match m, hm with
            | 0, _ => exact .inr rfl
            | 1, _ => show c.toNat = 32 ∨ c.toNat = 0; omega)
        · have e : (od 6 (hsum_m s) ++ [0, 32]).set (148 - 148) c = [c] ++ (od 5 (hsum_m s) ++ [0, 32]) := rfl
          have ec : c = 32 := UInt8.toNat_inj.1 hc
          have b0 := hb 0 (by decide)
          rw [hfi, show 148 + 0 = 148 from rfl, h48] at b0
          have b1 : by' (od 6 (hsum_m s) ++ [0, 32]) 0 = (UInt8.ofNat ((48 : Int) + (hsum_m s / 8 / 8 / 8 / 8 / 8 % (8 : Int))).toNat).toNat := rfl
          rw [b1, UInt8.toNat_ofNat'] at b0
          rw [e, ec]
          refine get_sp _ _ X.1 (by omega) ?_ rfl (fun m hm => by
            match m, hm with
            | 0, _ => exact .inr rfl
            | 1, _ => exact .inl rfl)
          show hsum_m s / 8 / 8 / 8 / 8 / 8 = 0
          omega
      have w := dec_of (s.set k c) h (by rw [List.length_set]; exact hl) (by rw [part_set s k c 257 265 (by omega)]; exact hmg)
        (by rw [part_in s k c 148 156 hk2.1 hk2.2, hg, hsum_skip (s.set k c) s (by rw [List.length_set]) (fun i hi => by rw [set_by s k c (by omega), if_neg (by omega)])])
        (by rw [part_set s k c 100 108 (by omega)]; exact g0) (by rw [part_set s k c 108 116 (by omega)]; exact g1) (by rw [part_set s k c 116 124 (by omega)]; exact g2) (by rw [part_set s k c 124 136 (by omega)]; exact g3) (by rw [part_set s k c 136 148 (by omega)]; exact g4)
      rw [w]
end Go.Proofs.YtglnifckngcpkaaDoor.Hd
