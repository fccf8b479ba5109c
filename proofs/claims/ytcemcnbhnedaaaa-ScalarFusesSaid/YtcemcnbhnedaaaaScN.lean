/- Layer 4, the document's answers: plain facts. -/
import Derived.Test.YtcemcnbhnedaaaaScM
namespace Go.Proofs.Ytcemcnbhnedaaaa.Fld
open Go.Proofs.Ytcemcnbhnedaaaa.Num (val up val_congr val_add val_lt val_up val_digits val_word)
open Go.Proofs.Ytcemcnbhnedaaaa.Arr

/-- The words of a number's first k bytes. -/
def fw (n k : Nat) : Nat → Nat := fun i => if i < k / 8 then wd n i else if i = k / 8 then wd n i % 256 ^ (k % 8) else 0
theorem fw_here (n k : Nat) : fw n k (k / 8) = wd n (k / 8) % 256 ^ (k % 8) := by
  unfold fw; rw [if_neg (by omega), if_pos rfl]
theorem fw_up (n k : Nat) : up (fw n k) (k / 8) (wd n (k / 8) % 256 ^ (k % 8) + bt n k * 256 ^ (k % 8)) = fw n (k + 1) := by
  have hb : bt n k = wd n (k / 8) / 256 ^ (k % 8) % 256 := by
    have := bt_wd n (k / 8) (k % 8) (Nat.mod_lt _ (by decide))
    rwa [show 8 * (k / 8) + k % 8 = k by omega] at this
  have hs : wd n (k / 8) % 256 ^ (k % 8) + bt n k * 256 ^ (k % 8) = wd n (k / 8) % 256 ^ (k % 8 + 1) := by
    rw [hb, Nat.mod_pow_succ, Nat.mul_comm (256 ^ _)]
  rw [hs]
  funext i
  unfold up fw
  by_cases h7 : k % 8 = 7
  · have e1 : (k + 1) / 8 = k / 8 + 1 := by omega
    have e2 : (k + 1) % 8 = 0 := by omega
    rw [h7, e1, e2]
    by_cases hi : i = k / 8
    · rw [if_pos hi, if_pos (by omega), hi]
      exact Nat.mod_eq_of_lt (wd_lt _ _)
    · rw [if_neg hi, if_neg hi]
      by_cases h : i < k / 8
      · rw [if_pos h, if_pos (by omega)]
      · rw [if_neg h, if_neg (by omega), Nat.pow_zero, Nat.mod_one, ite_self]
  · have e1 : (k + 1) / 8 = k / 8 := by omega
    have e2 : (k + 1) % 8 = k % 8 + 1 := by omega
    rw [e1, e2]
    by_cases hi : i = k / 8
    · rw [if_pos hi, if_neg (by omega), if_pos hi, hi]
    · rw [if_neg hi, if_neg hi, if_neg hi]
theorem fw_all (n : Nat) : rowOf .u64 (fw n 32) 4 = ws n := rowOf_congr fun j hj => by unfold fw; rw [if_pos hj]
theorem fw_none (n : Nat) : rowOf .u64 (fw n 0) 4 = ws 0 := rowOf_congr fun j hj => by
  unfold fw wd; simp [Nat.mod_one]


theorem fw_all8 (n : Nat) : rowOf .u64 (fw n 64) 8 = w8 n := rowOf_congr fun j hj => by unfold fw; rw [if_pos hj]
theorem fw_none8 (n : Nat) : rowOf .u64 (fw n 0) 8 = w8 0 := rowOf_congr fun j hj => by
  unfold fw wd; simp [Nat.mod_one]
theorem fw_lt (n k : Nat) : fw n k (k / 8) < 2 ^ (8 * (k % 8)) := by
  rw [fw_here, Nat.pow_mul]; exact Nat.mod_lt _ (Nat.pow_pos (by decide))
theorem sh_lt (x r : Nat) (hx : x < 256) (hr : r < 8) : x * 2 ^ (8 * r) < 18446744073709551616 := by
  have h1 : (2 : Nat) ^ (8 * r) ≤ 2 ^ 56 := Nat.pow_le_pow_right (by decide) (by omega)
  have h2 : x * 2 ^ (8 * r) ≤ 255 * 2 ^ 56 := Nat.mul_le_mul (by omega) h1
  omega
theorem lt_64 {x r : Nat} (h : x < 2 ^ (8 * r)) (hr : r < 8) : x < 2 ^ 64 :=
  Nat.lt_of_lt_of_le h (Nat.pow_le_pow_right (by decide) (by omega))
theorem fw_up' (n k : Nat) : up (fw n k) (k / 8) (fw n k (k / 8) + bt n k * 2 ^ (8 * (k % 8))) = fw n (k + 1) := by
  rw [Nat.pow_mul, fw_here]; exact fw_up n k
theorem n64_bt (s : ByteArray) (k : Nat) (hk : k < 64) : sb s k = bt (n64 s) k := by
  unfold bt n64
  exact (val_word (fun j _ => sb_lt s j) hk).symm
theorem n64_lt (s : ByteArray) : n64 s < MM * MM := by
  rw [MM_eq_b, ← Nat.pow_add]; exact val_lt fun j _ => sb_lt s j
/-! below -/
theorem bel_ne (a b m : Nat) (h : a / 18446744073709551616 ^ (m + 1) = b / 18446744073709551616 ^ (m + 1)) (hne : ¬ wd a m = wd b m) : decide (wd a m < wd b m) = decide (a < b) := by
  unfold wd at *
  rw [Nat.pow_succ, ← Nat.div_div_eq_div_mul, ← Nat.div_div_eq_div_mul] at h
  have ha := Nat.div_add_mod a (18446744073709551616 ^ m)
  have hb := Nat.div_add_mod b (18446744073709551616 ^ m)
  have ha2 := Nat.mod_lt a (wpow_pos m)
  have hb2 := Nat.mod_lt b (wpow_pos m)
  generalize 18446744073709551616 ^ m = P at *
  generalize a / P = x at *
  generalize b / P = y at *
  have hxy : ¬ x = y := fun e => hne (by rw [e])
  rw [Bool.eq_iff_iff, decide_eq_true_iff, decide_eq_true_iff]
  have key : x % 18446744073709551616 < y % 18446744073709551616 ↔ x < y := by omega
  rw [key]
  constructor
  · intro h1
    have : P * (x + 1) ≤ P * y := Nat.mul_le_mul_left _ h1
    rw [Nat.mul_add] at this; omega
  · intro h1
    apply Classical.byContradiction
    intro h2
    have : P * (y + 1) ≤ P * x := Nat.mul_le_mul_left _ (by omega)
    rw [Nat.mul_add] at this; omega
theorem bel_eq (a b m : Nat) (h : a / 18446744073709551616 ^ (m + 1) = b / 18446744073709551616 ^ (m + 1)) (he : wd a m = wd b m) : a / 18446744073709551616 ^ m = b / 18446744073709551616 ^ m := by
  unfold wd at *
  rw [Nat.pow_succ, ← Nat.div_div_eq_div_mul, ← Nat.div_div_eq_div_mul] at h
  omega
theorem bel_top (a : Nat) (ha : a < MM) : a / 18446744073709551616 ^ 4 = 0 := by
  rw [← MM_eq]; exact Nat.div_eq_of_lt ha
theorem bel_end (a b : Nat) (h : a / 18446744073709551616 ^ 0 = b / 18446744073709551616 ^ 0) : false = decide (a < b) := by
  rw [Nat.pow_zero, Nat.div_one, Nat.div_one] at h
  rw [h]; simp
/-! the rest -/
theorem and_w (N m : Nat) : wd N (m / 64) / 2 ^ (m % 64) &&& 1 = bit N m := by
  rw [Nat.and_one_is_mod, bit_wd]; rfl
def shw (r c q : Nat) : Nat → Nat := fun j => if j ≤ q then wd r j else wd (2 * r + c) j
theorem shw_here (r c q : Nat) : shw r c q q = wd r q := by unfold shw; rw [if_pos (Nat.le_refl _)]
theorem shw_less (r c q : Nat) : shw r c q (q - 1) = wd r (q - 1) := by unfold shw; rw [if_pos (by omega)]
theorem shw_start (r c : Nat) : rowOf .u64 (shw r c 3) 4 = ws r := rowOf_congr fun j hj => by unfold shw; rw [if_pos (by omega)]
theorem shw_up (r c q x : Nat) (hq : 0 < q) (hx : x = wd (2 * r + c) q) : up (shw r c q) q x = shw r c (q - 1) :=
  up_eq (by unfold shw; rw [if_neg (by omega), hx]) fun j hj => by
    unfold shw
    by_cases h : j ≤ q
    · rw [if_pos h, if_pos (by omega)]
    · rw [if_neg h, if_neg (by omega)]
theorem shw_val (r c q : Nat) (hc : c ≤ 1) (hq : 0 < q) : wd r q * 2 ^ 1 % 18446744073709551616 + wd r (q - 1) / 2 ^ 63 = wd (2 * r + c) q := by
  rw [wd_dbl r c q hc]; unfold cy; rw [if_neg (by omega)]
theorem shw_end (r c x : Nat) (hc : c ≤ 1) (hx : x = wd r 0 * 2 ^ 1 % 18446744073709551616 + c) : ws (2 * r + c) = rowOf .u64 (up (shw r c 0) 0 x) 4 := (rowOf_congr fun j _ => by
  unfold up
  by_cases h : j = 0
  · rw [if_pos h, h, hx, wd_dbl r c 0 hc]; rfl
  · rw [if_neg h]; unfold shw; rw [if_neg (by omega)]).symm
theorem rs_ge (N m : Nat) (h : ¬ 2 * rs N (m + 1) + bit N m < LL) : ws (rs N m) = ws (2 * rs N (m + 1) + bit N m + MM - LL) := by
  have h3 := rs_2 N m
  exact rest_ge N m (by rw [bo_top _ _ h3 (by decide), if_neg h])
theorem rs_less (N m : Nat) (h : 2 * rs N (m + 1) + bit N m < LL) : ws (rs N m) = ws (2 * rs N (m + 1) + bit N m) := by
  have h3 := rs_2 N m
  exact rest_lt N m (by rw [bo_top _ _ h3 (by decide), if_pos h]; decide)
/-! the product -/
theorem prc_hi' {a b c i j o : Nat} {f : Nat → Nat} (h : Prc a b c i j o f) : wd a i * wd b j / 18446744073709551616 + (f (i + j) + wd a i * wd b j % 18446744073709551616) / 18446744073709551616 < 18446744073709551616 := by
  rw [Nat.add_comm (f _)]; exact prc_hi h
theorem prc_over' {a b c i j o : Nat} {f : Nat → Nat} (h : Prc a b c i j o f) (hi : i < 4) (hj : j < 4) : wd a i * wd b j / 18446744073709551616 + (f (i + j) + wd a i * wd b j % 18446744073709551616) / 18446744073709551616 + ((f (i + j) + wd a i * wd b j % 18446744073709551616) % 18446744073709551616 + o) / 18446744073709551616 < 18446744073709551616 := by
  rw [Nat.add_comm (f _)]; exact prc_over h hi hj
theorem prc_next' {a b c i j o : Nat} {f : Nat → Nat} (h : Prc a b c i j o f) (hi : i < 4) (hj : j < 4) :
    Prc a b c i (j + 1) (wd a i * wd b j / 18446744073709551616 + (f (i + j) + wd a i * wd b j % 18446744073709551616) / 18446744073709551616 + ((f (i + j) + wd a i * wd b j % 18446744073709551616) % 18446744073709551616 + o) / 18446744073709551616)
      (up f (i + j) (((f (i + j) + wd a i * wd b j % 18446744073709551616) % 18446744073709551616 + o) % 18446744073709551616)) := by
  rw [Nat.add_comm (f _)]; exact prc_next h hi hj
def ch (f : Nat → Nat) (o i j : Nat) : Nat → Nat := if j ≤ i + 4 then f else up f (i + 4) o
def co (o i j : Nat) : Nat := if j ≤ i + 4 then o else 0
theorem ch_start (f : Nat → Nat) (o i : Nat) : ch f o i (i + 4) = f := by unfold ch; rw [if_pos (Nat.le_refl _)]
theorem co_start (o i : Nat) : co o i (i + 4) = o := by unfold co; rw [if_pos (Nat.le_refl _)]
theorem ch_lt {a b c i o : Nat} {f : Nat → Nat} (h : Prc a b c i 4 o f) (j m : Nat) : ch f o i j m < 18446744073709551616 := by
  unfold ch; split
  · exact h.lt m
  · unfold up; split
    · exact h.olt
    · exact h.lt m
theorem co_lt {a b c i o : Nat} {f : Nat → Nat} (h : Prc a b c i 4 o f) (j : Nat) : co o i j < 18446744073709551616 := by
  unfold co; split
  · exact h.olt
  · decide
theorem ch_sum {a b c i o : Nat} {f : Nat → Nat} (h : Prc a b c i 4 o f) (j : Nat) (hj : i + 4 ≤ j) (h8 : j < 8) :
    (ch f o i j j + co o i j) % 18446744073709551616 = (if j = i + 4 then o else f j) ∧ (ch f o i j j + co o i j) / 18446744073709551616 = co o i (j + 1) := by
  have hz := h.zero (i + 4) (by omega) (by omega)
  have ho := h.olt
  have hf := h.lt j
  unfold co
  rw [if_neg (show ¬ j + 1 ≤ i + 4 by omega)]
  by_cases e : j = i + 4
  · subst e
    rw [ch_start, if_pos (Nat.le_refl _), if_pos rfl, hz]; omega
  · unfold ch
    rw [if_neg (by omega), if_neg (by omega), if_neg e]
    unfold up
    rw [if_neg e]; omega
theorem ch_step {a b c i o : Nat} {f : Nat → Nat} (h : Prc a b c i 4 o f) (j : Nat) (hj : i + 4 ≤ j) (h8 : j < 8) : up (ch f o i j) j ((ch f o i j j + co o i j) % 18446744073709551616) = ch f o i (j + 1) := by
  rw [(ch_sum h j hj h8).1]
  by_cases e : j = i + 4
  · rw [if_pos e]
    subst e
    rw [ch_start]; unfold ch; rw [if_neg (by omega)]
  · rw [if_neg e]
    refine up_eq ?_ fun m hm => ?_
    · unfold ch; rw [if_neg (by omega)]; unfold up; rw [if_neg e]
    · unfold ch; rw [if_neg (by omega), if_neg (by omega)]
theorem ch_end {a b c i o : Nat} {f : Nat → Nat} (h : Prc a b c i 4 o f) (hb : b < MM) (hi : i < 4) : Prc a b c (i + 1) 0 0 (ch f o i 8) := by
  unfold ch; rw [if_neg (by omega)]; exact h.next hb hi
theorem mixw_none8 (c : Nat) : rowOf .u64 (mixw c 0 0) 8 = w8 0 := rowOf_congr fun j _ => by rw [mixw_none]
theorem mixw_all8 (c : Nat) (hc : c < MM) : rowOf .u64 (mixw c 0 4) 8 = rowOf .u64 (wd c) 8 := rowOf_congr fun j _ => by
  unfold mixw
  by_cases h : j < 4
  · rw [if_pos h]
  · rw [if_neg h, wd_big c j hc (by omega)]; simp [wd]
end Go.Proofs.Ytcemcnbhnedaaaa.Fld
