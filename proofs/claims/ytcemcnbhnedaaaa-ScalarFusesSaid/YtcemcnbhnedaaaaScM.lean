/- Layer 4: plain facts on words and bytes of numbers. -/
import Derived.Test.YtcemcnbhnedaaaaFldM
import Derived.Test.YtcemcnbhnedaaaaArr
namespace Go.Proofs.Ytcemcnbhnedaaaa.Fld
open Go.Proofs.Ytcemcnbhnedaaaa.Num (val up val_congr val_add val_lt val_up val_digits val_word)
open Go.Proofs.Ytcemcnbhnedaaaa.Arr

/-- The order of the base. -/
def LL : Nat := 7237005577332262213973186563042994240857116359379907606001950938285454250989
/-- A number's four words, its 32 bytes; eight words. -/
def ws (n : Nat) : Array Value := rowOf .u64 (wd n) 4
def bs (n : Nat) : Array Value := rowOf .u8 (bt n) 32
def w8 (n : Nat) : Array Value := rowOf .u64 (wd n) 8
theorem ws_one (n : Nat) : (ws n).all (·.oneCell') = true := rowOf_one _ _ _
theorem bs_one (n : Nat) : (bs n).all (·.oneCell') = true := rowOf_one _ _ _
theorem w8_one (n : Nat) : (w8 n).all (·.oneCell') = true := rowOf_one _ _ _
theorem ws_sz (n : Nat) : (ws n).size = 4 := rowOf_size _ _ _
theorem bs_sz (n : Nat) : (bs n).size = 32 := rowOf_size _ _ _
theorem w8_sz (n : Nat) : (w8 n).size = 8 := rowOf_size _ _ _
theorem up_eq {f h : Nat → Nat} {i x : Nat} (h1 : x = h i) (h2 : ∀ j, j ≠ i → f j = h j) : up f i x = h := by
  funext j
  unfold up
  by_cases e : j = i
  · rw [if_pos e, e, h1]
  · rw [if_neg e, h2 j e]

/-- The words on their way: the first k are there, the others as x has them. -/
def mixw (n x k : Nat) : Nat → Nat := fun j => if j < k then wd n j else wd x j
theorem mixw_up (n x k : Nat) : up (mixw n x k) k (wd n k) = mixw n x (k + 1) :=
  up_eq (by unfold mixw; rw [if_pos (by omega)]) fun j hj => by
    unfold mixw
    by_cases h : j < k
    · rw [if_pos h, if_pos (by omega)]
    · rw [if_neg h, if_neg (by omega)]
theorem mixw_all (n x : Nat) : rowOf .u64 (mixw n x 4) 4 = ws n := rowOf_congr fun j hj => by unfold mixw; rw [if_pos hj]
theorem mixw_none (n x : Nat) : mixw n x 0 = wd x := by funext j; unfold mixw; rw [if_neg (by omega)]
/-- Bytes on their way. -/
def partb (n k : Nat) : Nat → Nat := fun j => if j < k then bt n j else 0
theorem partb_up (n k : Nat) : up (partb n k) k (bt n k) = partb n (k + 1) :=
  up_eq (by unfold partb; rw [if_pos (by omega)]) fun j hj => by
    unfold partb
    by_cases h : j < k
    · rw [if_pos h, if_pos (by omega)]
    · rw [if_neg h, if_neg (by omega)]
theorem partb_all (n : Nat) : rowOf .u8 (partb n 32) 32 = bs n := rowOf_congr fun j hj => by unfold partb; rw [if_pos hj]
theorem partb_none (n : Nat) : rowOf .u8 (partb n 0) 32 = bs 0 := rowOf_congr fun j hj => by
  unfold partb bt; rw [if_neg (by omega)]; simp
theorem bt_of_wd (n k : Nat) : wd n (k / 8) / 2 ^ (8 * (k % 8)) % 256 = bt n k := by
  have h := bt_wd n (k / 8) (k % 8) (Nat.mod_lt _ (by decide))
  rw [show 8 * (k / 8) + k % 8 = k by omega] at h
  rw [h, Nat.pow_mul]

/-- A word on its way: its bytes from k on. -/
def pl (n i k : Nat) : Nat → Nat := fun j => if j < i then wd n j else if j = i then wd n i / 256 ^ k else 0
theorem pl_here (n i k : Nat) : pl n i k i = wd n i / 256 ^ k := by unfold pl; rw [if_neg (by omega), if_pos rfl]
theorem pl_step (n i k : Nat) (hk : k < 8) : wd n i / 256 ^ (k + 1) * 2 ^ 8 + bt n (8 * i + k) = wd n i / 256 ^ k := by
  rw [bt_wd n i k hk, Nat.pow_succ, ← Nat.div_div_eq_div_mul]; omega
theorem pl_lt (n i k : Nat) (hk : k < 8) : wd n i / 256 ^ (k + 1) * 2 ^ 8 < 18446744073709551616 := by
  have h := wd_lt n i
  have h2 : wd n i / 256 ^ (k + 1) ≤ wd n i / 256 ^ 1 := Nat.div_le_div_left (Nat.pow_le_pow_right (by decide) (by omega)) (by decide)
  rw [Nat.pow_one] at h2
  omega
theorem pl_up (n i k x : Nat) (hx : x = wd n i / 256 ^ k) : up (pl n i (k + 1)) i x = pl n i k :=
  up_eq (by rw [pl_here, hx]) fun j hj => by unfold pl; by_cases h : j < i <;> simp [h, hj]
theorem pl_start (n i : Nat) : pl n i 8 = fun j => if j < i then wd n j else 0 := by
  funext j
  have : wd n i / 256 ^ 8 = 0 := Nat.div_eq_of_lt (wd_lt n i)
  unfold pl; rw [this]
  by_cases h : j < i <;> simp [h]
theorem pl_end (n i : Nat) : pl n i 0 = pl n (i + 1) 8 := by
  rw [pl_start]
  funext j
  unfold pl
  rw [Nat.pow_zero, Nat.div_one]
  by_cases h : j < i
  · rw [if_pos h, if_pos (by omega)]
  · rw [if_neg h]
    by_cases e : j = i
    · rw [if_pos e, if_pos (by omega), e]
    · rw [if_neg e, if_neg (by omega)]
theorem pl_none (n : Nat) : rowOf .u64 (pl n 0 8) 4 = ws 0 := rowOf_congr fun j hj => by
  rw [pl_start]; simp [wd]
theorem pl_all (n : Nat) : rowOf .u64 (pl n 4 8) 4 = ws n := rowOf_congr fun j hj => by
  rw [pl_start]; simp [hj]

/-- Twice a number and c: what comes into word k. -/
def cy (n c k : Nat) : Nat := if k = 0 then c else wd n (k - 1) / 9223372036854775808
theorem cy_le (n c k : Nat) (hc : c ≤ 1) : cy n c k ≤ 1 := by
  unfold cy; split
  · exact hc
  · have := wd_lt n (k - 1); omega
theorem cy_eq (n c : Nat) (hc : c ≤ 1) : ∀ k, (2 * (n % 18446744073709551616 ^ k) + c) / 18446744073709551616 ^ k = cy n c k
  | 0 => by simp [cy, Nat.mod_one]
  | k + 1 => by
    have ih := cy_eq n c hc k
    have hl := cy_le n c k hc
    have hP := wpow_pos k
    have hw := wd_lt n k
    have e : cy n c (k + 1) = wd n k / 9223372036854775808 := by unfold cy; rw [if_neg (by omega)]; rfl
    rw [e, mod_succ, Nat.pow_succ, Nat.mul_comm (_ ^ k) 18446744073709551616]
    rw [show 2 * (n % 18446744073709551616 ^ k + 18446744073709551616 ^ k * wd n k) + c = (2 * (n % 18446744073709551616 ^ k) + c) + 18446744073709551616 ^ k * (2 * wd n k) by rw [Nat.mul_add, Nat.mul_left_comm]; omega]
    rw [Nat.mul_comm 18446744073709551616, ← Nat.div_div_eq_div_mul, Nat.add_mul_div_left _ _ hP, ih]
    omega
theorem wd_dbl (n c k : Nat) (hc : c ≤ 1) : wd (2 * n + c) k = wd n k * 2 % 18446744073709551616 + cy n c k := by
  have h1 := Nat.div_add_mod n (18446744073709551616 ^ k)
  have e : 2 * n + c = (2 * (n % 18446744073709551616 ^ k) + c) + 18446744073709551616 ^ k * (2 * (n / 18446744073709551616 ^ k)) := by
    have : 18446744073709551616 ^ k * (2 * (n / 18446744073709551616 ^ k)) = 2 * (18446744073709551616 ^ k * (n / 18446744073709551616 ^ k)) := Nat.mul_left_comm _ _ _
    rw [this]; omega
  have hl := cy_le n c k hc
  have hd : (2 * n + c) / 18446744073709551616 ^ k = cy n c k + 2 * (n / 18446744073709551616 ^ k) := by
    rw [e, Nat.add_mul_div_left _ _ (wpow_pos k), cy_eq n c hc]
  unfold wd
  rw [hd]
  omega
theorem cy_succ (n c k : Nat) : cy n c (k + 1) = wd n k / 2 ^ 63 := by unfold cy; rw [if_neg (by omega)]; rfl
theorem cy_zero (n c : Nat) : cy n c 0 = c := by unfold cy; rw [if_pos rfl]

theorem MM_2 : MM = 2 ^ 256 := by
  rw [MM_eq, show (18446744073709551616 : Nat) = 2 ^ 64 from rfl, ← Nat.pow_mul]
/-- Bit m of eight words. -/
theorem bit_wd (n m : Nat) : wd n (m / 64) / 2 ^ (m % 64) % 2 = n / 2 ^ m % 2 := by
  unfold wd
  rw [show (18446744073709551616 : Nat) = 2 ^ 64 from rfl, ← Nat.pow_mul]
  have e : m = 64 * (m / 64) + m % 64 := by omega
  conv => rhs; rw [e, Nat.pow_add, ← Nat.div_div_eq_div_mul]
  generalize n / 2 ^ (64 * (m / 64)) = x
  have h64 : m % 64 < 64 := Nat.mod_lt _ (by decide)
  generalize m % 64 = r at *
  rw [show (2 : Nat) ^ 64 = 2 ^ r * 2 ^ (64 - r) by rw [← Nat.pow_add]; congr 1; omega, Nat.mod_mul_right_div_self]
  rw [show 64 - r = (63 - r) + 1 by omega, Nat.pow_succ]
  exact Nat.mod_mul_left_mod _ _ _
theorem bit_lo (a b m : Nat) (hm : m < 256) : wd a (m % 256 / 64) / 2 ^ (m % 64) % 2 = (a + MM * b) / 2 ^ m % 2 := by
  rw [show m % 256 = m by omega, bit_wd]
  have e : MM = 2 ^ m * (2 ^ (255 - m) * 2) := by
    rw [← Nat.pow_succ, ← Nat.pow_add, show m + (255 - m).succ = 256 by omega]; rfl
  rw [e, Nat.mul_assoc, Nat.add_mul_div_left _ _ (Nat.pow_pos (by decide)), Nat.mul_right_comm, Nat.add_mul_mod_self_right]
theorem bit_hi (a b m : Nat) (ha : a < MM) (hm : 256 ≤ m) (hm2 : m < 512) : wd b (m % 256 / 64) / 2 ^ (m % 64) % 2 = (a + MM * b) / 2 ^ m % 2 := by
  have h1 : m % 256 = m - 256 := by omega
  have h2 : m % 64 = (m - 256) % 64 := by omega
  rw [h1, h2, bit_wd]
  have e : (2 : Nat) ^ m = MM * 2 ^ (m - 256) := by
    rw [MM_2, ← Nat.pow_add, Nat.add_sub_cancel' hm]
  rw [e, ← Nat.div_div_eq_div_mul, Nat.add_mul_div_left _ _ (by decide), Nat.div_eq_of_lt ha, Nat.zero_add]
/-- One step of the division bit by bit. -/
theorem step_lt (N m : Nat) : 2 * (N / 2 ^ (m + 1) % LL) + N / 2 ^ m % 2 < 2 * LL := by
  have h1 : N / 2 ^ (m + 1) % LL < LL := Nat.mod_lt _ (by decide)
  have h2 : N / 2 ^ m % 2 < 2 := Nat.mod_lt _ (by decide)
  omega
theorem step_rest (N m : Nat) : N / 2 ^ m % LL = if 2 * (N / 2 ^ (m + 1) % LL) + N / 2 ^ m % 2 < LL then 2 * (N / 2 ^ (m + 1) % LL) + N / 2 ^ m % 2 else 2 * (N / 2 ^ (m + 1) % LL) + N / 2 ^ m % 2 - LL := by
  have hlt := step_lt N m
  have e1 : N / 2 ^ m = 2 * (N / 2 ^ (m + 1)) + N / 2 ^ m % 2 := by
    rw [Nat.pow_succ, ← Nat.div_div_eq_div_mul]; omega
  have h : N / 2 ^ m % LL = (2 * (N / 2 ^ (m + 1) % LL) + N / 2 ^ m % 2) % LL := by
    conv => lhs; rw [e1]
    rw [Nat.add_mod, Nat.mul_mod, ← Nat.mul_mod_mod, Nat.mul_mod_mod, ← Nat.add_mod_mod, Nat.add_mod_mod]
    simp only [Nat.add_mod, Nat.mul_mod, Nat.mod_mod]
  rw [h]
  generalize 2 * (N / 2 ^ (m + 1) % LL) + N / 2 ^ m % 2 = x at *
  split
  · rename_i hx; exact Nat.mod_eq_of_lt hx
  · rename_i hx; rw [Nat.mod_eq_sub_mod (by omega), Nat.mod_eq_of_lt (by omega)]
theorem LL_lt : 2 * LL < MM := by decide
theorem ws_MM (n : Nat) : ws (n + MM) = ws n := rowOf_congr fun j hj => by
  rw [← wd_mod (n + MM) j hj, Nat.add_mod_right, wd_mod n j hj]
/-- What the bits from k on leave. -/
def rs (N k : Nat) : Nat := N / 2 ^ k % LL
theorem rs_lt (N k : Nat) : rs N k < LL := Nat.mod_lt _ (by decide)
theorem rs_end (N : Nat) : rs N 0 = N % LL := by unfold rs; rw [Nat.pow_zero, Nat.div_one]
def bit (N k : Nat) : Nat := N / 2 ^ k % 2
theorem bit_le (N k : Nat) : bit N k ≤ 1 := Nat.le_of_lt_succ (Nat.mod_lt _ (by decide))
theorem rs_2 (N m : Nat) : 2 * rs N (m + 1) + bit N m < MM := by
  have h1 := step_lt N m
  have h3 := LL_lt
  unfold rs bit; omega
theorem rest_ge (N m : Nat) (h : bo (2 * rs N (m + 1) + bit N m) LL 4 = 0) : ws (rs N m) = ws (2 * rs N (m + 1) + bit N m + MM - LL) := by
  have h1 := step_lt N m
  have h2 := step_rest N m
  have h3 := LL_lt
  unfold rs bit at *
  rw [bo_top _ _ (by omega) (by omega)] at h
  generalize 2 * (N / 2 ^ (m + 1) % LL) + N / 2 ^ m % 2 = x at *
  have hx : ¬ x < LL := by intro hx; rw [if_pos hx] at h; cases h
  rw [if_neg hx] at h2
  rw [h2, show x + MM - LL = (x - LL) + MM by omega, ws_MM]
theorem rest_lt (N m : Nat) (h : ¬ bo (2 * rs N (m + 1) + bit N m) LL 4 = 0) : ws (rs N m) = ws (2 * rs N (m + 1) + bit N m) := by
  have h1 := step_lt N m
  have h2 := step_rest N m
  have h3 := LL_lt
  unfold rs bit at *
  rw [bo_top _ _ (by omega) (by omega)] at h
  generalize 2 * (N / 2 ^ (m + 1) % LL) + N / 2 ^ m % 2 = x at *
  have hx : x < LL := by
    apply Classical.byContradiction
    intro hx; rw [if_neg hx] at h; exact h rfl
  rw [if_pos hx] at h2
  rw [h2]
theorem p512 (k i : Nat) (hi : i = 256) (h : k = i + i) : 2 ^ k = MM * MM := by
  have e : 2 ^ i = MM := by rw [hi, MM_2]
  rw [h, Nat.pow_add, e]
theorem rest_start (N k : Nat) (hk : k = 256 + 256) (h : N < MM * MM) : rs N k = 0 := by
  unfold rs
  rw [p512 k 256 rfl hk, Nat.div_eq_of_lt h]; rfl
theorem and_lo (a b m N : Nat) (hm : m < 256) (hN : a + MM * b = N) : wd a (m % 256 / 64) / 2 ^ (m % 64) &&& 1 = bit N m := by
  rw [Nat.and_one_is_mod, bit_lo a b m hm, hN]; rfl
theorem and_hi (a b m N : Nat) (ha : a < MM) (hm : 256 ≤ m) (hm2 : m < 512) (hN : a + MM * b = N) : wd b (m % 256 / 64) / 2 ^ (m % 64) &&& 1 = bit N m := by
  rw [Nat.and_one_is_mod, bit_hi a b m ha hm hm2, hN]; rfl
theorem canon_eq (a : Nat) (ha : a < MM) : decide (bo a LL 4 = 1) = decide (a < LL) := by
  have h3 := LL_lt
  rw [bo_top a LL ha (by omega), Bool.eq_iff_iff, decide_eq_true_iff, decide_eq_true_iff]
  split <;> omega

/-! A product and a sum. -/
theorem mul_high (a b : Nat) (ha : a < 18446744073709551616) (hb : b < 18446744073709551616) : a * b / 18446744073709551616 + 1 < 18446744073709551616 ∧ a * b ≤ 340282366920938463426481119284349108225 := by
  have h : a * b ≤ 18446744073709551615 * 18446744073709551615 := Nat.mul_le_mul (by omega) (by omega)
  constructor <;> omega
/-- What holds of the eight words while a product is made: i words of a are done, j of b; c was there. -/
structure Prc (a b c i j o : Nat) (f : Nat → Nat) : Prop where
  lt : ∀ m, f m < 18446744073709551616
  zero : ∀ m, i + 4 ≤ m → m < 8 → f m = 0
  olt : o < 18446744073709551616
  sum : val 18446744073709551616 f 8 + o * 18446744073709551616 ^ (i + j) = c + a % 18446744073709551616 ^ i * b + wd a i * (b % 18446744073709551616 ^ j) * 18446744073709551616 ^ i
theorem Prc.step {a b c i j o : Nat} {f : Nat → Nat} (h : Prc a b c i j o f) (hi : i < 4) (hj : j < 4) :
    Prc a b c i (j + 1) ((wd a i * wd b j + f (i + j) + o) / 18446744073709551616) (up f (i + j) ((wd a i * wd b j + f (i + j) + o) % 18446744073709551616)) := by
  have hm := mul_high (wd a i) (wd b j) (wd_lt _ _) (wd_lt _ _)
  have hf := h.lt (i + j)
  have ho := h.olt
  have hs := h.sum
  refine ⟨fun m => ?_, fun m h1 h2 => ?_, by omega, ?_⟩
  · unfold up; split
    · exact Nat.mod_lt _ (by decide)
    · exact h.lt m
  · unfold up; rw [if_neg (by omega)]; exact h.zero m h1 h2
  · have hu := val_up (b := 18446744073709551616) (f := f) (k := i + j) (x := (wd a i * wd b j + f (i + j) + o) % 18446744073709551616) (n := 8) (by omega)
    rw [mod_succ, Nat.mul_add, Nat.add_mul]
    have e2 : wd a i * (18446744073709551616 ^ j * wd b j) * 18446744073709551616 ^ i = wd a i * wd b j * 18446744073709551616 ^ (i + j) := by
      rw [Nat.pow_add, Nat.mul_comm (_ ^ j) (wd b j), ← Nat.mul_assoc, Nat.mul_assoc _ (_ ^ j), Nat.mul_comm (_ ^ j)]
    rw [e2, show i + (j + 1) = (i + j) + 1 from rfl, Nat.pow_succ, Nat.mul_comm (_ ^ (i + j)) 18446744073709551616, ← Nat.mul_assoc]
    generalize 18446744073709551616 ^ (i + j) = P at *
    generalize wd a i * wd b j = p at *
    generalize hq : (p + f (i + j) + o) / 18446744073709551616 = q at *
    generalize hr : (p + f (i + j) + o) % 18446744073709551616 = r at *
    have e3 : r + q * 18446744073709551616 = p + f (i + j) + o := by omega
    have e4 := congrArg (· * P) e3
    simp only [Nat.add_mul] at e4
    omega
theorem Prc.next {a b c i o : Nat} {f : Nat → Nat} (h : Prc a b c i 4 o f) (hb : b < MM) (hi : i < 4) : Prc a b c (i + 1) 0 0 (up f (i + 4) o) := by
  have hs := h.sum
  have hu := val_up (b := 18446744073709551616) (f := f) (k := i + 4) (x := o) (n := 8) (by omega)
  have hz := h.zero (i + 4) (by omega) (by omega)
  rw [hz] at hu
  rw [MM_eq] at hb
  rw [Nat.mod_eq_of_lt hb] at hs
  refine ⟨fun m => ?_, fun m h1 h2 => ?_, by omega, ?_⟩
  · unfold up; split
    · exact h.olt
    · exact h.lt m
  · unfold up; rw [if_neg (by omega)]; exact h.zero m (by omega) h2
  · rw [mod_succ, Nat.pow_zero, Nat.mod_one, Nat.add_mul]
    have e2 : 18446744073709551616 ^ i * wd a i * b = wd a i * b * 18446744073709551616 ^ i := by
      rw [Nat.mul_comm (_ ^ i), Nat.mul_assoc, Nat.mul_comm (_ ^ i), ← Nat.mul_assoc]
    rw [e2]; omega
theorem wd_big (c j : Nat) (hc : c < MM) (hj : 4 ≤ j) : wd c j = 0 := by
  unfold wd
  rw [Nat.div_eq_of_lt]
  rw [MM_eq] at hc
  exact Nat.lt_of_lt_of_le hc (Nat.pow_le_pow_right (by decide) hj)
theorem prc_start (a b c : Nat) (hc : c < MM) : Prc a b c 0 0 0 (wd c) := by
  refine ⟨fun _ => wd_lt _ _, fun m h1 _ => wd_big c m hc (by omega), by omega, ?_⟩
  rw [val_wd, Nat.mod_eq_of_lt (Nat.lt_of_lt_of_le hc (by rw [MM_eq]; exact Nat.pow_le_pow_right (by decide) (by decide)))]
  simp [Nat.mod_one]
/-- The two sums with carries of one step. -/
theorem prc_sums (p f o : Nat) (hp : p ≤ 340282366920938463426481119284349108225) (hf : f < 18446744073709551616) :
    ((p % 18446744073709551616 + f) % 18446744073709551616 + o) % 18446744073709551616 = (p + f + o) % 18446744073709551616 ∧
    p / 18446744073709551616 + (p % 18446744073709551616 + f) / 18446744073709551616 + ((p % 18446744073709551616 + f) % 18446744073709551616 + o) / 18446744073709551616 = (p + f + o) / 18446744073709551616 ∧
    p / 18446744073709551616 + (p % 18446744073709551616 + f) / 18446744073709551616 < 18446744073709551616 := by
  refine ⟨?_, ?_, ?_⟩ <;> omega
theorem prc_hi {a b c i j o : Nat} {f : Nat → Nat} (h : Prc a b c i j o f) : wd a i * wd b j / 18446744073709551616 + (wd a i * wd b j % 18446744073709551616 + f (i + j)) / 18446744073709551616 < 18446744073709551616 :=
  (prc_sums _ _ o (mul_high _ _ (wd_lt _ _) (wd_lt _ _)).2 (h.lt _)).2.2
theorem prc_over {a b c i j o : Nat} {f : Nat → Nat} (h : Prc a b c i j o f) (hi : i < 4) (hj : j < 4) : wd a i * wd b j / 18446744073709551616 + (wd a i * wd b j % 18446744073709551616 + f (i + j)) / 18446744073709551616 + ((wd a i * wd b j % 18446744073709551616 + f (i + j)) % 18446744073709551616 + o) / 18446744073709551616 < 18446744073709551616 := by
  rw [(prc_sums _ _ o (mul_high _ _ (wd_lt _ _) (wd_lt _ _)).2 (h.lt _)).2.1]
  exact (h.step hi hj).olt
theorem prc_next {a b c i j o : Nat} {f : Nat → Nat} (h : Prc a b c i j o f) (hi : i < 4) (hj : j < 4) :
    Prc a b c i (j + 1) (wd a i * wd b j / 18446744073709551616 + (wd a i * wd b j % 18446744073709551616 + f (i + j)) / 18446744073709551616 + ((wd a i * wd b j % 18446744073709551616 + f (i + j)) % 18446744073709551616 + o) / 18446744073709551616)
      (up f (i + j) (((wd a i * wd b j % 18446744073709551616 + f (i + j)) % 18446744073709551616 + o) % 18446744073709551616)) := by
  have h1 := h.step hi hj
  have hs := prc_sums (wd a i * wd b j) (f (i + j)) o (mul_high _ _ (wd_lt _ _) (wd_lt _ _)).2 (h.lt _)
  rw [← hs.1, ← hs.2.1] at h1
  exact h1
theorem Prc.low {a b c : Nat} {f : Nat → Nat} (h : Prc a b c 4 0 0 f) (ha : a < MM) (j : Nat) (hj : j < 8) : f j = wd (a * b + c) j := by
  have hs := h.sum
  have := val_word (b := 18446744073709551616) (f := f) (n := 8) (q := j) (fun j _ => h.lt j) hj
  generalize val 18446744073709551616 f 8 = v at this hs
  rw [MM_eq] at ha
  rw [Nat.mod_eq_of_lt ha, Nat.pow_zero, Nat.mod_one] at hs
  rw [Nat.zero_mul, Nat.mul_zero, Nat.zero_mul, Nat.add_zero, Nat.add_zero, Nat.add_comm c] at hs
  rw [hs] at this
  exact this.symm
theorem prc_all {a b c : Nat} {f : Nat → Nat} (h : Prc a b c 4 0 0 f) (ha : a < MM) : w8 (a * b + c) = rowOf .u64 f 8 := (rowOf_congr fun j hj => h.low ha j hj).symm
theorem wd_div (n j : Nat) : wd (n / MM) j = wd n (4 + j) := by
  unfold wd
  rw [MM_eq, Nat.div_div_eq_div_mul, ← Nat.pow_add]
theorem sum_lt (a b c : Nat) (ha : a < MM) (hb : b < MM) (hc : c < MM) : a * b + c < MM * MM := by
  have h1 : a * b ≤ (MM - 1) * (MM - 1) := Nat.mul_le_mul (by omega) (by omega)
  have h2 : (MM - 1) * (MM - 1) + MM ≤ MM * MM := by decide
  omega
theorem split_MM (n : Nat) : n % MM + MM * (n / MM) = n := by have := Nat.div_add_mod n MM; omega
theorem div_MM_lt (n : Nat) (h : n < MM * MM) : n / MM < MM := Nat.div_lt_of_lt_mul h
theorem ws_mod (n : Nat) : ws (n % MM) = ws n := rowOf_congr fun j hj => wd_mod n j hj
/-! Bytes of a text. -/
def sb (s : ByteArray) (i : Nat) : Nat := if h : i < s.size then (s[i]'h).toNat else 0
theorem sb_at (s : ByteArray) (i : Nat) (h : i < s.size) : (s[i]'h).toNat = sb s i := by unfold sb; rw [dif_pos h]
theorem sb_lt (s : ByteArray) (i : Nat) : sb s i < 256 := by
  unfold sb; split
  · exact UInt8.toNat_lt _
  · decide
/-- The number of 64 bytes. -/
def n64 (s : ByteArray) : Nat := val 256 (sb s) 64
def pb (f : Nat → Nat) (k : Nat) : Nat → Nat := fun j => if j < k then f j else 0
theorem pb_up (f : Nat → Nat) (k : Nat) : up (pb f k) k (f k) = pb f (k + 1) :=
  up_eq (by unfold pb; rw [if_pos (by omega)]) fun j hj => by
    unfold pb
    by_cases h : j < k
    · rw [if_pos h, if_pos (by omega)]
    · rw [if_neg h, if_neg (by omega)]
theorem pb_none (f : Nat → Nat) : rowOf .u8 (pb f 0) 32 = bs 0 := rowOf_congr fun j hj => by
  unfold pb bt; simp
theorem row_bs (f : Nat → Nat) (hf : ∀ j, f j < 256) : val 256 f 32 < MM ∧ rowOf .u8 f 32 = bs (val 256 f 32) := by
  refine ⟨by rw [MM_eq_b]; exact val_lt fun j _ => hf j, rowOf_congr fun j hj => ?_⟩
  unfold bt
  exact (val_word (fun j _ => hf j) hj).symm
def lo32 (s : ByteArray) : Nat := val 256 (sb s) 32
def hi32 (s : ByteArray) : Nat := val 256 (fun j => sb s (32 + j)) 32
theorem lo32_lt (s : ByteArray) : lo32 s < MM := (row_bs _ (sb_lt s)).1
theorem hi32_lt (s : ByteArray) : hi32 s < MM := (row_bs _ fun j => sb_lt s (32 + j)).1
theorem n64_eq (s : ByteArray) : lo32 s + MM * hi32 s = n64 s := by
  unfold n64 lo32 hi32
  rw [MM_eq_b, ← val_add]
theorem pb_lo (s : ByteArray) : bs (lo32 s) = rowOf .u8 (pb (sb s) 32) 32 := by
  rw [lo32, ← (row_bs _ (sb_lt s)).2]
  exact rowOf_congr fun j hj => by unfold pb; rw [if_pos hj]
theorem pb_hi (s : ByteArray) : bs (hi32 s) = rowOf .u8 (pb (fun j => sb s (32 + j)) 32) 32 := by
  rw [hi32, ← (row_bs _ fun j => sb_lt s (32 + j)).2]
  exact rowOf_congr fun j hj => by unfold pb; rw [if_pos hj]
end Go.Proofs.Ytcemcnbhnedaaaa.Fld
