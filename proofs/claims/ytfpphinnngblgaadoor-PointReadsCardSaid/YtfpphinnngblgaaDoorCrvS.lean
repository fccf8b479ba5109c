/- Layer 5: numbers mod the prime as Fin PP; points as points of the curve; what was unpacked is one, and has its bytes. -/
import Derived.Test.YtfpphinnngblgaaDoorCrvT
import Derived.Test.YtfpphinnngblgaaDoorFldAF
import Derived.Test.YtfpphinnngblgaaDoorPtN
namespace Go.Proofs.YtfpphinnngblgaaDoor.Fld
open Go.Proofs.YtfpphinnngblgaaDoor.Num (val up val_congr val_add val_lt val_up val_digits val_word)
open Go.Proofs.YtfpphinnngblgaaDoor.Arr Go.Proofs.YtfpphinnngblgaaDoor.Pri Go.Proofs.YtfpphinnngblgaaDoor.Crv Go.Proofs.YtfpphinnngblgaaDoor.Sx

instance : NeZero PP := ⟨by decide⟩
/-- A number as what it leaves. -/
def io (a : Nat) : Fin PP := ⟨a % PP, Nat.mod_lt _ ppos⟩
theorem io_M (a b : Nat) : io (fM a b) = io a * io b := Fin.ext (by
  show a * b % PP % PP = (a % PP) * (b % PP) % PP
  rw [Nat.mod_mod, ← Nat.mul_mod])
theorem io_A (a b : Nat) : io (fA a b) = io a + io b := Fin.ext (by
  show (a + b) % PP % PP = (a % PP + b % PP) % PP
  rw [Nat.mod_mod, ← Nat.add_mod])
theorem io_S (a b : Nat) : io (fS a b) = io a - io b := Fin.ext (by
  show (a % PP + (PP - b % PP)) % PP % PP = (PP - b % PP + a % PP) % PP
  rw [Nat.mod_mod, Nat.add_comm])
theorem io_N (a : Nat) : io (fN a) = - io a := Fin.ext (by
  show (PP - a % PP) % PP % PP = (PP - a % PP) % PP
  rw [Nat.mod_mod])
theorem io_R (a : Nat) : io (fR a) = io a := Fin.ext (by
  show a % PP % PP = a % PP
  rw [Nat.mod_mod])
theorem io_0 : io 0 = 0 := Fin.ext rfl
theorem io_1 : io 1 = 1 := Fin.ext rfl
theorem io_eq {a b : Nat} (ha : a < PP) (hb : b < PP) : io a = io b ↔ a = b := by
  constructor
  · intro h
    have := congrArg Fin.val h
    have h1 : a % PP = b % PP := this
    rwa [Nat.mod_eq_of_lt ha, Nat.mod_eq_of_lt hb] at h1
  · exact fun h => congrArg io h
theorem io_val {a : Nat} (ha : a < PP) : (io a).val = a := Nat.mod_eq_of_lt ha
theorem io_ne {a : Nat} (ha : a < PP) (h : a ≠ 0) : io a ≠ 0 := fun e => h ((io_eq ha ppos).1 (by rw [e, io_0]))
/-- What gives 1. -/
def iv (x : Fin PP) : Fin PP := io (fI x.val)
theorem io_I (a : Nat) : io (fI a) = iv (io a) := by
  unfold iv fI
  have e : (io a).val = a % PP := rfl
  rw [e]
  generalize PP - 2 = k
  rw [← Nat.pow_mod]
theorem pow_next (x : Nat) : ∀ k : Nat, x * (x ^ k % PP) % PP = x ^ (k + 1) % PP := fun k => by
  rw [Nat.pow_succ, Nat.mul_mod, Nat.mod_mod, ← Nat.mul_mod, Nat.mul_comm]
theorem fI_one (x : Nat) (h : x % PP ≠ 0) : x * fI x % PP = 1 := by
  unfold fI
  have hf := pri.fermat h
  have e : PP - 1 = PP - 2 + 1 := by decide
  rw [e] at hf
  generalize PP - 2 = k at hf ⊢
  rw [pow_next, hf]
theorem no_root (x h : Nat) (hh : 2 * h = PP - 1) (hx : x * x % PP = dN % PP) (hd : dN ^ h % PP = PP - 1) : False := by
  have e1 : (x * x) ^ h % PP = PP - 1 := by rw [Nat.pow_mod, hx, ← Nat.pow_mod, hd]
  by_cases h0 : x % PP = 0
  · rw [Nat.mul_mod, h0, Nat.zero_mul, Nat.zero_mod] at hx
    exact absurd hx (by decide)
  · have hf := pri.fermat h0
    rw [← Nat.pow_two, ← Nat.pow_mul, hh, hf] at e1
    exact absurd e1 (by decide)
theorem half_d : dN ^ HP % PP = PP - 1 := by rw [pm_at _ _ (by decide)]; decide +kernel
theorem im_of (j : Nat) (h : j * j % PP = PP - 1) : io j * io j = -1 := Fin.ext (by
  show (j % PP) * (j % PP) % PP = (PP - 1 % PP) % PP
  rw [← Nat.mul_mod, h]; decide)
theorem gd : Gd (io dN) iv where
  inv := fun x hx => Fin.ext (by
    have hv : x.val % PP ≠ 0 := fun e => hx (Fin.ext (by
      rw [Nat.mod_eq_of_lt x.isLt] at e
      exact e))
    have := fI_one x.val hv
    show x.val * (fI x.val % PP) % PP = 1 % PP
    rw [Nat.mod_eq_of_lt (fI_lt _), this]; decide)
  two := fun h => absurd (congrArg Fin.val h) (by decide)
  im := ⟨io (2 ^ K2 % PP), im_of _ i_sq⟩
  non := fun x hx => no_root x.val HP (by decide) (congrArg Fin.val hx) half_d
def toJ (p : Pn) : Pj PP := ⟨io p.x, io p.y, io p.z, io p.t⟩
theorem on_J (p : Pn) : onP p ↔ onJ (io dN) (toJ p) := by
  unfold onP onJ toJ
  rw [← io_eq (fM_lt _ _) (fM_lt _ _), ← io_eq (fS_lt _ _) (fA_lt _ _), io_M, io_M, io_S, io_A, io_M, io_M, io_M, io_M, io_M]
  have e : (¬ fR p.z = 0) ↔ io p.z ≠ 0 := by
    rw [← io_R]
    constructor
    · exact fun h => io_ne (fR_lt _) h
    · exact fun h e => h (by rw [e, io_0])
  rw [e]
/-- A point's affine numbers. -/
def Rp (p : Pn) (P : Fin PP × Fin PP) : Prop := Rep (io dN) (toJ p) P
theorem on_R {p : Pn} {P : Fin PP × Fin PP} (h : Rp p P) : onP p := (on_J p).2 (Rep.onJ h)
/-- Numbers that are packed. -/
def pkF (P : Fin PP × Fin PP) : ByteArray := txt (bt (pkN P.1.val P.2.val)) 32
theorem pack_R {p : Pn} {P : Fin PP × Fin PP} (h : Rp p P) : packS p = pkF P := by
  unfold packS pkF
  have hz : io p.z ≠ 0 := h.z
  have hi := gd.inv _ hz
  rw [← io_I] at hi
  have hx : io p.x = P.1 * io p.z := h.x
  have hy : io p.y = P.2 * io p.z := h.y
  have ex : io (fM p.x (fI p.z)) = P.1 := by rw [io_M, hx, inv_mul hi]
  have ey : io (fM p.y (fI p.z)) = P.2 := by rw [io_M, hy, inv_mul hi]
  rw [← ex, ← ey, io_val (fM_lt _ _), io_val (fM_lt _ _)]
theorem pkN_lt (x : Nat) {y : Nat} (h : y < PP) : pkN x y < MM := by
  unfold pkN
  have e1 : PP < HH := by decide
  have e2 : HH + HH = MM := by decide
  have e3 := Nat.mod_two_eq_zero_or_one x
  generalize x % 2 = a at *
  rcases e3 with rfl | rfl <;> simp only [Nat.mul_zero, Nat.mul_one, Nat.add_zero] <;> omega
theorem rootR_lt (s : Nat) : rootR s < PP := by
  unfold rootR rt2 rt1
  split
  · exact Nat.mod_lt _ ppos
  · exact Nat.mod_lt _ ppos
theorem rootV_ltP (s : Nat) : rootV s < PP := by
  have := rootR_lt s
  unfold rootV
  split
  · split
    · omega
    · omega
  · exact ppos
theorem up_on (y : Nat) (h : upOk y = true) : On (io dN) (io (upX y)) (io y) := by
  have hl : upS y % PP = upS y := Nat.mod_eq_of_lt (by unfold upS; exact fM_lt _ _)
  have h1 : fM (upX y) (upX y) = upS y := by
    unfold fM upX
    rw [hl]
    exact rootV_sq _ (by rw [← hl]; exact h)
  have h2 := congrArg io h1
  rw [io_M] at h2
  unfold upS at h2
  rw [io_M, io_S, io_I, io_A, io_M, io_M, io_M, io_1] at h2
  generalize io (upX y) = a at *
  generalize io y = b at *
  exact gd.up h2
theorem odd_even' (m v : Nat) (ho : m % 2 = 1) (hl : v < m) (h : v % 2 = 0) : (m - v) % 2 = 1 := by omega
theorem odd_even (v : Nat) (hl : v < PP) (h : v % 2 = 0) : (PP - v) % 2 = 1 := odd_even' PP v (by decide) hl h
theorem aff_R (x y : Nat) (h : On (io dN) (io x) (io y)) : Rp ⟨x, y, 1, fM x y⟩ (io x, io y) := by
  have := aff_rep gd h
  unfold Rp toJ
  simp only
  rw [io_M, io_1]
  exact this
theorem n32_all (s : ByteArray) (h : s.size = 32) : s = txt (bt (n32 s)) 32 := by
  have hz : (txt (bt (n32 s)) 32).size = 32 := txt_size _ _
  refine ByteArray.ext (Array.ext (by show s.size = (txt (bt (n32 s)) 32).size; omega) fun i h1 h2 => ?_)
  have e : (s[i]'h1).toNat = ((txt (bt (n32 s)) 32)[i]'h2).toNat := by
    rw [txt_at _ _ _ _ (bt_lt _ _), sb_at]
    have hi : i < 32 := by have : i < s.size := h1; omega
    unfold n32 bt
    exact (val_word (fun j _ => sb_lt s j) hi).symm
  exact UInt8.toNat_inj.1 e
theorem pkF_at {s : ByteArray} {x y : Nat} (hs : s.size = 32) (hx : x < PP) (hy : y < PP) (h : pkN x y = n32 s) : pkF (io x, io y) = s := by
  unfold pkF
  simp only
  rw [io_val hx, io_val hy, h]
  exact (n32_all s hs).symm
theorem pk_hi (n x y : Nat) (h1 : HH ≤ n) (h2 : n < HH + HH) (hy : y = n % HH) (hx : x % 2 = 1) : pkN x y = n := by
  unfold pkN
  rw [hx, hy, Nat.mod_eq_sub_mod h1, Nat.mod_eq_of_lt (by omega)]
  omega
theorem pk_lo (n x y : Nat) (h1 : ¬ HH ≤ n) (hy : y = n % HH) (hx : x % 2 = 0) : pkN x y = n := by
  unfold pkN
  rw [hx, hy, Nat.mod_eq_of_lt (by omega)]
  omega
theorem fN_at (x : Nat) (hx : x < PP) (h0 : ¬ x = 0) : fN x = PP - x := by
  unfold fN
  rw [Nat.mod_eq_of_lt hx, Nat.mod_eq_of_lt (by omega)]
/-- What was unpacked: on the curve, of numbers below the prime; and its bytes. -/
theorem unP_R {s : ByteArray} {p : Pn} (h : unP s = some p) : ∃ P : Fin PP × Fin PP, Rp p P ∧ pkF P = s ∧ p.x < PP ∧ p.y < PP ∧ p.z = 1 ∧ p.t < PP := by
  unfold unP at h
  by_cases hs : s.size = 32
  · rw [if_pos hs] at h
    by_cases hc : upY s < PP
    · rw [if_pos hc] at h
      by_cases hok : upOk (upY s) = true
      · rw [if_pos hok] at h
        have ho := up_on _ hok
        have hx : upX (upY s) < PP := rootV_ltP _
        have hev : upX (upY s) % 2 = 0 := rootV_even _ hok
        have hn := n32_lt s
        rw [show MM = HH + HH by decide] at hn
        have hy : upY s = n32 s % HH := rfl
        generalize upX (upY s) = x at *
        generalize upY s = y at *
        by_cases hb : HH ≤ n32 s
        · rw [if_pos hb] at h
          by_cases h0 : x = 0
          · rw [if_pos h0] at h; exact absurd h (by simp)
          · rw [if_neg h0] at h
            have h := Option.some.inj h
            subst h
            have ho2 : On (io dN) (io (fN x)) (io y) := by rw [io_N]; exact on_neg ho
            exact ⟨_, aff_R _ _ ho2, pkF_at hs (fN_lt _) hc (pk_hi _ _ _ hb hn hy (by rw [fN_at x hx h0]; exact odd_even x hx hev)), fN_lt _, hc, rfl, fM_lt _ _⟩
        · rw [if_neg hb] at h
          have h := Option.some.inj h
          subst h
          exact ⟨_, aff_R _ _ ho, pkF_at hs hx hc (pk_lo _ _ _ hb hy hev), hx, hc, rfl, fM_lt _ _⟩
      · rw [if_neg hok] at h; exact absurd h (by simp)
    · rw [if_neg hc] at h; exact absurd h (by simp)
  · rw [if_neg hs] at h; exact absurd h (by simp)
theorem unP_ok {s : ByteArray} {p : Pn} (h : unP s = some p) : p.ok := by
  obtain ⟨P, _, _, hx, hy, hz, ht⟩ := unP_R h
  exact ⟨f_lt hx, f_lt hy, by rw [hz]; decide, f_lt ht⟩
theorem unP_on {s : ByteArray} {p : Pn} (h : unP s = some p) : onP p := by
  obtain ⟨P, hR, _⟩ := unP_R h
  exact on_R hR
theorem pack_back {s : ByteArray} {p : Pn} (h : unP s = some p) : packS p = s := by
  obtain ⟨P, hR, hp, _⟩ := unP_R h
  rw [pack_R hR, hp]
/-! ### What the laws say of points -/
end Go.Proofs.YtfpphinnngblgaaDoor.Fld
