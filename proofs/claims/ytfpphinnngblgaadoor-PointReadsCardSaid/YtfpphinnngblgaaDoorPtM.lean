/- Layer 5: bytes of a point: plain facts. -/
import Derived.Test.YtfpphinnngblgaaDoorPtA
namespace Go.Proofs.YtfpphinnngblgaaDoor.Fld
open Go.Proofs.YtfpphinnngblgaaDoor.Num (val up val_congr val_add val_lt val_up val_digits val_word)
open Go.Proofs.YtfpphinnngblgaaDoor.Arr

def sb (s : ByteArray) (i : Nat) : Nat := if h : i < s.size then (s[i]'h).toNat else 0
theorem sb_at (s : ByteArray) (i : Nat) (h : i < s.size) : (s[i]'h).toNat = sb s i := by unfold sb; rw [dif_pos h]
theorem sb_lt (s : ByteArray) (i : Nat) : sb s i < 256 := by
  unfold sb; split
  · exact UInt8.toNat_lt _
  · decide
def pb (f : Nat → Nat) (k : Nat) : Nat → Nat := fun j => if j < k then f j else 0
theorem pb_up (f : Nat → Nat) (k : Nat) : up (pb f k) k (f k) = pb f (k + 1) := by
  funext j
  unfold up pb
  by_cases e : j = k
  · rw [if_pos e, if_pos (by omega), e]
  · rw [if_neg e]
    by_cases h : j < k
    · rw [if_pos h, if_pos (by omega)]
    · rw [if_neg h, if_neg (by omega)]
theorem pb_none (f : Nat → Nat) : rowOf .u8 (pb f 0) 32 = bs 0 := rowOf_congr fun j hj => by
  unfold pb bt; simp
/-- The number of 32 bytes. -/
def n32 (s : ByteArray) : Nat := val 256 (sb s) 32
theorem n32_lt (s : ByteArray) : n32 s < MM := by rw [MM_eq_b]; exact val_lt fun j _ => sb_lt s j
theorem n32_row (s : ByteArray) : bs (n32 s) = rowOf .u8 (pb (sb s) 32) 32 := rowOf_congr fun j hj => by
  unfold pb bt n32
  rw [if_pos hj]
  exact val_word (fun j _ => sb_lt s j) hj
/-- 2 to the power of 255. -/
def HH : Nat := 57896044618658097711785492504343953926634992332820282019728792003956564819968
theorem HH_eq : HH = 256 ^ 31 * 128 := by decide
theorem HH_lt (y : Nat) : y % HH < MM := Nat.lt_trans (Nat.mod_lt _ (by decide)) (by decide)
theorem top_bit (y : Nat) (hy : y < MM) : 127 < bt y 31 ↔ HH ≤ y := by
  unfold bt
  rw [MM_eq_b, Nat.pow_succ] at hy
  rw [HH_eq]
  have h1 := Nat.div_add_mod y (256 ^ 31)
  have h2 := Nat.mod_lt y (show 0 < 256 ^ 31 from Nat.pow_pos (by decide))
  have h3 : y / 256 ^ 31 < 256 := Nat.div_lt_of_lt_mul hy
  generalize 256 ^ 31 = P at *
  generalize y / P = q at *
  rw [Nat.mod_eq_of_lt h3]
  constructor
  · intro h
    have : P * 128 ≤ P * q := Nat.mul_le_mul_left _ h
    omega
  · intro h
    apply Classical.byContradiction
    intro h4
    have : P * (q + 1) ≤ P * 128 := Nat.mul_le_mul_left _ (by omega)
    rw [Nat.mul_add] at this; omega
theorem cut_bit (y : Nat) : bs (y % HH) = rowOf .u8 (up (bt y) 31 (bt y 31 % 128)) 32 := rowOf_congr fun j hj => by
  unfold up
  have e : HH = 256 ^ j * (256 ^ (31 - j) * 128) := by
    rw [HH_eq, ← Nat.mul_assoc, ← Nat.pow_add, Nat.add_sub_cancel' (by omega)]
  unfold bt
  rw [e, Nat.mod_mul_right_div_self]
  by_cases h : j = 31
  · rw [if_pos h, h, Nat.sub_self, Nat.pow_zero, Nat.one_mul]; omega
  · rw [if_neg h]
    obtain ⟨m, hm⟩ : ∃ m, 31 - j = m + 1 := ⟨30 - j, by omega⟩
    rw [hm, Nat.pow_succ, Nat.mul_right_comm]
    exact Nat.mod_mul_left_mod _ _ _
/-- What a text's 32 bytes tell: y, and what x would be. -/
def upY (s : ByteArray) : Nat := n32 s % HH
def upS (y : Nat) : Nat := fM (fS (fM y y) 1) (fI (fA (fM dN (fM y y)) 1))
def upX (y : Nat) : Nat := rootV (upS y % PP)
def upOk (y : Nat) : Bool := rootOk (upS y % PP)
theorem upY_lt (s : ByteArray) : upY s < MM := HH_lt _
end Go.Proofs.YtfpphinnngblgaaDoor.Fld
