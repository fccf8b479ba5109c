/- Bytes by two signs each, and back: plain facts, no program. -/
import Derived.Lib.Strings
namespace Go.Proofs.YtbgfndabfmjmkaaDoor.Hex

/-- The sign of a number below 16. -/
def sg (n : Nat) : UInt8 := if n < 10 then UInt8.ofNat (48 + n) else UInt8.ofNat (87 + n)
/-- Bytes by two signs each. -/
def hex : List UInt8 → List UInt8
  | [] => []
  | x :: t => sg (x.toNat / 16) :: sg (x.toNat % 16) :: hex t
theorem hex_append (a b : List UInt8) : hex (a ++ b) = hex a ++ hex b := by
  induction a with
  | nil => rfl
  | cons x t ih => simp [hex, ih]
theorem hex_length (l : List UInt8) : (hex l).length = 2 * l.length := by
  induction l with
  | nil => rfl
  | cons x t ih => simp [hex, ih]; omega
theorem take_byte (s : ByteArray) (k : Nat) (h : k < s.size) : s.data.toList.take (k + 1) = s.data.toList.take k ++ [s[k]] := by
  rw [List.take_succ_eq_append_getElem (by simpa using h)]; rfl
theorem sg_at : ∀ n : Fin 16, (#[48, 49, 50, 51, 52, 53, 54, 55, 56, 57, 97, 98, 99, 100, 101, 102] : Array UInt8)[n.val]'(by have := n.isLt; simp) = sg n.val := by decide +kernel
theorem sg_size (n : Int) (h1 : n < 16) (h0 : 0 ≤ n) : n.toNat < (⟨#[48, 49, 50, 51, 52, 53, 54, 55, 56, 57, 97, 98, 99, 100, 101, 102]⟩ : ByteArray).size := by
  show n.toNat < 16; omega
theorem sg_index (n : Int) (h0 : 0 ≤ n) (h1 : n < 16) : (⟨#[48, 49, 50, 51, 52, 53, 54, 55, 56, 57, 97, 98, 99, 100, 101, 102]⟩ : ByteArray)[n.toNat]'(sg_size n h1 h0) = sg n.toNat :=
  sg_at ⟨n.toNat, by omega⟩
end Go.Proofs.YtbgfndabfmjmkaaDoor.Hex
