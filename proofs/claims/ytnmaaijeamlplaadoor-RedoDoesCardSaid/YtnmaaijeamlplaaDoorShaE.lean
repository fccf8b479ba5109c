import Derived.Test.YtnmaaijeamlplaaDoorShaC
import Derived.Test.YtnmaaijeamlplaaDoorBuf
set_option linter.unusedVariables false
set_option linter.unusedSimpArgs false
namespace Go.Proofs.YtnmaaijeamlplaaDoor.Sha
open Go.RowKit
def pad (n : Nat) : Nat := (119 - n % 64) % 64
theorem pad_le (n : Nat) : pad n ≤ 63 := by unfold pad; omega
theorem pad_go {n z : Nat} (h : z < pad n) : (n + (z + 1)) % 64 ≠ 56 := by unfold pad at h; omega
theorem pad_end (n : Nat) : (n + (pad n + 1)) % 64 = 56 := by unfold pad; omega
def lenb (n i : Nat) : UInt8 := UInt8.ofNat (n * 8 / 2 ^ (56 - 8 * i))
theorem lenb_int (n i : Nat) : (n : Int) * 8 / 2 ^ (56 - 8 * i) % 256 = ((lenb n i).toNat : Int) := by
 unfold lenb
 rw [UInt8.toNat_ofNat', Int.natCast_emod, Int.natCast_ediv, Int.natCast_mul, Int.natCast_pow]; rfl
def lens (n : Nat) : Nat → List UInt8
 | 0 => []
 | k + 1 => lens n k ++ [lenb n k]
theorem lens_length (n k : Nat) : (lens n k).length = k := by
 induction k with
 | zero => rfl
 | succ k ih => simp [lens, ih]
def fill (n : Nat) : List UInt8 := 128 :: (List.replicate (pad n) 0 ++ lens n 8)
def sliceLen : Value → Nat
 | .slice _ n _ => n
 | _ => 0
set_option maxRecDepth 1000000 in
set_option maxHeartbeats 1600000 in
theorem filling_any (n : Nat) (w : World) (hn : n ≤ 300000) :
  Calls Tryd.prog 85 #[.int .i64 n] w fun e w' => e = .returned (.string ⟨(fill n).toArray⟩) ∧ Below w.heap.size w w' := by
 have hb0 := Buf.buf_lit (base := w.heap.size) w [128] (Nat.le_refl _) (by unfold maxLen; simp)
 go_enter Tryd.func85, Tryd.ntmps85
 go_wp2
 go_loopw [3] (fun bv wr => ∃ z g cap : Nat, z ≤ pad n ∧ bv = .slice (some ⟨g, 0, none⟩) (z + 1) cap ∧ Buf.Buf wr w.heap.size bv (128 :: List.replicate z 0) ∧ Below w.heap.size w wr) (fun bv _ => 70 - sliceLen bv)
 case atStart => exact ⟨0, w.heap.size, 1, Nat.zero_le _, rfl, hb0, (Below.refl _ _).alloc (Nat.le_refl _) _⟩
 case round =>
  clear hb0
  obtain ⟨z, g, cap, hz, rfl, hbuf, hbel⟩ := hrel
  have hp := pad_le n
  have hsz := hbel.size
  by_cases hlt : z < pad n
  ·have ht := pad_go hlt
   have ht' : (((n : Int) + ((z : Int) + 1)) % 64 != 56) = true := by rw [bne_iff_ne]; omega
   have hl : (128 :: List.replicate z (0 : UInt8)).length = z + 1 := by simp
   have HL := Lib.hid hl
   clear hl ht
   go_wp2_with (at_builtin; refine Buf.wpList_append_at rfl _ _ rfl w.heap.size _ _ rfl (Buf.buf_alloc hbuf _) ⟨wr.heap.size, 0, none⟩ 1 1 [0] rfl rfl (Buf.one_cells wr _ _ rfl) (by omega) (by have := HL.out; omega) (by simp; omega) ?_; intro g' cap' w' hbuf' hbelf)
   go_roundw
   case rel =>
    rw [HL.out] at hbuf'
    exact ⟨z + 1, g', cap', by omega, rfl, by rw [List.replicate_succ']; exact hbuf', hbelf _ (hbel.alloc hsz _)⟩
   case measure => simp [sliceLen]; omega
  obtain rfl : z = pad n := by omega
  have ht := pad_end n
  have ht' : (((n : Int) + ((pad n : Int) + 1)) % 64 != 56) = false := by rw [bne_eq_false_iff_eq]; omega
  clear ht hz hlt
  go_wp2
  go_loopw [3, 5] (fun bv iv wr => ∃ k : Nat, k ≤ 8 ∧ iv = .int .i64 k ∧ Buf.Buf wr w.heap.size bv (128 :: (List.replicate (pad n) 0 ++ lens n k)) ∧ Below w.heap.size w wr) (fun _ iv _ => 8 - (intOf iv).toNat)
  case atStart => exact ⟨0, by omega, rfl, by rw [lens, List.append_nil]; exact hbuf, hbel⟩
  case round =>
   clear hbuf hbel hsz
   obtain ⟨k, hk, rfl, hbuf, hbel⟩ := hrel
   have hsz := hbel.size
   by_cases hlt : k < 8
   ·have hl : (128 :: (List.replicate (pad n) (0 : UInt8) ++ lens n k)).length ≤ 100 := by simp [lens_length]; omega
    have HL := Lib.hid hl
    clear hl
    have hby := lenb_int n k
    go_wp2_with (at_builtin; refine Buf.wpList_append rfl _ _ rfl w.heap.size _ _ rfl (Buf.buf_alloc hbuf _) ⟨wr.heap.size, 0, none⟩ 1 1 [lenb n k] rfl rfl (Buf.one_cells wr _ _ rfl) (by have := HL.out; omega) (by simp; omega) ?_; intro v' w' hbuf' hbelf)
    go_roundw
    case rel => exact ⟨k + 1, by omega, by go_num, by rw [lens, ← List.append_assoc]; exact hbuf', hbelf _ (hbel.alloc hsz _)⟩
    case measure => simp [intOf]; omega
   obtain rfl : k = 8 := by omega
   have hs := Buf.buf_string hbuf
   go_wp2
   go_ret
   exact ⟨rfl, hbel⟩
end Go.Proofs.YtnmaaijeamlplaaDoor.Sha
