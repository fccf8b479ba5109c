/- Contracts of layer 1's Hex and Unhex, and of the reference's. -/
import Derived.Test.YtbgfndabfmjmkaaDoorBuf
import Derived.Test.YtbgfndabfmjmkaaDoorHexMath
import Derived.IntWalk
import Derived.Deep.RegionHeld3
namespace Go.Proofs.YtbgfndabfmjmkaaDoor.Hex
open Go.RowKit

set_option maxHeartbeats 400000 in
theorem hex_any (s : ByteArray) (w : World) (hs : s.size ≤ 20000) :
    Calls Tryd.prog 14 #[.string s] w fun e w' => e = .returned (.string ⟨(hex s.data.toList).toArray⟩) ∧ Below w.heap.size w w' := by
  obtain ⟨i0, hi, hz0, hz1, hz2⟩ := info_parts Buf.info5
  have hb1 : i0.bytes * (2 * s.size) ≤ 281474976710656 := by rw [hz2]; omega
  have hb2 : 2 * s.size ≤ maxLen := by unfold maxLen; omega
  have e2 : (2 : Int) * (s.size : Int) = ((2 * s.size : Nat) : Int) := by omega
  have E2 := Lib.hid e2
  clear e2
  go_enter Tryd.func14, Tryd.ntmps14
  go_wp2_with (at_make; refine wpList_make_own _ rfl _ _ 26 rfl w.heap.size 5 i0 (.int .u8 0) 1 Tryd.underlying26 hi hz0 hz1 .i64 .i64 _ (2 * s.size) rfl rfl E2.out hb1 hb2 (Nat.le_refl _) ?_; intro w1 hown hgrow)
  have hbel0 : Below w.heap.size w w1 := (Below.refl _ _).grown hgrow (Nat.le_refl _) (fun _ h => by cases h)
  have hbuf0 : Buf.Buf w1 w.heap.size (.slice (some ⟨w.heap.size, 0, none⟩) 0 (2 * s.size)) (hex (s.data.toList.take 0)) := hown
  clear hown hgrow hb1 hb2
  go_loopw [3, 4] (fun bv iv wr => ∃ k : Nat, k ≤ s.size ∧ iv = .int .i64 (k : Int) ∧ Buf.Buf wr w.heap.size bv (hex (s.data.toList.take k)) ∧ Below w.heap.size w wr) (fun _ iv _ => s.size - (intOf iv).toNat)
  case atStart => exact ⟨0, Nat.zero_le _, rfl, hbuf0, hbel0⟩
  case round =>
    obtain ⟨k, hk, rfl, hbuf, hbel⟩ := hrel
    clear hbuf0 hbel0
    by_cases hlt : k < s.size
    · have hx1 : (0 : Int) ≤ (s[k].toNat : Int) / 16 := by omega
      have hx2 : (s[k].toNat : Int) / 16 < 16 := by have := s[k].toNat_lt; omega
      have hx3 : (0 : Int) ≤ (s[k].toNat : Int) % 16 := by omega
      have hx4 : (s[k].toNat : Int) % 16 < 16 := by omega
      have ha := u8_and15 (s[k].toNat : Int) (by omega) (by omega)
      have hg1 := sg_index _ hx1 hx2
      have hg2 := sg_index _ hx3 hx4
      have hl := hex_length (s.data.toList.take k)
      have hlk : (s.data.toList.take k).length ≤ 20000 := by rw [List.length_take]; omega
      have HL := Lib.hid hl
      have hsz := hbel.size
      clear hl
      go_wp2_with fail
      go_region_held3 (fun w' => True) (first | trivial) ((refine Buf.step_append rfl _ _ rfl w.heap.size _ _ rfl (Buf.buf_alloc (Buf.buf_drew hbuf) _) ⟨wr.heap.size, 0, none⟩ 2 2 [sg (s[k].toNat / 16), sg (s[k].toNat % 16)] rfl rfl (Buf.lit_cells _ _) (by omega) (by have := HL.out; omega) (by simp; omega) ?_; intro g cap w' hbuf' hbelf))
      all_goals
        go_wp2
        go_roundw
        case rel => exact ⟨k + 1, by omega, by go_num, by rw [take_byte s k hlt, hex_append]; exact hbuf', hbelf _ ((hbel.alloc hsz _).drew)⟩
        case measure => simp [intOf]; omega
    · obtain rfl : k = s.size := by omega
      rw [List.take_of_length_le (by simp)] at hbuf
      have hs := Buf.buf_string hbuf
      go_wp2
      go_ret
      exact ⟨rfl, hbel⟩
end Go.Proofs.YtbgfndabfmjmkaaDoor.Hex
