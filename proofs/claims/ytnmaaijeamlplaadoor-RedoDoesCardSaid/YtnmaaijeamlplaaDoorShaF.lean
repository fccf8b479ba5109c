import Derived.Test.YtnmaaijeamlplaaDoorShaD
import Derived.Test.YtnmaaijeamlplaaDoorShaE
import Derived.Deep.RegionHeld3
import Derived.Deep.RegionWith
set_option linter.unusedVariables false
set_option linter.unusedSimpArgs false
namespace Go.Proofs.YtnmaaijeamlplaaDoor.Sha
open Go.RowKit
def h0 (j : Nat) : UInt32 := [0x6a09e667, 0xbb67ae85, 0x3c6ef372, 0xa54ff53a, 0x510e527f, 0x9b05688c, 0x1f83d9ab, 0x5be0cd19].getD j 0
def blk (l : List UInt8) (k : Nat) : ByteArray := ⟨((l.drop (64 * k)).take 64).toArray⟩
def runN (l : List UInt8) : Nat → (Nat → UInt32)
 | 0 => h0
 | k + 1 => mixf (runN l k) (blk l k)
def msg (s : ByteArray) : List UInt8 := s.data.toList ++ fill s.size
def sha (s : ByteArray) : List UInt8 := spellN (runN (msg s) ((msg s).length / 64)) 8
theorem fill_length (n : Nat) : (fill n).length = pad n + 9 := by simp [fill, lens_length]
theorem msg_length (s : ByteArray) : (msg s).length = s.size + pad s.size + 9 := by
 unfold msg; rw [List.length_append, fill_length, ← Lib.size_eq]; omega
theorem msg_mod (s : ByteArray) : (msg s).length % 64 = 0 := by
 rw [msg_length]; unfold pad; omega
theorem eq_of_list {a b : ByteArray} (h : a.data.toList = b.data.toList) : a = b := by
 apply ByteArray.ext
 exact Array.toList_inj.1 h
theorem blk_front (s : ByteArray) (k : Nat) (h : 64 * k + 64 ≤ s.size) : s.extract (64 * k) (64 * k + 64) = blk (msg s) k := by
 apply eq_of_list
 rw [Lib.extract_data]
 show _ = ((msg s).drop (64 * k)).take 64
 unfold msg
 rw [List.drop_append_of_le_length (by rw [← Lib.size_eq]; omega), List.take_append_of_le_length (by rw [List.length_drop, ← Lib.size_eq]; omega)]
 congr 1; omega
theorem blk_back (s last : ByteArray) (k j : Nat) (hl : last.data.toList = (msg s).drop (64 * k)) : last.extract (64 * j) (64 * j + 64) = blk (msg s) (k + j) := by
 apply eq_of_list
 rw [Lib.extract_data, hl]
 show _ = ((msg s).drop (64 * (k + j))).take 64
 rw [List.drop_drop]
 congr 1
 ·omega
 congr 1; omega
theorem mix_lit (f : Nat → UInt32) (s : ByteArray) (w : World) (hs : s.size = 64) (hk : KT 0 w) :
  Calls Tryd.prog 84 #[.agg #[.int .u32 (nt (f 0)), .int .u32 (nt (f 1)), .int .u32 (nt (f 2)), .int .u32 (nt (f 3)), .int .u32 (nt (f 4)), .int .u32 (nt (f 5)), .int .u32 (nt (f 6)), .int .u32 (nt (f 7))], .string s] w
   fun e w' => e = .returned (.agg (rowOf (mixf f s) 8)) ∧ Below w.heap.size w w' := mix_any f s w hs hk
set_option maxRecDepth 1000000 in
set_option maxHeartbeats 400000 in
theorem sum_any (s : ByteArray) (w : World) (hs : s.size ≤ 250000) (hk : KT 0 w) :
  Calls Tryd.prog 70 #[.string s] w fun e w' => e = .returned (.string ⟨(sha s).toArray⟩) ∧ Below w.heap.size w w' := by
 have HK := Lib.hid hk
 clear hk
 go_enter Tryd.func70, Tryd.ntmps70
 go_wp2_with fail
 generalize hW : World.alloc w _ = W0
 have R0 : Row W0 w.heap.size 8 101 h0 ∧ Below w.heap.size w W0 := by
  rw [← hW]
  exact ⟨Row.lit w 101 8 _ h0 (by kernel_rfl), (Below.refl _ _).alloc (Nat.le_refl _) _⟩
 clear hW
 obtain ⟨hrow, hbel⟩ := R0
 go_loopw [4] (fun av wr => ∃ a k : Nat, Hid (a = 64 * k) ∧ a ≤ s.size ∧ av = .int .i64 a ∧ Row wr w.heap.size 8 101 (runN (msg s) k) ∧ Below w.heap.size w wr) (fun av _ => s.size - (intOf av).toNat)
 case atStart => exact ⟨0, 0, rfl, Nat.zero_le _, rfl, hrow, hbel⟩
 case round =>
  clear hrow hbel
  obtain ⟨a, k, ha, hle, rfl, hrow, hbel⟩ := hrel
  by_cases hlt : a + 64 ≤ s.size
  ·obtain ⟨c0, _⟩ := hrow.at 0 (by omega)
   obtain ⟨c1, _⟩ := hrow.at 1 (by omega)
   obtain ⟨c2, _⟩ := hrow.at 2 (by omega)
   obtain ⟨c3, _⟩ := hrow.at 3 (by omega)
   obtain ⟨c4, _⟩ := hrow.at 4 (by omega)
   obtain ⟨c5, _⟩ := hrow.at 5 (by omega)
   obtain ⟨c6, _⟩ := hrow.at 6 (by omega)
   obtain ⟨c7, _⟩ := hrow.at 7 (by omega)
   have hx0 : (0 : Int) ≤ (a : Int) := by omega
   have hx1 : (0 : Int) ≤ (a : Int) + 64 := by omega
   have hx2 : (a : Int) ≤ (a : Int) + 64 := by omega
   have hx3 : (a : Int) + 64 ≤ (s.size : Int) := by omega
   have hx4 : ((a : Int) + 64).toNat = a + 64 := by omega
   have hx5 : IntKind.i64.wrap ((a : Int) + 64) = (a : Int) + 64 := IntWalk.i64_in _ (by omega)
   go_wp2_with fail
   go_still_tail 6, (by kernel_rfl)
   change wpList _ _ _ _ _ wr.drew
   clear c0 c1 c2 c3 c4 c5 c6 c7 hx1 hx2 hx4 hx5
   go_wp2_with fail
   have hxe : (s.extract a (a + 64)).size = 64 := by rw [ByteArray.size_extract]; omega
   refine (mix_lit (runN (msg s) k) (s.extract a (a + 64)) _ hxe (HK.out.below hbel.drew HK.out.lt)).mono ?_
   rintro e' w4 ⟨rfl, hb4⟩
   have hb5 : Below wr.heap.size wr w4 := (Below.refl _ wr).drew.trans hb4
   have hrow4 := hrow.below hb5 hrow.lt
   have hbel4 := hbel.trans (hb5.mono hbel.size)
   have hstep : mixf (runN (msg s) k) (s.extract a (a + 64)) = runN (msg s) (k + 1) := by
    rw [ha.out, blk_front s k (by have := ha.out; omega)]; rfl
   rw [hstep]
   clear hstep hxe
   go_wp2_with (with_reducible refine wpList_store_row rfl 101 _ _ rfl w.heap.size _ rfl rfl 101 _ hrow4.heap (by rw [rowOf_size]; exact infoQ34) (by rw [rowOf_size, rowOf_size]) (rowOf_one _ _) ?_)
   go_roundw
   case rel => exact ⟨a + 64, k + 1, by have := ha.out; show a + 64 = 64 * (k + 1); omega, by omega, by go_num, hrow4.setRow rfl, below_setRow hbel4 (Nat.le_refl _)⟩
   case measure => simp [intOf]; omega
  have hlt' : ¬ (64 : Int) ≤ (s.size : Int) - (a : Int) := by omega
  have hx0 : (0 : Int) ≤ (a : Int) := by omega
  have hx3 : (a : Int) ≤ (s.size : Int) := by omega
  have hfl : (fill s.size).length ≤ 80 := by have := pad_le s.size; rw [fill_length]; omega
  go_wp2_with fail
  have hcon := fun W => run_string_add_sum (P := Tryd.prog) W (s.extract a s.size) ⟨(fill s.size).toArray⟩ (by have : (⟨(fill s.size).toArray⟩ : ByteArray).size = (fill s.size).length := rfl; rw [this, ByteArray.size_extract]; omega)
  have hfil := Lib.hid (fun W => filling_any s.size W (by omega))
  go_region_with ((go_at_call 85; refine (hfil.out _).mono ?_; rintro e' w4 ⟨rfl, hb4⟩))
  have hb5 : Below wr.heap.size wr w4 := by first | exact hb4 | exact (Below.refl _ wr).drew.trans hb4
  have hrow4 := hrow.below hb5 hrow.lt
  have hbel4 := hbel.trans (hb5.mono hbel.size)
  generalize hlast : s.extract a s.size ++ ({ data := (fill s.size).toArray } : ByteArray) = last
  have hll : last.data.toList = (msg s).drop (64 * k) := by
   rw [← hlast, ByteArray.data_append, Array.toList_append, Lib.extract_data]
   unfold msg
   rw [List.drop_append_of_le_length (by rw [← Lib.size_eq]; have := ha.out; omega), ← ha.out, List.take_of_length_le (by rw [List.length_drop, ← Lib.size_eq]; omega)]
  have hls : last.size = (msg s).length - 64 * k := by rw [Lib.size_eq, hll, List.length_drop]
  have hmod := msg_mod s
  have hml := msg_length s
  have hpad := pad_le s.size
  have hlm : last.size % 64 = 0 ∧ last.size ≤ 300000 ∧ 64 * k ≤ (msg s).length := by have := ha.out; omega
  have HLL := Lib.hid hll
  have HLS := Lib.hid hls
  have HLM := Lib.hid hlm
  have HMOD := Lib.hid hmod
  clear hlast hll hls hlm hmod hml hpad hcon hfl hlt' hx0 hx3 hrow hbel hb4 hb5
  go_wp2
  go_loopw [6] (fun bv wr => ∃ b j : Nat, Hid (b = 64 * j) ∧ b ≤ last.size ∧ bv = .int .i64 b ∧ Row wr w.heap.size 8 101 (runN (msg s) (k + j)) ∧ Below w.heap.size w wr) (fun bv _ => last.size - (intOf bv).toNat)
  case atStart => exact ⟨0, 0, rfl, Nat.zero_le _, rfl, hrow4, hbel4⟩
  case round =>
   clear hrow4 hbel4
   obtain ⟨b, j, hb, hble, rfl, hrow, hbel⟩ := hrel
   have hlm1 : last.size ≤ 300000 := HLM.out.2.1
   by_cases hlt : b < last.size
   ·have hlt64 : b + 64 ≤ last.size := by have := HLM.out.1; have := hb.out; omega
    obtain ⟨c0, _⟩ := hrow.at 0 (by omega)
    obtain ⟨c1, _⟩ := hrow.at 1 (by omega)
    obtain ⟨c2, _⟩ := hrow.at 2 (by omega)
    obtain ⟨c3, _⟩ := hrow.at 3 (by omega)
    obtain ⟨c4, _⟩ := hrow.at 4 (by omega)
    obtain ⟨c5, _⟩ := hrow.at 5 (by omega)
    obtain ⟨c6, _⟩ := hrow.at 6 (by omega)
    obtain ⟨c7, _⟩ := hrow.at 7 (by omega)
    have hx0 : (0 : Int) ≤ (b : Int) := by omega
    have hx1 : (0 : Int) ≤ (b : Int) + 64 := by omega
    have hx2 : (b : Int) ≤ (b : Int) + 64 := by omega
    have hx3 : (b : Int) + 64 ≤ (last.size : Int) := by omega
    have hx4 : ((b : Int) + 64).toNat = b + 64 := by omega
    have hx5 : IntKind.i64.wrap ((b : Int) + 64) = (b : Int) + 64 := IntWalk.i64_in _ (by omega)
    go_wp2_with fail
    go_still_tail 6, (by kernel_rfl)
    change wpList _ _ _ _ _ wr.drew
    clear c0 c1 c2 c3 c4 c5 c6 c7 hx1 hx2 hx4 hx5
    go_wp2_with fail
    have hxe : (last.extract b (b + 64)).size = 64 := by rw [ByteArray.size_extract]; omega
    refine (mix_lit (runN (msg s) (k + j)) (last.extract b (b + 64)) _ hxe (HK.out.below hbel.drew HK.out.lt)).mono ?_
    rintro e' w5 ⟨rfl, hb4⟩
    have hb5 : Below wr.heap.size wr w5 := (Below.refl _ wr).drew.trans hb4
    have hrow4 := hrow.below hb5 hrow.lt
    have hbel4 := hbel.trans (hb5.mono hbel.size)
    have hstep : mixf (runN (msg s) (k + j)) (last.extract b (b + 64)) = runN (msg s) (k + (j + 1)) := by
     rw [hb.out, blk_back s last k j HLL.out]; rfl
    rw [hstep]
    clear hstep hxe
    go_wp2_with (with_reducible refine wpList_store_row rfl 101 _ _ rfl w.heap.size _ rfl rfl 101 _ hrow4.heap (by rw [rowOf_size]; exact infoQ34) (by rw [rowOf_size, rowOf_size]) (rowOf_one _ _) ?_)
    go_roundw
    case rel => exact ⟨b + 64, j + 1, by have := hb.out; show b + 64 = 64 * (j + 1); omega, by omega, by go_num, hrow4.setRow rfl, below_setRow hbel4 (Nat.le_refl _)⟩
    case measure => simp [intOf]; omega
   have hkj : k + j = (msg s).length / 64 := by have := HLM.out; have := HLS.out; have := hb.out; have := HMOD.out; omega
   rw [hkj] at hrow
   have HKJ := Lib.hid hkj
   clear hkj
   go_wp2_with (with_reducible refine wpList_load_row rfl 101 _ rfl w.heap.size rfl 101 _ (0, 0) _ hrow.heap Tryd.underlying101 rfl (by rw [rowOf_size]; exact infoQ34) ?_)
   refine (spell_any _ _).mono ?_
   rintro e' w5 ⟨rfl, hb5⟩
   go_wp2
   go_ret
   exact ⟨rfl, hbel.trans (hb5.mono hbel.size)⟩
end Go.Proofs.YtnmaaijeamlplaaDoor.Sha
