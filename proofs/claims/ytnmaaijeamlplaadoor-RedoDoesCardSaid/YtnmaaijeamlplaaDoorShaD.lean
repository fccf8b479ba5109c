import Derived.Test.YtnmaaijeamlplaaDoorShaC
import Derived.Test.YtnmaaijeamlplaaDoorBuf
import Derived.Deep.RegionHeld3
set_option linter.unusedVariables false
set_option linter.unusedSimpArgs false
namespace Go.Proofs.YtnmaaijeamlplaaDoor.Sha
open Go.RowKit
def by4 (x : UInt32) : List UInt8 := [UInt8.ofNat (x.toNat / 16777216), UInt8.ofNat (x.toNat / 65536), UInt8.ofNat (x.toNat / 256), UInt8.ofNat x.toNat]
def spellN (f : Nat → UInt32) : Nat → List UInt8
 | 0 => []
 | n + 1 => spellN f n ++ by4 (f n)
theorem spellN_length (f : Nat → UInt32) (n : Nat) : (spellN f n).length = 4 * n := by
 induction n with
 | zero => rfl
 | succ n ih => rw [spellN, List.length_append, ih]; rfl
theorem fb3 (x : UInt32) : nt x / 16777216 % 256 = ((UInt8.ofNat (x.toNat / 16777216)).toNat : Int) := by unfold nt; rw [UInt8.toNat_ofNat']; omega
theorem fb2 (x : UInt32) : nt x / 65536 % 256 = ((UInt8.ofNat (x.toNat / 65536)).toNat : Int) := by unfold nt; rw [UInt8.toNat_ofNat']; omega
theorem fb1 (x : UInt32) : nt x / 256 % 256 = ((UInt8.ofNat (x.toNat / 256)).toNat : Int) := by unfold nt; rw [UInt8.toNat_ofNat']; omega
theorem fb0 (x : UInt32) : nt x % 256 = ((UInt8.ofNat x.toNat).toNat : Int) := by unfold nt; rw [UInt8.toNat_ofNat']; omega
theorem cell_keep {base : Nat} {w1 w' : World} {a : Addr} {v : Value} (hbelf : ∀ w0, Below base w0 w1 → Below base w0 w') (hc : w1.cell? a = some v) (ha : a.block < base) : w'.cell? a = some v := by
 rw [(hbelf w1 (Below.refl _ _)).cell ha]; exact hc
set_option maxRecDepth 1000000 in
set_option maxHeartbeats 1600000 in
theorem spell_any (f : Nat → UInt32) (w : World) :
  Calls Tryd.prog 86 #[.agg (rowOf f 8)] w fun e w' => e = .returned (.string ⟨(spellN f 8).toArray⟩) ∧ Below w.heap.size w w' := by
 have h8 : rowOf f 8 = #[.int .u32 (nt (f 0)), .int .u32 (nt (f 1)), .int .u32 (nt (f 2)), .int .u32 (nt (f 3)), .int .u32 (nt (f 4)), .int .u32 (nt (f 5)), .int .u32 (nt (f 6)), .int .u32 (nt (f 7))] := rfl
 rw [h8]
 clear h8
 obtain ⟨i0, hi, hz0, hz1, hz2⟩ := info_parts Buf.info5
 have hm1 : i0.bytes * 32 ≤ 281474976710656 := by rw [hz2]; omega
 have hm2 : 32 ≤ maxLen := by unfold maxLen; omega
 clear hz2
 have h1 := Row.lit w 101 8 #[.int .u32 (nt (f 0)), .int .u32 (nt (f 1)), .int .u32 (nt (f 2)), .int .u32 (nt (f 3)), .int .u32 (nt (f 4)), .int .u32 (nt (f 5)), .int .u32 (nt (f 6)), .int .u32 (nt (f 7))] f rfl
 have H1 := Lib.hid h1
 clear h1
 go_enter Tryd.func86, Tryd.ntmps86
 go_wp2_with (at_make; refine wpList_make_own _ rfl _ _ 43 rfl (w.heap.size + 1) 5 i0 (.int .u8 0) 1 Tryd.underlying43 hi hz0 hz1 .i64 .i64 32 32 rfl rfl rfl hm1 hm2 (by simp) ?_; intro w1 hown hgrow)
 have hrow0 : Row w1 w.heap.size 8 101 f ∧ Below w.heap.size w w1 := by
  have hb := (Below.refl (w.heap.size + 1) _).grown hgrow (by simp) (fun _ h => by cases h)
  exact ⟨H1.out.below hb (by omega), ((Below.refl _ _).alloc (Nat.le_refl _) _).trans (hb.mono (by omega))⟩
 obtain ⟨hrow0, hbel0⟩ := hrow0
 rw [show ∀ o, (w.alloc o).heap.size = w.heap.size + 1 from fun o => by simp] at hown
 have hbuf0 : Buf.Buf w1 (w.heap.size + 1) (.slice (some ⟨w.heap.size + 1, 0, none⟩) 0 32) (spellN f 0) := hown
 clear hown hgrow hm1 hm2 hi hz0 hz1 H1
 go_loopw [3, 4] (fun bv iv wr => ∃ k : Nat, k ≤ 8 ∧ iv = .int .i64 k ∧ Buf.Buf wr (w.heap.size + 1) bv (spellN f k) ∧ Row wr w.heap.size 8 101 f ∧ Below w.heap.size w wr) (fun _ iv _ => 8 - (intOf iv).toNat)
 case atStart => exact ⟨0, by omega, rfl, hbuf0, hrow0, hbel0⟩
 case round =>
  clear hbuf0 hrow0 hbel0
  obtain ⟨k, hk, rfl, hbuf, hrow, hbel⟩ := hrel
  by_cases hlt : k < 8
  ·obtain ⟨hc, _⟩ := hrow.at k hlt
   have hk0 : (0 : Int) ≤ (k : Int) := by omega
   have hk8 : (k : Int) < 8 := by omega
   have f3 := fb3
   have f2 := fb2
   have f1 := fb1
   have f0 := fb0
   have hsz : w.heap.size < wr.heap.size := hrow.lt
   have hlen : (spellN f k).length ≤ 32 := by rw [spellN_length]; omega
   go_wp2_with fail
   go_region_held3 (fun w' => w'.cell? ⟨w.heap.size, k, none⟩ = some (.int .u32 (nt (f k)))) (first | go_keep | (refine cell_keep hbelf ?_ (by simp); go_keep)) ((refine Buf.step_append rfl _ _ rfl (w.heap.size + 1) _ _ rfl (Buf.buf_alloc (Buf.buf_drew hbuf) _) ⟨wr.heap.size, 0, none⟩ 4 4 (by4 (f k)) rfl rfl (Buf.lit_cells _ _) (by omega) (by omega) (by simp; omega) ?_; intro g cap w' hbuf' hbelf))
   all_goals
    go_wp2
    go_roundw
    case rel =>
     have hb' := hbelf _ (((Below.refl _ wr).alloc (by omega) _).drew)
     exact ⟨k + 1, by omega, by go_num, hbuf', hrow.below hb' (by omega), hbel.trans (hb'.mono (by omega))⟩
    case measure => simp [intOf]; omega
  obtain rfl : k = 8 := by omega
  have hs := Buf.buf_string hbuf
  go_wp2
  go_ret
  exact ⟨rfl, hbel⟩
end Go.Proofs.YtnmaaijeamlplaaDoor.Sha
