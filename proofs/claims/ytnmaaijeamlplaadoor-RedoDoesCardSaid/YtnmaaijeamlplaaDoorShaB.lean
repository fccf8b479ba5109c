import Derived.Test.YtnmaaijeamlplaaDoorShaM
import Derived.StillTailTactics
import Derived.Lib.Strings
import Derived.Deep.RegionHeld3
set_option linter.unusedVariables false
set_option linter.unusedSimpArgs false
namespace Go.Proofs.YtnmaaijeamlplaaDoor.Sha
open Go.RowKit
def rowOf (f : Nat → UInt32) (n : Nat) : Array Value := ((List.range n).map fun j => Value.int .u32 (nt (f j))).toArray
theorem rowOf_size (f : Nat → UInt32) (n : Nat) : (rowOf f n).size = n := by simp [rowOf]
theorem rowOf_get (f : Nat → UInt32) (n j : Nat) (h : j < n) : (rowOf f n)[j]? = some (.int .u32 (nt (f j))) := by
 unfold rowOf
 rw [List.getElem?_toArray, List.getElem?_map, List.getElem?_range h]; rfl
theorem rowOf_one (f : Nat → UInt32) (n : Nat) : (rowOf f n).all (·.oneCell') = true := by
 rw [Array.all_eq_true_iff_forall_mem]
 intro x hx
 unfold rowOf at hx
 rw [List.mem_toArray, List.mem_map] at hx
 obtain ⟨_, _, rfl⟩ := hx
 rfl
theorem rowOf_congr {f g : Nat → UInt32} {n : Nat} (h : ∀ j, j < n → f j = g j) : rowOf f n = rowOf g n := by
 unfold rowOf
 congr 1
 exact List.map_congr_left fun j hj => by rw [h j (List.mem_range.1 hj)]
def up (f : Nat → UInt32) (i : Nat) (x : UInt32) : Nat → UInt32 := fun j => if j = i then x else f j
theorem rowOf_set (f : Nat → UInt32) (n i : Nat) (x : UInt32) : (rowOf f n).setIfInBounds i (.int .u32 (nt x)) = rowOf (up f i x) n := by
 apply Array.ext
 ·simp [rowOf_size]
 intro j h1 h2
 rw [rowOf_size] at h2
 have e2 := rowOf_get (up f i x) n j h2
 have e1 : ((rowOf f n).setIfInBounds i (.int .u32 (nt x)))[j]? = some (.int .u32 (nt (up f i x j))) := by
  rw [Array.getElem?_setIfInBounds, rowOf_size, rowOf_get f n j h2]
  unfold up
  by_cases hij : i = j
  ·subst hij; simp [h2]
  rw [if_neg hij, if_neg (fun e => hij e.symm)]
 rw [← e1] at e2
 rw [Array.getElem?_eq_getElem h1, Array.getElem?_eq_getElem (by rw [rowOf_size]; exact h2)] at e2
 exact (Option.some.inj e2).symm
def Row (w : World) (B n T : Nat) (f : Nat → UInt32) : Prop := w.heap[B]? = some (.cells (rowOf f n) T (0, 0))
theorem Row.at {w : World} {B n T : Nat} {f : Nat → UInt32} (h : Row w B n T f) (j : Nat) (hj : j < n) : w.cell? ⟨B, j, none⟩ = some (.int .u32 (nt (f j))) ∧ w.frozen? ⟨B, j, none⟩ = false :=
 ⟨by rw [cell_of_row w B j _ T (0, 0) h, rowOf_get f n j hj], frozen_of_row w B j _ T h⟩
theorem Row.set {w : World} {B n T : Nat} {f : Nat → UInt32} (h : Row w B n T f) (i : Nat) (x : UInt32) : Row (w.setCell ⟨B, i, none⟩ (.int .u32 (nt x))) B n T (up f i x) := by
 unfold Row
 rw [heap_setCell_same w B i _ T _ h, rowOf_set]
theorem Row.other {w : World} {B n T : Nat} {f : Nat → UInt32} (h : Row w B n T f) (p : Addr) (v : Value) (hp : p.block ≠ B) : Row (w.setCell p v) B n T f := by
 unfold Row
 rw [heap_setCell_other w p B v (fun e => hp e.symm)]; exact h
theorem Row.below {w w' : World} {b B n T : Nat} {f : Nat → UInt32} (h : Row w B n T f) (hb : Below b w w') (hB : B < b) : Row w' B n T f := by
 unfold Row
 rw [hb.block B hB]; exact h
theorem Row.drew {w : World} {B n T : Nat} {f : Nat → UInt32} (h : Row w B n T f) : Row w.drew B n T f := h
theorem Row.lt {w : World} {B n T : Nat} {f : Nat → UInt32} (h : Row w B n T f) : B < w.heap.size := (Array.getElem?_eq_some_iff.1 h).1
def word4 (a b c d : UInt8) : UInt32 := UInt32.ofNat (a.toNat * 16777216 + b.toNat * 65536 + c.toNat * 256 + d.toNat)
theorem word4_or (a b c d : UInt8) : bits .or .u32 (bits .or .u32 (bits .or .u32 ((a.toNat : Int) * 16777216 % 4294967296) ((b.toNat : Int) * 65536 % 4294967296)) ((c.toNat : Int) * 256 % 4294967296)) (d.toNat : Int) = nt (word4 a b c d) := by
 have ha := a.toNat_lt
 have hb := b.toNat_lt
 have hc := c.toNat_lt
 have hd := d.toNat_lt
 rw [bits_join .u32 32 (by decide) (fun n h0 h1 => IntWalk.u32_in n (by omega)) 24 ((a.toNat : Int) * 16777216 % 4294967296) ((b.toNat : Int) * 65536 % 4294967296) (by omega) (by omega) (by omega) (by omega) (by omega) (by omega)]
 rw [bits_join .u32 32 (by decide) (fun n h0 h1 => IntWalk.u32_in n (by omega)) 16 _ ((c.toNat : Int) * 256 % 4294967296) (by omega) (by omega) (by omega) (by omega) (by omega) (by omega)]
 rw [bits_join .u32 32 (by decide) (fun n h0 h1 => IntWalk.u32_in n (by omega)) 8 _ (d.toNat : Int) (by omega) (by omega) (by omega) (by omega) (by omega) (by omega)]
 unfold nt word4
 rw [UInt32.toNat_ofNat']
 omega
theorem word4_wrap (a b c d : UInt8) : bits .or .u32 (bits .or .u32 (bits .or .u32 (IntKind.u32.wrap (IntKind.u32.wrap (a.toNat : Int) * 16777216)) (IntKind.u32.wrap (IntKind.u32.wrap (b.toNat : Int) * 65536))) (IntKind.u32.wrap (IntKind.u32.wrap (c.toNat : Int) * 256))) (IntKind.u32.wrap (d.toNat : Int)) = nt (word4 a b c d) := by
 have h : ∀ x : UInt8, IntKind.u32.wrap (x.toNat : Int) = (x.toNat : Int) := fun x => IntWalk.u32_in _ (by have := x.toNat_lt; omega)
 rw [h, h, h, h, IntKind.wrap_u32', IntKind.wrap_u32', IntKind.wrap_u32']
 exact word4_or a b c d
theorem Row.lit (w : World) (T n : Nat) (c : Array Value) (f : Nat → UInt32) (hc : c = rowOf f n) : Row (w.alloc (.cells c T)) w.heap.size n T f := by
 unfold Row
 rw [heap_alloc_new w _, hc]
theorem fwadd (a b : UInt32) : IntKind.u32.wrap (nt a + nt b) = nt (a + b) := by rw [IntKind.wrap_u32', fadd]
theorem fshr3 (x : UInt32) : nt x / 8 = nt (UInt32.ofNat (x.toNat / 8)) := by
 have := x.toNat_lt
 unfold nt; rw [UInt32.toNat_ofNat']; omega
theorem fshr10 (x : UInt32) : nt x / 1024 = nt (UInt32.ofNat (x.toNat / 1024)) := by
 have := x.toNat_lt
 unfold nt; rw [UInt32.toNat_ofNat']; omega
def w16 (s : ByteArray) (i : Nat) : UInt32 := word4 (s.data.toList.getD (4 * i) 0) (s.data.toList.getD (4 * i + 1) 0) (s.data.toList.getD (4 * i + 2) 0) (s.data.toList.getD (4 * i + 3) 0)
theorem w16_at (s : ByteArray) (i : Nat) (h : 4 * i + 3 < s.size) : w16 s i = word4 s[4 * i] s[4 * i + 1] s[4 * i + 2] s[4 * i + 3] := by
 have e : ∀ j, (h : j < s.size) → s.data.toList.getD j 0 = s[j] := by
  intro j hj
  rw [List.getD_eq_getElem?_getD, List.getElem?_eq_getElem (by rw [← Lib.size_eq]; exact hj)]; rfl
 unfold w16
 rw [e _ (by omega), e _ (by omega), e _ (by omega), e _ (by omega)]
theorem two_rows (w : World) (c d : Array Value) (hc : c = rowOf (fun _ => 0) 64) (hd : d = rowOf (fun _ => 0) 64) :
  Row ((w.alloc (.cells c 111)).alloc (.cells d 111)) w.heap.size 64 111 (fun _ => 0) ∧ Row ((w.alloc (.cells c 111)).alloc (.cells d 111)) (w.heap.size + 1) 64 111 (fun _ => 0) ∧ Below w.heap.size w ((w.alloc (.cells c 111)).alloc (.cells d 111)) := by
 have h1 := Row.lit w 111 64 c _ hc
 have h2 := Row.lit (w.alloc (.cells c 111)) 111 64 d _ hd
 rw [show (w.alloc (.cells c 111)).heap.size = w.heap.size + 1 by simp] at h2
 refine ⟨h1.below (b := (w.alloc (.cells c 111)).heap.size) ((Below.refl _ _).alloc (Nat.le_refl _) _) (by simp), h2, ((Below.refl _ _).alloc (Nat.le_refl _) _).alloc (by simp) _⟩
theorem below_setRow {b : Nat} {a w : World} {g : Nat} {cs : Array Value} (h : Below b a w) (hg : b ≤ g) : Below b a (w.setRow g cs) :=
 h.trans ⟨rfl, rfl, rfl, by simp, fun k hk => setRow_other w g k cs (by omega)⟩
theorem infoQ42 : (Tryd.prog.info? 111).map (·.size) = some 64 := by kernel_rfl
set_option maxHeartbeats 600000 in
set_option maxRecDepth 1000000 in
theorem widen_any (s : ByteArray) (w : World) (hs : s.size = 64) :
  Calls Tryd.prog 95 #[.string s] w fun e w' => e = .returned (.agg (rowOf (W (w16 s)) 64)) ∧ Below w.heap.size w w' := by
 have HS := Lib.hid hs
 clear hs
 go_enter Tryd.func95, Tryd.ntmps95
 go_wp2_with fail
 generalize hW : (World.alloc (World.alloc w _) _) = W0
 have R0 : Row W0 w.heap.size 64 111 (fun _ => 0) ∧ Row W0 (w.heap.size + 1) 64 111 (fun _ => 0) ∧ Below w.heap.size w W0 := by
  rw [← hW]
  exact two_rows w _ _ rfl rfl
 clear hW
 obtain ⟨hres, hrow, hbel⟩ := R0
 obtain ⟨B, hB⟩ : ∃ B, B = w.heap.size + 1 := ⟨_, rfl⟩
 rw [← hB] at hrow ⊢
 have HB := Lib.hid hB
 have hBs : w.heap.size ≤ B := by omega
 clear hB
 go_loopw [4] (fun iv wr => ∃ (k : Nat) (f : Nat → UInt32), k ≤ 16 ∧ iv = .int .i64 k ∧ Row wr B 64 111 f ∧ Hid (∀ j, j < k → f j = w16 s j) ∧ Row wr w.heap.size 64 111 (fun _ => 0) ∧ Below w.heap.size w wr) (fun iv _ => 16 - (intOf iv).toNat)
 case atStart => exact ⟨0, fun _ => 0, by omega, rfl, hrow, fun j hj => absurd hj (by omega), hres, hbel⟩
 case round =>
  obtain ⟨k, f, hk, rfl, hrow1, hf, hres1, hbel1⟩ := hrel
  clear hrow hres hbel
  have HR := Lib.hid hrow1
  have HR0 := Lib.hid hres1
  clear hrow1 hres1
  by_cases hlt : k < 16
  ·obtain ⟨hc, hfz⟩ := HR.out.at k (by omega)
   have hx0 : ((4 : Int) * (k : Int)).toNat = 4 * k := by omega
   have hx1 : ((4 : Int) * (k : Int) + 1).toNat = 4 * k + 1 := by omega
   have hx2 : ((4 : Int) * (k : Int) + 2).toNat = 4 * k + 2 := by omega
   have hx3 : ((4 : Int) * (k : Int) + 3).toNat = 4 * k + 3 := by omega
   have hy0 : (0 : Int) ≤ (4 : Int) * (k : Int) := by omega
   have hz1 : (0 : Int) ≤ (4 : Int) * (k : Int) + 1 := by omega
   have hz2 : (0 : Int) ≤ (4 : Int) * (k : Int) + 2 := by omega
   have hz3 : (0 : Int) ≤ (4 : Int) * (k : Int) + 3 := by omega
   have hy00 : (4 : Int) * (k : Int) < (s.size : Int) := by have := HS.out; omega
   have hy1 : (4 : Int) * (k : Int) + 1 < (s.size : Int) := by have := HS.out; omega
   have hy2 : (4 : Int) * (k : Int) + 2 < (s.size : Int) := by have := HS.out; omega
   have hy3 : (4 : Int) * (k : Int) + 3 < (s.size : Int) := by have := HS.out; omega
   have hw0 : IntKind.i64.wrap ((4 : Int) * (k : Int)) = 4 * k := IntWalk.i64_in _ (by omega)
   have hw1 : IntKind.i64.wrap ((4 : Int) * (k : Int) + 1) = 4 * k + 1 := IntWalk.i64_in _ (by omega)
   have hw2 : IntKind.i64.wrap ((4 : Int) * (k : Int) + 2) = 4 * k + 2 := IntWalk.i64_in _ (by omega)
   have hw3 : IntKind.i64.wrap ((4 : Int) * (k : Int) + 3) = 4 * k + 3 := IntWalk.i64_in _ (by omega)
   have hk0 : (0 : Int) ≤ (k : Int) := by omega
   have hk64 : (k : Int) < 64 := by omega
   go_wp2_with fail
   go_still_tail 31, (by kernel_rfl)
   change wpList _ _ _ _ _ wr.drew
   have hword := (word4_wrap (s[4 * k]'(by omega)) (s[4 * k + 1]'(by omega)) (s[4 * k + 2]'(by omega)) (s[4 * k + 3]'(by omega))).trans (congrArg nt (w16_at s k (by omega)).symm)
   rw [hword]
   generalize (s[4 * k]'(by omega)).toNat = b0
   generalize (s[4 * k + 1]'(by omega)).toNat = b1
   generalize (s[4 * k + 2]'(by omega)).toNat = b2
   generalize (s[4 * k + 3]'(by omega)).toNat = b3
   clear hword hw0 hw1 hw2 hw3 hx0 hx1 hx2 hx3 hy0 hz1 hz2 hz3 hy00 hy1 hy2 hy3
   go_wp2
   go_roundw
   case rel =>
    exact ⟨k + 1, _, by omega, by go_num, (HR.out.set k (w16 s k)).drew, fun j hj => by (unfold up; by_cases e : j = k; (rw [if_pos e, e]); (rw [if_neg e]; exact hf.out j (by omega))), (HR0.out.other _ _ (by have := HB.out; simp; omega)).drew, (hbel1.setCell hBs _).drew⟩
   case measure => simp [intOf]; omega
  obtain rfl : k = 16 := by omega
  rw [show ((16 : Nat) : Int) = (16 : Int) from rfl]
  have hx := fxor
  have hd := fadd
  have hd3 := fadd3
  have hd4 := fadd4
  have hr3 := fshr3
  have hr10 := fshr10
  go_wp2
  go_loopw [5] (fun iv wr => ∃ (p : Nat) (f : Nat → UInt32), p ≤ 48 ∧ iv = .int .i64 ((p : Int) + 16) ∧ Row wr B 64 111 f ∧ Hid (∀ j, j < p + 16 → f j = W (w16 s) j) ∧ Row wr w.heap.size 64 111 (fun _ => 0) ∧ Below w.heap.size w wr) (fun iv _ => 64 - (intOf iv).toNat)
  case atStart => exact ⟨0, f, by omega, rfl, HR.out, fun j hj => by rw [W_lo _ _ (by omega)]; exact hf.out j (by omega), HR0.out, hbel1⟩
  case round =>
   clear hf HR HR0 hbel1
   obtain ⟨p, f, hp, rfl, hrow1, hf, hres1, hbel1⟩ := hrel
   have HR := Lib.hid hrow1
   have HR0 := Lib.hid hres1
   clear hrow1 hres1
   by_cases hlt : p < 48
   ·obtain ⟨hc0, _⟩ := HR.out.at p (by omega)
    obtain ⟨hc1, _⟩ := HR.out.at (p + 1) (by omega)
    obtain ⟨hc9, _⟩ := HR.out.at (p + 9) (by omega)
    obtain ⟨hc14, _⟩ := HR.out.at (p + 14) (by omega)
    obtain ⟨hc16, hfz⟩ := HR.out.at (p + 16) (by omega)
    have hlt' : (p : Int) + 16 < 64 := by omega
    have hq15 : IntKind.i64.wrap ((p : Int) + 16 - 15) = (p : Int) + 1 := by rw [show (p : Int) + 16 - 15 = (p : Int) + 1 by omega]; exact IntWalk.i64_in _ (by omega)
    have hn15 : (0 : Int) ≤ (p : Int) + 1 := by omega
    have hl15 : (p : Int) + 1 < 64 := by omega
    have ht15 : ((p : Int) + 1).toNat = p + 1 := by omega
    have hq2 : IntKind.i64.wrap ((p : Int) + 16 - 2) = (p : Int) + 14 := by rw [show (p : Int) + 16 - 2 = (p : Int) + 14 by omega]; exact IntWalk.i64_in _ (by omega)
    have hn2 : (0 : Int) ≤ (p : Int) + 14 := by omega
    have hl2 : (p : Int) + 14 < 64 := by omega
    have ht2 : ((p : Int) + 14).toNat = p + 14 := by omega
    go_wp2_with fail
    go_quiet (fail)
    generalize hwq : wr.drewN _ = w2
    have hb2 : Below w.heap.size w w2 := by rw [← hwq]; exact below_drewN hbel1 _
    have hr2 : Hid (Row w2 B 64 111 f) := by rw [← hwq]; exact HR
    have hr02 : Hid (Row w2 w.heap.size 64 111 (fun _ => 0)) := by rw [← hwq]; exact HR0
    clear hwq hc0 hc1 hc9 hc14 hc16 hfz HR HR0 hbel1 hq15 hn15 hl15 ht15 hq2 hn2 hl2 ht2
    go_wp2_with (go_at_call 101; refine (rot_open _ _ _).mono ?_; rintro e' w' ⟨rfl, rfl⟩)
    obtain ⟨hc0, _⟩ := hr2.out.at p (by omega)
    obtain ⟨hc9, _⟩ := hr2.out.at (p + 9) (by omega)
    obtain ⟨hc16, hfz⟩ := hr2.out.at (p + 16) (by omega)
    have hq16 : IntKind.i64.wrap ((p : Int) + 16 - 16) = (p : Int) := by rw [show (p : Int) + 16 - 16 = (p : Int) by omega]; exact IntWalk.i64_in _ (by omega)
    have hn16 : (0 : Int) ≤ (p : Int) := by omega
    have hl16 : (p : Int) < 64 := by omega
    have hq7 : IntKind.i64.wrap ((p : Int) + 16 - 7) = (p : Int) + 9 := by rw [show (p : Int) + 16 - 7 = (p : Int) + 9 by omega]; exact IntWalk.i64_in _ (by omega)
    have hn7 : (0 : Int) ≤ (p : Int) + 9 := by omega
    have hl7 : (p : Int) + 9 < 64 := by omega
    have ht7 : ((p : Int) + 9).toNat = p + 9 := by omega
    have hq00 : IntKind.i64.wrap (p : Int) = (p : Int) := IntWalk.i64_in _ (by omega)
    have ht0 : ((p : Int) + 16).toNat = p + 16 := by omega
    have hn0 : (0 : Int) ≤ (p : Int) + 16 := by omega
    have hwa := fwadd
    go_still_tail 15, (by kernel_rfl)
    change wpList _ _ _ _ _ w2.drew
    clear hc0 hc9 hq16 hn16 hl16 hq7 hn7 hl7 ht7 hq00 ht0 hn0 hwa
    go_wp2
    go_roundw
    case rel =>
     refine ⟨p + 1, _, by omega, by go_num, (hr2.out.set (p + 16) _).drew, ?_, (hr02.out.other _ _ (by have := HB.out; simp; omega)).drew, (hb2.setCell hBs _).drew⟩
     intro j hj
     unfold up
     by_cases e : j = p + 16
     ·rw [if_pos e, e, W_hi, hf.out p (by omega), hf.out (p + 1) (by omega), hf.out (p + 9) (by omega), hf.out (p + 14) (by omega)]; rfl
     rw [if_neg e]; exact hf.out j (by omega)
    case measure => simp [intOf]; omega
   obtain rfl : p = 48 := by omega
   rw [show ((48 : Nat) : Int) + 16 = (64 : Int) from rfl]
   have hrB := HR.out
   have hr0 := HR0.out
   unfold Row at hrB hr0
   have HrB := Lib.hid hrB
   have Hr0 := Lib.hid hr0
   clear hrB hr0
   go_wp2_with (first | (with_reducible refine wpList_load_row rfl 111 _ rfl B rfl 111 _ (0, 0) _ HrB.out Tryd.underlying111 rfl (by rw [rowOf_size]; exact infoQ42) ?_) | (with_reducible refine wpList_store_row rfl 111 _ _ rfl w.heap.size _ rfl rfl 111 _ Hr0.out (by rw [rowOf_size]; exact infoQ42) (by rw [rowOf_size, rowOf_size]) (rowOf_one _ _) ?_))
   refine bodyPost_ret (v := .agg (rowOf f 64)) (results_cell_row rfl _ _ w.heap.size 111 _ (0, 0) _ rfl (setRow_heap _ _ _ _ _ _ Hr0.out) Tryd.underlying111 rfl (by rw [rowOf_size]; exact infoQ42)) rfl ⟨?_, below_setRow hbel1 (Nat.le_refl _)⟩
   rw [rowOf_congr (g := W (w16 s)) (fun j hj => hf.out j (by omega))]
end Go.Proofs.YtnmaaijeamlplaaDoor.Sha
