import Derived.Test.YtnmaaijeamlplaaDoorShaF
import Derived.Test.YtnmaaijeamlplaaDoorReK
set_option linter.unusedVariables false
set_option linter.unusedSimpArgs false
namespace Go.Proofs.YtnmaaijeamlplaaDoor.Sha
open Go.RowKit
theorem lens_next (n j : Nat) (hj : j < 8) : lens n (8 - j) = lens n (7 - j) ++ [lenb n (7 - j)] := by
 rw [show 8 - j = (7 - j) + 1 by omega, lens]
theorem lenb_ref (n j : Nat) (hj : j < 8) : (n : Int) * 8 / 2 ^ (8 * j) % 256 = ((lenb n (7 - j)).toNat : Int) := by
 have := lenb_int n (7 - j)
 rw [show 56 - 8 * (7 - j) = 8 * j by omega] at this
 exact this
set_option maxRecDepth 1000000 in
set_option maxHeartbeats 800000 in
theorem padded_any (s : ByteArray) (w : World) (hs : s.size ≤ 250000) :
  Calls Tryd.prog 87 #[.string s] w fun e w' => ∃ b : ByteArray, e = .returned (.string b) ∧ b.data.toList = msg s ∧ Below w.heap.size w w' := by
 have hw0 : IntKind.u64.wrap (s.size : Int) = (s.size : Int) := IntWalk.u64_in _ (by omega)
 have hw1 : IntKind.u64.wrap ((s.size : Int) * 8) = (s.size : Int) * 8 := IntWalk.u64_in _ (by omega)
 go_enter Tryd.func87, Tryd.ntmps87
 go_wp2_with fail
 go_loopw [0] (fun sv wr => ∃ (z : Nat) (b : ByteArray), z ≤ pad s.size ∧ sv = .string b ∧ b.size = s.size + (z + 1) ∧ Hid (b.data.toList = s.data.toList ++ (128 :: List.replicate z 0)) ∧ Below w.heap.size w wr) (fun sv _ => s.size + 70 - (match sv with | .string b => b.size | _ => 0))
 case atStart => exact ⟨0, _, Nat.zero_le _, rfl, by rw [ByteArray.size_append]; rfl, by show (s ++ _ : ByteArray).data.toList = _; rw [ByteArray.data_append, Array.toList_append]; rfl, Below.refl _ _⟩
 case round =>
  obtain ⟨z, b, hz, rfl, hbs, hbl, hbel⟩ := hrel
  have hp := pad_le s.size
  by_cases hlt : z < pad s.size
  ·have ht := pad_go hlt
   have ht' : (((b.size : Nat) : Int) % 64 != 56) = true := by rw [bne_iff_ne]; omega
   have HBS := Lib.hid hbs
   have hbb : b.size ≤ 260000 := by omega
   clear ht hbs
   go_wp2
   go_roundw
   case rel => exact ⟨z + 1, _, by omega, rfl, by rw [ByteArray.size_append, HBS.out]; show _ + 1 = _; omega, by show (b ++ _ : ByteArray).data.toList = _; rw [ByteArray.data_append, Array.toList_append, hbl.out, List.replicate_succ', List.append_assoc]; rfl, hbel⟩
   case measure => have := HBS.out; show s.size + 70 - (b ++ _ : ByteArray).size < s.size + 70 - b.size; rw [ByteArray.size_append]; show s.size + 70 - (b.size + 1) < _; omega
  obtain rfl : z = pad s.size := by omega
  have ht := pad_end s.size
  have ht' : (((b.size : Nat) : Int) % 64 != 56) = false := by rw [bne_eq_false_iff_eq]; omega
  have HBL := Lib.hid (show b.data.toList = s.data.toList ++ (128 :: (List.replicate (pad s.size) 0 ++ lens s.size (8 - 8))) by rw [hbl.out]; simp [lens])
  have hbb : b.size ≤ 250000 + 64 + 8 - 8 := by omega
  clear ht hbs hbl hlt hz
  go_wp2
  go_loopw [0, 4] (fun sv iv wr => ∃ (j : Nat) (b : ByteArray), j ≤ 8 ∧ sv = .string b ∧ iv = .int .i64 ((j : Int) - 1) ∧ b.size ≤ 250000 + 64 + 8 - j ∧ Hid (b.data.toList = s.data.toList ++ (128 :: (List.replicate (pad s.size) 0 ++ lens s.size (8 - j)))) ∧ Below w.heap.size w wr) (fun _ iv _ => (intOf iv + 1).toNat)
  case atStart => exact ⟨8, b, by omega, rfl, rfl, hbb, HBL, hbel⟩
  case round =>
   clear hbb HBL ht' hbel
   obtain ⟨j, b, hj, rfl, rfl, hbb, hbl, hbel⟩ := hrel
   cases j with
   | zero =>
    go_wp2
    go_ret
    exact ⟨_, rfl, by rw [hbl.out]; rfl, hbel⟩
   | succ j =>
    rw [show ((j + 1 : Nat) : Int) - 1 = (j : Int) by omega]
    have hby := lenb_ref s.size j (by omega)
    have hu0 : IntKind.u64.wrap (j : Int) = (j : Int) := IntWalk.u64_in _ (by omega)
    have hu1 : IntKind.u64.wrap (8 * (j : Int)) = 8 * (j : Int) := IntWalk.u64_in _ (by omega)
    have hsz := hbel.size
    have ho := fun W : World => Buf.one_string W ((lenb s.size (7 - j)).toNat : Int) _ rfl
    go_wp2
    go_roundw
    case rel =>
     refine ⟨j, _, by omega, rfl, rfl, ?_, ?_, hbel.alloc hsz _⟩
     ·rw [ByteArray.size_append]; show b.size + 1 ≤ _; omega
     show (b ++ _ : ByteArray).data.toList = _
     rw [ByteArray.data_append, Array.toList_append, hbl.out, show 8 - (j + 1) = 7 - j by omega, lens_next _ _ (by omega)]
     simp
    case measure => (simp [intOf]; try omega)
end Go.Proofs.YtnmaaijeamlplaaDoor.Sha
namespace Go.Proofs.YtnmaaijeamlplaaDoor.Sha
open Go.RowKit
def tOf (k : Int) : Nat := 32 - k.toNat
theorem turn_open (x : UInt32) (k : Int) (w : World) (h : 1 ≤ k ∧ k ≤ 31) :
  Calls Tryd.prog 97 #[.int .u32 (nt x), .int .u64 k] w fun e w' => e = .returned (.int .u32 (nt (rl x (tOf k)))) ∧ w' = w := by
 have := turn_ref x k.toNat w (by omega) (by omega)
 rw [Int.toNat_of_nonneg (by omega)] at this
 exact this.mono fun _ _ ⟨a, b⟩ => ⟨a, b.symm⟩
theorem tq (x : UInt32) (k : Int) (w : World) (h : 1 ≤ k ∧ k ≤ 31) :
  Calls Tryd.prog 97 #[.int .u32 (nt x), .int .u64 k] w fun e w' => e = .returned (.int .u32 (nt (rl x (tOf k)))) ∧ w = w' :=
 (turn_open x k w h).mono fun _ _ ⟨a, b⟩ => ⟨a, b.symm⟩
theorem t7 : tOf 7 = sOf (-7) := by decide +kernel
theorem t18 : tOf 18 = sOf (-18) := by decide +kernel
theorem t17 : tOf 17 = sOf (-17) := by decide +kernel
theorem t19 : tOf 19 = sOf (-19) := by decide +kernel
theorem t6 : tOf 6 = sOf (-6) := by decide +kernel
theorem t11 : tOf 11 = sOf (-11) := by decide +kernel
theorem t25 : tOf 25 = sOf (-25) := by decide +kernel
theorem t2 : tOf 2 = sOf (-2) := by decide +kernel
theorem t13 : tOf 13 = sOf (-13) := by decide +kernel
theorem t22 : tOf 22 = sOf (-22) := by decide +kernel
structure Inv0 (w wr : World) (f g : Nat → UInt32) (B : Nat) : Prop where
 h : Row wr w.heap.size 8 101 f
 res : Row wr (w.heap.size + 1) 8 101 (fun _ => 0)
 ws : Row wr B 64 111 g
 below : Below w.heap.size w wr
 lt : w.heap.size + 2 ≤ B
theorem Inv0.set {w wr : World} {f g : Nat → UInt32} {B : Nat} (h : Inv0 w wr f g B) (k : Nat) (x : UInt32) : Inv0 w ((wr.setCell ⟨B, k, none⟩ (.int .u32 (nt x))).drew) f (up g k x) B := by
 have hl := h.lt
 exact ⟨(h.h.other _ _ (by simp; omega)).drew, (h.res.other _ _ (by simp; omega)).drew, (h.ws.set k x).drew, (h.below.setCell (by simp; omega) _).drew, hl⟩
theorem Inv0.drewN {w wr : World} {f g : Nat → UInt32} {B : Nat} (h : Inv0 w wr f g B) (n : Nat) : Inv0 w (wr.drewN n) f g B := ⟨h.h, h.res, h.ws, below_drewN h.below n, h.lt⟩
theorem three_rows (w : World) (c d e : Array Value) (f : Nat → UInt32) (hc : c = rowOf f 8) (hd : d = rowOf (fun _ => 0) 8) (he : e = rowOf (fun _ => 0) 64) :
  Inv0 w (((w.alloc (.cells c 101)).alloc (.cells d 101)).alloc (.cells e 111)) f (fun _ => 0) (w.heap.size + 2) := by
 have h1 := Row.lit w 101 8 c _ hc
 have h2 := Row.lit (w.alloc (.cells c 101)) 101 8 d _ hd
 have h3 := Row.lit ((w.alloc (.cells c 101)).alloc (.cells d 101)) 111 64 e _ he
 rw [show (w.alloc (.cells c 101)).heap.size = w.heap.size + 1 by simp] at h2
 rw [show ((w.alloc (.cells c 101)).alloc (.cells d 101)).heap.size = w.heap.size + 2 by simp] at h3
 have b2 : Below (w.heap.size + 2) ((w.alloc (.cells c 101)).alloc (.cells d 101)) (((w.alloc (.cells c 101)).alloc (.cells d 101)).alloc (.cells e 111)) := (Below.refl _ _).alloc (by simp) _
 have b1 : Below (w.heap.size + 1) (w.alloc (.cells c 101)) ((w.alloc (.cells c 101)).alloc (.cells d 101)) := (Below.refl _ _).alloc (by simp) _
 exact ⟨(h1.below b1 (by omega)).below b2 (by omega), h2.below b2 (by omega), h3, (((Below.refl _ _).alloc (Nat.le_refl _) _).alloc (by simp) _).alloc (by simp; omega) _, Nat.le_refl _⟩
theorem fadd5 (a b c d e : UInt32) : (nt a + nt b + nt c + nt d + nt e) % 4294967296 = nt (a + b + c + d + e) := by
 rw [← fadd, ← fadd4, Int.emod_add_emod]
theorem Inv0.toV {w wr W3 : World} {f g m : Nat → UInt32} {B : Nat} {z : Array Value} (h : Inv0 w wr f g B) (hg : ∀ j, j < 64 → g j = m j) (hW : (wr.alloc (.cells z 101)).setRow wr.heap.size (rowOf f 8) = W3) : Inv w W3 f m B wr.heap.size 0 := by
 subst hW
 have ha : Below wr.heap.size wr (wr.alloc (.cells z 101)) := (Below.refl _ _).alloc (Nat.le_refl _) _
 have hb : Below wr.heap.size wr ((wr.alloc (.cells z 101)).setRow wr.heap.size (rowOf f 8)) := below_setRow ha (Nat.le_refl _)
 have hws : Row wr B 64 111 m := by have := h.ws; unfold Row at this ⊢; rw [this, rowOf_congr hg]
 exact ⟨h.h.below hb h.h.lt, h.res.below hb h.res.lt, hws.below hb hws.lt, setRow_heap _ _ z _ 101 (0, 0) (heap_alloc_new wr _), h.below.trans (hb.mono h.below.size), h.lt, hws.lt⟩
theorem Inv.drewN {w wr : World} {f m : Nat → UInt32} {Bw Bv k : Nat} (h : Inv w wr f m Bw Bv k) (n : Nat) : Inv w (wr.drewN n) f m Bw Bv k := ⟨h.h, h.res, h.ws, h.v, below_drewN h.below n, h.lt1, h.lt2⟩
theorem Inv.next' {w wr : World} {f m : Nat → UInt32} {Bw Bv k : Nat} {cs : Array Value} (h : Inv w wr f m Bw Bv k) (hcs : cs = rowOf (rndf (st f m k) (kt k + m k)) 8) : Inv w (wr.setRow Bv cs) f m Bw Bv (k + 1) := by
 subst hcs; exact h.next
set_option maxRecDepth 1000000 in
set_option maxHeartbeats 1600000 in
theorem step_any (f : Nat → UInt32) (s : ByteArray) (w : World) (hs : s.size = 64) (hk : KT 1 w) :
  Calls Tryd.prog 88 #[.agg (rowOf f 8), .string s] w fun e w' => e = .returned (.agg (rowOf (mixf f s) 8)) ∧ Below w.heap.size w w' := by
 have HS := Lib.hid hs
 have HK := Lib.hid hk
 clear hs hk
 have h8 : rowOf f 8 = #[.int .u32 (nt (f 0)), .int .u32 (nt (f 1)), .int .u32 (nt (f 2)), .int .u32 (nt (f 3)), .int .u32 (nt (f 4)), .int .u32 (nt (f 5)), .int .u32 (nt (f 6)), .int .u32 (nt (f 7))] := rfl
 rw [h8]
 clear h8
 go_enter Tryd.func88, Tryd.ntmps88
 go_wp2_with fail
 generalize hW : (World.alloc (World.alloc (World.alloc w _) _) _) = W0
 have hinv : Inv0 w W0 f (fun _ => 0) (w.heap.size + 2) := by
  rw [← hW]
  exact three_rows w _ _ _ f rfl rfl rfl
 clear hW
 obtain ⟨B, hB⟩ : ∃ B, B = w.heap.size + 2 := ⟨_, rfl⟩
 try rw [show w.heap.size + 1 + 1 = w.heap.size + 2 from rfl]
 rw [← hB] at hinv ⊢
 clear hB
 go_loopw [6] (fun iv wr => ∃ (k : Nat) (g : Nat → UInt32), k ≤ 16 ∧ iv = .int .i64 k ∧ Inv0 w wr f g B ∧ Hid (∀ j, j < k → g j = w16 s j)) (fun iv _ => 16 - (intOf iv).toNat)
 case atStart => exact ⟨0, fun _ => 0, by omega, rfl, hinv, fun j hj => absurd hj (by omega)⟩
 case round =>
  clear hinv
  obtain ⟨k, g, hk, rfl, hinv, hf⟩ := hrel
  by_cases hlt : k < 16
  ·obtain ⟨hc, hfz⟩ := hinv.ws.at k (by omega)
   have hx0 : ((4 : Int) * (k : Int)).toNat = 4 * k := by omega
   have hx1 : ((4 : Int) * (k : Int) + 1).toNat = 4 * k + 1 := by omega
   have hx2 : ((4 : Int) * (k : Int) + 2).toNat = 4 * k + 2 := by omega
   have hx3 : ((4 : Int) * (k : Int) + 3).toNat = 4 * k + 3 := by omega
   have hy0 : (0 : Int) ≤ (4 : Int) * (k : Int) := by omega
   have hz1 : (0 : Int) ≤ (4 : Int) * (k : Int) + 1 := by omega
   have hz2 : (0 : Int) ≤ (4 : Int) * (k : Int) + 2 := by omega
   have hz3 : (0 : Int) ≤ (4 : Int) * (k : Int) + 3 := by omega
   have hy00 : (4 : Int) * (k : Int) < (s.size : Int) := by have := HS.out; omega
   have hy1 : (4 : Int) * (k : Int) + 1 < (s.size : Int) := by have := HS.out; omega
   have hy2 : (4 : Int) * (k : Int) + 2 < (s.size : Int) := by have := HS.out; omega
   have hy3 : (4 : Int) * (k : Int) + 3 < (s.size : Int) := by have := HS.out; omega
   have hw0 : IntKind.i64.wrap ((4 : Int) * (k : Int)) = 4 * k := IntWalk.i64_in _ (by omega)
   have hw1 : IntKind.i64.wrap ((4 : Int) * (k : Int) + 1) = 4 * k + 1 := IntWalk.i64_in _ (by omega)
   have hw2 : IntKind.i64.wrap ((4 : Int) * (k : Int) + 2) = 4 * k + 2 := IntWalk.i64_in _ (by omega)
   have hw3 : IntKind.i64.wrap ((4 : Int) * (k : Int) + 3) = 4 * k + 3 := IntWalk.i64_in _ (by omega)
   have hk0 : (0 : Int) ≤ (k : Int) := by omega
   have hk64 : (k : Int) < 64 := by omega
   go_wp2_with fail
   go_still_tail 31, (by kernel_rfl)
   change wpList _ _ _ _ _ wr.drew
   have hword := (word4_wrap (s[4 * k]'(by omega)) (s[4 * k + 1]'(by omega)) (s[4 * k + 2]'(by omega)) (s[4 * k + 3]'(by omega))).trans (congrArg nt (w16_at s k (by omega)).symm)
   rw [hword]
   generalize (s[4 * k]'(by omega)).toNat = b0
   generalize (s[4 * k + 1]'(by omega)).toNat = b1
   generalize (s[4 * k + 2]'(by omega)).toNat = b2
   generalize (s[4 * k + 3]'(by omega)).toNat = b3
   clear hword hw0 hw1 hw2 hw3 hx0 hx1 hx2 hx3 hy0 hz1 hz2 hz3 hy00 hy1 hy2 hy3
   go_wp2
   go_roundw
   case rel =>
    exact ⟨k + 1, _, by omega, by go_num, hinv.set k (w16 s k), fun j hj => by (unfold up; by_cases e : j = k; (rw [if_pos e, e]); (rw [if_neg e]; exact hf.out j (by omega)))⟩
   case measure => simp [intOf]; omega
  obtain rfl : k = 16 := by omega
  rw [show ((16 : Nat) : Int) = (16 : Int) from rfl]
  have hx := fxor
  have hr3 := fshr3
  have hr10 := fshr10
  have hwa := fwadd
  go_wp2
  go_loopw [7] (fun iv wr => ∃ (p : Nat) (g : Nat → UInt32), p ≤ 48 ∧ iv = .int .i64 ((p : Int) + 16) ∧ Inv0 w wr f g B ∧ Hid (∀ j, j < p + 16 → g j = W (w16 s) j)) (fun iv _ => 64 - (intOf iv).toNat)
  case atStart => exact ⟨0, g, by omega, rfl, hinv, fun j hj => by rw [W_lo _ _ (by omega)]; exact hf.out j (by omega)⟩
  case round =>
   clear hf hinv
   obtain ⟨p, g, hp, rfl, hinv, hf⟩ := hrel
   by_cases hlt : p < 48
   ·obtain ⟨hc1, _⟩ := hinv.ws.at (p + 1) (by omega)
    obtain ⟨hc14, _⟩ := hinv.ws.at (p + 14) (by omega)
    have hlt' : (p : Int) + 16 < 64 := by omega
    have hq15 : IntKind.i64.wrap ((p : Int) + 16 - 15) = (p : Int) + 1 := by rw [show (p : Int) + 16 - 15 = (p : Int) + 1 by omega]; exact IntWalk.i64_in _ (by omega)
    have hn15 : (0 : Int) ≤ (p : Int) + 1 := by omega
    have hl15 : (p : Int) + 1 < 64 := by omega
    have ht15 : ((p : Int) + 1).toNat = p + 1 := by omega
    have hq2 : IntKind.i64.wrap ((p : Int) + 16 - 2) = (p : Int) + 14 := by rw [show (p : Int) + 16 - 2 = (p : Int) + 14 by omega]; exact IntWalk.i64_in _ (by omega)
    have hn2 : (0 : Int) ≤ (p : Int) + 14 := by omega
    have hl2 : (p : Int) + 14 < 64 := by omega
    have ht2 : ((p : Int) + 14).toNat = p + 14 := by omega
    go_wp2_with fail
    go_quiet (fail)
    generalize hwq : wr.drewN _ = w2
    have hinv2 : Inv0 w w2 f g B := by rw [← hwq]; exact hinv.drewN _
    clear hwq hc1 hc14 hinv hq15 hn15 hl15 ht15 hq2 hn2 hl2 ht2
    obtain ⟨hc0, _⟩ := hinv2.ws.at p (by omega)
    obtain ⟨hc9, _⟩ := hinv2.ws.at (p + 9) (by omega)
    obtain ⟨hc16, hfz⟩ := hinv2.ws.at (p + 16) (by omega)
    have hq16 : IntKind.i64.wrap ((p : Int) + 16 - 16) = (p : Int) := by rw [show (p : Int) + 16 - 16 = (p : Int) by omega]; exact IntWalk.i64_in _ (by omega)
    have hn16 : (0 : Int) ≤ (p : Int) := by omega
    have hl16 : (p : Int) < 64 := by omega
    have hq7 : IntKind.i64.wrap ((p : Int) + 16 - 7) = (p : Int) + 9 := by rw [show (p : Int) + 16 - 7 = (p : Int) + 9 by omega]; exact IntWalk.i64_in _ (by omega)
    have hn7 : (0 : Int) ≤ (p : Int) + 9 := by omega
    have hl7 : (p : Int) + 9 < 64 := by omega
    have ht7 : ((p : Int) + 9).toNat = p + 9 := by omega
    have hq00 : IntKind.i64.wrap (p : Int) = (p : Int) := IntWalk.i64_in _ (by omega)
    have ht0 : ((p : Int) + 16).toNat = p + 16 := by omega
    have hn0 : (0 : Int) ≤ (p : Int) + 16 := by omega
    go_wp2_with fail
    refine wp_region_still_tail 29 (by kernel_rfl) (by kernel_rfl) ?_
    simp only [List.take_succ_cons, List.take_zero, List.drop_succ_cons, List.drop_zero]
    repeat (first | still_step | still_call (turn_open _ _ _ (by decide)))
    refine wpStill_nil ?_
    change wpList _ _ _ _ _ w2.drew
    clear hc0 hc9 hq16 hn16 hl16 hq7 hn7 hl7 ht7 hq00 ht0 hn0
    go_wp2
    go_roundw
    case rel =>
     refine ⟨p + 1, _, by omega, by go_num, hinv2.set (p + 16) _, ?_⟩
     intro j hj
     unfold up
     by_cases e : j = p + 16
     ·rw [if_pos e, e, W_hi, hf.out p (by omega), hf.out (p + 1) (by omega), hf.out (p + 9) (by omega), hf.out (p + 14) (by omega), t7, t18, t17, t19]; rfl
     rw [if_neg e]; exact hf.out j (by omega)
    case measure => simp [intOf]; omega
   obtain rfl : p = 48 := by omega
   rw [show ((48 : Nat) : Int) + 16 = (64 : Int) from rfl]
   have hg64 := Lib.hid (fun j (hj : j < 64) => hf.out j (by omega))
   clear hf hlt hp
   clear hx hr3 hr10 hwa
   go_wp2_with (first
    | (with_reducible refine wpList_load_row rfl 101 _ rfl w.heap.size rfl 101 _ (0, 0) _ hinv.h.heap Tryd.underlying101 rfl (by rw [rowOf_size]; exact infoQ34) ?_)
    | (with_reducible refine wpList_store_row rfl 101 _ _ rfl wr.heap.size _ rfl rfl 101 _ (heap_alloc_new wr _) (by rw [rowOf_size]; exact infoQ34) (by simp [rowOf_size]) (rowOf_one _ _) ?_; generalize hW3 : World.setRow (World.alloc wr _) _ _ = W3; have hinv3 := hinv.toV hg64.out hW3; clear hW3))
   clear hinv hg64
   generalize wr.heap.size = Bv at hinv3 ⊢
   obtain ⟨m, hm⟩ : ∃ m, W (w16 s) = m := ⟨_, rfl⟩
   rw [hm] at hinv3
   have HM := Lib.hid hm
   clear hm
   go_loopw [11] (fun iv wr => ∃ k : Nat, k ≤ 64 ∧ iv = .int .i64 k ∧ Inv w wr f m B Bv k) (fun iv _ => 64 - (intOf iv).toNat)
   case atStart => exact ⟨0, by omega, rfl, hinv3⟩
   case round =>
    clear hinv3
    obtain ⟨k, hk, rfl, hinv⟩ := hrel
    by_cases hlt : k < 64
    ·obtain ⟨G, hG⟩ : ∃ G, st f m k = G := ⟨_, rfl⟩
     have HG := Lib.hid hG
     have hv := hinv.v
     rw [hG] at hv
     clear hG
     obtain ⟨c0, _⟩ := hv.at 0 (by omega)
     obtain ⟨c4, _⟩ := hv.at 4 (by omega)
     go_wp2_with fail
     go_quiet (fail)
     generalize hwq : wr.drewN _ = w2
     have hinv2 : Inv w w2 f m B Bv k := by rw [← hwq]; exact hinv.drewN _
     have hv2 : Row w2 Bv 8 101 G := by rw [← hwq]; exact hv
     clear hwq c0 c4 hinv hv
     obtain ⟨c5, _⟩ := hv2.at 5 (by omega)
     obtain ⟨c6, _⟩ := hv2.at 6 (by omega)
     obtain ⟨c7, _⟩ := hv2.at 7 (by omega)
     obtain ⟨cw, _⟩ := hinv2.ws.at k hlt
     have ck := (HK.out.below hinv2.below HK.out.lt) k hlt
     have hk0 : (0 : Int) ≤ (k : Int) := by omega
     have hk64 : (k : Int) < 64 := by omega
     have hx := fxor
     have ha := fand
     have hn := fnot
     have hd := fadd
     have hd3 := fadd3
     have hd4 := fadd4
     have hd13 := fadd13
     have hd5 := fadd5
     have hn2 : ∀ a : UInt32, bits .xor .u32 (if IntKind.u32.signed = true then -1 else IntKind.u32.max) (nt a) = nt (~~~a) := fnot
     go_wp2_with fail
     go_quiet ((go_at_call 97; exact quiet_left (tq _ _ _ (by decide))))
     simp only [hd]
     generalize hX : G 7 + (rl (G 4) (tOf 6) ^^^ rl (G 4) (tOf 11) ^^^ rl (G 4) (tOf 25)) + (G 4 &&& G 5 ^^^ ~~~G 4 &&& G 6) + kt k + m k = X
     have HX := Lib.hid hX
     generalize hwq : w2.drewN _ = w3
     have hinv3 : Inv w w3 f m B Bv k := by rw [← hwq]; exact hinv2.drewN _
     have hv3 : Row w3 Bv 8 101 G := by rw [← hwq]; exact hv2
     clear hX hwq c5 c6 c7 cw ck hinv2 hv2 hn hn2 hk0 hk64
     obtain ⟨c1, _⟩ := hv3.at 1 (by omega)
     obtain ⟨c2, _⟩ := hv3.at 2 (by omega)
     go_wp2_with fail
     go_quiet ((go_at_call 97; exact quiet_left (tq _ _ _ (by decide))))
     simp only [hd]
     generalize hY : (rl (G 0) (tOf 2) ^^^ rl (G 0) (tOf 13) ^^^ rl (G 0) (tOf 22)) + (G 0 &&& G 1 ^^^ G 0 &&& G 2 ^^^ G 1 &&& G 2) = Y
     have HY := Lib.hid hY
     generalize hwq : w3.drewN _ = w4
     have hinv4 : Inv w w4 f m B Bv k := by rw [← hwq]; exact hinv3.drewN _
     have hv4 : Row w4 Bv 8 101 G := by rw [← hwq]; exact hv3
     clear hY hwq c1 c2 hinv3 hv3
     obtain ⟨c0, _⟩ := hv4.at 0 (by omega)
     obtain ⟨c1, _⟩ := hv4.at 1 (by omega)
     obtain ⟨c2, _⟩ := hv4.at 2 (by omega)
     obtain ⟨c3, _⟩ := hv4.at 3 (by omega)
     obtain ⟨c4, _⟩ := hv4.at 4 (by omega)
     obtain ⟨c5, _⟩ := hv4.at 5 (by omega)
     obtain ⟨c6, _⟩ := hv4.at 6 (by omega)
     have e8 : (#[.int .u32 (nt (X + Y)), .int .u32 (nt (G 0)), .int .u32 (nt (G 1)), .int .u32 (nt (G 2)), .int .u32 (nt (G 3 + X)), .int .u32 (nt (G 4)), .int .u32 (nt (G 5)), .int .u32 (nt (G 6))] : Array Value) = rowOf (rndf (st f m k) (kt k + m k)) 8 := by
      rw [HG.out, ← HX.out, ← HY.out, t6, t11, t25, t2, t13, t22, UInt32.add_assoc _ (kt k) (m k)]; rfl
     obtain ⟨cs, hcs⟩ : ∃ cs, rowOf (rndf (st f m k) (kt k + m k)) 8 = cs := ⟨_, rfl⟩
     rw [hcs] at e8
     have HCS := Lib.hid hcs
     have hsz8 : cs.size = 8 := by rw [← hcs, rowOf_size]
     have hone : cs.all (·.oneCell') = true := by rw [← hcs]; exact rowOf_one _ _
     have hst : (storeCells ⟨Bv, 0, none⟩ cs.toList).run Tryd.prog w4 = .ok () (w4.setRow Bv cs) := by
      have := run_storeCells_from (P := Tryd.prog) Bv 101 cs.toList 0 _ w4 hinv4.v.heap (by rw [rowOf_size]; simp [hsz8]) (fun v hv => (Array.all_eq_true_iff_forall_mem.1 hone) v (by simpa using hv))
      simpa using this
     clear hcs hx ha hd3 hd4 hd13 hd5 hone
     go_wp2
     go_roundw
     case rel => exact ⟨k + 1, by omega, by go_num, hinv4.next' HCS.out.symm⟩
     case measure => simp [intOf]; omega
    obtain rfl : k = 64 := by omega
    rw [show ((64 : Nat) : Int) = (64 : Int) from rfl]
    have hinv2 : Inv2 w wr f (st f m 64) Bv 0 f := ⟨hinv.h, hinv.res, hinv.v, hinv.below, by have := hinv.lt1; have := hinv.lt2; omega, fun j => by rw [if_neg (by omega)]⟩
    clear hinv
    have hd := fadd
    have hwa := fwadd
    obtain ⟨g, hg⟩ : ∃ g, g = st f m 64 := ⟨_, rfl⟩
    rw [← hg] at hinv2
    have HG := Lib.hid hg
    clear hg
    go_wp2
    go_loopw [16] (fun iv wr => ∃ (k : Nat) (f' : Nat → UInt32), k ≤ 8 ∧ iv = .int .i64 k ∧ Inv2 w wr f g Bv k f') (fun iv _ => 8 - (intOf iv).toNat)
    case atStart => exact ⟨0, f, by omega, rfl, hinv2⟩
    case round =>
     clear hinv2
     obtain ⟨k, f', hk8, rfl, hinv⟩ := hrel
     by_cases hlt8 : k < 8
     ·obtain ⟨ch, hfz⟩ := hinv.h.at k hlt8
      obtain ⟨cv, _⟩ := hinv.v.at k hlt8
      have hk0 : (0 : Int) ≤ (k : Int) := by omega
      have hk64 : (k : Int) < 8 := by omega
      go_wp2_with fail
      go_still_tail 9, (by kernel_rfl)
      change wpList _ _ _ _ _ wr.drew
      clear cv
      go_wp2
      go_roundw
      case rel => exact ⟨k + 1, _, by omega, by go_num, hinv.next⟩
      case measure => simp [intOf]; omega
     obtain rfl : k = 8 := by omega
     rw [show ((8 : Nat) : Int) = (8 : Int) from rfl]
     go_wp2_with (first
      | (with_reducible refine wpList_load_row rfl 101 _ rfl w.heap.size rfl 101 _ (0, 0) _ hinv.h.heap Tryd.underlying101 rfl (by rw [rowOf_size]; exact infoQ34) ?_)
      | (with_reducible refine wpList_store_row rfl 101 _ _ rfl (w.heap.size + 1) _ rfl rfl 101 _ hinv.res.heap (by rw [rowOf_size]; exact infoQ34) (by rw [rowOf_size, rowOf_size]) (rowOf_one _ _) ?_))
     refine bodyPost_ret (v := .agg (rowOf f' 8)) (results_cell_row rfl _ _ (w.heap.size + 1) 101 _ (0, 0) _ rfl (setRow_heap _ _ _ _ _ _ hinv.res.heap) Tryd.underlying101 rfl (by rw [rowOf_size]; exact infoQ34)) rfl ⟨?_, below_setRow hinv.below (by omega)⟩
     rw [rowOf_congr (g := mixf f s) (fun j hj => by rw [hinv.all j, if_pos hj, HG.out, ← HM.out]; rfl)]
end Go.Proofs.YtnmaaijeamlplaaDoor.Sha
namespace Go.Proofs.YtnmaaijeamlplaaDoor.Sha
open Go.RowKit
theorem step_lit (f : Nat → UInt32) (s : ByteArray) (w : World) (hs : s.size = 64) (hk : KT 1 w) :
  Calls Tryd.prog 88 #[.agg #[.int .u32 (nt (f 0)), .int .u32 (nt (f 1)), .int .u32 (nt (f 2)), .int .u32 (nt (f 3)), .int .u32 (nt (f 4)), .int .u32 (nt (f 5)), .int .u32 (nt (f 6)), .int .u32 (nt (f 7))], .string s] w
   fun e w' => e = .returned (.agg (rowOf (mixf f s) 8)) ∧ Below w.heap.size w w' := step_any f s w hs hk
theorem four_string (W : World) (x : UInt32) :
  (convert 43 9 (.slice (some ⟨W.heap.size, 0, none⟩) 4 4)).run Tryd.prog (W.alloc (.cells #[.int .u8 (IntKind.u8.wrap (nt x / 16777216)), .int .u8 (IntKind.u8.wrap (nt x / 65536)), .int .u8 (IntKind.u8.wrap (nt x / 256)), .int .u8 (IntKind.u8.wrap (nt x))] 5)).drew = .ok (.string ⟨(by4 x).toArray⟩) (W.alloc (.cells #[.int .u8 (IntKind.u8.wrap (nt x / 16777216)), .int .u8 (IntKind.u8.wrap (nt x / 65536)), .int .u8 (IntKind.u8.wrap (nt x / 256)), .int .u8 (IntKind.u8.wrap (nt x))] 5)).drew := by
 rw [IntKind.wrap_u8, IntKind.wrap_u8, IntKind.wrap_u8, IntKind.wrap_u8, fb3, fb2, fb1, fb0]
 exact Buf.buf_string (Buf.buf_drew (Buf.buf_lit (base := 0) W (by4 x) (Nat.zero_le _) (by unfold maxLen; simp [by4])))
theorem four_plain (W : World) (x : UInt32) :
  (convert 43 9 (.slice (some ⟨W.heap.size, 0, none⟩) 4 4)).run Tryd.prog (W.alloc (.cells #[.int .u8 (IntKind.u8.wrap (nt x / 16777216)), .int .u8 (IntKind.u8.wrap (nt x / 65536)), .int .u8 (IntKind.u8.wrap (nt x / 256)), .int .u8 (IntKind.u8.wrap (nt x))] 5)) = .ok (.string ⟨(by4 x).toArray⟩) (W.alloc (.cells #[.int .u8 (IntKind.u8.wrap (nt x / 16777216)), .int .u8 (IntKind.u8.wrap (nt x / 65536)), .int .u8 (IntKind.u8.wrap (nt x / 256)), .int .u8 (IntKind.u8.wrap (nt x))] 5)) := by
 rw [IntKind.wrap_u8, IntKind.wrap_u8, IntKind.wrap_u8, IntKind.wrap_u8, fb3, fb2, fb1, fb0]
 exact Buf.buf_string (Buf.buf_lit (base := 0) W (by4 x) (Nat.zero_le _) (by unfold maxLen; simp [by4]))
set_option maxRecDepth 1000000 in
set_option maxHeartbeats 800000 in
theorem refsum_any (s : ByteArray) (w : World) (hs : s.size ≤ 250000) (hk : KT 1 w) :
  Calls Tryd.prog 74 #[.string s] w fun e w' => e = .returned (.string ⟨(sha s).toArray⟩) ∧ Below w.heap.size w w' := by
 have HK := Lib.hid hk
 clear hk
 go_enter Tryd.func74, Tryd.ntmps74
 go_wp2_with fail
 generalize hW : World.alloc w _ = W0
 have R0 : Row W0 w.heap.size 8 101 h0 ∧ Below w.heap.size w W0 := by
  rw [← hW]
  exact ⟨Row.lit w 101 8 _ h0 (by kernel_rfl), (Below.refl _ _).alloc (Nat.le_refl _) _⟩
 clear hW
 obtain ⟨hrow, hbel⟩ := R0
 refine (padded_any s _ hs).mono ?_
 rintro e w1 ⟨b, rfl, hbl, hb1⟩
 have hrow1 := hrow.below hb1 hrow.lt
 have hbel1 := hbel.trans (hb1.mono hbel.size)
 have hmod := msg_mod s
 have hml := msg_length s
 have hpad := pad_le s.size
 have hbs : b.size = (msg s).length := by rw [Lib.size_eq, hbl]
 have hble : b.size ≤ 300000 := by omega
 have HBL := Lib.hid hbl
 have HBS := Lib.hid hbs
 have HMOD := Lib.hid hmod
 clear hbl hbs hmod hml hpad hrow hbel hb1
 go_wp2
 go_loopw [4] (fun av wr => ∃ a j : Nat, Hid (a = 64 * j) ∧ a ≤ b.size ∧ av = .int .i64 a ∧ Row wr w.heap.size 8 101 (runN (msg s) j) ∧ Below w.heap.size w wr) (fun av _ => b.size - (intOf av).toNat)
 case atStart => exact ⟨0, 0, rfl, Nat.zero_le _, rfl, hrow1, hbel1⟩
 case round =>
  clear hrow1 hbel1
  obtain ⟨a, j, ha, hle, rfl, hrow, hbel⟩ := hrel
  by_cases hlt : a < b.size
  ·have hlt64 : a + 64 ≤ b.size := by have := HMOD.out; have := HBS.out; have := ha.out; omega
   obtain ⟨c0, _⟩ := hrow.at 0 (by omega)
   obtain ⟨c1, _⟩ := hrow.at 1 (by omega)
   obtain ⟨c2, _⟩ := hrow.at 2 (by omega)
   obtain ⟨c3, _⟩ := hrow.at 3 (by omega)
   obtain ⟨c4, _⟩ := hrow.at 4 (by omega)
   obtain ⟨c5, _⟩ := hrow.at 5 (by omega)
   obtain ⟨c6, _⟩ := hrow.at 6 (by omega)
   obtain ⟨c7, _⟩ := hrow.at 7 (by omega)
   have hx0 : (0 : Int) ≤ (a : Int) := by omega
   have hx1 : (0 : Int) ≤ (a : Int) + 64 := by omega
   have hx2 : (a : Int) ≤ (a : Int) + 64 := by omega
   have hx3 : (a : Int) + 64 ≤ (b.size : Int) := by omega
   have hx4 : ((a : Int) + 64).toNat = a + 64 := by omega
   have hx5 : IntKind.i64.wrap ((a : Int) + 64) = (a : Int) + 64 := IntWalk.i64_in _ (by omega)
   go_wp2_with fail
   go_still_tail 6, (by kernel_rfl)
   change wpList _ _ _ _ _ wr.drew
   clear c0 c1 c2 c3 c4 c5 c6 c7 hx1 hx2 hx4 hx5
   go_wp2_with fail
   have hxe : (b.extract a (a + 64)).size = 64 := by rw [ByteArray.size_extract]; omega
   refine (step_lit (runN (msg s) j) (b.extract a (a + 64)) _ hxe (HK.out.below hbel.drew HK.out.lt)).mono ?_
   rintro e' w5 ⟨rfl, hb4⟩
   have hb5 : Below wr.heap.size wr w5 := (Below.refl _ wr).drew.trans hb4
   have hrow4 := hrow.below hb5 hrow.lt
   have hbel4 := hbel.trans (hb5.mono hbel.size)
   have hstep : mixf (runN (msg s) j) (b.extract a (a + 64)) = runN (msg s) (j + 1) := by
    rw [ha.out, blk_back s b 0 j (by rw [HBL.out]; rfl), Nat.zero_add]; rfl
   rw [hstep]
   clear hstep hxe
   go_wp2_with (with_reducible refine wpList_store_row rfl 101 _ _ rfl w.heap.size _ rfl rfl 101 _ hrow4.heap (by rw [rowOf_size]; exact infoQ34) (by rw [rowOf_size, rowOf_size]) (rowOf_one _ _) ?_)
   go_roundw
   case rel => exact ⟨a + 64, j + 1, by have := ha.out; show a + 64 = 64 * (j + 1); omega, by omega, by go_num, hrow4.setRow rfl, below_setRow hbel4 (Nat.le_refl _)⟩
   case measure => simp [intOf]; omega
  have hkj : j = (msg s).length / 64 := by have := HBS.out; have := ha.out; have := HMOD.out; omega
  rw [hkj] at hrow
  have HKJ := Lib.hid hkj
  clear hkj
  obtain ⟨f, hf⟩ : ∃ f, runN (msg s) ((msg s).length / 64) = f := ⟨_, rfl⟩
  rw [hf] at hrow
  have HF := Lib.hid hf
  clear hf
  go_wp2
  go_loopw [5, 6] (fun ov iv wr => ∃ (k : Nat) (l : List UInt8), k ≤ 8 ∧ iv = .int .i64 k ∧ ov = .string ⟨l.toArray⟩ ∧ Hid (l = spellN f k) ∧ l.length ≤ 32 ∧ Row wr w.heap.size 8 101 f ∧ Below w.heap.size w wr) (fun _ iv _ => 8 - (intOf iv).toNat)
  case atStart => exact ⟨0, [], by omega, rfl, rfl, rfl, by simp, hrow, hbel⟩
  case round =>
   clear hrow hbel
   obtain ⟨k, l, hk, rfl, rfl, hl, hll, hrow, hbel⟩ := hrel
   by_cases hlt : k < 8
   ·obtain ⟨hc, _⟩ := hrow.at k hlt
    have hk0 : (0 : Int) ≤ (k : Int) := by omega
    have hk8 : (k : Int) < 8 := by omega
    have hs4 := four_string wr (f k)
    have hs5 := four_plain wr (f k)
    have hs6 : (convert 43 9 (.slice (some ⟨wr.heap.size, 0, none⟩) 4 4)).run Tryd.prog (wr.drew.alloc (.cells #[.int .u8 (IntKind.u8.wrap (nt (f k) / 16777216)), .int .u8 (IntKind.u8.wrap (nt (f k) / 65536)), .int .u8 (IntKind.u8.wrap (nt (f k) / 256)), .int .u8 (IntKind.u8.wrap (nt (f k)))] 5)) = _ := four_plain wr.drew (f k)
    have hcon := fun W => run_string_add_sum (P := Tryd.prog) W ⟨l.toArray⟩ ⟨(by4 (f k)).toArray⟩ (by show l.length + 4 ≤ _; omega)
    have hl4 : (by4 (f k)).length = 4 := rfl
    go_wp2_with fail
    refine wp_region_held_drew (S := fun w' => w'.cell? ⟨w.heap.size, k, none⟩ = some (.int .u32 (nt (f k)))) (by kernel_rfl) ?_ (fun hHeld => ?_)
    ·go_simp
    refine wpAnyH_take (i := 0) (v := ?_) rfl (by kernel_rfl) (by kernel_rfl) (by kernel_rfl) (fun _ _ _ h => h) (Or.inl ⟨by rfl, by (intro w hSw; (try dsimp only at hSw); go_simp; try with_reducible rfl)⟩) (by assumption) ?_
    try simp only [Act.put, List.setIfInBounds_toArray, List.set_cons_zero, List.set_cons_succ]
    refine wpAnyH_take (i := 1) (v := ?_) rfl (by kernel_rfl) (by kernel_rfl) (by kernel_rfl) (fun _ _ _ h => h) (Or.inl ⟨by rfl, by (intro w hSw; (try dsimp only at hSw); go_simp; try with_reducible rfl)⟩) (by assumption) ?_
    try simp only [Act.put, List.setIfInBounds_toArray, List.set_cons_zero, List.set_cons_succ]
    refine wpAnyH_take (i := 2) (v := ?_) rfl (by kernel_rfl) (by kernel_rfl) (by kernel_rfl) (fun _ _ _ h => h) (Or.inl ⟨by rfl, by (intro w hSw; (try dsimp only at hSw); go_simp; try with_reducible rfl)⟩) (by assumption) ?_
    try simp only [Act.put, List.setIfInBounds_toArray, List.set_cons_zero, List.set_cons_succ]
    refine wpAnyH_take (i := 3) (v := ?_) rfl (by kernel_rfl) (by kernel_rfl) (by kernel_rfl) (fun _ _ _ h => h) (Or.inl ⟨by rfl, by (intro w hSw; (try dsimp only at hSw); go_simp; try with_reducible rfl)⟩) (by assumption) ?_
    try simp only [Act.put, List.setIfInBounds_toArray, List.set_cons_zero, List.set_cons_succ]
    refine wpAnyH_take (i := 4) (v := ?_) rfl (by kernel_rfl) (by kernel_rfl) (by kernel_rfl) (fun _ _ _ h => h) (Or.inl ⟨by rfl, by (intro w hSw; (try dsimp only at hSw); go_simp; try with_reducible rfl)⟩) (by assumption) ?_
    try simp only [Act.put, List.setIfInBounds_toArray, List.set_cons_zero, List.set_cons_succ]
    refine wpAnyH_take (i := 5) (v := ?_) rfl (by kernel_rfl) (by kernel_rfl) (by kernel_rfl) (fun _ _ _ h => h) (Or.inl ⟨by rfl, by (intro w hSw; (try dsimp only at hSw); go_simp; try with_reducible rfl)⟩) (by assumption) ?_
    try simp only [Act.put, List.setIfInBounds_toArray, List.set_cons_zero, List.set_cons_succ]
    refine wpAnyH_take (i := 6) (v := ?_) rfl (by kernel_rfl) (by kernel_rfl) (by kernel_rfl) (fun _ _ _ h => h) (Or.inl ⟨by rfl, by (intro w hSw; (try dsimp only at hSw); go_simp; try with_reducible rfl)⟩) (by assumption) ?_
    try simp only [Act.put, List.setIfInBounds_toArray, List.set_cons_zero, List.set_cons_succ]
    refine wpAnyH_take (i := 7) (v := ?_) rfl (by kernel_rfl) (by kernel_rfl) (by kernel_rfl) (fun _ _ _ h => h) (Or.inl ⟨by rfl, by (intro w hSw; (try dsimp only at hSw); go_simp; try with_reducible rfl)⟩) (by assumption) ?_
    try simp only [Act.put, List.setIfInBounds_toArray, List.set_cons_zero, List.set_cons_succ]
    refine wpAnyH_take (i := 8) (v := ?_) rfl (by kernel_rfl) (by kernel_rfl) (by kernel_rfl) (fun _ _ _ h => h) (Or.inl ⟨by rfl, by (intro w hSw; (try dsimp only at hSw); go_simp; try with_reducible rfl)⟩) (by assumption) ?_
    try simp only [Act.put, List.setIfInBounds_toArray, List.set_cons_zero, List.set_cons_succ]
    refine wpAnyH_take (i := 9) (v := ?_) rfl (by kernel_rfl) (by kernel_rfl) (by kernel_rfl) (fun _ _ _ h => h) (Or.inl ⟨by rfl, by (intro w hSw; (try dsimp only at hSw); go_simp; try with_reducible rfl)⟩) (by assumption) ?_
    try simp only [Act.put, List.setIfInBounds_toArray, List.set_cons_zero, List.set_cons_succ]
    refine wpAnyH_take (i := 10) (v := ?_) rfl (by kernel_rfl) (by kernel_rfl) (by kernel_rfl) (fun _ _ _ h => h) (Or.inl ⟨by rfl, by (intro w hSw; (try dsimp only at hSw); go_simp; try with_reducible rfl)⟩) (by assumption) ?_
    try simp only [Act.put, List.setIfInBounds_toArray, List.set_cons_zero, List.set_cons_succ]
    refine wpAnyH_take (i := 11) (v := ?_) rfl (by kernel_rfl) (by kernel_rfl) (by kernel_rfl) (fun _ _ _ h => h) (Or.inl ⟨by rfl, by (intro w hSw; (try dsimp only at hSw); go_simp; try with_reducible rfl)⟩) (by assumption) ?_
    try simp only [Act.put, List.setIfInBounds_toArray, List.set_cons_zero, List.set_cons_succ]
    refine wpAnyH_take (i := 12) (v := ?_) rfl (by kernel_rfl) (by kernel_rfl) (by kernel_rfl) (fun _ _ _ h => h) (Or.inl ⟨by rfl, by (intro w hSw; (try dsimp only at hSw); go_simp; try with_reducible rfl)⟩) (by assumption) ?_
    try simp only [Act.put, List.setIfInBounds_toArray, List.set_cons_zero, List.set_cons_succ]
    refine wpAnyH_take (i := 13) (v := ?_) rfl (by kernel_rfl) (by kernel_rfl) (by kernel_rfl) (fun _ _ _ h => h) (Or.inl ⟨by rfl, by (intro w hSw; (try dsimp only at hSw); go_simp; try with_reducible rfl)⟩) (by assumption) ?_
    try simp only [Act.put, List.setIfInBounds_toArray, List.set_cons_zero, List.set_cons_succ]
    refine wpAnyH_take (i := 14) (v := ?_) rfl (by kernel_rfl) (by kernel_rfl) (by kernel_rfl) (fun _ _ _ h => h) (Or.inl ⟨by rfl, by (intro w hSw; (try dsimp only at hSw); go_simp; try with_reducible rfl)⟩) (by assumption) ?_
    try simp only [Act.put, List.setIfInBounds_toArray, List.set_cons_zero, List.set_cons_succ]
    refine wpAnyH_take (i := 15) (v := ?_) rfl (by kernel_rfl) (by kernel_rfl) (by kernel_rfl) (fun _ _ _ h => h) (Or.inl ⟨by rfl, by (intro w hSw; (try dsimp only at hSw); go_simp; try with_reducible rfl)⟩) (by assumption) ?_
    try simp only [Act.put, List.setIfInBounds_toArray, List.set_cons_zero, List.set_cons_succ]
    refine wpAnyH_take (i := 16) (v := ?_) rfl (by kernel_rfl) (by kernel_rfl) (by kernel_rfl) (fun _ _ _ h => h) (Or.inl ⟨by rfl, by (intro w hSw; (try dsimp only at hSw); go_simp; try with_reducible rfl)⟩) (by assumption) ?_
    try simp only [Act.put, List.setIfInBounds_toArray, List.set_cons_zero, List.set_cons_succ]
    refine wpAnyH_take (i := 17) (v := ?_) rfl (by kernel_rfl) (by kernel_rfl) (by kernel_rfl) (fun _ _ _ h => h) (Or.inl ⟨by rfl, by (intro w hSw; (try dsimp only at hSw); go_simp; try with_reducible rfl)⟩) (by assumption) ?_
    try simp only [Act.put, List.setIfInBounds_toArray, List.set_cons_zero, List.set_cons_succ]
    refine wpAnyH_take (i := 18) (v := ?_) rfl (by kernel_rfl) (by kernel_rfl) (by kernel_rfl) (fun _ _ _ h => h) (Or.inl ⟨by rfl, by (intro w hSw; (try dsimp only at hSw); go_simp; try with_reducible rfl)⟩) (by assumption) ?_
    try simp only [Act.put, List.setIfInBounds_toArray, List.set_cons_zero, List.set_cons_succ]
    refine wpAnyH_take (i := 19) (v := ?_) rfl (by kernel_rfl) (by kernel_rfl) (by kernel_rfl) (fun _ _ _ h => h) (Or.inl ⟨by rfl, by (intro w hSw; (try dsimp only at hSw); go_simp; try with_reducible rfl)⟩) (by assumption) ?_
    try simp only [Act.put, List.setIfInBounds_toArray, List.set_cons_zero, List.set_cons_succ]
    clear hcon
    refine wpAnyH_ready (rs := [20]) (by kernel_rfl) (by simp) ?_
    refine AllReadyH.cons rfl (fun K hK => ?_) AllReadyH.nil
    go_simp
    refine hK.out _ _ ?_ (fun hHeld => ?_)
    ·go_keep
    clear hK K
    try simp only [Act.put, List.setIfInBounds_toArray, List.set_cons_zero, List.set_cons_succ]
    refine wpAnyH_ready (rs := [21]) (by kernel_rfl) (by simp) ?_
    refine AllReadyH.cons rfl (fun K hK => ?_) AllReadyH.nil
    go_simp
    refine hK.out _ _ ?_ (fun hHeld => ?_)
    ·go_keep
    clear hK K
    try simp only [Act.put, List.setIfInBounds_toArray, List.set_cons_zero, List.set_cons_succ]
    have hcon := fun W => run_string_add_sum (P := Tryd.prog) W ⟨l.toArray⟩ ⟨(by4 (f k)).toArray⟩ (by show l.length + 4 ≤ _; omega)
    refine wpAnyH_take (i := 22) (v := ?_) rfl (by kernel_rfl) (by kernel_rfl) (by kernel_rfl) (fun _ _ _ h => h) (Or.inl ⟨by rfl, by (intro w hSw; (try dsimp only at hSw); go_simp; try with_reducible rfl)⟩) (by assumption) ?_
    try simp only [Act.put, List.setIfInBounds_toArray, List.set_cons_zero, List.set_cons_succ]
    refine wpAnyH_take (i := 23) (v := ?_) rfl (by kernel_rfl) (by kernel_rfl) (by kernel_rfl) (fun _ _ _ h => h) (Or.inl ⟨by rfl, by (intro w hSw; (try dsimp only at hSw); go_simp; try with_reducible rfl)⟩) (by assumption) ?_
    try simp only [Act.put, List.setIfInBounds_toArray, List.set_cons_zero, List.set_cons_succ]
    refine wpAnyH_done (by kernel_rfl) ?_ _
    all_goals
     go_wp2
     go_roundw
     case rel =>
      refine ⟨k + 1, l ++ by4 (f k), by omega, by go_num, congrArg Value.string (Buf.str_app _ _), ?_, ?_, ?_, ?_⟩
      ·show _ = spellN f k ++ _; rw [hl.out]
      ·have h1 := congrArg List.length hl.out; rw [spellN_length] at h1; rw [List.length_append, hl4]; omega
      ·exact hrow.below (b := wr.heap.size) (((Below.refl _ wr).alloc (Nat.le_refl _) _).drew) hrow.lt
      exact hbel.trans ((((Below.refl _ wr).alloc (Nat.le_refl _) _).drew).mono hbel.size)
     case measure => simp [intOf]; omega
   obtain rfl : k = 8 := by omega
   have e1 : (⟨l.toArray⟩ : ByteArray) = ⟨(sha s).toArray⟩ := by rw [hl.out, ← HF.out]; rfl
   go_wp2
   go_ret
   exact ⟨congrArg (fun b => Ending.returned (Value.string b)) e1, hbel⟩
end Go.Proofs.YtnmaaijeamlplaaDoor.Sha
namespace Go.Proofs.YtnmaaijeamlplaaDoor.Bk
open Go.RowKit Go.Proofs.YtnmaaijeamlplaaDoor.Mem
theorem rdsum_any (s : List UInt8) (w : World) (hT : Laid2 w) (hp0 : s.length ≤ 250000) : Calls Tryd.prog 74 #[.string (tx s)] w (fun e w' => e = .returned (.string (tx (sum_m s))) ∧ Below w.heap.size w w') :=
 Sha.refsum_any (tx s) w (by rw [tx_size]; exact hp0) hT.t
end Go.Proofs.YtnmaaijeamlplaaDoor.Bk
