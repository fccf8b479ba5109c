import Derived.Test.YtnmaaijeamlplaaDoorShaB
set_option linter.unusedVariables false
set_option linter.unusedSimpArgs false
namespace Go.Proofs.YtnmaaijeamlplaaDoor.Sha
open Go.RowKit
def ktab : List UInt32 := [0x428a2f98, 0x71374491, 0xb5c0fbcf, 0xe9b5dba5, 0x3956c25b, 0x59f111f1, 0x923f82a4, 0xab1c5ed5, 0xd807aa98, 0x12835b01, 0x243185be, 0x550c7dc3, 0x72be5d74, 0x80deb1fe, 0x9bdc06a7, 0xc19bf174, 0xe49b69c1, 0xefbe4786, 0x0fc19dc6, 0x240ca1cc, 0x2de92c6f, 0x4a7484aa, 0x5cb0a9dc, 0x76f988da, 0x983e5152, 0xa831c66d, 0xb00327c8, 0xbf597fc7, 0xc6e00bf3, 0xd5a79147, 0x06ca6351, 0x14292967, 0x27b70a85, 0x2e1b2138, 0x4d2c6dfc, 0x53380d13, 0x650a7354, 0x766a0abb, 0x81c2c92e, 0x92722c85, 0xa2bfe8a1, 0xa81a664b, 0xc24b8b70, 0xc76c51a3, 0xd192e819, 0xd6990624, 0xf40e3585, 0x106aa070, 0x19a4c116, 0x1e376c08, 0x2748774c, 0x34b0bcb5, 0x391c0cb3, 0x4ed8aa4a, 0x5b9cca4f, 0x682e6ff3, 0x748f82ee, 0x78a5636f, 0x84c87814, 0x8cc70208, 0x90befffa, 0xa4506ceb, 0xbef9a3f7, 0xc67178f2]
def kt (j : Nat) : UInt32 := ktab.getD j 0
def KT (b : Nat) (w : World) : Prop := ∀ j, j < 64 → w.cell? ⟨b, j, none⟩ = some (.int .u32 (nt (kt j)))
theorem KT.lt {b : Nat} {w : World} (h : KT b w) : b < w.heap.size := block_lt_of_cell (h 0 (by omega))
theorem KT.below {b c : Nat} {w w' : World} (h : KT b w) (hb : Below c w w') (hc : b < c) : KT b w' := fun j hj => by
 rw [hb.cell (p := ⟨b, j, none⟩) hc]; exact h j hj
def rndf (f : Nat → UInt32) (word : UInt32) : Nat → UInt32
 | 0 => rx0 (f 7) (f 4) (f 5) (f 6) word + ry0 (f 0) (f 1) (f 2)
 | 1 => f 0
 | 2 => f 1
 | 3 => f 2
 | 4 => f 3 + rx0 (f 7) (f 4) (f 5) (f 6) word
 | 5 => f 4
 | 6 => f 5
 | _ => f 6
def st (f m : Nat → UInt32) : Nat → (Nat → UInt32)
 | 0 => f
 | n + 1 => rndf (st f m n) (kt n + m n)
def mixf (f : Nat → UInt32) (s : ByteArray) : Nat → UInt32 := fun j => f j + st f (W (w16 s)) 64 j
theorem infoQ34 : (Tryd.prog.info? 101).map (·.size) = some 8 := by kernel_rfl
theorem Row.heap {w : World} {B n T : Nat} {f : Nat → UInt32} (h : Row w B n T f) : w.heap[B]? = some (.cells (rowOf f n) T (0, 0)) := h
theorem Row.setRow {w : World} {B n T n' : Nat} {f g : Nat → UInt32} (h : Row w B n T f) (hn : n = n') : Row (w.setRow B (rowOf g n')) B n T g := by
 subst hn
 exact setRow_heap w B _ _ T (0, 0) h
theorem Row.setRow_other {w : World} {B n T g : Nat} {f : Nat → UInt32} {cs : Array Value} (h : Row w B n T f) (hg : B ≠ g) : Row (w.setRow g cs) B n T f := by
 unfold Row
 rw [Go.setRow_other w g B cs hg]; exact h
theorem after_w {w W0 w1 W2 : World} {f g : Nat → UInt32} {z : Array Value} (hh : Row W0 w.heap.size 8 101 f) (hres : Row W0 (w.heap.size + 1) 8 101 (fun _ => 0)) (hbel : Below w.heap.size w W0) (hsz : W0.heap.size = w.heap.size + 2) (hb1 : Below W0.heap.size W0 w1)
  (hW : (w1.alloc (.cells z 111)).setRow w1.heap.size (rowOf g 64) = W2) :
  Row W2 w.heap.size 8 101 f ∧ Row W2 (w.heap.size + 1) 8 101 (fun _ => 0) ∧ Row W2 w1.heap.size 64 111 g ∧ Below w.heap.size w W2 ∧ W2.heap.size = w1.heap.size + 1 := by
 subst hW
 have h1 := hb1.size
 have ha : Below w1.heap.size w1 (w1.alloc (.cells z 111)) := (Below.refl _ _).alloc (Nat.le_refl _) _
 have hb : Below w1.heap.size w1 ((w1.alloc (.cells z 111)).setRow w1.heap.size (rowOf g 64)) := below_setRow ha (Nat.le_refl _)
 refine ⟨(hh.below hb1 (by omega)).below hb (by omega), (hres.below hb1 (by omega)).below hb (by omega), ?_, (hbel.trans (hb1.mono (by omega))).trans (hb.mono (by omega)), by simp⟩
 exact setRow_heap _ _ z _ 111 (0, 0) (heap_alloc_new w1 _)
theorem after_v {w W0 w1 W2 W3 : World} {f g h : Nat → UInt32} {z : Array Value} (hh : Row W2 w.heap.size 8 101 f) (hres : Row W2 (w.heap.size + 1) 8 101 (fun _ => 0)) (hw : Row W2 w1.heap.size 64 111 g) (hbel : Below w.heap.size w W2) (h1s : W0.heap.size ≤ w1.heap.size) (hsz : W0.heap.size = w.heap.size + 2) (hsz2 : W2.heap.size = w1.heap.size + 1)
  (hW : (W2.alloc (.cells z 101)).setRow W2.heap.size (rowOf h 8) = W3) :
  Row W3 w.heap.size 8 101 f ∧ Row W3 (w.heap.size + 1) 8 101 (fun _ => 0) ∧ Row W3 w1.heap.size 64 111 g ∧ Row W3 W2.heap.size 8 101 h ∧ Below w.heap.size w W3 ∧ W3.heap.size = W2.heap.size + 1 := by
 subst hW
 have ha : Below W2.heap.size W2 (W2.alloc (.cells z 101)) := (Below.refl _ _).alloc (Nat.le_refl _) _
 have hb : Below W2.heap.size W2 ((W2.alloc (.cells z 101)).setRow W2.heap.size (rowOf h 8)) := below_setRow ha (Nat.le_refl _)
 refine ⟨hh.below hb (by omega), hres.below hb (by omega), hw.below hb (by omega), ?_, hbel.trans (hb.mono (by omega)), by simp⟩
 exact setRow_heap _ _ z _ 101 (0, 0) (heap_alloc_new W2 _)
theorem turn_row (g : Nat → UInt32) (word : UInt32) (w : World) :
  Calls Tryd.prog 96 #[.agg #[.int .u32 (nt (g 0)), .int .u32 (nt (g 1)), .int .u32 (nt (g 2)), .int .u32 (nt (g 3)), .int .u32 (nt (g 4)), .int .u32 (nt (g 5)), .int .u32 (nt (g 6)), .int .u32 (nt (g 7))], .int .u32 (nt word)] w
   fun e' w' => e' = .returned (.agg (rowOf (rndf g word) 8)) ∧ Below w.heap.size w w' :=
 turn_raw (g 0) (g 1) (g 2) (g 3) (g 4) (g 5) (g 6) (g 7) word w
structure Inv (w wr : World) (f m : Nat → UInt32) (Bw Bv k : Nat) : Prop where
 h : Row wr w.heap.size 8 101 f
 res : Row wr (w.heap.size + 1) 8 101 (fun _ => 0)
 ws : Row wr Bw 64 111 m
 v : Row wr Bv 8 101 (st f m k)
 below : Below w.heap.size w wr
 lt1 : w.heap.size + 2 ≤ Bw
 lt2 : Bw < Bv
theorem Inv.step {w wr w' : World} {f m : Nat → UInt32} {Bw Bv k : Nat} (h : Inv w wr f m Bw Bv k) (hb : Below wr.heap.size wr w') : Inv w w' f m Bw Bv k :=
 ⟨h.h.below hb h.h.lt, h.res.below hb h.res.lt, h.ws.below hb h.ws.lt, h.v.below hb h.v.lt, h.below.trans (hb.mono h.below.size), h.lt1, h.lt2⟩
theorem Inv.next {w wr : World} {f m : Nat → UInt32} {Bw Bv k : Nat} (h : Inv w wr f m Bw Bv k) : Inv w (wr.setRow Bv (rowOf (rndf (st f m k) (kt k + m k)) 8)) f m Bw Bv (k + 1) := by
 have h1 := h.lt1
 have h2 := h.lt2
 exact ⟨h.h.setRow_other (by omega), h.res.setRow_other (by omega), h.ws.setRow_other (by omega), h.v.setRow rfl, below_setRow h.below (by omega), h1, h2⟩
structure Inv2 (w wr : World) (f g : Nat → UInt32) (Bv k : Nat) (f' : Nat → UInt32) : Prop where
 h : Row wr w.heap.size 8 101 f'
 res : Row wr (w.heap.size + 1) 8 101 (fun _ => 0)
 v : Row wr Bv 8 101 g
 below : Below w.heap.size w wr
 lt : w.heap.size + 1 < Bv
 all : ∀ j, f' j = if j < k then f j + g j else f j
theorem Inv2.next {w wr : World} {f g : Nat → UInt32} {Bv k : Nat} {f' : Nat → UInt32} (h : Inv2 w wr f g Bv k f') : Inv2 w ((wr.setCell ⟨w.heap.size, k, none⟩ (.int .u32 (nt (f' k + g k)))).drew) f g Bv (k + 1) (up f' k (f' k + g k)) := by
 have hl := h.lt
 refine ⟨(h.h.set k _).drew, (h.res.other _ _ (by simp)).drew, (h.v.other _ _ (by simp; omega)).drew, (h.below.setCell (Nat.le_refl _) _).drew, hl, ?_⟩
 intro j
 unfold up
 have hk := h.all k
 rw [if_neg (by omega)] at hk
 by_cases e : j = k
 ·rw [if_pos e, e, if_pos (by omega), hk]
 rw [if_neg e, h.all j]
 by_cases hj : j < k
 ·rw [if_pos hj, if_pos (by omega)]
 rw [if_neg hj, if_neg (by omega)]
set_option maxRecDepth 1000000 in
set_option maxHeartbeats 1600000 in
theorem mix_any (f : Nat → UInt32) (s : ByteArray) (w : World) (hs : s.size = 64) (hk : KT 0 w) :
  Calls Tryd.prog 84 #[.agg (rowOf f 8), .string s] w fun e w' => e = .returned (.agg (rowOf (mixf f s) 8)) ∧ Below w.heap.size w w' := by
 have HS := Lib.hid hs
 have HK := Lib.hid hk
 clear hs hk
 have h8 : rowOf f 8 = #[.int .u32 (nt (f 0)), .int .u32 (nt (f 1)), .int .u32 (nt (f 2)), .int .u32 (nt (f 3)), .int .u32 (nt (f 4)), .int .u32 (nt (f 5)), .int .u32 (nt (f 6)), .int .u32 (nt (f 7))] := rfl
 rw [h8]
 clear h8
 go_enter Tryd.func84, Tryd.ntmps84
 go_wp2_with fail
 generalize hW : (World.alloc (World.alloc w _) _) = W0
 have R0 : Row W0 w.heap.size 8 101 f ∧ Row W0 (w.heap.size + 1) 8 101 (fun _ => 0) ∧ Below w.heap.size w W0 ∧ W0.heap.size = w.heap.size + 2 := by
  rw [← hW]
  have h1 := Row.lit w 101 8 #[.int .u32 (nt (f 0)), .int .u32 (nt (f 1)), .int .u32 (nt (f 2)), .int .u32 (nt (f 3)), .int .u32 (nt (f 4)), .int .u32 (nt (f 5)), .int .u32 (nt (f 6)), .int .u32 (nt (f 7))] f rfl
  have h2 := Row.lit (w.alloc (.cells #[.int .u32 (nt (f 0)), .int .u32 (nt (f 1)), .int .u32 (nt (f 2)), .int .u32 (nt (f 3)), .int .u32 (nt (f 4)), .int .u32 (nt (f 5)), .int .u32 (nt (f 6)), .int .u32 (nt (f 7))] 101)) 101 8 _ (fun _ => 0) rfl
  refine ⟨h1.below (b := (w.alloc _).heap.size) ((Below.refl _ _).alloc (Nat.le_refl _) _) (by simp), ?_, ((Below.refl _ _).alloc (Nat.le_refl _) _).alloc (by simp) _, by simp⟩
  rw [show ∀ o, (w.alloc o).heap.size = w.heap.size + 1 from fun o => by simp] at h2
  exact h2
 clear hW
 obtain ⟨hh, hres, hbel, hsz⟩ := R0
 refine (widen_any s _ HS.out).mono ?_
 rintro e w1 ⟨rfl, hb1⟩
 have h1s := hb1.size
 go_wp2_with (first
  | (with_reducible refine wpList_store_row rfl 111 _ _ rfl w1.heap.size _ rfl rfl 111 _ (heap_alloc_new w1 _) (by rw [rowOf_size]; exact infoQ42) (by simp [rowOf_size]) (rowOf_one _ _) ?_; generalize hW2 : World.setRow (World.alloc w1 _) _ _ = W2; obtain ⟨hh2, hres2, hw2, hbel2, hsz2⟩ := after_w hh hres hbel hsz hb1 hW2; clear hW2; have Hsz2 := Lib.hid hsz2; clear hsz2)
  | (with_reducible refine wpList_load_row rfl 101 _ rfl w.heap.size rfl 101 _ (0, 0) _ hh2.heap Tryd.underlying101 rfl (by rw [rowOf_size]; exact infoQ34) ?_)
  | (with_reducible refine wpList_store_row rfl 101 _ _ rfl W2.heap.size _ rfl rfl 101 _ (heap_alloc_new W2 _) (by rw [rowOf_size]; exact infoQ34) (by simp [rowOf_size]) (rowOf_one _ _) ?_; generalize hW3 : World.setRow (World.alloc W2 _) _ _ = W3; obtain ⟨hh3, hres3, hw3, hv3, hbel3, hsz3⟩ := after_v hh2 hres2 hw2 hbel2 h1s hsz Hsz2.out hW3; clear hW3; have Hsz3 := Lib.hid hsz3; clear hsz3))
 have hinv : Inv w W3 f (W (w16 s)) w1.heap.size W2.heap.size 0 := ⟨hh3, hres3, hw3, hv3, hbel3, by omega, by have := Hsz2.out; omega⟩
 clear hh hbel hsz hb1 h1s hh2 hres2 hw2 hbel2 hh3 hres3 hw3 hv3 hbel3
 clear Hsz2 Hsz3
 generalize w1.heap.size = Bw at hinv ⊢
 generalize W2.heap.size = Bv at hinv ⊢
 go_loopw [7] (fun iv wr => ∃ k : Nat, k ≤ 64 ∧ iv = .int .i64 k ∧ Inv w wr f (W (w16 s)) Bw Bv k) (fun iv _ => 64 - (intOf iv).toNat)
 case atStart => exact ⟨0, by omega, rfl, hinv⟩
 case round =>
  clear hinv
  obtain ⟨k, hk, rfl, hinv⟩ := hrel
  by_cases hlt : k < 64
  ·obtain ⟨c0, _⟩ := hinv.v.at 0 (by omega)
   obtain ⟨c1, _⟩ := hinv.v.at 1 (by omega)
   obtain ⟨c2, _⟩ := hinv.v.at 2 (by omega)
   obtain ⟨c3, _⟩ := hinv.v.at 3 (by omega)
   obtain ⟨c4, _⟩ := hinv.v.at 4 (by omega)
   obtain ⟨c5, _⟩ := hinv.v.at 5 (by omega)
   obtain ⟨c6, _⟩ := hinv.v.at 6 (by omega)
   obtain ⟨c7, _⟩ := hinv.v.at 7 (by omega)
   obtain ⟨cw, _⟩ := hinv.ws.at k hlt
   have ck := (HK.out.below hinv.below HK.out.lt) k hlt
   have hk0 : (0 : Int) ≤ (k : Int) := by omega
   have hk64 : (k : Int) < 64 := by omega
   have hwa := fwadd
   go_wp2_with fail
   go_still_tail 8, (by kernel_rfl)
   change wpList _ _ _ _ _ wr.drew
   clear c0 c1 c2 c3 c4 c5 c6 c7 cw ck hk0 hk64 hwa
   go_wp2_with fail
   refine (turn_row (st f (W (w16 s)) k) _ _).mono ?_
   rintro e' w4 ⟨rfl, hb4⟩
   have hinv4 := hinv.step (show Below wr.heap.size wr w4 from (Below.refl _ wr).drew.trans hb4)
   go_wp2_with (with_reducible refine wpList_store_row rfl 101 _ _ rfl Bv _ rfl rfl 101 _ hinv4.v.heap (by rw [rowOf_size]; exact infoQ34) (by rw [rowOf_size, rowOf_size]) (rowOf_one _ _) ?_)
   go_roundw
   case rel => exact ⟨k + 1, by omega, by go_num, hinv4.next⟩
   case measure => simp [intOf]; omega
  obtain rfl : k = 64 := by omega
  rw [show ((64 : Nat) : Int) = (64 : Int) from rfl]
  have hinv2 : Inv2 w wr f (st f (W (w16 s)) 64) Bv 0 f := ⟨hinv.h, hinv.res, hinv.v, hinv.below, by have := hinv.lt1; have := hinv.lt2; omega, fun j => by rw [if_neg (by omega)]⟩
  clear hinv
  have hd := fadd
  have hwa := fwadd
  obtain ⟨g, hg⟩ : ∃ g, g = st f (W (w16 s)) 64 := ⟨_, rfl⟩
  rw [← hg] at hinv2
  have HG := Lib.hid hg
  clear hg
  go_wp2
  go_loopw [8] (fun iv wr => ∃ (k : Nat) (f' : Nat → UInt32), k ≤ 8 ∧ iv = .int .i64 k ∧ Inv2 w wr f g Bv k f') (fun iv _ => 8 - (intOf iv).toNat)
  case atStart => exact ⟨0, f, by omega, rfl, hinv2⟩
  case round =>
   clear hinv2
   obtain ⟨k, f', hk8, rfl, hinv⟩ := hrel
   by_cases hlt8 : k < 8
   ·obtain ⟨ch, hfz⟩ := hinv.h.at k hlt8
    obtain ⟨cv, _⟩ := hinv.v.at k hlt8
    have hk0 : (0 : Int) ≤ (k : Int) := by omega
    have hk64 : (k : Int) < 8 := by omega
    go_wp2_with fail
    go_still_tail 8, (by kernel_rfl)
    change wpList _ _ _ _ _ wr.drew
    clear cv
    go_wp2
    go_roundw
    case rel => exact ⟨k + 1, _, by omega, by go_num, hinv.next⟩
    case measure => simp [intOf]; omega
   obtain rfl : k = 8 := by omega
   rw [show ((8 : Nat) : Int) = (8 : Int) from rfl]
   go_wp2_with (first
    | (with_reducible refine wpList_load_row rfl 101 _ rfl w.heap.size rfl 101 _ (0, 0) _ hinv.h.heap Tryd.underlying101 rfl (by rw [rowOf_size]; exact infoQ34) ?_)
    | (with_reducible refine wpList_store_row rfl 101 _ _ rfl (w.heap.size + 1) _ rfl rfl 101 _ hinv.res.heap (by rw [rowOf_size]; exact infoQ34) (by rw [rowOf_size, rowOf_size]) (rowOf_one _ _) ?_))
   refine bodyPost_ret (v := .agg (rowOf f' 8)) (results_cell_row rfl _ _ (w.heap.size + 1) 101 _ (0, 0) _ rfl (setRow_heap _ _ _ _ _ _ hinv.res.heap) Tryd.underlying101 rfl (by rw [rowOf_size]; exact infoQ34)) rfl ⟨?_, below_setRow hinv.below (by omega)⟩
   rw [rowOf_congr (g := mixf f s) (fun j hj => by rw [hinv.all j, if_pos hj, HG.out]; rfl)]
end Go.Proofs.YtnmaaijeamlplaaDoor.Sha
