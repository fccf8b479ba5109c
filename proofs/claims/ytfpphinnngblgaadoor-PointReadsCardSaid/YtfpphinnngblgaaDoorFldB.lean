/- Layer 3: a number's words out of its bytes, and back. -/
import Derived.Test.YtfpphinnngblgaaDoorFldA
import Derived.Lib.EndianBits
import Derived.StillTailTactics
namespace Go.Proofs.YtfpphinnngblgaaDoor.Fld
open Go.RowKit Go.Lib
open Go.Proofs.YtfpphinnngblgaaDoor.Num (val up val_congr val_add val_lt val_up val_digits val_word)
open Go.Proofs.YtfpphinnngblgaaDoor.Arr

theorem word_or (x0 x1 x2 x3 x4 x5 x6 x7 : Nat) (h0 : x0 < 256) (h1 : x1 < 256) (h2 : x2 < 256) (h3 : x3 < 256) (h4 : x4 < 256) (h5 : x5 < 256) (h6 : x6 < 256) (h7 : x7 < 256) :
    bits BinOp.or IntKind.u64 (bits BinOp.or IntKind.u64 (bits BinOp.or IntKind.u64 (bits BinOp.or IntKind.u64 (bits BinOp.or IntKind.u64 (bits BinOp.or IntKind.u64 (bits BinOp.or IntKind.u64 (x0 : Int) ((x1 : Int) * 256)) ((x2 : Int) * 65536)) ((x3 : Int) * 16777216)) ((x4 : Int) * 4294967296)) ((x5 : Int) * 1099511627776)) ((x6 : Int) * 281474976710656)) ((x7 : Int) * 72057594037927936) =
      ((x0 + 256 * (x1 + 256 * (x2 + 256 * (x3 + 256 * (x4 + 256 * (x5 + 256 * (x6 + 256 * x7)))))) : Nat) : Int) := by
  rw [bits_join_low .u64 64 (by decide) wraps_u64 8 (x0 : Int) _ (by omega) (by omega) (by omega) (by omega) (by omega) (by omega)]
  rw [bits_join_low .u64 64 (by decide) wraps_u64 16 ((x0 : Int) + (x1 : Int) * 256) ((x2 : Int) * 65536) (by omega) (by omega) (by omega) (by omega) (by omega) (by omega)]
  rw [bits_join_low .u64 64 (by decide) wraps_u64 24 ((x0 : Int) + (x1 : Int) * 256 + (x2 : Int) * 65536) ((x3 : Int) * 16777216) (by omega) (by omega) (by omega) (by omega) (by omega) (by omega)]
  rw [bits_join_low .u64 64 (by decide) wraps_u64 32 ((x0 : Int) + (x1 : Int) * 256 + (x2 : Int) * 65536 + (x3 : Int) * 16777216) ((x4 : Int) * 4294967296) (by omega) (by omega) (by omega) (by omega) (by omega) (by omega)]
  rw [bits_join_low .u64 64 (by decide) wraps_u64 40 ((x0 : Int) + (x1 : Int) * 256 + (x2 : Int) * 65536 + (x3 : Int) * 16777216 + (x4 : Int) * 4294967296) ((x5 : Int) * 1099511627776) (by omega) (by omega) (by omega) (by omega) (by omega) (by omega)]
  rw [bits_join_low .u64 64 (by decide) wraps_u64 48 ((x0 : Int) + (x1 : Int) * 256 + (x2 : Int) * 65536 + (x3 : Int) * 16777216 + (x4 : Int) * 4294967296 + (x5 : Int) * 1099511627776) ((x6 : Int) * 281474976710656) (by omega) (by omega) (by omega) (by omega) (by omega) (by omega)]
  rw [bits_join_low .u64 64 (by decide) wraps_u64 56 ((x0 : Int) + (x1 : Int) * 256 + (x2 : Int) * 65536 + (x3 : Int) * 16777216 + (x4 : Int) * 4294967296 + (x5 : Int) * 1099511627776 + (x6 : Int) * 281474976710656) ((x7 : Int) * 72057594037927936) (by omega) (by omega) (by omega) (by omega) (by omega) (by omega)]
  omega

theorem word_any (x0 x1 x2 x3 x4 x5 x6 x7 : Nat) (h0 : x0 < 256) (h1 : x1 < 256) (h2 : x2 < 256) (h3 : x3 < 256) (h4 : x4 < 256) (h5 : x5 < 256) (h6 : x6 < 256) (h7 : x7 < 256) (w : World) :
    Calls Tryd.prog 64 #[.int .u8 x0, .int .u8 x1, .int .u8 x2, .int .u8 x3, .int .u8 x4, .int .u8 x5, .int .u8 x6, .int .u8 x7] w fun e w' =>
      e = .returned (.int .u64 ((x0 + 256 * (x1 + 256 * (x2 + 256 * (x3 + 256 * (x4 + 256 * (x5 + 256 * (x6 + 256 * x7)))))) : Nat) : Int)) ∧ w = w' := by
  go_enter Tryd.func64, Tryd.ntmps64
  go_wp2
  go_ret
  refine ⟨?_, rfl⟩
  rw [← word_or x0 x1 x2 x3 x4 x5 x6 x7 h0 h1 h2 h3 h4 h5 h6 h7]
  rfl

theorem word_bt (n i : Nat) (b : Nat) (hb : 8 * i = b) (w : World) :
    Calls Tryd.prog 64 #[.int .u8 (bt n b : Int), .int .u8 (bt n (b + 1) : Int), .int .u8 (bt n (b + 2) : Int), .int .u8 (bt n (b + 3) : Int), .int .u8 (bt n (b + 4) : Int), .int .u8 (bt n (b + 5) : Int), .int .u8 (bt n (b + 6) : Int), .int .u8 (bt n (b + 7) : Int)] w fun e w' =>
      e = .returned (.int .u64 (wd n i : Int)) ∧ w = w' := by
  subst hb
  rw [wd_bt]
  exact word_any _ _ _ _ _ _ _ _ (bt_lt _ _) (bt_lt _ _) (bt_lt _ _) (bt_lt _ _) (bt_lt _ _) (bt_lt _ _) (bt_lt _ _) (bt_lt _ _) w

theorem word_bt' (n i : Nat) (b : Nat) (hb : 8 * i = b) (w : World) :
    Calls Tryd.prog 64 #[.int .u8 (bt n b : Int), .int .u8 (bt n (b + 1) : Int), .int .u8 (bt n (b + 2) : Int), .int .u8 (bt n (b + 3) : Int), .int .u8 (bt n (b + 4) : Int), .int .u8 (bt n (b + 5) : Int), .int .u8 (bt n (b + 6) : Int), .int .u8 (bt n (b + 7) : Int)] w fun e w' =>
      e = .returned (.int .u64 (wd n i : Int)) ∧ w' = w := (word_bt n i b hb w).mono fun _ _ h => ⟨h.1, h.2.symm⟩

theorem bs_get (n j : Nat) (h : j < 32) : (bs n)[j]? = some (.int .u8 (bt n j : Int)) := rowOf_get _ _ _ _ h

theorem ws_size (n : Nat) : (ws n).size = 4 := rowOf_size _ _ _
theorem bs_size (n : Nat) : (bs n).size = 32 := rowOf_size _ _ _
theorem load_start (w : World) (n : Nat) (a b : Array Value) (ha : a = rowOf .u8 (bt n) 32) (hb : b = rowOf .u64 (fun _ => 0) 4) (W : World)
    (hW : (w.alloc (.cells a 23)).alloc (.cells b 52) = W) :
    Row W w.heap.size 32 23 .u8 (bt n) ∧ Row W (w.heap.size + 1) 4 52 .u64 (fun _ => 0) ∧ Below w.heap.size w W := by
  subst hW
  have h1 := Row.lit w 23 32 a .u8 _ ha
  have h2 := Row.lit (w.alloc (.cells a 23)) 52 4 b .u64 _ hb
  have b1 := (Below.refl (w.alloc (.cells a 23)).heap.size (w.alloc (.cells a 23))).alloc (Nat.le_refl _) (.cells b 52)
  have e1 : (w.alloc (.cells a 23)).heap.size = w.heap.size + 1 := by simp
  rw [e1] at h2 b1
  exact ⟨h1.below b1 (by omega), h2, ((Below.refl _ _).alloc (Nat.le_refl _) _).alloc (by simp) _⟩

/-- The bytes of a number on their way; what is left of a word. -/
def partb (n k : Nat) : Nat → Nat := fun j => if j < k then bt n j else 0
theorem partb_up (n k : Nat) : up (partb n k) k (bt n k) = partb n (k + 1) := by
  funext j
  unfold up partb
  by_cases e : j = k
  · rw [if_pos e, e, if_pos (by omega)]
  · rw [if_neg e]
    by_cases h : j < k
    · rw [if_pos h, if_pos (by omega)]
    · rw [if_neg h, if_neg (by omega)]
theorem partb_all (n : Nat) : rowOf .u8 (partb n 32) 32 = bs n := rowOf_congr fun j hj => by unfold partb; rw [if_pos hj]
def sh (n k m : Nat) : Nat := wd n k / 256 ^ m
theorem sh_zero (n k : Nat) : sh n k 0 = wd n k := by simp [sh]
theorem sh_succ (n k m : Nat) : (sh n k m : Int) / 256 = (sh n k (m + 1) : Int) := by
  unfold sh
  rw [Nat.pow_succ, ← Nat.div_div_eq_div_mul]; omega
theorem sh_byte (n k m : Nat) (h : m < 8) : (sh n k m : Int) % 256 = (bt n (8 * k + m) : Int) := by
  rw [bt_wd n k m h]; unfold sh; omega
theorem sh_lt (n k m : Nat) : sh n k m < 18446744073709551616 := Nat.lt_of_le_of_lt (Nat.div_le_self _ _) (wd_lt _ _)
/-- What holds while bytes are laid. -/
structure Lay (w wr : World) (n k : Nat) : Prop where
  a : Row wr w.heap.size 4 52 .u64 (wd n)
  res : Row wr (w.heap.size + 1) 32 23 .u8 (fun _ => 0)
  on : Row wr (w.heap.size + 2) 32 23 .u8 (partb n k)
  below : Below w.heap.size w wr
theorem Lay.next {w wr : World} {n k : Nat} (h : Lay w wr n k) : Lay w (wr.setCell ⟨w.heap.size + 2, k, none⟩ (.int .u8 (bt n k : Int))) n (k + 1) :=
  ⟨h.a.other _ _ (by simp), h.res.other _ _ (by simp), by rw [← partb_up]; exact h.on.set k _, h.below.setCell (by simp) _⟩
theorem lay_start (w : World) (n : Nat) (a b c : Array Value) (ha : a = rowOf .u64 (wd n) 4) (hb : b = rowOf .u8 (fun _ => 0) 32) (hc : c = rowOf .u8 (fun _ => 0) 32) (W : World)
    (hW : ((w.alloc (.cells a 52)).alloc (.cells b 23)).alloc (.cells c 23) = W) : Lay w W n 0 := by
  subst hW
  have h1 := Row.lit w 52 4 a .u64 _ ha
  have h2 := Row.lit (w.alloc (.cells a 52)) 23 32 b .u8 _ hb
  have h3 := Row.lit ((w.alloc (.cells a 52)).alloc (.cells b 23)) 23 32 c .u8 _ hc
  have b1 := (Below.refl (w.alloc (.cells a 52)).heap.size (w.alloc (.cells a 52))).alloc (Nat.le_refl _) (.cells b 23)
  have b2 := (Below.refl ((w.alloc (.cells a 52)).alloc (.cells b 23)).heap.size ((w.alloc (.cells a 52)).alloc (.cells b 23))).alloc (Nat.le_refl _) (.cells c 23)
  have e1 : (w.alloc (.cells a 52)).heap.size = w.heap.size + 1 := by simp
  have e2 : ((w.alloc (.cells a 52)).alloc (.cells b 23)).heap.size = w.heap.size + 2 := by simp
  rw [e1] at h2 b1
  rw [e2] at h3 b2
  refine ⟨(h1.below b1 (by omega)).below b2 (by omega), h2.below b2 (by omega), h3.congr fun j hj => by simp [partb], ?_⟩
  exact (((Below.refl _ _).alloc (Nat.le_refl _) _).alloc (by simp) _).alloc (by simp; omega) _

set_option maxHeartbeats 1000000 in
theorem store_any (n : Nat) (w : World) : Calls Tryd.prog 49 #[.agg (ws n)] w fun e w' => e = .returned (.agg (bs n)) ∧ Below w.heap.size w w' := by
  go_enter Tryd.func49, Tryd.ntmps49
  go_wp2_with fail
  generalize hW : World.alloc (World.alloc _ _) _ = W0
  have hi := lay_start w n _ _ _ rfl rfl rfl W0 hW
  clear hW
  go_loopw [4] (fun iv wr => ∃ k : Nat, k ≤ 4 ∧ iv = .int .i64 (k : Int) ∧ Lay w wr n (8 * k)) (fun iv _ => 4 - (intOf iv).toNat)
  case atStart => exact ⟨0, by omega, rfl, hi⟩
  case round =>
    clear hi
    obtain ⟨k, hk, rfl, hi⟩ := hrel
    by_cases hlt : k < 4
    · obtain ⟨c1, _⟩ := hi.a.at k hlt
      have hk0 : (0 : Int) ≤ (k : Int) := by omega
      have hk4 : (k : Int) < 4 := by omega
      have HI := Lib.hid hi
      clear hi
      go_wp2_with fail
      go_loopw [5, 6] (fun xv jv wr => ∃ m : Nat, m ≤ 8 ∧ jv = .int .i64 (8 * (k : Int) + (m : Int)) ∧ xv = .int .u64 (sh n k m : Int) ∧ Lay w wr n (8 * k + m)) (fun _ jv _ => 8 * k + 8 - (intOf jv).toNat)
      case atStart => exact ⟨0, by omega, by simp, by rw [sh_zero], HI.out⟩
      case round =>
        clear HI c1
        obtain ⟨m, hm, rfl, rfl, hi⟩ := hrel
        by_cases hlm : m < 8
        · obtain ⟨c3, f3⟩ := hi.on.at (8 * k + m) (by omega)
          have hm8 : (m : Int) < 8 := by omega
          have ht : ((8 : Int) * (k : Int) + (m : Int)).toNat = 8 * k + m := by omega
          have h0 : (0 : Int) ≤ (8 : Int) * (k : Int) + (m : Int) := by omega
          have h32 : (8 : Int) * (k : Int) + (m : Int) < 32 := by omega
          have e1 := sh_byte n k m hlm
          have e2 := sh_succ n k m
          have hsh : (sh n k m : Int) < 18446744073709551616 := by have := sh_lt n k m; omega
          have HI := Lib.hid hi
          clear hi
          go_wp2
          go_roundw
          case rel => exact ⟨m + 1, by omega, by go_num, rfl, HI.out.next⟩
          case measure => simp [intOf]; omega
        · obtain rfl : m = 8 := by omega
          have HI := Lib.hid hi
          clear hi
          go_wp2
          go_roundw
          case rel => exact ⟨k + 1, by omega, by go_num, HI.out⟩
          case measure => simp [intOf]; omega
    · obtain rfl : k = 4 := by omega
      rw [show ((4 : Nat) : Int) = (4 : Int) from rfl]
      go_wp2_with (first
        | (with_reducible refine wpList_load_row rfl 23 _ rfl (w.heap.size + 2) rfl 23 _ (0, 0) _ hi.on.heap Tryd.underlying23 rfl (by rw [rowOf_size]; exact info_b) ?_)
        | (with_reducible refine wpList_store_row rfl 23 _ _ rfl (w.heap.size + 1) _ rfl rfl 23 _ hi.res.heap (by rw [rowOf_size]; exact info_b) (by rw [rowOf_size, rowOf_size]) (rowOf_one _ _ _) ?_))
      refine bodyPost_ret (v := .agg (rowOf .u8 (partb n (8 * 4)) 32)) (results_cell_row rfl _ _ (w.heap.size + 1) 23 _ (0, 0) _ rfl (setRow_heap _ _ _ _ _ _ hi.res.heap) Tryd.underlying23 rfl (by rw [rowOf_size]; exact info_b)) rfl ⟨?_, below_setRow hi.below (by omega)⟩
      rw [show 8 * 4 = 32 from rfl, partb_all]
end Go.Proofs.YtfpphinnngblgaaDoor.Fld
