/- Layer 3: words of 64 bits, sums, differences. -/
import Derived.Test.YtfpphinnngblgaaDoorArr
import Derived.Test.YtfpphinnngblgaaDoorFldM
import Derived.Deep.RegionHeld3
import Derived.Shelf.Spec.BitsCarry
namespace Go.Proofs.YtfpphinnngblgaaDoor.Fld
open Go.RowKit
open Go.Proofs.YtfpphinnngblgaaDoor.Num (val up val_congr val_add val_lt val_up val_digits val_word)
open Go.Proofs.YtfpphinnngblgaaDoor.Arr

/-- A number's four words, its 32 bytes. -/
def ws (n : Nat) : Array Value := rowOf .u64 (wd n) 4
def bs (n : Nat) : Array Value := rowOf .u8 (bt n) 32
theorem ws_one (n : Nat) : (ws n).all (·.oneCell') = true := rowOf_one _ _ _
theorem bs_one (n : Nat) : (bs n).all (·.oneCell') = true := rowOf_one _ _ _
theorem info_w : (Tryd.prog.info? 52).map (·.size) = some 4 := by kernel_rfl
theorem info_b : (Tryd.prog.info? 23).map (·.size) = some 32 := by kernel_rfl

/-- bits.Add64, bits.Sub64 as this translation calls them, over natural numbers. -/
theorem add64 (x y c : Nat) (hx : x < 18446744073709551616) (hy : y < 18446744073709551616) (hc : c ≤ 1) (w : World) : (callFunc 59 #[.int .u64 x, .int .u64 y, .int .u64 c]).run Tryd.prog w =
    .ok (.value (.tuple #[.int .u64 (((x + y + c) % 18446744073709551616 : Nat) : Int), .int .u64 (((x + y + c) / 18446744073709551616 : Nat) : Int)])) w := by
  rw [run_callFunc_extern Tryd.func59 (by kernel_rfl) (by kernel_rfl) (by kernel_rfl) (e := add64Entry) (by kernel_rfl), run_add64 x y c (by omega) (by omega) (by omega) (by omega)]
  simp only [Result.andThen]
  congr 5 <;> omega
theorem sub64 (x y b : Nat) (hb : b ≤ 1) (w : World) : (callFunc 63 #[.int .u64 x, .int .u64 y, .int .u64 b]).run Tryd.prog w =
    .ok (.value (.tuple #[.int .u64 (((x + 18446744073709551616 - y - b) % 18446744073709551616 : Nat) : Int), .int .u64 ((if x < y + b then 1 else 0 : Nat) : Int)])) w := by
  rw [run_callFunc_extern Tryd.func63 (by kernel_rfl) (by kernel_rfl) (by kernel_rfl) (e := sub64Entry) (by kernel_rfl), run_sub64 x y b hb]
  rfl
theorem add64_wd (a b k : Nat) (w : World) : (callFunc 59 #[.int .u64 (wd a k : Int), .int .u64 (wd b k : Int), .int .u64 (car a b k : Int)]).run Tryd.prog w =
    .ok (.value (.tuple #[.int .u64 (wd (a + b) k : Int), .int .u64 (car a b (k + 1) : Int)])) w := by
  rw [add64 _ _ _ (wd_lt _ _) (wd_lt _ _) (car_le _ _ _), wd_add, car_succ]
theorem sub64_wd (a b k : Nat) (hk : k < 4) (hb : b ≤ MM) (w : World) : (callFunc 63 #[.int .u64 (wd a k : Int), .int .u64 (wd b k : Int), .int .u64 (bo a b k : Int)]).run Tryd.prog w =
    .ok (.value (.tuple #[.int .u64 (wd (a + MM - b) k : Int), .int .u64 (bo a b (k + 1) : Int)])) w := by
  rw [sub64 _ _ _ (bo_le _ _ _), wd_sub a b k hk hb, bo_succ]

/-- The words of a number on their way: the first k are there. -/
def part (n k : Nat) : Nat → Nat := fun j => if j < k then wd n j else 0
theorem part_up (n k : Nat) : up (part n k) k (wd n k) = part n (k + 1) := by
  funext j
  unfold up part
  by_cases e : j = k
  · rw [if_pos e, e, if_pos (by omega)]
  · rw [if_neg e]
    by_cases h : j < k
    · rw [if_pos h, if_pos (by omega)]
    · rw [if_neg h, if_neg (by omega)]
theorem part_all (n : Nat) : rowOf .u64 (part n 4) 4 = ws n := rowOf_congr fun j hj => by unfold part; rw [if_pos hj]

theorem four_rows (w : World) (T : Nat) (a b c d : Array Value) (fa fb fc fd : Nat → Nat) (ha : a = rowOf .u64 fa 4) (hb : b = rowOf .u64 fb 4) (hc : c = rowOf .u64 fc 4) (hd : d = rowOf .u64 fd 4) (W : World)
    (hW : (((w.alloc (.cells a T)).alloc (.cells b T)).alloc (.cells c T)).alloc (.cells d T) = W) :
    Row W w.heap.size 4 T .u64 fa ∧ Row W (w.heap.size + 1) 4 T .u64 fb ∧ Row W (w.heap.size + 2) 4 T .u64 fc ∧ Row W (w.heap.size + 3) 4 T .u64 fd ∧ Below w.heap.size w W := by
  subst hW
  have h1 := Row.lit w T 4 a .u64 fa ha
  have h2 := Row.lit (w.alloc (.cells a T)) T 4 b .u64 fb hb
  have h3 := Row.lit ((w.alloc (.cells a T)).alloc (.cells b T)) T 4 c .u64 fc hc
  have h4 := Row.lit (((w.alloc (.cells a T)).alloc (.cells b T)).alloc (.cells c T)) T 4 d .u64 fd hd
  have b1 := (Below.refl (w.alloc (.cells a T)).heap.size (w.alloc (.cells a T))).alloc (Nat.le_refl _) (.cells b T)
  have b2 := (Below.refl ((w.alloc (.cells a T)).alloc (.cells b T)).heap.size ((w.alloc (.cells a T)).alloc (.cells b T))).alloc (Nat.le_refl _) (.cells c T)
  have b3 := (Below.refl (((w.alloc (.cells a T)).alloc (.cells b T)).alloc (.cells c T)).heap.size (((w.alloc (.cells a T)).alloc (.cells b T)).alloc (.cells c T))).alloc (Nat.le_refl _) (.cells d T)
  have e1 : (w.alloc (.cells a T)).heap.size = w.heap.size + 1 := by simp
  have e2 : ((w.alloc (.cells a T)).alloc (.cells b T)).heap.size = w.heap.size + 2 := by simp
  have e3 : (((w.alloc (.cells a T)).alloc (.cells b T)).alloc (.cells c T)).heap.size = w.heap.size + 3 := by simp
  rw [e1] at h2 b1
  rw [e2] at h3 b2
  rw [e3] at h4 b3
  refine ⟨((h1.below b1 (by omega)).below b2 (by omega)).below b3 (by omega), (h2.below b2 (by omega)).below b3 (by omega), h3.below b3 (by omega), h4, ?_⟩
  exact ((((Below.refl _ _).alloc (Nat.le_refl _) _).alloc (by simp) _).alloc (by simp; omega) _).alloc (by simp; omega) _

/-- What holds while words are summed (or taken away). -/
structure Sum (w wr : World) (a b n k : Nat) : Prop where
  a : Row wr w.heap.size 4 52 .u64 (wd a)
  b : Row wr (w.heap.size + 1) 4 52 .u64 (wd b)
  res : Row wr (w.heap.size + 2) 4 52 .u64 (fun _ => 0)
  on : Row wr (w.heap.size + 3) 4 52 .u64 (part n k)
  below : Below w.heap.size w wr
theorem Sum.next {w wr : World} {a b n k : Nat} (h : Sum w wr a b n k) : Sum w ((wr.setCell ⟨w.heap.size + 3, k, none⟩ (.int .u64 (wd n k : Int))).drew) a b n (k + 1) :=
  ⟨(h.a.other _ _ (by simp)).drew, (h.b.other _ _ (by simp)).drew, (h.res.other _ _ (by simp)).drew, by rw [← part_up]; exact (h.on.set k _).drew, (h.below.setCell (by simp) _).drew⟩

theorem keep_set {w : World} {b o : Nat} {p : Addr} {v x : Value} (h : w.cell? ⟨b, o, none⟩ = some x) (hp : p.block ≠ b) : (w.setCell p v).drew.cell? ⟨b, o, none⟩ = some x :=
  (World.cell?_setCell_far w p ⟨b, o, none⟩ v hp).trans h
theorem results_cell_tmp {P : Program} {fn : Func} {p q : Tmp} {ty : TypeId} (h : fn.results = #[.cell p ty, .tmp q]) (tmps : Array Value) (w : World) (g : Nat) (t : TypeId) (cs : Array Value) (fr : Nat × Nat) (d : TypeDesc) (v : Value)
    (hp : tmps.getD p undef = .pointer (some ⟨g, 0, none⟩)) (hq : tmps.getD q undef = v) (hg : w.heap[g]? = some (.cells cs t fr))
    (hu : P.underlying ty = some d) (hd : (match d with | .struct _ | .array _ _ => true | _ => false) = true) (hi : (P.info? ty).map (·.size) = some cs.size) :
    (results fn tmps).run P w = .ok (.tuple #[.agg cs, v]) w := by
  have hp' : tmps[p]?.getD undef = .pointer (some ⟨g, 0, none⟩) := by simpa using hp
  have hq' : tmps[q]?.getD undef = v := by simpa using hq
  simp [results, h, hp', hq', asAddr, run_loadVar_row w g t ty cs fr d hg hu hd hi]
theorem order_any (w : World) : Calls Tryd.prog 48 #[] w fun e w' => e = .returned (.agg (ws 57896044618658097711785492504343953926634992332820282019728792003956564819949)) ∧ Below w.heap.size w w' := by
  go_enter Tryd.func48, Tryd.ntmps48
  go_wp2
  refine bodyPost_ret (v := .agg (ws 57896044618658097711785492504343953926634992332820282019728792003956564819949)) (by simp [results, Tryd.results48, go_sem]; rfl) rfl ⟨rfl, ?_⟩
  exact (Below.refl _ _).alloc (Nat.le_refl _) _

set_option maxHeartbeats 1000000 in
theorem plus_any (a b : Nat) (w : World) : Calls Tryd.prog 51 #[.agg (ws a), .agg (ws b)] w fun e w' => e = .returned (.tuple #[.agg (ws (a + b)), .int .u64 (car a b 4 : Int)]) ∧ Below w.heap.size w w' := by
  go_enter Tryd.func51, Tryd.ntmps51
  go_wp2_with fail
  generalize hW : World.alloc (World.alloc _ _) _ = W0
  obtain ⟨r1, r2, r3, r4, hb⟩ := four_rows w _ _ _ _ _ (wd a) (wd b) (fun _ => 0) (fun _ => 0) rfl rfl rfl rfl W0 hW
  clear hW
  have hi : Sum w W0 a b (a + b) 0 := ⟨r1, r2, r3, r4.congr fun j hj => by simp [part], hb⟩
  clear r1 r2 r3 r4 hb
  go_loopw [7, 8] (fun cv iv wr => ∃ k : Nat, k ≤ 4 ∧ iv = .int .i64 (k : Int) ∧ cv = .int .u64 (car a b k : Int) ∧ Sum w wr a b (a + b) k) (fun _ iv _ => 4 - (intOf iv).toNat)
  case atStart => exact ⟨0, by omega, rfl, by rw [car_zero]; rfl, hi⟩
  case round =>
    clear hi
    obtain ⟨k, hk, rfl, rfl, hi⟩ := hrel
    by_cases hlt : k < 4
    · obtain ⟨c1, _⟩ := hi.a.at k hlt
      obtain ⟨c2, _⟩ := hi.b.at k hlt
      obtain ⟨c3, f3⟩ := hi.on.at k hlt
      have hadd := fun w => add64_wd a b k w
      have hk0 : (0 : Int) ≤ (k : Int) := by omega
      have hk4 : (k : Int) < 4 := by omega
      have HI := Lib.hid hi
      clear hi
      go_wp2_with fail
      go_region_held3 (fun w' => w'.cell? ⟨w.heap.size, k, none⟩ = some (.int .u64 (wd a k : Int)) ∧ w'.cell? ⟨w.heap.size + 1, k, none⟩ = some (.int .u64 (wd b k : Int))) (first | exact ⟨keep_set c1 (by dsimp only; omega), keep_set c2 (by dsimp only; omega)⟩ | go_keep) (fail)

      go_wp2
      go_roundw
      case rel => exact ⟨k + 1, by omega, by go_num, rfl, HI.out.next⟩
      case measure => simp [intOf]; omega
    · obtain rfl : k = 4 := by omega
      rw [show ((4 : Nat) : Int) = (4 : Int) from rfl]
      go_wp2_with (first
        | (with_reducible refine wpList_load_row rfl 52 _ rfl (w.heap.size + 3) rfl 52 _ (0, 0) _ hi.on.heap Tryd.underlying52 rfl (by rw [rowOf_size]; exact info_w) ?_)
        | (with_reducible refine wpList_store_row rfl 52 _ _ rfl (w.heap.size + 2) _ rfl rfl 52 _ hi.res.heap (by rw [rowOf_size]; exact info_w) (by rw [rowOf_size, rowOf_size]) (rowOf_one _ _ _) ?_))
      refine bodyPost_ret (results_cell_tmp rfl _ _ (w.heap.size + 2) 52 (rowOf .u64 (part (a + b) 4) 4) (0, 0) _ (.int .u64 (car a b 4 : Int)) rfl rfl (setRow_heap _ _ _ _ _ _ hi.res.heap) Tryd.underlying52 rfl (by rw [rowOf_size]; exact info_w)) rfl ⟨?_, below_setRow hi.below (by omega)⟩
      rw [part_all]
set_option maxHeartbeats 1000000 in
theorem minus_any (a b : Nat) (w : World) (hbm : b ≤ MM) : Calls Tryd.prog 46 #[.agg (ws a), .agg (ws b)] w fun e w' => e = .returned (.tuple #[.agg (ws (a + MM - b)), .int .u64 (bo a b 4 : Int)]) ∧ Below w.heap.size w w' := by
  go_enter Tryd.func46, Tryd.ntmps46
  go_wp2_with fail
  generalize hW : World.alloc (World.alloc _ _) _ = W0
  obtain ⟨r1, r2, r3, r4, hb⟩ := four_rows w _ _ _ _ _ (wd a) (wd b) (fun _ => 0) (fun _ => 0) rfl rfl rfl rfl W0 hW
  clear hW
  have hi : Sum w W0 a b (a + MM - b) 0 := ⟨r1, r2, r3, r4.congr fun j hj => by simp [part], hb⟩
  clear r1 r2 r3 r4 hb
  go_loopw [7, 8] (fun cv iv wr => ∃ k : Nat, k ≤ 4 ∧ iv = .int .i64 (k : Int) ∧ cv = .int .u64 (bo a b k : Int) ∧ Sum w wr a b (a + MM - b) k) (fun _ iv _ => 4 - (intOf iv).toNat)
  case atStart => exact ⟨0, by omega, rfl, by rw [bo_zero]; rfl, hi⟩
  case round =>
    clear hi
    obtain ⟨k, hk, rfl, rfl, hi⟩ := hrel
    by_cases hlt : k < 4
    · obtain ⟨c1, _⟩ := hi.a.at k hlt
      obtain ⟨c2, _⟩ := hi.b.at k hlt
      obtain ⟨c3, f3⟩ := hi.on.at k hlt
      have hadd := fun w => sub64_wd a b k hlt hbm w
      have hk0 : (0 : Int) ≤ (k : Int) := by omega
      have hk4 : (k : Int) < 4 := by omega
      have HI := Lib.hid hi
      clear hi
      go_wp2_with fail
      go_region_held3 (fun w' => w'.cell? ⟨w.heap.size, k, none⟩ = some (.int .u64 (wd a k : Int)) ∧ w'.cell? ⟨w.heap.size + 1, k, none⟩ = some (.int .u64 (wd b k : Int))) (first | exact ⟨keep_set c1 (by dsimp only; omega), keep_set c2 (by dsimp only; omega)⟩ | go_keep) (fail)

      go_wp2
      go_roundw
      case rel => exact ⟨k + 1, by omega, by go_num, rfl, HI.out.next⟩
      case measure => simp [intOf]; omega
    · obtain rfl : k = 4 := by omega
      rw [show ((4 : Nat) : Int) = (4 : Int) from rfl]
      go_wp2_with (first
        | (with_reducible refine wpList_load_row rfl 52 _ rfl (w.heap.size + 3) rfl 52 _ (0, 0) _ hi.on.heap Tryd.underlying52 rfl (by rw [rowOf_size]; exact info_w) ?_)
        | (with_reducible refine wpList_store_row rfl 52 _ _ rfl (w.heap.size + 2) _ rfl rfl 52 _ hi.res.heap (by rw [rowOf_size]; exact info_w) (by rw [rowOf_size, rowOf_size]) (rowOf_one _ _ _) ?_))
      refine bodyPost_ret (results_cell_tmp rfl _ _ (w.heap.size + 2) 52 (rowOf .u64 (part (a + MM - b) 4) 4) (0, 0) _ (.int .u64 (bo a b 4 : Int)) rfl rfl (setRow_heap _ _ _ _ _ _ hi.res.heap) Tryd.underlying52 rfl (by rw [rowOf_size]; exact info_w)) rfl ⟨?_, below_setRow hi.below (by omega)⟩
      rw [part_all]
end Go.Proofs.YtfpphinnngblgaaDoor.Fld
