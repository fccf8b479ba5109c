/- The square of any number has a root, it or its opposite; two numbers have one square just if they are the same or opposite: FieldSquares returns true, for every two numbers of 32 bytes. No condition. -/
import Derived.Test.YtghcggecahaccaaRows
import Derived.Test.YtghcggecahaccaaFldP
import Derived.Test.YtghcggecahaccaaFldO
import Derived.Test.YtghcggecahaccaaFldQ
import Derived.Test.YtghcggecahaccaaFldAF
import Derived.Test.YtghcggecahaccaaSkp
import Derived.WalkKit
import Derived.ProofKit
import Derived.OpenShut
namespace Go.Proofs.Ytghcggecahaccaa.fieldSquares
open Go.ChangeShapes Go.WideShapes Go.ChangeAt Go.RowKit
open Go.Proofs.Ytghcggecahaccaa Go.Proofs.Ytghcggecahaccaa.Fld Go.Proofs.Ytghcggecahaccaa.Sym
set_option linter.unusedVariables false

theorem own : ownKnob Try.prog.godebug = none := by kernel_rfl
set_option maxHeartbeats 4000000 in
set_option maxRecDepth 100000 in
theorem walk_t_t (a b r : Nat) (ha : a < MM) (hb : b < MM) (hr : r < MM) (hroot : ∀ w, Calls Try.prog 24 #[.agg (bs (a * a % PP))] w fun e w' => e = .returned (.tuple #[.agg (bs r), .bool true]) ∧ Below w.heap.size w w') (c1 : decide ((a % PP) = (b % PP)) = true) (e1 : decide ((a * a % PP) = (b * b % PP)) = true) (d1 : decide (r = (a % PP)) = true) (w : World) :
    Calls Try.prog 8 #[.agg (bs a), .agg (bs b)] w fun e w' => e = .returned (.bool true) ∧ Below w.heap.size w w' := by
  have Ha := Lib.hid ha
  have Hb := Lib.hid hb
  have Hr := Lib.hid hr
  clear ha hb hr
  have C1 := Lib.hid c1
  clear c1
  have E1 := Lib.hid e1
  clear e1
  have D1 := Lib.hid d1
  clear d1
  go_enter Try.func8, Try.ntmps8
  have hbel0 := Below.refl w.heap.size w
  go_step
  go_step
  go_step
  refine lst (wanted_none rfl) (w_alloc (c := bs a) (T := 23) 2 rfl (run_box rfl rfl) (fun w1 he2 => ?_))
  have k3 := Blk.new he2
  have hg4 : w.heap.size ≤ w.heap.size := hbel0.size
  have hbel5 := bel_alloc hbel0 he2
  simp only [List.setIfInBounds_toArray, List.set_cons_zero, List.set_cons_succ]
  refine lst (wanted_none rfl) (w_alloc (c := bs b) (T := 23) 3 rfl (run_box rfl rfl) (fun w6 he7 => ?_))
  have hne9 : w.heap.size ≠ w1.heap.size := Nat.ne_of_lt k3.lt
  have k8 := k3.alloc he7
  have k10 := Blk.new he7
  have hg11 : w.heap.size ≤ w1.heap.size := hbel5.size
  have hbel12 := bel_alloc hbel5 he7
  simp only [List.setIfInBounds_toArray, List.set_cons_zero, List.set_cons_succ]
  refine lst (wanted_none rfl) (w_value 4 (.bool false) rfl (run_as rfl rfl) ?_)
  simp only [List.setIfInBounds_toArray, List.set_cons_zero, List.set_cons_succ]
  go_step
  go_step
  go_step
  go_step
  go_step
  refine lst (wanted_none rfl) (w_value 9 (.agg (bs a)) rfl (run_row rfl rfl k8 Try.underlying23 rfl (by rw [bs_sz]; exact info_b)) ?_)
  simp only [List.setIfInBounds_toArray, List.set_cons_zero, List.set_cons_succ]
  refine lst (wanted_none rfl) (w_value 10 (.agg (bs a)) rfl (run_row rfl rfl k8 Try.underlying23 rfl (by rw [bs_sz]; exact info_b)) ?_)
  simp only [List.setIfInBounds_toArray, List.set_cons_zero, List.set_cons_succ]
  refine lst (wanted_none rfl) (w_enter 11 (.agg (bs (a * a % PP))) rfl (run_Mul rfl rfl rfl) (mul_any a a Ha.out Ha.out _) (fun w13 hb14 => ?_))
  have k15 := k8.call hb14
  have k16 := k10.call hb14
  have hbel17 := bel_call hbel12 hb14
  simp only [List.setIfInBounds_toArray, List.set_cons_zero, List.set_cons_succ]
  refine lst (wanted_none rfl) (w_alloc (c := bs 0) (T := 23) 5 rfl (run_alN rfl) (fun w18 he19 => ?_))
  have hne21 : w.heap.size ≠ w13.heap.size := Nat.ne_of_lt k15.lt
  have k20 := k15.alloc he19
  have hne23 : w1.heap.size ≠ w13.heap.size := Nat.ne_of_lt k16.lt
  have k22 := k16.alloc he19
  have k24 := Blk.new he19
  have hg25 : w.heap.size ≤ w13.heap.size := hbel17.size
  have hbel26 := bel_alloc hbel17 he19
  simp only [List.setIfInBounds_toArray, List.set_cons_zero, List.set_cons_succ]
  refine lst (wanted_none rfl) (w_store 23 _ _ (w13.heap.size) (bs (a * a % PP)) rfl rfl rfl rfl k24 (by rw [bs_sz]; exact info_b) ((bs_sz _).trans (bs_sz _).symm) (bs_one _) (fun w27 he28 => ?_))
  have k29 := k20.other hne21 he28
  have k30 := k22.other hne23 he28
  have k31 := k24.set he28
  have hbel32 := bel_set hbel26 hg25 he28
  go_step
  go_step
  go_step
  go_step
  go_step
  refine lst (wanted_none rfl) (w_value 13 (.agg (bs (a * a % PP))) rfl (run_row rfl rfl k31 Try.underlying23 rfl (by rw [bs_sz]; exact info_b)) ?_)
  simp only [List.setIfInBounds_toArray, List.set_cons_zero, List.set_cons_succ]
  refine lst (wanted_none rfl) (w_enter 14 (.tuple #[.agg (bs r), .bool true]) rfl (run_Root rfl rfl) (hroot _) (fun w33 hb34 => ?_))
  have k35 := k29.call hb34
  have k36 := k30.call hb34
  have k37 := k31.call hb34
  have hbel38 := bel_call hbel32 hb34
  simp only [List.setIfInBounds_toArray, List.set_cons_zero, List.set_cons_succ]
  refine lst (wanted_none rfl) (w_value 12 (.tuple #[.agg (bs r), .bool true]) rfl (run_mv rfl rfl) ?_)
  simp only [List.setIfInBounds_toArray, List.set_cons_zero, List.set_cons_succ]
  refine lst (wanted_none rfl) (w_value 15 (.agg (bs r)) rfl (run_ex rfl rfl rfl) ?_)
  simp only [List.setIfInBounds_toArray, List.set_cons_zero, List.set_cons_succ]
  refine lst (wanted_none rfl) (w_value 16 (.bool true) rfl (run_ex rfl rfl rfl) ?_)
  simp only [List.setIfInBounds_toArray, List.set_cons_zero, List.set_cons_succ]
  refine lst (wanted_none rfl) (w_alloc (c := bs 0) (T := 23) 6 rfl (run_alN rfl) (fun w39 he40 => ?_))
  have hne42 : w.heap.size ≠ w33.heap.size := Nat.ne_of_lt k35.lt
  have k41 := k35.alloc he40
  have hne44 : w1.heap.size ≠ w33.heap.size := Nat.ne_of_lt k36.lt
  have k43 := k36.alloc he40
  have hne46 : w13.heap.size ≠ w33.heap.size := Nat.ne_of_lt k37.lt
  have k45 := k37.alloc he40
  have k47 := Blk.new he40
  have hg48 : w.heap.size ≤ w33.heap.size := hbel38.size
  have hbel49 := bel_alloc hbel38 he40
  simp only [List.setIfInBounds_toArray, List.set_cons_zero, List.set_cons_succ]
  refine lst (wanted_none rfl) (w_store 23 _ _ (w33.heap.size) (bs r) rfl rfl rfl rfl k47 (by rw [bs_sz]; exact info_b) ((bs_sz _).trans (bs_sz _).symm) (bs_one _) (fun w50 he51 => ?_))
  have k52 := k41.other hne42 he51
  have k53 := k43.other hne44 he51
  have k54 := k45.other hne46 he51
  have k55 := k47.set he51
  have hbel56 := bel_set hbel49 hg48 he51
  refine lst (wanted_none rfl) (w_value 7 (.bool true) rfl (run_as rfl rfl) ?_)
  simp only [List.setIfInBounds_toArray, List.set_cons_zero, List.set_cons_succ]
  go_step
  go_step
  go_step
  go_step
  have k57 := k52.drew
  have k58 := k53.drew
  have k59 := k54.drew
  have k60 := k55.drew
  have hbel61 := hbel56.drew
  refine wp_region_held_drew (S := fun w' => Blk w' (w.heap.size) (bs a) 23 ∧ Blk w' (w1.heap.size) (bs b) 23) (by kernel_rfl) ⟨k57, k58⟩ (fun _ => ?_)
  generalize w50.drew = wd62 at *
  refine Sym.take_at 0 17 (.agg (bs a)) rfl rfl (by kernel_rfl) (by kernel_rfl) (by kernel_rfl) (fun _ _ _ h => h) (wanted_none rfl) (fun _ hw => run_row rfl rfl (hw.1) Try.underlying23 rfl (by rw [bs_sz]; exact info_b)) ⟨k57, k58⟩ ?_
  simp only [List.setIfInBounds_toArray, List.set_cons_zero, List.set_cons_succ]
  refine Sym.take_at 2 19 (.agg (bs b)) rfl rfl (by kernel_rfl) (by kernel_rfl) (by kernel_rfl) (fun _ _ _ h => h) (wanted_none rfl) (fun _ hw => run_row rfl rfl (hw.2) Try.underlying23 rfl (by rw [bs_sz]; exact info_b)) ⟨k57, k58⟩ ?_
  simp only [List.setIfInBounds_toArray, List.set_cons_zero, List.set_cons_succ]
  refine one_ready 1 (by kernel_rfl) ?_
  refine opd rfl (wanted_none rfl) (w_enter 18 (.agg (bs (a % PP))) rfl (run_Reduce rfl rfl) (reduce_any a Ha.out _) (fun w63 hb64 => ?_))
  have k65 := k57.call hb64
  have k66 := k58.call hb64
  have k67 := k59.call hb64
  have k68 := k60.call hb64
  have hbel69 := bel_call hbel61 hb64
  refine ⟨⟨k65, k66⟩, ?_⟩
  simp only [List.setIfInBounds_toArray, List.set_cons_zero, List.set_cons_succ]
  refine one_ready 3 (by kernel_rfl) ?_
  refine opd rfl (wanted_none rfl) (w_enter 20 (.agg (bs (b % PP))) rfl (run_Reduce rfl rfl) (reduce_any b Hb.out _) (fun w70 hb71 => ?_))
  have k72 := k65.call hb71
  have k73 := k66.call hb71
  have k74 := k67.call hb71
  have k75 := k68.call hb71
  have hbel76 := bel_call hbel69 hb71
  refine ⟨⟨k72, k73⟩, ?_⟩
  simp only [List.setIfInBounds_toArray, List.set_cons_zero, List.set_cons_succ]
  refine Sym.take_at 4 21 (.bool true) rfl rfl (by kernel_rfl) (by kernel_rfl) (by kernel_rfl) (fun _ _ _ h => h) (wanted_none rfl) (fun _ hw => run_eqN (a % PP) (b % PP) (Nat.lt_trans (Nat.mod_lt _ (by decide)) pp_lt) (Nat.lt_trans (Nat.mod_lt _ (by decide)) pp_lt) true C1.out rfl rfl rfl) ⟨k72, k73⟩ ?_
  simp only [List.setIfInBounds_toArray, List.set_cons_zero, List.set_cons_succ]
  refine Sym.take_at 5 22 (.bool true) rfl rfl (by kernel_rfl) (by kernel_rfl) (by kernel_rfl) (fun _ _ _ h => h) (wanted_none rfl) (fun _ hw => run_mv rfl rfl) ⟨k72, k73⟩ ?_
  simp only [List.setIfInBounds_toArray, List.set_cons_zero, List.set_cons_succ]
  refine skip_at 6 23 rfl rfl (by kernel_rfl) (by kernel_rfl) (by kernel_rfl) (fun _ _ _ h => h) rfl ⟨k72, k73⟩ ?_
  simp only [List.setIfInBounds_toArray, List.set_cons_zero, List.set_cons_succ]
  refine skip_at 8 25 rfl rfl (by kernel_rfl) (by kernel_rfl) (by kernel_rfl) (fun _ _ _ h => h) rfl ⟨k72, k73⟩ ?_
  simp only [List.setIfInBounds_toArray, List.set_cons_zero, List.set_cons_succ]
  refine one_ready 7 (by kernel_rfl) ?_
  refine opd_skip 24 rfl rfl rfl ⟨⟨k72, k73⟩, ?_⟩
  simp only [List.setIfInBounds_toArray, List.set_cons_zero, List.set_cons_succ]
  refine one_ready 9 (by kernel_rfl) ?_
  refine opd_skip 26 rfl rfl rfl ⟨⟨k72, k73⟩, ?_⟩
  simp only [List.setIfInBounds_toArray, List.set_cons_zero, List.set_cons_succ]
  refine skip_at 10 27 rfl rfl (by kernel_rfl) (by kernel_rfl) (by kernel_rfl) (fun _ _ _ h => h) rfl ⟨k72, k73⟩ ?_
  simp only [List.setIfInBounds_toArray, List.set_cons_zero, List.set_cons_succ]
  refine Sym.take_at 11 28 (.bool true) rfl rfl (by kernel_rfl) (by kernel_rfl) (by kernel_rfl) (fun _ _ _ h => h) (wanted_none rfl) (fun _ hw => run_pick rfl rfl rfl) ⟨k72, k73⟩ ?_
  simp only [List.setIfInBounds_toArray, List.set_cons_zero, List.set_cons_succ]
  refine one_ready 12 (by kernel_rfl) ?_
  refine opd rfl (wanted_none rfl) (w_value 8 (.bool true) rfl (run_as rfl rfl) ⟨⟨k72, k73⟩, ?_⟩)
  simp only [List.setIfInBounds_toArray, List.set_cons_zero, List.set_cons_succ]
  refine wpAnyH_done (by kernel_rfl) ?_ _
  go_step
  go_step
  go_step
  have k77 := k72.drew
  have k78 := k73.drew
  have k79 := k74.drew
  have k80 := k75.drew
  have hbel81 := hbel76.drew
  refine wp_region_held_drew (S := fun w' => Blk w' (w33.heap.size) (bs r) 23 ∧ Blk w' (w.heap.size) (bs a) 23 ∧ Blk w' (w13.heap.size) (bs (a * a % PP)) 23 ∧ Blk w' (w1.heap.size) (bs b) 23) (by kernel_rfl) ⟨k80, k77, k79, k78⟩ (fun _ => ?_)
  generalize w70.drew = wd82 at *
  refine one_ready 0 (by kernel_rfl) ?_
  refine opd rfl (wanted_none rfl) (w_enter 29 (.bool true) rfl (run_awake rfl) (awake_any _) (fun w83 hb84 => ?_))
  have k85 := k77.call hb84
  have k86 := k78.call hb84
  have k87 := k79.call hb84
  have k88 := k80.call hb84
  have hbel89 := bel_call hbel81 hb84
  refine ⟨⟨k88, k85, k87, k86⟩, ?_⟩
  simp only [List.setIfInBounds_toArray, List.set_cons_zero, List.set_cons_succ]
  refine Sym.take_at 1 30 (.bool true) rfl rfl (by kernel_rfl) (by kernel_rfl) (by kernel_rfl) (fun _ _ _ h => h) (wanted_none rfl) (fun _ hw => run_mv rfl rfl) ⟨k88, k85, k87, k86⟩ ?_
  simp only [List.setIfInBounds_toArray, List.set_cons_zero, List.set_cons_succ]
  refine Sym.take_at 2 31 (.bool true) rfl rfl (by kernel_rfl) (by kernel_rfl) (by kernel_rfl) (fun _ _ _ h => h) rfl (fun _ hw => run_mv rfl rfl) ⟨k88, k85, k87, k86⟩ ?_
  simp only [List.setIfInBounds_toArray, List.set_cons_zero, List.set_cons_succ]
  refine Sym.take_at 3 32 (.bool true) rfl rfl (by kernel_rfl) (by kernel_rfl) (by kernel_rfl) (fun _ _ _ h => h) (wanted_none rfl) (fun _ hw => run_pick rfl rfl rfl) ⟨k88, k85, k87, k86⟩ ?_
  simp only [List.setIfInBounds_toArray, List.set_cons_zero, List.set_cons_succ]
  refine Sym.take_at 4 33 (.bool true) rfl rfl (by kernel_rfl) (by kernel_rfl) (by kernel_rfl) (fun _ _ _ h => h) (wanted_none rfl) (fun _ hw => run_mv rfl rfl) ⟨k88, k85, k87, k86⟩ ?_
  simp only [List.setIfInBounds_toArray, List.set_cons_zero, List.set_cons_succ]
  refine Sym.take_at 5 34 (.agg (bs r)) rfl rfl (by kernel_rfl) (by kernel_rfl) (by kernel_rfl) (fun _ _ _ h => h) rfl (fun _ hw => run_row rfl rfl (hw.1) Try.underlying23 rfl (by rw [bs_sz]; exact info_b)) ⟨k88, k85, k87, k86⟩ ?_
  simp only [List.setIfInBounds_toArray, List.set_cons_zero, List.set_cons_succ]
  refine Sym.take_at 6 35 (.agg (bs a)) rfl rfl (by kernel_rfl) (by kernel_rfl) (by kernel_rfl) (fun _ _ _ h => h) rfl (fun _ hw => run_row rfl rfl (hw.2.1) Try.underlying23 rfl (by rw [bs_sz]; exact info_b)) ⟨k88, k85, k87, k86⟩ ?_
  simp only [List.setIfInBounds_toArray, List.set_cons_zero, List.set_cons_succ]
  refine one_ready 7 (by kernel_rfl) ?_
  refine opd rfl rfl (w_enter 36 (.agg (bs (a % PP))) rfl (run_Reduce rfl rfl) (reduce_any a Ha.out _) (fun w90 hb91 => ?_))
  have k92 := k85.call hb91
  have k93 := k86.call hb91
  have k94 := k87.call hb91
  have k95 := k88.call hb91
  have hbel96 := bel_call hbel89 hb91
  refine ⟨⟨k95, k92, k94, k93⟩, ?_⟩
  simp only [List.setIfInBounds_toArray, List.set_cons_zero, List.set_cons_succ]
  refine Sym.take_at 8 37 (.bool true) rfl rfl (by kernel_rfl) (by kernel_rfl) (by kernel_rfl) (fun _ _ _ h => h) rfl (fun _ hw => run_eqN r (a % PP) Hr.out (Nat.lt_trans (Nat.mod_lt _ (by decide)) pp_lt) true D1.out rfl rfl rfl) ⟨k95, k92, k94, k93⟩ ?_
  simp only [List.setIfInBounds_toArray, List.set_cons_zero, List.set_cons_succ]
  refine Sym.take_at 9 38 (.bool true) rfl rfl (by kernel_rfl) (by kernel_rfl) (by kernel_rfl) (fun _ _ _ h => h) rfl (fun _ hw => run_mv rfl rfl) ⟨k95, k92, k94, k93⟩ ?_
  simp only [List.setIfInBounds_toArray, List.set_cons_zero, List.set_cons_succ]
  refine skip_at 10 39 rfl rfl (by kernel_rfl) (by kernel_rfl) (by kernel_rfl) (fun _ _ _ h => h) rfl ⟨k95, k92, k94, k93⟩ ?_
  simp only [List.setIfInBounds_toArray, List.set_cons_zero, List.set_cons_succ]
  refine skip_at 11 40 rfl rfl (by kernel_rfl) (by kernel_rfl) (by kernel_rfl) (fun _ _ _ h => h) rfl ⟨k95, k92, k94, k93⟩ ?_
  simp only [List.setIfInBounds_toArray, List.set_cons_zero, List.set_cons_succ]
  refine one_ready 12 (by kernel_rfl) ?_
  refine opd_skip 41 rfl rfl rfl ⟨⟨k95, k92, k94, k93⟩, ?_⟩
  simp only [List.setIfInBounds_toArray, List.set_cons_zero, List.set_cons_succ]
  refine skip_at 13 42 rfl rfl (by kernel_rfl) (by kernel_rfl) (by kernel_rfl) (fun _ _ _ h => h) rfl ⟨k95, k92, k94, k93⟩ ?_
  simp only [List.setIfInBounds_toArray, List.set_cons_zero, List.set_cons_succ]
  refine Sym.take_at 14 43 (.bool true) rfl rfl (by kernel_rfl) (by kernel_rfl) (by kernel_rfl) (fun _ _ _ h => h) rfl (fun _ hw => run_pick rfl rfl rfl) ⟨k95, k92, k94, k93⟩ ?_
  simp only [List.setIfInBounds_toArray, List.set_cons_zero, List.set_cons_succ]
  refine Sym.take_at 15 44 (.bool true) rfl rfl (by kernel_rfl) (by kernel_rfl) (by kernel_rfl) (fun _ _ _ h => h) (wanted_none rfl) (fun _ hw => run_pick rfl rfl rfl) ⟨k95, k92, k94, k93⟩ ?_
  simp only [List.setIfInBounds_toArray, List.set_cons_zero, List.set_cons_succ]
  refine Sym.take_at 16 45 (.bool true) rfl rfl (by kernel_rfl) (by kernel_rfl) (by kernel_rfl) (fun _ _ _ h => h) (wanted_none rfl) (fun _ hw => run_mv rfl rfl) ⟨k95, k92, k94, k93⟩ ?_
  simp only [List.setIfInBounds_toArray, List.set_cons_zero, List.set_cons_succ]
  refine Sym.take_at 17 46 (.agg (bs (a * a % PP))) rfl rfl (by kernel_rfl) (by kernel_rfl) (by kernel_rfl) (fun _ _ _ h => h) rfl (fun _ hw => run_row rfl rfl (hw.2.2.1) Try.underlying23 rfl (by rw [bs_sz]; exact info_b)) ⟨k95, k92, k94, k93⟩ ?_
  simp only [List.setIfInBounds_toArray, List.set_cons_zero, List.set_cons_succ]
  refine Sym.take_at 18 47 (.agg (bs b)) rfl rfl (by kernel_rfl) (by kernel_rfl) (by kernel_rfl) (fun _ _ _ h => h) rfl (fun _ hw => run_row rfl rfl (hw.2.2.2) Try.underlying23 rfl (by rw [bs_sz]; exact info_b)) ⟨k95, k92, k94, k93⟩ ?_
  simp only [List.setIfInBounds_toArray, List.set_cons_zero, List.set_cons_succ]
  refine Sym.take_at 19 48 (.agg (bs b)) rfl rfl (by kernel_rfl) (by kernel_rfl) (by kernel_rfl) (fun _ _ _ h => h) rfl (fun _ hw => run_row rfl rfl (hw.2.2.2) Try.underlying23 rfl (by rw [bs_sz]; exact info_b)) ⟨k95, k92, k94, k93⟩ ?_
  simp only [List.setIfInBounds_toArray, List.set_cons_zero, List.set_cons_succ]
  refine Sym.take_at 22 51 (.bool true) rfl rfl (by kernel_rfl) (by kernel_rfl) (by kernel_rfl) (fun _ _ _ h => h) rfl (fun _ hw => run_mv rfl rfl) ⟨k95, k92, k94, k93⟩ ?_
  simp only [List.setIfInBounds_toArray, List.set_cons_zero, List.set_cons_succ]
  refine one_ready 20 (by kernel_rfl) ?_
  refine opd rfl rfl (w_enter 49 (.agg (bs (b * b % PP))) rfl (run_Mul rfl rfl rfl) (mul_any b b Hb.out Hb.out _) (fun w97 hb98 => ?_))
  have k99 := k92.call hb98
  have k100 := k93.call hb98
  have k101 := k94.call hb98
  have k102 := k95.call hb98
  have hbel103 := bel_call hbel96 hb98
  refine ⟨⟨k102, k99, k101, k100⟩, ?_⟩
  simp only [List.setIfInBounds_toArray, List.set_cons_zero, List.set_cons_succ]
  refine Sym.take_at 21 50 (.bool true) rfl rfl (by kernel_rfl) (by kernel_rfl) (by kernel_rfl) (fun _ _ _ h => h) rfl (fun _ hw => run_eqN (a * a % PP) (b * b % PP) (Nat.lt_trans (Nat.mod_lt _ (by decide)) pp_lt) (Nat.lt_trans (Nat.mod_lt _ (by decide)) pp_lt) true E1.out rfl rfl rfl) ⟨k102, k99, k101, k100⟩ ?_
  simp only [List.setIfInBounds_toArray, List.set_cons_zero, List.set_cons_succ]
  refine Sym.take_at 23 52 (.bool true) rfl rfl (by kernel_rfl) (by kernel_rfl) (by kernel_rfl) (fun _ _ _ h => h) rfl (fun _ hw => run_eqBt true true rfl rfl rfl rfl) ⟨k102, k99, k101, k100⟩ ?_
  simp only [List.setIfInBounds_toArray, List.set_cons_zero, List.set_cons_succ]
  refine Sym.take_at 24 53 (.bool true) rfl rfl (by kernel_rfl) (by kernel_rfl) (by kernel_rfl) (fun _ _ _ h => h) (wanted_none rfl) (fun _ hw => run_pick rfl rfl rfl) ⟨k102, k99, k101, k100⟩ ?_
  simp only [List.setIfInBounds_toArray, List.set_cons_zero, List.set_cons_succ]
  refine one_ready 25 (by kernel_rfl) ?_
  refine opd rfl (wanted_none rfl) (w_value 4 (.bool true) rfl (run_as rfl rfl) ⟨⟨k102, k99, k101, k100⟩, ?_⟩)
  simp only [List.setIfInBounds_toArray, List.set_cons_zero, List.set_cons_succ]
  refine wpAnyH_done (by kernel_rfl) ?_ _
  go_step
  go_step
  go_wp2
  go_ret
  exact ⟨rfl, hbel103⟩
set_option maxHeartbeats 4000000 in
set_option maxRecDepth 100000 in
theorem walk_t_f (a b r : Nat) (ha : a < MM) (hb : b < MM) (hr : r < MM) (hroot : ∀ w, Calls Try.prog 24 #[.agg (bs (a * a % PP))] w fun e w' => e = .returned (.tuple #[.agg (bs r), .bool true]) ∧ Below w.heap.size w w') (c1 : decide ((a % PP) = (b % PP)) = true) (e1 : decide ((a * a % PP) = (b * b % PP)) = true) (d1 : decide (r = (a % PP)) = false) (d2 : decide (r = ((PP - (a % PP)) % PP)) = true) (w : World) :
    Calls Try.prog 8 #[.agg (bs a), .agg (bs b)] w fun e w' => e = .returned (.bool true) ∧ Below w.heap.size w w' := by
  have Ha := Lib.hid ha
  have Hb := Lib.hid hb
  have Hr := Lib.hid hr
  clear ha hb hr
  have C1 := Lib.hid c1
  clear c1
  have E1 := Lib.hid e1
  clear e1
  have D1 := Lib.hid d1
  clear d1
  have D2 := Lib.hid d2
  clear d2
  go_enter Try.func8, Try.ntmps8
  have hbel0 := Below.refl w.heap.size w
  go_step
  go_step
  go_step
  refine lst (wanted_none rfl) (w_alloc (c := bs a) (T := 23) 2 rfl (run_box rfl rfl) (fun w1 he2 => ?_))
  have k3 := Blk.new he2
  have hg4 : w.heap.size ≤ w.heap.size := hbel0.size
  have hbel5 := bel_alloc hbel0 he2
  simp only [List.setIfInBounds_toArray, List.set_cons_zero, List.set_cons_succ]
  refine lst (wanted_none rfl) (w_alloc (c := bs b) (T := 23) 3 rfl (run_box rfl rfl) (fun w6 he7 => ?_))
  have hne9 : w.heap.size ≠ w1.heap.size := Nat.ne_of_lt k3.lt
  have k8 := k3.alloc he7
  have k10 := Blk.new he7
  have hg11 : w.heap.size ≤ w1.heap.size := hbel5.size
  have hbel12 := bel_alloc hbel5 he7
  simp only [List.setIfInBounds_toArray, List.set_cons_zero, List.set_cons_succ]
  refine lst (wanted_none rfl) (w_value 4 (.bool false) rfl (run_as rfl rfl) ?_)
  simp only [List.setIfInBounds_toArray, List.set_cons_zero, List.set_cons_succ]
  go_step
  go_step
  go_step
  go_step
  go_step
  refine lst (wanted_none rfl) (w_value 9 (.agg (bs a)) rfl (run_row rfl rfl k8 Try.underlying23 rfl (by rw [bs_sz]; exact info_b)) ?_)
  simp only [List.setIfInBounds_toArray, List.set_cons_zero, List.set_cons_succ]
  refine lst (wanted_none rfl) (w_value 10 (.agg (bs a)) rfl (run_row rfl rfl k8 Try.underlying23 rfl (by rw [bs_sz]; exact info_b)) ?_)
  simp only [List.setIfInBounds_toArray, List.set_cons_zero, List.set_cons_succ]
  refine lst (wanted_none rfl) (w_enter 11 (.agg (bs (a * a % PP))) rfl (run_Mul rfl rfl rfl) (mul_any a a Ha.out Ha.out _) (fun w13 hb14 => ?_))
  have k15 := k8.call hb14
  have k16 := k10.call hb14
  have hbel17 := bel_call hbel12 hb14
  simp only [List.setIfInBounds_toArray, List.set_cons_zero, List.set_cons_succ]
  refine lst (wanted_none rfl) (w_alloc (c := bs 0) (T := 23) 5 rfl (run_alN rfl) (fun w18 he19 => ?_))
  have hne21 : w.heap.size ≠ w13.heap.size := Nat.ne_of_lt k15.lt
  have k20 := k15.alloc he19
  have hne23 : w1.heap.size ≠ w13.heap.size := Nat.ne_of_lt k16.lt
  have k22 := k16.alloc he19
  have k24 := Blk.new he19
  have hg25 : w.heap.size ≤ w13.heap.size := hbel17.size
  have hbel26 := bel_alloc hbel17 he19
  simp only [List.setIfInBounds_toArray, List.set_cons_zero, List.set_cons_succ]
  refine lst (wanted_none rfl) (w_store 23 _ _ (w13.heap.size) (bs (a * a % PP)) rfl rfl rfl rfl k24 (by rw [bs_sz]; exact info_b) ((bs_sz _).trans (bs_sz _).symm) (bs_one _) (fun w27 he28 => ?_))
  have k29 := k20.other hne21 he28
  have k30 := k22.other hne23 he28
  have k31 := k24.set he28
  have hbel32 := bel_set hbel26 hg25 he28
  go_step
  go_step
  go_step
  go_step
  go_step
  refine lst (wanted_none rfl) (w_value 13 (.agg (bs (a * a % PP))) rfl (run_row rfl rfl k31 Try.underlying23 rfl (by rw [bs_sz]; exact info_b)) ?_)
  simp only [List.setIfInBounds_toArray, List.set_cons_zero, List.set_cons_succ]
  refine lst (wanted_none rfl) (w_enter 14 (.tuple #[.agg (bs r), .bool true]) rfl (run_Root rfl rfl) (hroot _) (fun w33 hb34 => ?_))
  have k35 := k29.call hb34
  have k36 := k30.call hb34
  have k37 := k31.call hb34
  have hbel38 := bel_call hbel32 hb34
  simp only [List.setIfInBounds_toArray, List.set_cons_zero, List.set_cons_succ]
  refine lst (wanted_none rfl) (w_value 12 (.tuple #[.agg (bs r), .bool true]) rfl (run_mv rfl rfl) ?_)
  simp only [List.setIfInBounds_toArray, List.set_cons_zero, List.set_cons_succ]
  refine lst (wanted_none rfl) (w_value 15 (.agg (bs r)) rfl (run_ex rfl rfl rfl) ?_)
  simp only [List.setIfInBounds_toArray, List.set_cons_zero, List.set_cons_succ]
  refine lst (wanted_none rfl) (w_value 16 (.bool true) rfl (run_ex rfl rfl rfl) ?_)
  simp only [List.setIfInBounds_toArray, List.set_cons_zero, List.set_cons_succ]
  refine lst (wanted_none rfl) (w_alloc (c := bs 0) (T := 23) 6 rfl (run_alN rfl) (fun w39 he40 => ?_))
  have hne42 : w.heap.size ≠ w33.heap.size := Nat.ne_of_lt k35.lt
  have k41 := k35.alloc he40
  have hne44 : w1.heap.size ≠ w33.heap.size := Nat.ne_of_lt k36.lt
  have k43 := k36.alloc he40
  have hne46 : w13.heap.size ≠ w33.heap.size := Nat.ne_of_lt k37.lt
  have k45 := k37.alloc he40
  have k47 := Blk.new he40
  have hg48 : w.heap.size ≤ w33.heap.size := hbel38.size
  have hbel49 := bel_alloc hbel38 he40
  simp only [List.setIfInBounds_toArray, List.set_cons_zero, List.set_cons_succ]
  refine lst (wanted_none rfl) (w_store 23 _ _ (w33.heap.size) (bs r) rfl rfl rfl rfl k47 (by rw [bs_sz]; exact info_b) ((bs_sz _).trans (bs_sz _).symm) (bs_one _) (fun w50 he51 => ?_))
  have k52 := k41.other hne42 he51
  have k53 := k43.other hne44 he51
  have k54 := k45.other hne46 he51
  have k55 := k47.set he51
  have hbel56 := bel_set hbel49 hg48 he51
  refine lst (wanted_none rfl) (w_value 7 (.bool true) rfl (run_as rfl rfl) ?_)
  simp only [List.setIfInBounds_toArray, List.set_cons_zero, List.set_cons_succ]
  go_step
  go_step
  go_step
  go_step
  have k57 := k52.drew
  have k58 := k53.drew
  have k59 := k54.drew
  have k60 := k55.drew
  have hbel61 := hbel56.drew
  refine wp_region_held_drew (S := fun w' => Blk w' (w.heap.size) (bs a) 23 ∧ Blk w' (w1.heap.size) (bs b) 23) (by kernel_rfl) ⟨k57, k58⟩ (fun _ => ?_)
  generalize w50.drew = wd62 at *
  refine Sym.take_at 0 17 (.agg (bs a)) rfl rfl (by kernel_rfl) (by kernel_rfl) (by kernel_rfl) (fun _ _ _ h => h) (wanted_none rfl) (fun _ hw => run_row rfl rfl (hw.1) Try.underlying23 rfl (by rw [bs_sz]; exact info_b)) ⟨k57, k58⟩ ?_
  simp only [List.setIfInBounds_toArray, List.set_cons_zero, List.set_cons_succ]
  refine Sym.take_at 2 19 (.agg (bs b)) rfl rfl (by kernel_rfl) (by kernel_rfl) (by kernel_rfl) (fun _ _ _ h => h) (wanted_none rfl) (fun _ hw => run_row rfl rfl (hw.2) Try.underlying23 rfl (by rw [bs_sz]; exact info_b)) ⟨k57, k58⟩ ?_
  simp only [List.setIfInBounds_toArray, List.set_cons_zero, List.set_cons_succ]
  refine one_ready 1 (by kernel_rfl) ?_
  refine opd rfl (wanted_none rfl) (w_enter 18 (.agg (bs (a % PP))) rfl (run_Reduce rfl rfl) (reduce_any a Ha.out _) (fun w63 hb64 => ?_))
  have k65 := k57.call hb64
  have k66 := k58.call hb64
  have k67 := k59.call hb64
  have k68 := k60.call hb64
  have hbel69 := bel_call hbel61 hb64
  refine ⟨⟨k65, k66⟩, ?_⟩
  simp only [List.setIfInBounds_toArray, List.set_cons_zero, List.set_cons_succ]
  refine one_ready 3 (by kernel_rfl) ?_
  refine opd rfl (wanted_none rfl) (w_enter 20 (.agg (bs (b % PP))) rfl (run_Reduce rfl rfl) (reduce_any b Hb.out _) (fun w70 hb71 => ?_))
  have k72 := k65.call hb71
  have k73 := k66.call hb71
  have k74 := k67.call hb71
  have k75 := k68.call hb71
  have hbel76 := bel_call hbel69 hb71
  refine ⟨⟨k72, k73⟩, ?_⟩
  simp only [List.setIfInBounds_toArray, List.set_cons_zero, List.set_cons_succ]
  refine Sym.take_at 4 21 (.bool true) rfl rfl (by kernel_rfl) (by kernel_rfl) (by kernel_rfl) (fun _ _ _ h => h) (wanted_none rfl) (fun _ hw => run_eqN (a % PP) (b % PP) (Nat.lt_trans (Nat.mod_lt _ (by decide)) pp_lt) (Nat.lt_trans (Nat.mod_lt _ (by decide)) pp_lt) true C1.out rfl rfl rfl) ⟨k72, k73⟩ ?_
  simp only [List.setIfInBounds_toArray, List.set_cons_zero, List.set_cons_succ]
  refine Sym.take_at 5 22 (.bool true) rfl rfl (by kernel_rfl) (by kernel_rfl) (by kernel_rfl) (fun _ _ _ h => h) (wanted_none rfl) (fun _ hw => run_mv rfl rfl) ⟨k72, k73⟩ ?_
  simp only [List.setIfInBounds_toArray, List.set_cons_zero, List.set_cons_succ]
  refine skip_at 6 23 rfl rfl (by kernel_rfl) (by kernel_rfl) (by kernel_rfl) (fun _ _ _ h => h) rfl ⟨k72, k73⟩ ?_
  simp only [List.setIfInBounds_toArray, List.set_cons_zero, List.set_cons_succ]
  refine skip_at 8 25 rfl rfl (by kernel_rfl) (by kernel_rfl) (by kernel_rfl) (fun _ _ _ h => h) rfl ⟨k72, k73⟩ ?_
  simp only [List.setIfInBounds_toArray, List.set_cons_zero, List.set_cons_succ]
  refine one_ready 7 (by kernel_rfl) ?_
  refine opd_skip 24 rfl rfl rfl ⟨⟨k72, k73⟩, ?_⟩
  simp only [List.setIfInBounds_toArray, List.set_cons_zero, List.set_cons_succ]
  refine one_ready 9 (by kernel_rfl) ?_
  refine opd_skip 26 rfl rfl rfl ⟨⟨k72, k73⟩, ?_⟩
  simp only [List.setIfInBounds_toArray, List.set_cons_zero, List.set_cons_succ]
  refine skip_at 10 27 rfl rfl (by kernel_rfl) (by kernel_rfl) (by kernel_rfl) (fun _ _ _ h => h) rfl ⟨k72, k73⟩ ?_
  simp only [List.setIfInBounds_toArray, List.set_cons_zero, List.set_cons_succ]
  refine Sym.take_at 11 28 (.bool true) rfl rfl (by kernel_rfl) (by kernel_rfl) (by kernel_rfl) (fun _ _ _ h => h) (wanted_none rfl) (fun _ hw => run_pick rfl rfl rfl) ⟨k72, k73⟩ ?_
  simp only [List.setIfInBounds_toArray, List.set_cons_zero, List.set_cons_succ]
  refine one_ready 12 (by kernel_rfl) ?_
  refine opd rfl (wanted_none rfl) (w_value 8 (.bool true) rfl (run_as rfl rfl) ⟨⟨k72, k73⟩, ?_⟩)
  simp only [List.setIfInBounds_toArray, List.set_cons_zero, List.set_cons_succ]
  refine wpAnyH_done (by kernel_rfl) ?_ _
  go_step
  go_step
  go_step
  have k77 := k72.drew
  have k78 := k73.drew
  have k79 := k74.drew
  have k80 := k75.drew
  have hbel81 := hbel76.drew
  refine wp_region_held_drew (S := fun w' => Blk w' (w33.heap.size) (bs r) 23 ∧ Blk w' (w.heap.size) (bs a) 23 ∧ Blk w' (w13.heap.size) (bs (a * a % PP)) 23 ∧ Blk w' (w1.heap.size) (bs b) 23) (by kernel_rfl) ⟨k80, k77, k79, k78⟩ (fun _ => ?_)
  generalize w70.drew = wd82 at *
  refine one_ready 0 (by kernel_rfl) ?_
  refine opd rfl (wanted_none rfl) (w_enter 29 (.bool true) rfl (run_awake rfl) (awake_any _) (fun w83 hb84 => ?_))
  have k85 := k77.call hb84
  have k86 := k78.call hb84
  have k87 := k79.call hb84
  have k88 := k80.call hb84
  have hbel89 := bel_call hbel81 hb84
  refine ⟨⟨k88, k85, k87, k86⟩, ?_⟩
  simp only [List.setIfInBounds_toArray, List.set_cons_zero, List.set_cons_succ]
  refine Sym.take_at 1 30 (.bool true) rfl rfl (by kernel_rfl) (by kernel_rfl) (by kernel_rfl) (fun _ _ _ h => h) (wanted_none rfl) (fun _ hw => run_mv rfl rfl) ⟨k88, k85, k87, k86⟩ ?_
  simp only [List.setIfInBounds_toArray, List.set_cons_zero, List.set_cons_succ]
  refine Sym.take_at 2 31 (.bool true) rfl rfl (by kernel_rfl) (by kernel_rfl) (by kernel_rfl) (fun _ _ _ h => h) rfl (fun _ hw => run_mv rfl rfl) ⟨k88, k85, k87, k86⟩ ?_
  simp only [List.setIfInBounds_toArray, List.set_cons_zero, List.set_cons_succ]
  refine Sym.take_at 3 32 (.bool true) rfl rfl (by kernel_rfl) (by kernel_rfl) (by kernel_rfl) (fun _ _ _ h => h) (wanted_none rfl) (fun _ hw => run_pick rfl rfl rfl) ⟨k88, k85, k87, k86⟩ ?_
  simp only [List.setIfInBounds_toArray, List.set_cons_zero, List.set_cons_succ]
  refine Sym.take_at 4 33 (.bool true) rfl rfl (by kernel_rfl) (by kernel_rfl) (by kernel_rfl) (fun _ _ _ h => h) (wanted_none rfl) (fun _ hw => run_mv rfl rfl) ⟨k88, k85, k87, k86⟩ ?_
  simp only [List.setIfInBounds_toArray, List.set_cons_zero, List.set_cons_succ]
  refine Sym.take_at 5 34 (.agg (bs r)) rfl rfl (by kernel_rfl) (by kernel_rfl) (by kernel_rfl) (fun _ _ _ h => h) rfl (fun _ hw => run_row rfl rfl (hw.1) Try.underlying23 rfl (by rw [bs_sz]; exact info_b)) ⟨k88, k85, k87, k86⟩ ?_
  simp only [List.setIfInBounds_toArray, List.set_cons_zero, List.set_cons_succ]
  refine Sym.take_at 6 35 (.agg (bs a)) rfl rfl (by kernel_rfl) (by kernel_rfl) (by kernel_rfl) (fun _ _ _ h => h) rfl (fun _ hw => run_row rfl rfl (hw.2.1) Try.underlying23 rfl (by rw [bs_sz]; exact info_b)) ⟨k88, k85, k87, k86⟩ ?_
  simp only [List.setIfInBounds_toArray, List.set_cons_zero, List.set_cons_succ]
  refine one_ready 7 (by kernel_rfl) ?_
  refine opd rfl rfl (w_enter 36 (.agg (bs (a % PP))) rfl (run_Reduce rfl rfl) (reduce_any a Ha.out _) (fun w90 hb91 => ?_))
  have k92 := k85.call hb91
  have k93 := k86.call hb91
  have k94 := k87.call hb91
  have k95 := k88.call hb91
  have hbel96 := bel_call hbel89 hb91
  refine ⟨⟨k95, k92, k94, k93⟩, ?_⟩
  simp only [List.setIfInBounds_toArray, List.set_cons_zero, List.set_cons_succ]
  refine Sym.take_at 8 37 (.bool false) rfl rfl (by kernel_rfl) (by kernel_rfl) (by kernel_rfl) (fun _ _ _ h => h) rfl (fun _ hw => run_eqN r (a % PP) Hr.out (Nat.lt_trans (Nat.mod_lt _ (by decide)) pp_lt) false D1.out rfl rfl rfl) ⟨k95, k92, k94, k93⟩ ?_
  simp only [List.setIfInBounds_toArray, List.set_cons_zero, List.set_cons_succ]
  refine Sym.take_at 9 38 (.bool false) rfl rfl (by kernel_rfl) (by kernel_rfl) (by kernel_rfl) (fun _ _ _ h => h) rfl (fun _ hw => run_mv rfl rfl) ⟨k95, k92, k94, k93⟩ ?_
  simp only [List.setIfInBounds_toArray, List.set_cons_zero, List.set_cons_succ]
  refine Sym.take_at 10 39 (.agg (bs r)) rfl rfl (by kernel_rfl) (by kernel_rfl) (by kernel_rfl) (fun _ _ _ h => h) rfl (fun _ hw => run_row rfl rfl (hw.1) Try.underlying23 rfl (by rw [bs_sz]; exact info_b)) ⟨k95, k92, k94, k93⟩ ?_
  simp only [List.setIfInBounds_toArray, List.set_cons_zero, List.set_cons_succ]
  refine Sym.take_at 11 40 (.agg (bs a)) rfl rfl (by kernel_rfl) (by kernel_rfl) (by kernel_rfl) (fun _ _ _ h => h) rfl (fun _ hw => run_row rfl rfl (hw.2.1) Try.underlying23 rfl (by rw [bs_sz]; exact info_b)) ⟨k95, k92, k94, k93⟩ ?_
  simp only [List.setIfInBounds_toArray, List.set_cons_zero, List.set_cons_succ]
  refine one_ready 12 (by kernel_rfl) ?_
  refine opd rfl rfl (w_enter 41 (.agg (bs ((PP - (a % PP)) % PP))) rfl (run_Neg rfl rfl) (neg_any a Ha.out _) (fun w97 hb98 => ?_))
  have k99 := k92.call hb98
  have k100 := k93.call hb98
  have k101 := k94.call hb98
  have k102 := k95.call hb98
  have hbel103 := bel_call hbel96 hb98
  refine ⟨⟨k102, k99, k101, k100⟩, ?_⟩
  simp only [List.setIfInBounds_toArray, List.set_cons_zero, List.set_cons_succ]
  refine Sym.take_at 13 42 (.bool true) rfl rfl (by kernel_rfl) (by kernel_rfl) (by kernel_rfl) (fun _ _ _ h => h) rfl (fun _ hw => run_eqN r ((PP - (a % PP)) % PP) Hr.out (Nat.lt_trans (Nat.mod_lt _ (by decide)) pp_lt) true D2.out rfl rfl rfl) ⟨k102, k99, k101, k100⟩ ?_
  simp only [List.setIfInBounds_toArray, List.set_cons_zero, List.set_cons_succ]
  refine Sym.take_at 14 43 (.bool true) rfl rfl (by kernel_rfl) (by kernel_rfl) (by kernel_rfl) (fun _ _ _ h => h) rfl (fun _ hw => run_pickf rfl rfl rfl) ⟨k102, k99, k101, k100⟩ ?_
  simp only [List.setIfInBounds_toArray, List.set_cons_zero, List.set_cons_succ]
  refine Sym.take_at 15 44 (.bool true) rfl rfl (by kernel_rfl) (by kernel_rfl) (by kernel_rfl) (fun _ _ _ h => h) (wanted_none rfl) (fun _ hw => run_pick rfl rfl rfl) ⟨k102, k99, k101, k100⟩ ?_
  simp only [List.setIfInBounds_toArray, List.set_cons_zero, List.set_cons_succ]
  refine Sym.take_at 16 45 (.bool true) rfl rfl (by kernel_rfl) (by kernel_rfl) (by kernel_rfl) (fun _ _ _ h => h) (wanted_none rfl) (fun _ hw => run_mv rfl rfl) ⟨k102, k99, k101, k100⟩ ?_
  simp only [List.setIfInBounds_toArray, List.set_cons_zero, List.set_cons_succ]
  refine Sym.take_at 17 46 (.agg (bs (a * a % PP))) rfl rfl (by kernel_rfl) (by kernel_rfl) (by kernel_rfl) (fun _ _ _ h => h) rfl (fun _ hw => run_row rfl rfl (hw.2.2.1) Try.underlying23 rfl (by rw [bs_sz]; exact info_b)) ⟨k102, k99, k101, k100⟩ ?_
  simp only [List.setIfInBounds_toArray, List.set_cons_zero, List.set_cons_succ]
  refine Sym.take_at 18 47 (.agg (bs b)) rfl rfl (by kernel_rfl) (by kernel_rfl) (by kernel_rfl) (fun _ _ _ h => h) rfl (fun _ hw => run_row rfl rfl (hw.2.2.2) Try.underlying23 rfl (by rw [bs_sz]; exact info_b)) ⟨k102, k99, k101, k100⟩ ?_
  simp only [List.setIfInBounds_toArray, List.set_cons_zero, List.set_cons_succ]
  refine Sym.take_at 19 48 (.agg (bs b)) rfl rfl (by kernel_rfl) (by kernel_rfl) (by kernel_rfl) (fun _ _ _ h => h) rfl (fun _ hw => run_row rfl rfl (hw.2.2.2) Try.underlying23 rfl (by rw [bs_sz]; exact info_b)) ⟨k102, k99, k101, k100⟩ ?_
  simp only [List.setIfInBounds_toArray, List.set_cons_zero, List.set_cons_succ]
  refine Sym.take_at 22 51 (.bool true) rfl rfl (by kernel_rfl) (by kernel_rfl) (by kernel_rfl) (fun _ _ _ h => h) rfl (fun _ hw => run_mv rfl rfl) ⟨k102, k99, k101, k100⟩ ?_
  simp only [List.setIfInBounds_toArray, List.set_cons_zero, List.set_cons_succ]
  refine one_ready 20 (by kernel_rfl) ?_
  refine opd rfl rfl (w_enter 49 (.agg (bs (b * b % PP))) rfl (run_Mul rfl rfl rfl) (mul_any b b Hb.out Hb.out _) (fun w104 hb105 => ?_))
  have k106 := k99.call hb105
  have k107 := k100.call hb105
  have k108 := k101.call hb105
  have k109 := k102.call hb105
  have hbel110 := bel_call hbel103 hb105
  refine ⟨⟨k109, k106, k108, k107⟩, ?_⟩
  simp only [List.setIfInBounds_toArray, List.set_cons_zero, List.set_cons_succ]
  refine Sym.take_at 21 50 (.bool true) rfl rfl (by kernel_rfl) (by kernel_rfl) (by kernel_rfl) (fun _ _ _ h => h) rfl (fun _ hw => run_eqN (a * a % PP) (b * b % PP) (Nat.lt_trans (Nat.mod_lt _ (by decide)) pp_lt) (Nat.lt_trans (Nat.mod_lt _ (by decide)) pp_lt) true E1.out rfl rfl rfl) ⟨k109, k106, k108, k107⟩ ?_
  simp only [List.setIfInBounds_toArray, List.set_cons_zero, List.set_cons_succ]
  refine Sym.take_at 23 52 (.bool true) rfl rfl (by kernel_rfl) (by kernel_rfl) (by kernel_rfl) (fun _ _ _ h => h) rfl (fun _ hw => run_eqBt true true rfl rfl rfl rfl) ⟨k109, k106, k108, k107⟩ ?_
  simp only [List.setIfInBounds_toArray, List.set_cons_zero, List.set_cons_succ]
  refine Sym.take_at 24 53 (.bool true) rfl rfl (by kernel_rfl) (by kernel_rfl) (by kernel_rfl) (fun _ _ _ h => h) (wanted_none rfl) (fun _ hw => run_pick rfl rfl rfl) ⟨k109, k106, k108, k107⟩ ?_
  simp only [List.setIfInBounds_toArray, List.set_cons_zero, List.set_cons_succ]
  refine one_ready 25 (by kernel_rfl) ?_
  refine opd rfl (wanted_none rfl) (w_value 4 (.bool true) rfl (run_as rfl rfl) ⟨⟨k109, k106, k108, k107⟩, ?_⟩)
  simp only [List.setIfInBounds_toArray, List.set_cons_zero, List.set_cons_succ]
  refine wpAnyH_done (by kernel_rfl) ?_ _
  go_step
  go_step
  go_wp2
  go_ret
  exact ⟨rfl, hbel110⟩
set_option maxHeartbeats 4000000 in
set_option maxRecDepth 100000 in
theorem walk_ft_t (a b r : Nat) (ha : a < MM) (hb : b < MM) (hr : r < MM) (hroot : ∀ w, Calls Try.prog 24 #[.agg (bs (a * a % PP))] w fun e w' => e = .returned (.tuple #[.agg (bs r), .bool true]) ∧ Below w.heap.size w w') (c1 : decide ((a % PP) = (b % PP)) = false) (c2 : decide ((a % PP) = ((PP - (b % PP)) % PP)) = true) (e1 : decide ((a * a % PP) = (b * b % PP)) = true) (d1 : decide (r = (a % PP)) = true) (w : World) :
    Calls Try.prog 8 #[.agg (bs a), .agg (bs b)] w fun e w' => e = .returned (.bool true) ∧ Below w.heap.size w w' := by
  have Ha := Lib.hid ha
  have Hb := Lib.hid hb
  have Hr := Lib.hid hr
  clear ha hb hr
  have C1 := Lib.hid c1
  clear c1
  have C2 := Lib.hid c2
  clear c2
  have E1 := Lib.hid e1
  clear e1
  have D1 := Lib.hid d1
  clear d1
  go_enter Try.func8, Try.ntmps8
  have hbel0 := Below.refl w.heap.size w
  go_step
  go_step
  go_step
  refine lst (wanted_none rfl) (w_alloc (c := bs a) (T := 23) 2 rfl (run_box rfl rfl) (fun w1 he2 => ?_))
  have k3 := Blk.new he2
  have hg4 : w.heap.size ≤ w.heap.size := hbel0.size
  have hbel5 := bel_alloc hbel0 he2
  simp only [List.setIfInBounds_toArray, List.set_cons_zero, List.set_cons_succ]
  refine lst (wanted_none rfl) (w_alloc (c := bs b) (T := 23) 3 rfl (run_box rfl rfl) (fun w6 he7 => ?_))
  have hne9 : w.heap.size ≠ w1.heap.size := Nat.ne_of_lt k3.lt
  have k8 := k3.alloc he7
  have k10 := Blk.new he7
  have hg11 : w.heap.size ≤ w1.heap.size := hbel5.size
  have hbel12 := bel_alloc hbel5 he7
  simp only [List.setIfInBounds_toArray, List.set_cons_zero, List.set_cons_succ]
  refine lst (wanted_none rfl) (w_value 4 (.bool false) rfl (run_as rfl rfl) ?_)
  simp only [List.setIfInBounds_toArray, List.set_cons_zero, List.set_cons_succ]
  go_step
  go_step
  go_step
  go_step
  go_step
  refine lst (wanted_none rfl) (w_value 9 (.agg (bs a)) rfl (run_row rfl rfl k8 Try.underlying23 rfl (by rw [bs_sz]; exact info_b)) ?_)
  simp only [List.setIfInBounds_toArray, List.set_cons_zero, List.set_cons_succ]
  refine lst (wanted_none rfl) (w_value 10 (.agg (bs a)) rfl (run_row rfl rfl k8 Try.underlying23 rfl (by rw [bs_sz]; exact info_b)) ?_)
  simp only [List.setIfInBounds_toArray, List.set_cons_zero, List.set_cons_succ]
  refine lst (wanted_none rfl) (w_enter 11 (.agg (bs (a * a % PP))) rfl (run_Mul rfl rfl rfl) (mul_any a a Ha.out Ha.out _) (fun w13 hb14 => ?_))
  have k15 := k8.call hb14
  have k16 := k10.call hb14
  have hbel17 := bel_call hbel12 hb14
  simp only [List.setIfInBounds_toArray, List.set_cons_zero, List.set_cons_succ]
  refine lst (wanted_none rfl) (w_alloc (c := bs 0) (T := 23) 5 rfl (run_alN rfl) (fun w18 he19 => ?_))
  have hne21 : w.heap.size ≠ w13.heap.size := Nat.ne_of_lt k15.lt
  have k20 := k15.alloc he19
  have hne23 : w1.heap.size ≠ w13.heap.size := Nat.ne_of_lt k16.lt
  have k22 := k16.alloc he19
  have k24 := Blk.new he19
  have hg25 : w.heap.size ≤ w13.heap.size := hbel17.size
  have hbel26 := bel_alloc hbel17 he19
  simp only [List.setIfInBounds_toArray, List.set_cons_zero, List.set_cons_succ]
  refine lst (wanted_none rfl) (w_store 23 _ _ (w13.heap.size) (bs (a * a % PP)) rfl rfl rfl rfl k24 (by rw [bs_sz]; exact info_b) ((bs_sz _).trans (bs_sz _).symm) (bs_one _) (fun w27 he28 => ?_))
  have k29 := k20.other hne21 he28
  have k30 := k22.other hne23 he28
  have k31 := k24.set he28
  have hbel32 := bel_set hbel26 hg25 he28
  go_step
  go_step
  go_step
  go_step
  go_step
  refine lst (wanted_none rfl) (w_value 13 (.agg (bs (a * a % PP))) rfl (run_row rfl rfl k31 Try.underlying23 rfl (by rw [bs_sz]; exact info_b)) ?_)
  simp only [List.setIfInBounds_toArray, List.set_cons_zero, List.set_cons_succ]
  refine lst (wanted_none rfl) (w_enter 14 (.tuple #[.agg (bs r), .bool true]) rfl (run_Root rfl rfl) (hroot _) (fun w33 hb34 => ?_))
  have k35 := k29.call hb34
  have k36 := k30.call hb34
  have k37 := k31.call hb34
  have hbel38 := bel_call hbel32 hb34
  simp only [List.setIfInBounds_toArray, List.set_cons_zero, List.set_cons_succ]
  refine lst (wanted_none rfl) (w_value 12 (.tuple #[.agg (bs r), .bool true]) rfl (run_mv rfl rfl) ?_)
  simp only [List.setIfInBounds_toArray, List.set_cons_zero, List.set_cons_succ]
  refine lst (wanted_none rfl) (w_value 15 (.agg (bs r)) rfl (run_ex rfl rfl rfl) ?_)
  simp only [List.setIfInBounds_toArray, List.set_cons_zero, List.set_cons_succ]
  refine lst (wanted_none rfl) (w_value 16 (.bool true) rfl (run_ex rfl rfl rfl) ?_)
  simp only [List.setIfInBounds_toArray, List.set_cons_zero, List.set_cons_succ]
  refine lst (wanted_none rfl) (w_alloc (c := bs 0) (T := 23) 6 rfl (run_alN rfl) (fun w39 he40 => ?_))
  have hne42 : w.heap.size ≠ w33.heap.size := Nat.ne_of_lt k35.lt
  have k41 := k35.alloc he40
  have hne44 : w1.heap.size ≠ w33.heap.size := Nat.ne_of_lt k36.lt
  have k43 := k36.alloc he40
  have hne46 : w13.heap.size ≠ w33.heap.size := Nat.ne_of_lt k37.lt
  have k45 := k37.alloc he40
  have k47 := Blk.new he40
  have hg48 : w.heap.size ≤ w33.heap.size := hbel38.size
  have hbel49 := bel_alloc hbel38 he40
  simp only [List.setIfInBounds_toArray, List.set_cons_zero, List.set_cons_succ]
  refine lst (wanted_none rfl) (w_store 23 _ _ (w33.heap.size) (bs r) rfl rfl rfl rfl k47 (by rw [bs_sz]; exact info_b) ((bs_sz _).trans (bs_sz _).symm) (bs_one _) (fun w50 he51 => ?_))
  have k52 := k41.other hne42 he51
  have k53 := k43.other hne44 he51
  have k54 := k45.other hne46 he51
  have k55 := k47.set he51
  have hbel56 := bel_set hbel49 hg48 he51
  refine lst (wanted_none rfl) (w_value 7 (.bool true) rfl (run_as rfl rfl) ?_)
  simp only [List.setIfInBounds_toArray, List.set_cons_zero, List.set_cons_succ]
  go_step
  go_step
  go_step
  go_step
  have k57 := k52.drew
  have k58 := k53.drew
  have k59 := k54.drew
  have k60 := k55.drew
  have hbel61 := hbel56.drew
  refine wp_region_held_drew (S := fun w' => Blk w' (w.heap.size) (bs a) 23 ∧ Blk w' (w1.heap.size) (bs b) 23) (by kernel_rfl) ⟨k57, k58⟩ (fun _ => ?_)
  generalize w50.drew = wd62 at *
  refine Sym.take_at 0 17 (.agg (bs a)) rfl rfl (by kernel_rfl) (by kernel_rfl) (by kernel_rfl) (fun _ _ _ h => h) (wanted_none rfl) (fun _ hw => run_row rfl rfl (hw.1) Try.underlying23 rfl (by rw [bs_sz]; exact info_b)) ⟨k57, k58⟩ ?_
  simp only [List.setIfInBounds_toArray, List.set_cons_zero, List.set_cons_succ]
  refine Sym.take_at 2 19 (.agg (bs b)) rfl rfl (by kernel_rfl) (by kernel_rfl) (by kernel_rfl) (fun _ _ _ h => h) (wanted_none rfl) (fun _ hw => run_row rfl rfl (hw.2) Try.underlying23 rfl (by rw [bs_sz]; exact info_b)) ⟨k57, k58⟩ ?_
  simp only [List.setIfInBounds_toArray, List.set_cons_zero, List.set_cons_succ]
  refine one_ready 1 (by kernel_rfl) ?_
  refine opd rfl (wanted_none rfl) (w_enter 18 (.agg (bs (a % PP))) rfl (run_Reduce rfl rfl) (reduce_any a Ha.out _) (fun w63 hb64 => ?_))
  have k65 := k57.call hb64
  have k66 := k58.call hb64
  have k67 := k59.call hb64
  have k68 := k60.call hb64
  have hbel69 := bel_call hbel61 hb64
  refine ⟨⟨k65, k66⟩, ?_⟩
  simp only [List.setIfInBounds_toArray, List.set_cons_zero, List.set_cons_succ]
  refine one_ready 3 (by kernel_rfl) ?_
  refine opd rfl (wanted_none rfl) (w_enter 20 (.agg (bs (b % PP))) rfl (run_Reduce rfl rfl) (reduce_any b Hb.out _) (fun w70 hb71 => ?_))
  have k72 := k65.call hb71
  have k73 := k66.call hb71
  have k74 := k67.call hb71
  have k75 := k68.call hb71
  have hbel76 := bel_call hbel69 hb71
  refine ⟨⟨k72, k73⟩, ?_⟩
  simp only [List.setIfInBounds_toArray, List.set_cons_zero, List.set_cons_succ]
  refine Sym.take_at 4 21 (.bool false) rfl rfl (by kernel_rfl) (by kernel_rfl) (by kernel_rfl) (fun _ _ _ h => h) (wanted_none rfl) (fun _ hw => run_eqN (a % PP) (b % PP) (Nat.lt_trans (Nat.mod_lt _ (by decide)) pp_lt) (Nat.lt_trans (Nat.mod_lt _ (by decide)) pp_lt) false C1.out rfl rfl rfl) ⟨k72, k73⟩ ?_
  simp only [List.setIfInBounds_toArray, List.set_cons_zero, List.set_cons_succ]
  refine Sym.take_at 5 22 (.bool false) rfl rfl (by kernel_rfl) (by kernel_rfl) (by kernel_rfl) (fun _ _ _ h => h) (wanted_none rfl) (fun _ hw => run_mv rfl rfl) ⟨k72, k73⟩ ?_
  simp only [List.setIfInBounds_toArray, List.set_cons_zero, List.set_cons_succ]
  refine Sym.take_at 6 23 (.agg (bs a)) rfl rfl (by kernel_rfl) (by kernel_rfl) (by kernel_rfl) (fun _ _ _ h => h) rfl (fun _ hw => run_row rfl rfl (hw.1) Try.underlying23 rfl (by rw [bs_sz]; exact info_b)) ⟨k72, k73⟩ ?_
  simp only [List.setIfInBounds_toArray, List.set_cons_zero, List.set_cons_succ]
  refine Sym.take_at 8 25 (.agg (bs b)) rfl rfl (by kernel_rfl) (by kernel_rfl) (by kernel_rfl) (fun _ _ _ h => h) rfl (fun _ hw => run_row rfl rfl (hw.2) Try.underlying23 rfl (by rw [bs_sz]; exact info_b)) ⟨k72, k73⟩ ?_
  simp only [List.setIfInBounds_toArray, List.set_cons_zero, List.set_cons_succ]
  refine one_ready 7 (by kernel_rfl) ?_
  refine opd rfl rfl (w_enter 24 (.agg (bs (a % PP))) rfl (run_Reduce rfl rfl) (reduce_any a Ha.out _) (fun w77 hb78 => ?_))
  have k79 := k72.call hb78
  have k80 := k73.call hb78
  have k81 := k74.call hb78
  have k82 := k75.call hb78
  have hbel83 := bel_call hbel76 hb78
  refine ⟨⟨k79, k80⟩, ?_⟩
  simp only [List.setIfInBounds_toArray, List.set_cons_zero, List.set_cons_succ]
  refine one_ready 9 (by kernel_rfl) ?_
  refine opd rfl rfl (w_enter 26 (.agg (bs ((PP - (b % PP)) % PP))) rfl (run_Neg rfl rfl) (neg_any b Hb.out _) (fun w84 hb85 => ?_))
  have k86 := k79.call hb85
  have k87 := k80.call hb85
  have k88 := k81.call hb85
  have k89 := k82.call hb85
  have hbel90 := bel_call hbel83 hb85
  refine ⟨⟨k86, k87⟩, ?_⟩
  simp only [List.setIfInBounds_toArray, List.set_cons_zero, List.set_cons_succ]
  refine Sym.take_at 10 27 (.bool true) rfl rfl (by kernel_rfl) (by kernel_rfl) (by kernel_rfl) (fun _ _ _ h => h) rfl (fun _ hw => run_eqN (a % PP) ((PP - (b % PP)) % PP) (Nat.lt_trans (Nat.mod_lt _ (by decide)) pp_lt) (Nat.lt_trans (Nat.mod_lt _ (by decide)) pp_lt) true C2.out rfl rfl rfl) ⟨k86, k87⟩ ?_
  simp only [List.setIfInBounds_toArray, List.set_cons_zero, List.set_cons_succ]
  refine Sym.take_at 11 28 (.bool true) rfl rfl (by kernel_rfl) (by kernel_rfl) (by kernel_rfl) (fun _ _ _ h => h) (wanted_none rfl) (fun _ hw => run_pickf rfl rfl rfl) ⟨k86, k87⟩ ?_
  simp only [List.setIfInBounds_toArray, List.set_cons_zero, List.set_cons_succ]
  refine one_ready 12 (by kernel_rfl) ?_
  refine opd rfl (wanted_none rfl) (w_value 8 (.bool true) rfl (run_as rfl rfl) ⟨⟨k86, k87⟩, ?_⟩)
  simp only [List.setIfInBounds_toArray, List.set_cons_zero, List.set_cons_succ]
  refine wpAnyH_done (by kernel_rfl) ?_ _
  go_step
  go_step
  go_step
  have k91 := k86.drew
  have k92 := k87.drew
  have k93 := k88.drew
  have k94 := k89.drew
  have hbel95 := hbel90.drew
  refine wp_region_held_drew (S := fun w' => Blk w' (w33.heap.size) (bs r) 23 ∧ Blk w' (w.heap.size) (bs a) 23 ∧ Blk w' (w13.heap.size) (bs (a * a % PP)) 23 ∧ Blk w' (w1.heap.size) (bs b) 23) (by kernel_rfl) ⟨k94, k91, k93, k92⟩ (fun _ => ?_)
  generalize w84.drew = wd96 at *
  refine one_ready 0 (by kernel_rfl) ?_
  refine opd rfl (wanted_none rfl) (w_enter 29 (.bool true) rfl (run_awake rfl) (awake_any _) (fun w97 hb98 => ?_))
  have k99 := k91.call hb98
  have k100 := k92.call hb98
  have k101 := k93.call hb98
  have k102 := k94.call hb98
  have hbel103 := bel_call hbel95 hb98
  refine ⟨⟨k102, k99, k101, k100⟩, ?_⟩
  simp only [List.setIfInBounds_toArray, List.set_cons_zero, List.set_cons_succ]
  refine Sym.take_at 1 30 (.bool true) rfl rfl (by kernel_rfl) (by kernel_rfl) (by kernel_rfl) (fun _ _ _ h => h) (wanted_none rfl) (fun _ hw => run_mv rfl rfl) ⟨k102, k99, k101, k100⟩ ?_
  simp only [List.setIfInBounds_toArray, List.set_cons_zero, List.set_cons_succ]
  refine Sym.take_at 2 31 (.bool true) rfl rfl (by kernel_rfl) (by kernel_rfl) (by kernel_rfl) (fun _ _ _ h => h) rfl (fun _ hw => run_mv rfl rfl) ⟨k102, k99, k101, k100⟩ ?_
  simp only [List.setIfInBounds_toArray, List.set_cons_zero, List.set_cons_succ]
  refine Sym.take_at 3 32 (.bool true) rfl rfl (by kernel_rfl) (by kernel_rfl) (by kernel_rfl) (fun _ _ _ h => h) (wanted_none rfl) (fun _ hw => run_pick rfl rfl rfl) ⟨k102, k99, k101, k100⟩ ?_
  simp only [List.setIfInBounds_toArray, List.set_cons_zero, List.set_cons_succ]
  refine Sym.take_at 4 33 (.bool true) rfl rfl (by kernel_rfl) (by kernel_rfl) (by kernel_rfl) (fun _ _ _ h => h) (wanted_none rfl) (fun _ hw => run_mv rfl rfl) ⟨k102, k99, k101, k100⟩ ?_
  simp only [List.setIfInBounds_toArray, List.set_cons_zero, List.set_cons_succ]
  refine Sym.take_at 5 34 (.agg (bs r)) rfl rfl (by kernel_rfl) (by kernel_rfl) (by kernel_rfl) (fun _ _ _ h => h) rfl (fun _ hw => run_row rfl rfl (hw.1) Try.underlying23 rfl (by rw [bs_sz]; exact info_b)) ⟨k102, k99, k101, k100⟩ ?_
  simp only [List.setIfInBounds_toArray, List.set_cons_zero, List.set_cons_succ]
  refine Sym.take_at 6 35 (.agg (bs a)) rfl rfl (by kernel_rfl) (by kernel_rfl) (by kernel_rfl) (fun _ _ _ h => h) rfl (fun _ hw => run_row rfl rfl (hw.2.1) Try.underlying23 rfl (by rw [bs_sz]; exact info_b)) ⟨k102, k99, k101, k100⟩ ?_
  simp only [List.setIfInBounds_toArray, List.set_cons_zero, List.set_cons_succ]
  refine one_ready 7 (by kernel_rfl) ?_
  refine opd rfl rfl (w_enter 36 (.agg (bs (a % PP))) rfl (run_Reduce rfl rfl) (reduce_any a Ha.out _) (fun w104 hb105 => ?_))
  have k106 := k99.call hb105
  have k107 := k100.call hb105
  have k108 := k101.call hb105
  have k109 := k102.call hb105
  have hbel110 := bel_call hbel103 hb105
  refine ⟨⟨k109, k106, k108, k107⟩, ?_⟩
  simp only [List.setIfInBounds_toArray, List.set_cons_zero, List.set_cons_succ]
  refine Sym.take_at 8 37 (.bool true) rfl rfl (by kernel_rfl) (by kernel_rfl) (by kernel_rfl) (fun _ _ _ h => h) rfl (fun _ hw => run_eqN r (a % PP) Hr.out (Nat.lt_trans (Nat.mod_lt _ (by decide)) pp_lt) true D1.out rfl rfl rfl) ⟨k109, k106, k108, k107⟩ ?_
  simp only [List.setIfInBounds_toArray, List.set_cons_zero, List.set_cons_succ]
  refine Sym.take_at 9 38 (.bool true) rfl rfl (by kernel_rfl) (by kernel_rfl) (by kernel_rfl) (fun _ _ _ h => h) rfl (fun _ hw => run_mv rfl rfl) ⟨k109, k106, k108, k107⟩ ?_
  simp only [List.setIfInBounds_toArray, List.set_cons_zero, List.set_cons_succ]
  refine skip_at 10 39 rfl rfl (by kernel_rfl) (by kernel_rfl) (by kernel_rfl) (fun _ _ _ h => h) rfl ⟨k109, k106, k108, k107⟩ ?_
  simp only [List.setIfInBounds_toArray, List.set_cons_zero, List.set_cons_succ]
  refine skip_at 11 40 rfl rfl (by kernel_rfl) (by kernel_rfl) (by kernel_rfl) (fun _ _ _ h => h) rfl ⟨k109, k106, k108, k107⟩ ?_
  simp only [List.setIfInBounds_toArray, List.set_cons_zero, List.set_cons_succ]
  refine one_ready 12 (by kernel_rfl) ?_
  refine opd_skip 41 rfl rfl rfl ⟨⟨k109, k106, k108, k107⟩, ?_⟩
  simp only [List.setIfInBounds_toArray, List.set_cons_zero, List.set_cons_succ]
  refine skip_at 13 42 rfl rfl (by kernel_rfl) (by kernel_rfl) (by kernel_rfl) (fun _ _ _ h => h) rfl ⟨k109, k106, k108, k107⟩ ?_
  simp only [List.setIfInBounds_toArray, List.set_cons_zero, List.set_cons_succ]
  refine Sym.take_at 14 43 (.bool true) rfl rfl (by kernel_rfl) (by kernel_rfl) (by kernel_rfl) (fun _ _ _ h => h) rfl (fun _ hw => run_pick rfl rfl rfl) ⟨k109, k106, k108, k107⟩ ?_
  simp only [List.setIfInBounds_toArray, List.set_cons_zero, List.set_cons_succ]
  refine Sym.take_at 15 44 (.bool true) rfl rfl (by kernel_rfl) (by kernel_rfl) (by kernel_rfl) (fun _ _ _ h => h) (wanted_none rfl) (fun _ hw => run_pick rfl rfl rfl) ⟨k109, k106, k108, k107⟩ ?_
  simp only [List.setIfInBounds_toArray, List.set_cons_zero, List.set_cons_succ]
  refine Sym.take_at 16 45 (.bool true) rfl rfl (by kernel_rfl) (by kernel_rfl) (by kernel_rfl) (fun _ _ _ h => h) (wanted_none rfl) (fun _ hw => run_mv rfl rfl) ⟨k109, k106, k108, k107⟩ ?_
  simp only [List.setIfInBounds_toArray, List.set_cons_zero, List.set_cons_succ]
  refine Sym.take_at 17 46 (.agg (bs (a * a % PP))) rfl rfl (by kernel_rfl) (by kernel_rfl) (by kernel_rfl) (fun _ _ _ h => h) rfl (fun _ hw => run_row rfl rfl (hw.2.2.1) Try.underlying23 rfl (by rw [bs_sz]; exact info_b)) ⟨k109, k106, k108, k107⟩ ?_
  simp only [List.setIfInBounds_toArray, List.set_cons_zero, List.set_cons_succ]
  refine Sym.take_at 18 47 (.agg (bs b)) rfl rfl (by kernel_rfl) (by kernel_rfl) (by kernel_rfl) (fun _ _ _ h => h) rfl (fun _ hw => run_row rfl rfl (hw.2.2.2) Try.underlying23 rfl (by rw [bs_sz]; exact info_b)) ⟨k109, k106, k108, k107⟩ ?_
  simp only [List.setIfInBounds_toArray, List.set_cons_zero, List.set_cons_succ]
  refine Sym.take_at 19 48 (.agg (bs b)) rfl rfl (by kernel_rfl) (by kernel_rfl) (by kernel_rfl) (fun _ _ _ h => h) rfl (fun _ hw => run_row rfl rfl (hw.2.2.2) Try.underlying23 rfl (by rw [bs_sz]; exact info_b)) ⟨k109, k106, k108, k107⟩ ?_
  simp only [List.setIfInBounds_toArray, List.set_cons_zero, List.set_cons_succ]
  refine Sym.take_at 22 51 (.bool true) rfl rfl (by kernel_rfl) (by kernel_rfl) (by kernel_rfl) (fun _ _ _ h => h) rfl (fun _ hw => run_mv rfl rfl) ⟨k109, k106, k108, k107⟩ ?_
  simp only [List.setIfInBounds_toArray, List.set_cons_zero, List.set_cons_succ]
  refine one_ready 20 (by kernel_rfl) ?_
  refine opd rfl rfl (w_enter 49 (.agg (bs (b * b % PP))) rfl (run_Mul rfl rfl rfl) (mul_any b b Hb.out Hb.out _) (fun w111 hb112 => ?_))
  have k113 := k106.call hb112
  have k114 := k107.call hb112
  have k115 := k108.call hb112
  have k116 := k109.call hb112
  have hbel117 := bel_call hbel110 hb112
  refine ⟨⟨k116, k113, k115, k114⟩, ?_⟩
  simp only [List.setIfInBounds_toArray, List.set_cons_zero, List.set_cons_succ]
  refine Sym.take_at 21 50 (.bool true) rfl rfl (by kernel_rfl) (by kernel_rfl) (by kernel_rfl) (fun _ _ _ h => h) rfl (fun _ hw => run_eqN (a * a % PP) (b * b % PP) (Nat.lt_trans (Nat.mod_lt _ (by decide)) pp_lt) (Nat.lt_trans (Nat.mod_lt _ (by decide)) pp_lt) true E1.out rfl rfl rfl) ⟨k116, k113, k115, k114⟩ ?_
  simp only [List.setIfInBounds_toArray, List.set_cons_zero, List.set_cons_succ]
  refine Sym.take_at 23 52 (.bool true) rfl rfl (by kernel_rfl) (by kernel_rfl) (by kernel_rfl) (fun _ _ _ h => h) rfl (fun _ hw => run_eqBt true true rfl rfl rfl rfl) ⟨k116, k113, k115, k114⟩ ?_
  simp only [List.setIfInBounds_toArray, List.set_cons_zero, List.set_cons_succ]
  refine Sym.take_at 24 53 (.bool true) rfl rfl (by kernel_rfl) (by kernel_rfl) (by kernel_rfl) (fun _ _ _ h => h) (wanted_none rfl) (fun _ hw => run_pick rfl rfl rfl) ⟨k116, k113, k115, k114⟩ ?_
  simp only [List.setIfInBounds_toArray, List.set_cons_zero, List.set_cons_succ]
  refine one_ready 25 (by kernel_rfl) ?_
  refine opd rfl (wanted_none rfl) (w_value 4 (.bool true) rfl (run_as rfl rfl) ⟨⟨k116, k113, k115, k114⟩, ?_⟩)
  simp only [List.setIfInBounds_toArray, List.set_cons_zero, List.set_cons_succ]
  refine wpAnyH_done (by kernel_rfl) ?_ _
  go_step
  go_step
  go_wp2
  go_ret
  exact ⟨rfl, hbel117⟩
set_option maxHeartbeats 4000000 in
set_option maxRecDepth 100000 in
theorem walk_ft_f (a b r : Nat) (ha : a < MM) (hb : b < MM) (hr : r < MM) (hroot : ∀ w, Calls Try.prog 24 #[.agg (bs (a * a % PP))] w fun e w' => e = .returned (.tuple #[.agg (bs r), .bool true]) ∧ Below w.heap.size w w') (c1 : decide ((a % PP) = (b % PP)) = false) (c2 : decide ((a % PP) = ((PP - (b % PP)) % PP)) = true) (e1 : decide ((a * a % PP) = (b * b % PP)) = true) (d1 : decide (r = (a % PP)) = false) (d2 : decide (r = ((PP - (a % PP)) % PP)) = true) (w : World) :
    Calls Try.prog 8 #[.agg (bs a), .agg (bs b)] w fun e w' => e = .returned (.bool true) ∧ Below w.heap.size w w' := by
  have Ha := Lib.hid ha
  have Hb := Lib.hid hb
  have Hr := Lib.hid hr
  clear ha hb hr
  have C1 := Lib.hid c1
  clear c1
  have C2 := Lib.hid c2
  clear c2
  have E1 := Lib.hid e1
  clear e1
  have D1 := Lib.hid d1
  clear d1
  have D2 := Lib.hid d2
  clear d2
  go_enter Try.func8, Try.ntmps8
  have hbel0 := Below.refl w.heap.size w
  go_step
  go_step
  go_step
  refine lst (wanted_none rfl) (w_alloc (c := bs a) (T := 23) 2 rfl (run_box rfl rfl) (fun w1 he2 => ?_))
  have k3 := Blk.new he2
  have hg4 : w.heap.size ≤ w.heap.size := hbel0.size
  have hbel5 := bel_alloc hbel0 he2
  simp only [List.setIfInBounds_toArray, List.set_cons_zero, List.set_cons_succ]
  refine lst (wanted_none rfl) (w_alloc (c := bs b) (T := 23) 3 rfl (run_box rfl rfl) (fun w6 he7 => ?_))
  have hne9 : w.heap.size ≠ w1.heap.size := Nat.ne_of_lt k3.lt
  have k8 := k3.alloc he7
  have k10 := Blk.new he7
  have hg11 : w.heap.size ≤ w1.heap.size := hbel5.size
  have hbel12 := bel_alloc hbel5 he7
  simp only [List.setIfInBounds_toArray, List.set_cons_zero, List.set_cons_succ]
  refine lst (wanted_none rfl) (w_value 4 (.bool false) rfl (run_as rfl rfl) ?_)
  simp only [List.setIfInBounds_toArray, List.set_cons_zero, List.set_cons_succ]
  go_step
  go_step
  go_step
  go_step
  go_step
  refine lst (wanted_none rfl) (w_value 9 (.agg (bs a)) rfl (run_row rfl rfl k8 Try.underlying23 rfl (by rw [bs_sz]; exact info_b)) ?_)
  simp only [List.setIfInBounds_toArray, List.set_cons_zero, List.set_cons_succ]
  refine lst (wanted_none rfl) (w_value 10 (.agg (bs a)) rfl (run_row rfl rfl k8 Try.underlying23 rfl (by rw [bs_sz]; exact info_b)) ?_)
  simp only [List.setIfInBounds_toArray, List.set_cons_zero, List.set_cons_succ]
  refine lst (wanted_none rfl) (w_enter 11 (.agg (bs (a * a % PP))) rfl (run_Mul rfl rfl rfl) (mul_any a a Ha.out Ha.out _) (fun w13 hb14 => ?_))
  have k15 := k8.call hb14
  have k16 := k10.call hb14
  have hbel17 := bel_call hbel12 hb14
  simp only [List.setIfInBounds_toArray, List.set_cons_zero, List.set_cons_succ]
  refine lst (wanted_none rfl) (w_alloc (c := bs 0) (T := 23) 5 rfl (run_alN rfl) (fun w18 he19 => ?_))
  have hne21 : w.heap.size ≠ w13.heap.size := Nat.ne_of_lt k15.lt
  have k20 := k15.alloc he19
  have hne23 : w1.heap.size ≠ w13.heap.size := Nat.ne_of_lt k16.lt
  have k22 := k16.alloc he19
  have k24 := Blk.new he19
  have hg25 : w.heap.size ≤ w13.heap.size := hbel17.size
  have hbel26 := bel_alloc hbel17 he19
  simp only [List.setIfInBounds_toArray, List.set_cons_zero, List.set_cons_succ]
  refine lst (wanted_none rfl) (w_store 23 _ _ (w13.heap.size) (bs (a * a % PP)) rfl rfl rfl rfl k24 (by rw [bs_sz]; exact info_b) ((bs_sz _).trans (bs_sz _).symm) (bs_one _) (fun w27 he28 => ?_))
  have k29 := k20.other hne21 he28
  have k30 := k22.other hne23 he28
  have k31 := k24.set he28
  have hbel32 := bel_set hbel26 hg25 he28
  go_step
  go_step
  go_step
  go_step
  go_step
  refine lst (wanted_none rfl) (w_value 13 (.agg (bs (a * a % PP))) rfl (run_row rfl rfl k31 Try.underlying23 rfl (by rw [bs_sz]; exact info_b)) ?_)
  simp only [List.setIfInBounds_toArray, List.set_cons_zero, List.set_cons_succ]
  refine lst (wanted_none rfl) (w_enter 14 (.tuple #[.agg (bs r), .bool true]) rfl (run_Root rfl rfl) (hroot _) (fun w33 hb34 => ?_))
  have k35 := k29.call hb34
  have k36 := k30.call hb34
  have k37 := k31.call hb34
  have hbel38 := bel_call hbel32 hb34
  simp only [List.setIfInBounds_toArray, List.set_cons_zero, List.set_cons_succ]
  refine lst (wanted_none rfl) (w_value 12 (.tuple #[.agg (bs r), .bool true]) rfl (run_mv rfl rfl) ?_)
  simp only [List.setIfInBounds_toArray, List.set_cons_zero, List.set_cons_succ]
  refine lst (wanted_none rfl) (w_value 15 (.agg (bs r)) rfl (run_ex rfl rfl rfl) ?_)
  simp only [List.setIfInBounds_toArray, List.set_cons_zero, List.set_cons_succ]
  refine lst (wanted_none rfl) (w_value 16 (.bool true) rfl (run_ex rfl rfl rfl) ?_)
  simp only [List.setIfInBounds_toArray, List.set_cons_zero, List.set_cons_succ]
  refine lst (wanted_none rfl) (w_alloc (c := bs 0) (T := 23) 6 rfl (run_alN rfl) (fun w39 he40 => ?_))
  have hne42 : w.heap.size ≠ w33.heap.size := Nat.ne_of_lt k35.lt
  have k41 := k35.alloc he40
  have hne44 : w1.heap.size ≠ w33.heap.size := Nat.ne_of_lt k36.lt
  have k43 := k36.alloc he40
  have hne46 : w13.heap.size ≠ w33.heap.size := Nat.ne_of_lt k37.lt
  have k45 := k37.alloc he40
  have k47 := Blk.new he40
  have hg48 : w.heap.size ≤ w33.heap.size := hbel38.size
  have hbel49 := bel_alloc hbel38 he40
  simp only [List.setIfInBounds_toArray, List.set_cons_zero, List.set_cons_succ]
  refine lst (wanted_none rfl) (w_store 23 _ _ (w33.heap.size) (bs r) rfl rfl rfl rfl k47 (by rw [bs_sz]; exact info_b) ((bs_sz _).trans (bs_sz _).symm) (bs_one _) (fun w50 he51 => ?_))
  have k52 := k41.other hne42 he51
  have k53 := k43.other hne44 he51
  have k54 := k45.other hne46 he51
  have k55 := k47.set he51
  have hbel56 := bel_set hbel49 hg48 he51
  refine lst (wanted_none rfl) (w_value 7 (.bool true) rfl (run_as rfl rfl) ?_)
  simp only [List.setIfInBounds_toArray, List.set_cons_zero, List.set_cons_succ]
  go_step
  go_step
  go_step
  go_step
  have k57 := k52.drew
  have k58 := k53.drew
  have k59 := k54.drew
  have k60 := k55.drew
  have hbel61 := hbel56.drew
  refine wp_region_held_drew (S := fun w' => Blk w' (w.heap.size) (bs a) 23 ∧ Blk w' (w1.heap.size) (bs b) 23) (by kernel_rfl) ⟨k57, k58⟩ (fun _ => ?_)
  generalize w50.drew = wd62 at *
  refine Sym.take_at 0 17 (.agg (bs a)) rfl rfl (by kernel_rfl) (by kernel_rfl) (by kernel_rfl) (fun _ _ _ h => h) (wanted_none rfl) (fun _ hw => run_row rfl rfl (hw.1) Try.underlying23 rfl (by rw [bs_sz]; exact info_b)) ⟨k57, k58⟩ ?_
  simp only [List.setIfInBounds_toArray, List.set_cons_zero, List.set_cons_succ]
  refine Sym.take_at 2 19 (.agg (bs b)) rfl rfl (by kernel_rfl) (by kernel_rfl) (by kernel_rfl) (fun _ _ _ h => h) (wanted_none rfl) (fun _ hw => run_row rfl rfl (hw.2) Try.underlying23 rfl (by rw [bs_sz]; exact info_b)) ⟨k57, k58⟩ ?_
  simp only [List.setIfInBounds_toArray, List.set_cons_zero, List.set_cons_succ]
  refine one_ready 1 (by kernel_rfl) ?_
  refine opd rfl (wanted_none rfl) (w_enter 18 (.agg (bs (a % PP))) rfl (run_Reduce rfl rfl) (reduce_any a Ha.out _) (fun w63 hb64 => ?_))
  have k65 := k57.call hb64
  have k66 := k58.call hb64
  have k67 := k59.call hb64
  have k68 := k60.call hb64
  have hbel69 := bel_call hbel61 hb64
  refine ⟨⟨k65, k66⟩, ?_⟩
  simp only [List.setIfInBounds_toArray, List.set_cons_zero, List.set_cons_succ]
  refine one_ready 3 (by kernel_rfl) ?_
  refine opd rfl (wanted_none rfl) (w_enter 20 (.agg (bs (b % PP))) rfl (run_Reduce rfl rfl) (reduce_any b Hb.out _) (fun w70 hb71 => ?_))
  have k72 := k65.call hb71
  have k73 := k66.call hb71
  have k74 := k67.call hb71
  have k75 := k68.call hb71
  have hbel76 := bel_call hbel69 hb71
  refine ⟨⟨k72, k73⟩, ?_⟩
  simp only [List.setIfInBounds_toArray, List.set_cons_zero, List.set_cons_succ]
  refine Sym.take_at 4 21 (.bool false) rfl rfl (by kernel_rfl) (by kernel_rfl) (by kernel_rfl) (fun _ _ _ h => h) (wanted_none rfl) (fun _ hw => run_eqN (a % PP) (b % PP) (Nat.lt_trans (Nat.mod_lt _ (by decide)) pp_lt) (Nat.lt_trans (Nat.mod_lt _ (by decide)) pp_lt) false C1.out rfl rfl rfl) ⟨k72, k73⟩ ?_
  simp only [List.setIfInBounds_toArray, List.set_cons_zero, List.set_cons_succ]
  refine Sym.take_at 5 22 (.bool false) rfl rfl (by kernel_rfl) (by kernel_rfl) (by kernel_rfl) (fun _ _ _ h => h) (wanted_none rfl) (fun _ hw => run_mv rfl rfl) ⟨k72, k73⟩ ?_
  simp only [List.setIfInBounds_toArray, List.set_cons_zero, List.set_cons_succ]
  refine Sym.take_at 6 23 (.agg (bs a)) rfl rfl (by kernel_rfl) (by kernel_rfl) (by kernel_rfl) (fun _ _ _ h => h) rfl (fun _ hw => run_row rfl rfl (hw.1) Try.underlying23 rfl (by rw [bs_sz]; exact info_b)) ⟨k72, k73⟩ ?_
  simp only [List.setIfInBounds_toArray, List.set_cons_zero, List.set_cons_succ]
  refine Sym.take_at 8 25 (.agg (bs b)) rfl rfl (by kernel_rfl) (by kernel_rfl) (by kernel_rfl) (fun _ _ _ h => h) rfl (fun _ hw => run_row rfl rfl (hw.2) Try.underlying23 rfl (by rw [bs_sz]; exact info_b)) ⟨k72, k73⟩ ?_
  simp only [List.setIfInBounds_toArray, List.set_cons_zero, List.set_cons_succ]
  refine one_ready 7 (by kernel_rfl) ?_
  refine opd rfl rfl (w_enter 24 (.agg (bs (a % PP))) rfl (run_Reduce rfl rfl) (reduce_any a Ha.out _) (fun w77 hb78 => ?_))
  have k79 := k72.call hb78
  have k80 := k73.call hb78
  have k81 := k74.call hb78
  have k82 := k75.call hb78
  have hbel83 := bel_call hbel76 hb78
  refine ⟨⟨k79, k80⟩, ?_⟩
  simp only [List.setIfInBounds_toArray, List.set_cons_zero, List.set_cons_succ]
  refine one_ready 9 (by kernel_rfl) ?_
  refine opd rfl rfl (w_enter 26 (.agg (bs ((PP - (b % PP)) % PP))) rfl (run_Neg rfl rfl) (neg_any b Hb.out _) (fun w84 hb85 => ?_))
  have k86 := k79.call hb85
  have k87 := k80.call hb85
  have k88 := k81.call hb85
  have k89 := k82.call hb85
  have hbel90 := bel_call hbel83 hb85
  refine ⟨⟨k86, k87⟩, ?_⟩
  simp only [List.setIfInBounds_toArray, List.set_cons_zero, List.set_cons_succ]
  refine Sym.take_at 10 27 (.bool true) rfl rfl (by kernel_rfl) (by kernel_rfl) (by kernel_rfl) (fun _ _ _ h => h) rfl (fun _ hw => run_eqN (a % PP) ((PP - (b % PP)) % PP) (Nat.lt_trans (Nat.mod_lt _ (by decide)) pp_lt) (Nat.lt_trans (Nat.mod_lt _ (by decide)) pp_lt) true C2.out rfl rfl rfl) ⟨k86, k87⟩ ?_
  simp only [List.setIfInBounds_toArray, List.set_cons_zero, List.set_cons_succ]
  refine Sym.take_at 11 28 (.bool true) rfl rfl (by kernel_rfl) (by kernel_rfl) (by kernel_rfl) (fun _ _ _ h => h) (wanted_none rfl) (fun _ hw => run_pickf rfl rfl rfl) ⟨k86, k87⟩ ?_
  simp only [List.setIfInBounds_toArray, List.set_cons_zero, List.set_cons_succ]
  refine one_ready 12 (by kernel_rfl) ?_
  refine opd rfl (wanted_none rfl) (w_value 8 (.bool true) rfl (run_as rfl rfl) ⟨⟨k86, k87⟩, ?_⟩)
  simp only [List.setIfInBounds_toArray, List.set_cons_zero, List.set_cons_succ]
  refine wpAnyH_done (by kernel_rfl) ?_ _
  go_step
  go_step
  go_step
  have k91 := k86.drew
  have k92 := k87.drew
  have k93 := k88.drew
  have k94 := k89.drew
  have hbel95 := hbel90.drew
  refine wp_region_held_drew (S := fun w' => Blk w' (w33.heap.size) (bs r) 23 ∧ Blk w' (w.heap.size) (bs a) 23 ∧ Blk w' (w13.heap.size) (bs (a * a % PP)) 23 ∧ Blk w' (w1.heap.size) (bs b) 23) (by kernel_rfl) ⟨k94, k91, k93, k92⟩ (fun _ => ?_)
  generalize w84.drew = wd96 at *
  refine one_ready 0 (by kernel_rfl) ?_
  refine opd rfl (wanted_none rfl) (w_enter 29 (.bool true) rfl (run_awake rfl) (awake_any _) (fun w97 hb98 => ?_))
  have k99 := k91.call hb98
  have k100 := k92.call hb98
  have k101 := k93.call hb98
  have k102 := k94.call hb98
  have hbel103 := bel_call hbel95 hb98
  refine ⟨⟨k102, k99, k101, k100⟩, ?_⟩
  simp only [List.setIfInBounds_toArray, List.set_cons_zero, List.set_cons_succ]
  refine Sym.take_at 1 30 (.bool true) rfl rfl (by kernel_rfl) (by kernel_rfl) (by kernel_rfl) (fun _ _ _ h => h) (wanted_none rfl) (fun _ hw => run_mv rfl rfl) ⟨k102, k99, k101, k100⟩ ?_
  simp only [List.setIfInBounds_toArray, List.set_cons_zero, List.set_cons_succ]
  refine Sym.take_at 2 31 (.bool true) rfl rfl (by kernel_rfl) (by kernel_rfl) (by kernel_rfl) (fun _ _ _ h => h) rfl (fun _ hw => run_mv rfl rfl) ⟨k102, k99, k101, k100⟩ ?_
  simp only [List.setIfInBounds_toArray, List.set_cons_zero, List.set_cons_succ]
  refine Sym.take_at 3 32 (.bool true) rfl rfl (by kernel_rfl) (by kernel_rfl) (by kernel_rfl) (fun _ _ _ h => h) (wanted_none rfl) (fun _ hw => run_pick rfl rfl rfl) ⟨k102, k99, k101, k100⟩ ?_
  simp only [List.setIfInBounds_toArray, List.set_cons_zero, List.set_cons_succ]
  refine Sym.take_at 4 33 (.bool true) rfl rfl (by kernel_rfl) (by kernel_rfl) (by kernel_rfl) (fun _ _ _ h => h) (wanted_none rfl) (fun _ hw => run_mv rfl rfl) ⟨k102, k99, k101, k100⟩ ?_
  simp only [List.setIfInBounds_toArray, List.set_cons_zero, List.set_cons_succ]
  refine Sym.take_at 5 34 (.agg (bs r)) rfl rfl (by kernel_rfl) (by kernel_rfl) (by kernel_rfl) (fun _ _ _ h => h) rfl (fun _ hw => run_row rfl rfl (hw.1) Try.underlying23 rfl (by rw [bs_sz]; exact info_b)) ⟨k102, k99, k101, k100⟩ ?_
  simp only [List.setIfInBounds_toArray, List.set_cons_zero, List.set_cons_succ]
  refine Sym.take_at 6 35 (.agg (bs a)) rfl rfl (by kernel_rfl) (by kernel_rfl) (by kernel_rfl) (fun _ _ _ h => h) rfl (fun _ hw => run_row rfl rfl (hw.2.1) Try.underlying23 rfl (by rw [bs_sz]; exact info_b)) ⟨k102, k99, k101, k100⟩ ?_
  simp only [List.setIfInBounds_toArray, List.set_cons_zero, List.set_cons_succ]
  refine one_ready 7 (by kernel_rfl) ?_
  refine opd rfl rfl (w_enter 36 (.agg (bs (a % PP))) rfl (run_Reduce rfl rfl) (reduce_any a Ha.out _) (fun w104 hb105 => ?_))
  have k106 := k99.call hb105
  have k107 := k100.call hb105
  have k108 := k101.call hb105
  have k109 := k102.call hb105
  have hbel110 := bel_call hbel103 hb105
  refine ⟨⟨k109, k106, k108, k107⟩, ?_⟩
  simp only [List.setIfInBounds_toArray, List.set_cons_zero, List.set_cons_succ]
  refine Sym.take_at 8 37 (.bool false) rfl rfl (by kernel_rfl) (by kernel_rfl) (by kernel_rfl) (fun _ _ _ h => h) rfl (fun _ hw => run_eqN r (a % PP) Hr.out (Nat.lt_trans (Nat.mod_lt _ (by decide)) pp_lt) false D1.out rfl rfl rfl) ⟨k109, k106, k108, k107⟩ ?_
  simp only [List.setIfInBounds_toArray, List.set_cons_zero, List.set_cons_succ]
  refine Sym.take_at 9 38 (.bool false) rfl rfl (by kernel_rfl) (by kernel_rfl) (by kernel_rfl) (fun _ _ _ h => h) rfl (fun _ hw => run_mv rfl rfl) ⟨k109, k106, k108, k107⟩ ?_
  simp only [List.setIfInBounds_toArray, List.set_cons_zero, List.set_cons_succ]
  refine Sym.take_at 10 39 (.agg (bs r)) rfl rfl (by kernel_rfl) (by kernel_rfl) (by kernel_rfl) (fun _ _ _ h => h) rfl (fun _ hw => run_row rfl rfl (hw.1) Try.underlying23 rfl (by rw [bs_sz]; exact info_b)) ⟨k109, k106, k108, k107⟩ ?_
  simp only [List.setIfInBounds_toArray, List.set_cons_zero, List.set_cons_succ]
  refine Sym.take_at 11 40 (.agg (bs a)) rfl rfl (by kernel_rfl) (by kernel_rfl) (by kernel_rfl) (fun _ _ _ h => h) rfl (fun _ hw => run_row rfl rfl (hw.2.1) Try.underlying23 rfl (by rw [bs_sz]; exact info_b)) ⟨k109, k106, k108, k107⟩ ?_
  simp only [List.setIfInBounds_toArray, List.set_cons_zero, List.set_cons_succ]
  refine one_ready 12 (by kernel_rfl) ?_
  refine opd rfl rfl (w_enter 41 (.agg (bs ((PP - (a % PP)) % PP))) rfl (run_Neg rfl rfl) (neg_any a Ha.out _) (fun w111 hb112 => ?_))
  have k113 := k106.call hb112
  have k114 := k107.call hb112
  have k115 := k108.call hb112
  have k116 := k109.call hb112
  have hbel117 := bel_call hbel110 hb112
  refine ⟨⟨k116, k113, k115, k114⟩, ?_⟩
  simp only [List.setIfInBounds_toArray, List.set_cons_zero, List.set_cons_succ]
  refine Sym.take_at 13 42 (.bool true) rfl rfl (by kernel_rfl) (by kernel_rfl) (by kernel_rfl) (fun _ _ _ h => h) rfl (fun _ hw => run_eqN r ((PP - (a % PP)) % PP) Hr.out (Nat.lt_trans (Nat.mod_lt _ (by decide)) pp_lt) true D2.out rfl rfl rfl) ⟨k116, k113, k115, k114⟩ ?_
  simp only [List.setIfInBounds_toArray, List.set_cons_zero, List.set_cons_succ]
  refine Sym.take_at 14 43 (.bool true) rfl rfl (by kernel_rfl) (by kernel_rfl) (by kernel_rfl) (fun _ _ _ h => h) rfl (fun _ hw => run_pickf rfl rfl rfl) ⟨k116, k113, k115, k114⟩ ?_
  simp only [List.setIfInBounds_toArray, List.set_cons_zero, List.set_cons_succ]
  refine Sym.take_at 15 44 (.bool true) rfl rfl (by kernel_rfl) (by kernel_rfl) (by kernel_rfl) (fun _ _ _ h => h) (wanted_none rfl) (fun _ hw => run_pick rfl rfl rfl) ⟨k116, k113, k115, k114⟩ ?_
  simp only [List.setIfInBounds_toArray, List.set_cons_zero, List.set_cons_succ]
  refine Sym.take_at 16 45 (.bool true) rfl rfl (by kernel_rfl) (by kernel_rfl) (by kernel_rfl) (fun _ _ _ h => h) (wanted_none rfl) (fun _ hw => run_mv rfl rfl) ⟨k116, k113, k115, k114⟩ ?_
  simp only [List.setIfInBounds_toArray, List.set_cons_zero, List.set_cons_succ]
  refine Sym.take_at 17 46 (.agg (bs (a * a % PP))) rfl rfl (by kernel_rfl) (by kernel_rfl) (by kernel_rfl) (fun _ _ _ h => h) rfl (fun _ hw => run_row rfl rfl (hw.2.2.1) Try.underlying23 rfl (by rw [bs_sz]; exact info_b)) ⟨k116, k113, k115, k114⟩ ?_
  simp only [List.setIfInBounds_toArray, List.set_cons_zero, List.set_cons_succ]
  refine Sym.take_at 18 47 (.agg (bs b)) rfl rfl (by kernel_rfl) (by kernel_rfl) (by kernel_rfl) (fun _ _ _ h => h) rfl (fun _ hw => run_row rfl rfl (hw.2.2.2) Try.underlying23 rfl (by rw [bs_sz]; exact info_b)) ⟨k116, k113, k115, k114⟩ ?_
  simp only [List.setIfInBounds_toArray, List.set_cons_zero, List.set_cons_succ]
  refine Sym.take_at 19 48 (.agg (bs b)) rfl rfl (by kernel_rfl) (by kernel_rfl) (by kernel_rfl) (fun _ _ _ h => h) rfl (fun _ hw => run_row rfl rfl (hw.2.2.2) Try.underlying23 rfl (by rw [bs_sz]; exact info_b)) ⟨k116, k113, k115, k114⟩ ?_
  simp only [List.setIfInBounds_toArray, List.set_cons_zero, List.set_cons_succ]
  refine Sym.take_at 22 51 (.bool true) rfl rfl (by kernel_rfl) (by kernel_rfl) (by kernel_rfl) (fun _ _ _ h => h) rfl (fun _ hw => run_mv rfl rfl) ⟨k116, k113, k115, k114⟩ ?_
  simp only [List.setIfInBounds_toArray, List.set_cons_zero, List.set_cons_succ]
  refine one_ready 20 (by kernel_rfl) ?_
  refine opd rfl rfl (w_enter 49 (.agg (bs (b * b % PP))) rfl (run_Mul rfl rfl rfl) (mul_any b b Hb.out Hb.out _) (fun w118 hb119 => ?_))
  have k120 := k113.call hb119
  have k121 := k114.call hb119
  have k122 := k115.call hb119
  have k123 := k116.call hb119
  have hbel124 := bel_call hbel117 hb119
  refine ⟨⟨k123, k120, k122, k121⟩, ?_⟩
  simp only [List.setIfInBounds_toArray, List.set_cons_zero, List.set_cons_succ]
  refine Sym.take_at 21 50 (.bool true) rfl rfl (by kernel_rfl) (by kernel_rfl) (by kernel_rfl) (fun _ _ _ h => h) rfl (fun _ hw => run_eqN (a * a % PP) (b * b % PP) (Nat.lt_trans (Nat.mod_lt _ (by decide)) pp_lt) (Nat.lt_trans (Nat.mod_lt _ (by decide)) pp_lt) true E1.out rfl rfl rfl) ⟨k123, k120, k122, k121⟩ ?_
  simp only [List.setIfInBounds_toArray, List.set_cons_zero, List.set_cons_succ]
  refine Sym.take_at 23 52 (.bool true) rfl rfl (by kernel_rfl) (by kernel_rfl) (by kernel_rfl) (fun _ _ _ h => h) rfl (fun _ hw => run_eqBt true true rfl rfl rfl rfl) ⟨k123, k120, k122, k121⟩ ?_
  simp only [List.setIfInBounds_toArray, List.set_cons_zero, List.set_cons_succ]
  refine Sym.take_at 24 53 (.bool true) rfl rfl (by kernel_rfl) (by kernel_rfl) (by kernel_rfl) (fun _ _ _ h => h) (wanted_none rfl) (fun _ hw => run_pick rfl rfl rfl) ⟨k123, k120, k122, k121⟩ ?_
  simp only [List.setIfInBounds_toArray, List.set_cons_zero, List.set_cons_succ]
  refine one_ready 25 (by kernel_rfl) ?_
  refine opd rfl (wanted_none rfl) (w_value 4 (.bool true) rfl (run_as rfl rfl) ⟨⟨k123, k120, k122, k121⟩, ?_⟩)
  simp only [List.setIfInBounds_toArray, List.set_cons_zero, List.set_cons_succ]
  refine wpAnyH_done (by kernel_rfl) ?_ _
  go_step
  go_step
  go_wp2
  go_ret
  exact ⟨rfl, hbel124⟩
set_option maxHeartbeats 4000000 in
set_option maxRecDepth 100000 in
theorem walk_ff_t (a b r : Nat) (ha : a < MM) (hb : b < MM) (hr : r < MM) (hroot : ∀ w, Calls Try.prog 24 #[.agg (bs (a * a % PP))] w fun e w' => e = .returned (.tuple #[.agg (bs r), .bool true]) ∧ Below w.heap.size w w') (c1 : decide ((a % PP) = (b % PP)) = false) (c2 : decide ((a % PP) = ((PP - (b % PP)) % PP)) = false) (e1 : decide ((a * a % PP) = (b * b % PP)) = false) (d1 : decide (r = (a % PP)) = true) (w : World) :
    Calls Try.prog 8 #[.agg (bs a), .agg (bs b)] w fun e w' => e = .returned (.bool true) ∧ Below w.heap.size w w' := by
  have Ha := Lib.hid ha
  have Hb := Lib.hid hb
  have Hr := Lib.hid hr
  clear ha hb hr
  have C1 := Lib.hid c1
  clear c1
  have C2 := Lib.hid c2
  clear c2
  have E1 := Lib.hid e1
  clear e1
  have D1 := Lib.hid d1
  clear d1
  go_enter Try.func8, Try.ntmps8
  have hbel0 := Below.refl w.heap.size w
  go_step
  go_step
  go_step
  refine lst (wanted_none rfl) (w_alloc (c := bs a) (T := 23) 2 rfl (run_box rfl rfl) (fun w1 he2 => ?_))
  have k3 := Blk.new he2
  have hg4 : w.heap.size ≤ w.heap.size := hbel0.size
  have hbel5 := bel_alloc hbel0 he2
  simp only [List.setIfInBounds_toArray, List.set_cons_zero, List.set_cons_succ]
  refine lst (wanted_none rfl) (w_alloc (c := bs b) (T := 23) 3 rfl (run_box rfl rfl) (fun w6 he7 => ?_))
  have hne9 : w.heap.size ≠ w1.heap.size := Nat.ne_of_lt k3.lt
  have k8 := k3.alloc he7
  have k10 := Blk.new he7
  have hg11 : w.heap.size ≤ w1.heap.size := hbel5.size
  have hbel12 := bel_alloc hbel5 he7
  simp only [List.setIfInBounds_toArray, List.set_cons_zero, List.set_cons_succ]
  refine lst (wanted_none rfl) (w_value 4 (.bool false) rfl (run_as rfl rfl) ?_)
  simp only [List.setIfInBounds_toArray, List.set_cons_zero, List.set_cons_succ]
  go_step
  go_step
  go_step
  go_step
  go_step
  refine lst (wanted_none rfl) (w_value 9 (.agg (bs a)) rfl (run_row rfl rfl k8 Try.underlying23 rfl (by rw [bs_sz]; exact info_b)) ?_)
  simp only [List.setIfInBounds_toArray, List.set_cons_zero, List.set_cons_succ]
  refine lst (wanted_none rfl) (w_value 10 (.agg (bs a)) rfl (run_row rfl rfl k8 Try.underlying23 rfl (by rw [bs_sz]; exact info_b)) ?_)
  simp only [List.setIfInBounds_toArray, List.set_cons_zero, List.set_cons_succ]
  refine lst (wanted_none rfl) (w_enter 11 (.agg (bs (a * a % PP))) rfl (run_Mul rfl rfl rfl) (mul_any a a Ha.out Ha.out _) (fun w13 hb14 => ?_))
  have k15 := k8.call hb14
  have k16 := k10.call hb14
  have hbel17 := bel_call hbel12 hb14
  simp only [List.setIfInBounds_toArray, List.set_cons_zero, List.set_cons_succ]
  refine lst (wanted_none rfl) (w_alloc (c := bs 0) (T := 23) 5 rfl (run_alN rfl) (fun w18 he19 => ?_))
  have hne21 : w.heap.size ≠ w13.heap.size := Nat.ne_of_lt k15.lt
  have k20 := k15.alloc he19
  have hne23 : w1.heap.size ≠ w13.heap.size := Nat.ne_of_lt k16.lt
  have k22 := k16.alloc he19
  have k24 := Blk.new he19
  have hg25 : w.heap.size ≤ w13.heap.size := hbel17.size
  have hbel26 := bel_alloc hbel17 he19
  simp only [List.setIfInBounds_toArray, List.set_cons_zero, List.set_cons_succ]
  refine lst (wanted_none rfl) (w_store 23 _ _ (w13.heap.size) (bs (a * a % PP)) rfl rfl rfl rfl k24 (by rw [bs_sz]; exact info_b) ((bs_sz _).trans (bs_sz _).symm) (bs_one _) (fun w27 he28 => ?_))
  have k29 := k20.other hne21 he28
  have k30 := k22.other hne23 he28
  have k31 := k24.set he28
  have hbel32 := bel_set hbel26 hg25 he28
  go_step
  go_step
  go_step
  go_step
  go_step
  refine lst (wanted_none rfl) (w_value 13 (.agg (bs (a * a % PP))) rfl (run_row rfl rfl k31 Try.underlying23 rfl (by rw [bs_sz]; exact info_b)) ?_)
  simp only [List.setIfInBounds_toArray, List.set_cons_zero, List.set_cons_succ]
  refine lst (wanted_none rfl) (w_enter 14 (.tuple #[.agg (bs r), .bool true]) rfl (run_Root rfl rfl) (hroot _) (fun w33 hb34 => ?_))
  have k35 := k29.call hb34
  have k36 := k30.call hb34
  have k37 := k31.call hb34
  have hbel38 := bel_call hbel32 hb34
  simp only [List.setIfInBounds_toArray, List.set_cons_zero, List.set_cons_succ]
  refine lst (wanted_none rfl) (w_value 12 (.tuple #[.agg (bs r), .bool true]) rfl (run_mv rfl rfl) ?_)
  simp only [List.setIfInBounds_toArray, List.set_cons_zero, List.set_cons_succ]
  refine lst (wanted_none rfl) (w_value 15 (.agg (bs r)) rfl (run_ex rfl rfl rfl) ?_)
  simp only [List.setIfInBounds_toArray, List.set_cons_zero, List.set_cons_succ]
  refine lst (wanted_none rfl) (w_value 16 (.bool true) rfl (run_ex rfl rfl rfl) ?_)
  simp only [List.setIfInBounds_toArray, List.set_cons_zero, List.set_cons_succ]
  refine lst (wanted_none rfl) (w_alloc (c := bs 0) (T := 23) 6 rfl (run_alN rfl) (fun w39 he40 => ?_))
  have hne42 : w.heap.size ≠ w33.heap.size := Nat.ne_of_lt k35.lt
  have k41 := k35.alloc he40
  have hne44 : w1.heap.size ≠ w33.heap.size := Nat.ne_of_lt k36.lt
  have k43 := k36.alloc he40
  have hne46 : w13.heap.size ≠ w33.heap.size := Nat.ne_of_lt k37.lt
  have k45 := k37.alloc he40
  have k47 := Blk.new he40
  have hg48 : w.heap.size ≤ w33.heap.size := hbel38.size
  have hbel49 := bel_alloc hbel38 he40
  simp only [List.setIfInBounds_toArray, List.set_cons_zero, List.set_cons_succ]
  refine lst (wanted_none rfl) (w_store 23 _ _ (w33.heap.size) (bs r) rfl rfl rfl rfl k47 (by rw [bs_sz]; exact info_b) ((bs_sz _).trans (bs_sz _).symm) (bs_one _) (fun w50 he51 => ?_))
  have k52 := k41.other hne42 he51
  have k53 := k43.other hne44 he51
  have k54 := k45.other hne46 he51
  have k55 := k47.set he51
  have hbel56 := bel_set hbel49 hg48 he51
  refine lst (wanted_none rfl) (w_value 7 (.bool true) rfl (run_as rfl rfl) ?_)
  simp only [List.setIfInBounds_toArray, List.set_cons_zero, List.set_cons_succ]
  go_step
  go_step
  go_step
  go_step
  have k57 := k52.drew
  have k58 := k53.drew
  have k59 := k54.drew
  have k60 := k55.drew
  have hbel61 := hbel56.drew
  refine wp_region_held_drew (S := fun w' => Blk w' (w.heap.size) (bs a) 23 ∧ Blk w' (w1.heap.size) (bs b) 23) (by kernel_rfl) ⟨k57, k58⟩ (fun _ => ?_)
  generalize w50.drew = wd62 at *
  refine Sym.take_at 0 17 (.agg (bs a)) rfl rfl (by kernel_rfl) (by kernel_rfl) (by kernel_rfl) (fun _ _ _ h => h) (wanted_none rfl) (fun _ hw => run_row rfl rfl (hw.1) Try.underlying23 rfl (by rw [bs_sz]; exact info_b)) ⟨k57, k58⟩ ?_
  simp only [List.setIfInBounds_toArray, List.set_cons_zero, List.set_cons_succ]
  refine Sym.take_at 2 19 (.agg (bs b)) rfl rfl (by kernel_rfl) (by kernel_rfl) (by kernel_rfl) (fun _ _ _ h => h) (wanted_none rfl) (fun _ hw => run_row rfl rfl (hw.2) Try.underlying23 rfl (by rw [bs_sz]; exact info_b)) ⟨k57, k58⟩ ?_
  simp only [List.setIfInBounds_toArray, List.set_cons_zero, List.set_cons_succ]
  refine one_ready 1 (by kernel_rfl) ?_
  refine opd rfl (wanted_none rfl) (w_enter 18 (.agg (bs (a % PP))) rfl (run_Reduce rfl rfl) (reduce_any a Ha.out _) (fun w63 hb64 => ?_))
  have k65 := k57.call hb64
  have k66 := k58.call hb64
  have k67 := k59.call hb64
  have k68 := k60.call hb64
  have hbel69 := bel_call hbel61 hb64
  refine ⟨⟨k65, k66⟩, ?_⟩
  simp only [List.setIfInBounds_toArray, List.set_cons_zero, List.set_cons_succ]
  refine one_ready 3 (by kernel_rfl) ?_
  refine opd rfl (wanted_none rfl) (w_enter 20 (.agg (bs (b % PP))) rfl (run_Reduce rfl rfl) (reduce_any b Hb.out _) (fun w70 hb71 => ?_))
  have k72 := k65.call hb71
  have k73 := k66.call hb71
  have k74 := k67.call hb71
  have k75 := k68.call hb71
  have hbel76 := bel_call hbel69 hb71
  refine ⟨⟨k72, k73⟩, ?_⟩
  simp only [List.setIfInBounds_toArray, List.set_cons_zero, List.set_cons_succ]
  refine Sym.take_at 4 21 (.bool false) rfl rfl (by kernel_rfl) (by kernel_rfl) (by kernel_rfl) (fun _ _ _ h => h) (wanted_none rfl) (fun _ hw => run_eqN (a % PP) (b % PP) (Nat.lt_trans (Nat.mod_lt _ (by decide)) pp_lt) (Nat.lt_trans (Nat.mod_lt _ (by decide)) pp_lt) false C1.out rfl rfl rfl) ⟨k72, k73⟩ ?_
  simp only [List.setIfInBounds_toArray, List.set_cons_zero, List.set_cons_succ]
  refine Sym.take_at 5 22 (.bool false) rfl rfl (by kernel_rfl) (by kernel_rfl) (by kernel_rfl) (fun _ _ _ h => h) (wanted_none rfl) (fun _ hw => run_mv rfl rfl) ⟨k72, k73⟩ ?_
  simp only [List.setIfInBounds_toArray, List.set_cons_zero, List.set_cons_succ]
  refine Sym.take_at 6 23 (.agg (bs a)) rfl rfl (by kernel_rfl) (by kernel_rfl) (by kernel_rfl) (fun _ _ _ h => h) rfl (fun _ hw => run_row rfl rfl (hw.1) Try.underlying23 rfl (by rw [bs_sz]; exact info_b)) ⟨k72, k73⟩ ?_
  simp only [List.setIfInBounds_toArray, List.set_cons_zero, List.set_cons_succ]
  refine Sym.take_at 8 25 (.agg (bs b)) rfl rfl (by kernel_rfl) (by kernel_rfl) (by kernel_rfl) (fun _ _ _ h => h) rfl (fun _ hw => run_row rfl rfl (hw.2) Try.underlying23 rfl (by rw [bs_sz]; exact info_b)) ⟨k72, k73⟩ ?_
  simp only [List.setIfInBounds_toArray, List.set_cons_zero, List.set_cons_succ]
  refine one_ready 7 (by kernel_rfl) ?_
  refine opd rfl rfl (w_enter 24 (.agg (bs (a % PP))) rfl (run_Reduce rfl rfl) (reduce_any a Ha.out _) (fun w77 hb78 => ?_))
  have k79 := k72.call hb78
  have k80 := k73.call hb78
  have k81 := k74.call hb78
  have k82 := k75.call hb78
  have hbel83 := bel_call hbel76 hb78
  refine ⟨⟨k79, k80⟩, ?_⟩
  simp only [List.setIfInBounds_toArray, List.set_cons_zero, List.set_cons_succ]
  refine one_ready 9 (by kernel_rfl) ?_
  refine opd rfl rfl (w_enter 26 (.agg (bs ((PP - (b % PP)) % PP))) rfl (run_Neg rfl rfl) (neg_any b Hb.out _) (fun w84 hb85 => ?_))
  have k86 := k79.call hb85
  have k87 := k80.call hb85
  have k88 := k81.call hb85
  have k89 := k82.call hb85
  have hbel90 := bel_call hbel83 hb85
  refine ⟨⟨k86, k87⟩, ?_⟩
  simp only [List.setIfInBounds_toArray, List.set_cons_zero, List.set_cons_succ]
  refine Sym.take_at 10 27 (.bool false) rfl rfl (by kernel_rfl) (by kernel_rfl) (by kernel_rfl) (fun _ _ _ h => h) rfl (fun _ hw => run_eqN (a % PP) ((PP - (b % PP)) % PP) (Nat.lt_trans (Nat.mod_lt _ (by decide)) pp_lt) (Nat.lt_trans (Nat.mod_lt _ (by decide)) pp_lt) false C2.out rfl rfl rfl) ⟨k86, k87⟩ ?_
  simp only [List.setIfInBounds_toArray, List.set_cons_zero, List.set_cons_succ]
  refine Sym.take_at 11 28 (.bool false) rfl rfl (by kernel_rfl) (by kernel_rfl) (by kernel_rfl) (fun _ _ _ h => h) (wanted_none rfl) (fun _ hw => run_pickf rfl rfl rfl) ⟨k86, k87⟩ ?_
  simp only [List.setIfInBounds_toArray, List.set_cons_zero, List.set_cons_succ]
  refine one_ready 12 (by kernel_rfl) ?_
  refine opd rfl (wanted_none rfl) (w_value 8 (.bool false) rfl (run_as rfl rfl) ⟨⟨k86, k87⟩, ?_⟩)
  simp only [List.setIfInBounds_toArray, List.set_cons_zero, List.set_cons_succ]
  refine wpAnyH_done (by kernel_rfl) ?_ _
  go_step
  go_step
  go_step
  have k91 := k86.drew
  have k92 := k87.drew
  have k93 := k88.drew
  have k94 := k89.drew
  have hbel95 := hbel90.drew
  refine wp_region_held_drew (S := fun w' => Blk w' (w33.heap.size) (bs r) 23 ∧ Blk w' (w.heap.size) (bs a) 23 ∧ Blk w' (w13.heap.size) (bs (a * a % PP)) 23 ∧ Blk w' (w1.heap.size) (bs b) 23) (by kernel_rfl) ⟨k94, k91, k93, k92⟩ (fun _ => ?_)
  generalize w84.drew = wd96 at *
  refine one_ready 0 (by kernel_rfl) ?_
  refine opd rfl (wanted_none rfl) (w_enter 29 (.bool true) rfl (run_awake rfl) (awake_any _) (fun w97 hb98 => ?_))
  have k99 := k91.call hb98
  have k100 := k92.call hb98
  have k101 := k93.call hb98
  have k102 := k94.call hb98
  have hbel103 := bel_call hbel95 hb98
  refine ⟨⟨k102, k99, k101, k100⟩, ?_⟩
  simp only [List.setIfInBounds_toArray, List.set_cons_zero, List.set_cons_succ]
  refine Sym.take_at 1 30 (.bool true) rfl rfl (by kernel_rfl) (by kernel_rfl) (by kernel_rfl) (fun _ _ _ h => h) (wanted_none rfl) (fun _ hw => run_mv rfl rfl) ⟨k102, k99, k101, k100⟩ ?_
  simp only [List.setIfInBounds_toArray, List.set_cons_zero, List.set_cons_succ]
  refine Sym.take_at 2 31 (.bool true) rfl rfl (by kernel_rfl) (by kernel_rfl) (by kernel_rfl) (fun _ _ _ h => h) rfl (fun _ hw => run_mv rfl rfl) ⟨k102, k99, k101, k100⟩ ?_
  simp only [List.setIfInBounds_toArray, List.set_cons_zero, List.set_cons_succ]
  refine Sym.take_at 3 32 (.bool true) rfl rfl (by kernel_rfl) (by kernel_rfl) (by kernel_rfl) (fun _ _ _ h => h) (wanted_none rfl) (fun _ hw => run_pick rfl rfl rfl) ⟨k102, k99, k101, k100⟩ ?_
  simp only [List.setIfInBounds_toArray, List.set_cons_zero, List.set_cons_succ]
  refine Sym.take_at 4 33 (.bool true) rfl rfl (by kernel_rfl) (by kernel_rfl) (by kernel_rfl) (fun _ _ _ h => h) (wanted_none rfl) (fun _ hw => run_mv rfl rfl) ⟨k102, k99, k101, k100⟩ ?_
  simp only [List.setIfInBounds_toArray, List.set_cons_zero, List.set_cons_succ]
  refine Sym.take_at 5 34 (.agg (bs r)) rfl rfl (by kernel_rfl) (by kernel_rfl) (by kernel_rfl) (fun _ _ _ h => h) rfl (fun _ hw => run_row rfl rfl (hw.1) Try.underlying23 rfl (by rw [bs_sz]; exact info_b)) ⟨k102, k99, k101, k100⟩ ?_
  simp only [List.setIfInBounds_toArray, List.set_cons_zero, List.set_cons_succ]
  refine Sym.take_at 6 35 (.agg (bs a)) rfl rfl (by kernel_rfl) (by kernel_rfl) (by kernel_rfl) (fun _ _ _ h => h) rfl (fun _ hw => run_row rfl rfl (hw.2.1) Try.underlying23 rfl (by rw [bs_sz]; exact info_b)) ⟨k102, k99, k101, k100⟩ ?_
  simp only [List.setIfInBounds_toArray, List.set_cons_zero, List.set_cons_succ]
  refine one_ready 7 (by kernel_rfl) ?_
  refine opd rfl rfl (w_enter 36 (.agg (bs (a % PP))) rfl (run_Reduce rfl rfl) (reduce_any a Ha.out _) (fun w104 hb105 => ?_))
  have k106 := k99.call hb105
  have k107 := k100.call hb105
  have k108 := k101.call hb105
  have k109 := k102.call hb105
  have hbel110 := bel_call hbel103 hb105
  refine ⟨⟨k109, k106, k108, k107⟩, ?_⟩
  simp only [List.setIfInBounds_toArray, List.set_cons_zero, List.set_cons_succ]
  refine Sym.take_at 8 37 (.bool true) rfl rfl (by kernel_rfl) (by kernel_rfl) (by kernel_rfl) (fun _ _ _ h => h) rfl (fun _ hw => run_eqN r (a % PP) Hr.out (Nat.lt_trans (Nat.mod_lt _ (by decide)) pp_lt) true D1.out rfl rfl rfl) ⟨k109, k106, k108, k107⟩ ?_
  simp only [List.setIfInBounds_toArray, List.set_cons_zero, List.set_cons_succ]
  refine Sym.take_at 9 38 (.bool true) rfl rfl (by kernel_rfl) (by kernel_rfl) (by kernel_rfl) (fun _ _ _ h => h) rfl (fun _ hw => run_mv rfl rfl) ⟨k109, k106, k108, k107⟩ ?_
  simp only [List.setIfInBounds_toArray, List.set_cons_zero, List.set_cons_succ]
  refine skip_at 10 39 rfl rfl (by kernel_rfl) (by kernel_rfl) (by kernel_rfl) (fun _ _ _ h => h) rfl ⟨k109, k106, k108, k107⟩ ?_
  simp only [List.setIfInBounds_toArray, List.set_cons_zero, List.set_cons_succ]
  refine skip_at 11 40 rfl rfl (by kernel_rfl) (by kernel_rfl) (by kernel_rfl) (fun _ _ _ h => h) rfl ⟨k109, k106, k108, k107⟩ ?_
  simp only [List.setIfInBounds_toArray, List.set_cons_zero, List.set_cons_succ]
  refine one_ready 12 (by kernel_rfl) ?_
  refine opd_skip 41 rfl rfl rfl ⟨⟨k109, k106, k108, k107⟩, ?_⟩
  simp only [List.setIfInBounds_toArray, List.set_cons_zero, List.set_cons_succ]
  refine skip_at 13 42 rfl rfl (by kernel_rfl) (by kernel_rfl) (by kernel_rfl) (fun _ _ _ h => h) rfl ⟨k109, k106, k108, k107⟩ ?_
  simp only [List.setIfInBounds_toArray, List.set_cons_zero, List.set_cons_succ]
  refine Sym.take_at 14 43 (.bool true) rfl rfl (by kernel_rfl) (by kernel_rfl) (by kernel_rfl) (fun _ _ _ h => h) rfl (fun _ hw => run_pick rfl rfl rfl) ⟨k109, k106, k108, k107⟩ ?_
  simp only [List.setIfInBounds_toArray, List.set_cons_zero, List.set_cons_succ]
  refine Sym.take_at 15 44 (.bool true) rfl rfl (by kernel_rfl) (by kernel_rfl) (by kernel_rfl) (fun _ _ _ h => h) (wanted_none rfl) (fun _ hw => run_pick rfl rfl rfl) ⟨k109, k106, k108, k107⟩ ?_
  simp only [List.setIfInBounds_toArray, List.set_cons_zero, List.set_cons_succ]
  refine Sym.take_at 16 45 (.bool true) rfl rfl (by kernel_rfl) (by kernel_rfl) (by kernel_rfl) (fun _ _ _ h => h) (wanted_none rfl) (fun _ hw => run_mv rfl rfl) ⟨k109, k106, k108, k107⟩ ?_
  simp only [List.setIfInBounds_toArray, List.set_cons_zero, List.set_cons_succ]
  refine Sym.take_at 17 46 (.agg (bs (a * a % PP))) rfl rfl (by kernel_rfl) (by kernel_rfl) (by kernel_rfl) (fun _ _ _ h => h) rfl (fun _ hw => run_row rfl rfl (hw.2.2.1) Try.underlying23 rfl (by rw [bs_sz]; exact info_b)) ⟨k109, k106, k108, k107⟩ ?_
  simp only [List.setIfInBounds_toArray, List.set_cons_zero, List.set_cons_succ]
  refine Sym.take_at 18 47 (.agg (bs b)) rfl rfl (by kernel_rfl) (by kernel_rfl) (by kernel_rfl) (fun _ _ _ h => h) rfl (fun _ hw => run_row rfl rfl (hw.2.2.2) Try.underlying23 rfl (by rw [bs_sz]; exact info_b)) ⟨k109, k106, k108, k107⟩ ?_
  simp only [List.setIfInBounds_toArray, List.set_cons_zero, List.set_cons_succ]
  refine Sym.take_at 19 48 (.agg (bs b)) rfl rfl (by kernel_rfl) (by kernel_rfl) (by kernel_rfl) (fun _ _ _ h => h) rfl (fun _ hw => run_row rfl rfl (hw.2.2.2) Try.underlying23 rfl (by rw [bs_sz]; exact info_b)) ⟨k109, k106, k108, k107⟩ ?_
  simp only [List.setIfInBounds_toArray, List.set_cons_zero, List.set_cons_succ]
  refine Sym.take_at 22 51 (.bool false) rfl rfl (by kernel_rfl) (by kernel_rfl) (by kernel_rfl) (fun _ _ _ h => h) rfl (fun _ hw => run_mv rfl rfl) ⟨k109, k106, k108, k107⟩ ?_
  simp only [List.setIfInBounds_toArray, List.set_cons_zero, List.set_cons_succ]
  refine one_ready 20 (by kernel_rfl) ?_
  refine opd rfl rfl (w_enter 49 (.agg (bs (b * b % PP))) rfl (run_Mul rfl rfl rfl) (mul_any b b Hb.out Hb.out _) (fun w111 hb112 => ?_))
  have k113 := k106.call hb112
  have k114 := k107.call hb112
  have k115 := k108.call hb112
  have k116 := k109.call hb112
  have hbel117 := bel_call hbel110 hb112
  refine ⟨⟨k116, k113, k115, k114⟩, ?_⟩
  simp only [List.setIfInBounds_toArray, List.set_cons_zero, List.set_cons_succ]
  refine Sym.take_at 21 50 (.bool false) rfl rfl (by kernel_rfl) (by kernel_rfl) (by kernel_rfl) (fun _ _ _ h => h) rfl (fun _ hw => run_eqN (a * a % PP) (b * b % PP) (Nat.lt_trans (Nat.mod_lt _ (by decide)) pp_lt) (Nat.lt_trans (Nat.mod_lt _ (by decide)) pp_lt) false E1.out rfl rfl rfl) ⟨k116, k113, k115, k114⟩ ?_
  simp only [List.setIfInBounds_toArray, List.set_cons_zero, List.set_cons_succ]
  refine Sym.take_at 23 52 (.bool true) rfl rfl (by kernel_rfl) (by kernel_rfl) (by kernel_rfl) (fun _ _ _ h => h) rfl (fun _ hw => run_eqBt false false rfl rfl rfl rfl) ⟨k116, k113, k115, k114⟩ ?_
  simp only [List.setIfInBounds_toArray, List.set_cons_zero, List.set_cons_succ]
  refine Sym.take_at 24 53 (.bool true) rfl rfl (by kernel_rfl) (by kernel_rfl) (by kernel_rfl) (fun _ _ _ h => h) (wanted_none rfl) (fun _ hw => run_pick rfl rfl rfl) ⟨k116, k113, k115, k114⟩ ?_
  simp only [List.setIfInBounds_toArray, List.set_cons_zero, List.set_cons_succ]
  refine one_ready 25 (by kernel_rfl) ?_
  refine opd rfl (wanted_none rfl) (w_value 4 (.bool true) rfl (run_as rfl rfl) ⟨⟨k116, k113, k115, k114⟩, ?_⟩)
  simp only [List.setIfInBounds_toArray, List.set_cons_zero, List.set_cons_succ]
  refine wpAnyH_done (by kernel_rfl) ?_ _
  go_step
  go_step
  go_wp2
  go_ret
  exact ⟨rfl, hbel117⟩
set_option maxHeartbeats 4000000 in
set_option maxRecDepth 100000 in
theorem walk_ff_f (a b r : Nat) (ha : a < MM) (hb : b < MM) (hr : r < MM) (hroot : ∀ w, Calls Try.prog 24 #[.agg (bs (a * a % PP))] w fun e w' => e = .returned (.tuple #[.agg (bs r), .bool true]) ∧ Below w.heap.size w w') (c1 : decide ((a % PP) = (b % PP)) = false) (c2 : decide ((a % PP) = ((PP - (b % PP)) % PP)) = false) (e1 : decide ((a * a % PP) = (b * b % PP)) = false) (d1 : decide (r = (a % PP)) = false) (d2 : decide (r = ((PP - (a % PP)) % PP)) = true) (w : World) :
    Calls Try.prog 8 #[.agg (bs a), .agg (bs b)] w fun e w' => e = .returned (.bool true) ∧ Below w.heap.size w w' := by
  have Ha := Lib.hid ha
  have Hb := Lib.hid hb
  have Hr := Lib.hid hr
  clear ha hb hr
  have C1 := Lib.hid c1
  clear c1
  have C2 := Lib.hid c2
  clear c2
  have E1 := Lib.hid e1
  clear e1
  have D1 := Lib.hid d1
  clear d1
  have D2 := Lib.hid d2
  clear d2
  go_enter Try.func8, Try.ntmps8
  have hbel0 := Below.refl w.heap.size w
  go_step
  go_step
  go_step
  refine lst (wanted_none rfl) (w_alloc (c := bs a) (T := 23) 2 rfl (run_box rfl rfl) (fun w1 he2 => ?_))
  have k3 := Blk.new he2
  have hg4 : w.heap.size ≤ w.heap.size := hbel0.size
  have hbel5 := bel_alloc hbel0 he2
  simp only [List.setIfInBounds_toArray, List.set_cons_zero, List.set_cons_succ]
  refine lst (wanted_none rfl) (w_alloc (c := bs b) (T := 23) 3 rfl (run_box rfl rfl) (fun w6 he7 => ?_))
  have hne9 : w.heap.size ≠ w1.heap.size := Nat.ne_of_lt k3.lt
  have k8 := k3.alloc he7
  have k10 := Blk.new he7
  have hg11 : w.heap.size ≤ w1.heap.size := hbel5.size
  have hbel12 := bel_alloc hbel5 he7
  simp only [List.setIfInBounds_toArray, List.set_cons_zero, List.set_cons_succ]
  refine lst (wanted_none rfl) (w_value 4 (.bool false) rfl (run_as rfl rfl) ?_)
  simp only [List.setIfInBounds_toArray, List.set_cons_zero, List.set_cons_succ]
  go_step
  go_step
  go_step
  go_step
  go_step
  refine lst (wanted_none rfl) (w_value 9 (.agg (bs a)) rfl (run_row rfl rfl k8 Try.underlying23 rfl (by rw [bs_sz]; exact info_b)) ?_)
  simp only [List.setIfInBounds_toArray, List.set_cons_zero, List.set_cons_succ]
  refine lst (wanted_none rfl) (w_value 10 (.agg (bs a)) rfl (run_row rfl rfl k8 Try.underlying23 rfl (by rw [bs_sz]; exact info_b)) ?_)
  simp only [List.setIfInBounds_toArray, List.set_cons_zero, List.set_cons_succ]
  refine lst (wanted_none rfl) (w_enter 11 (.agg (bs (a * a % PP))) rfl (run_Mul rfl rfl rfl) (mul_any a a Ha.out Ha.out _) (fun w13 hb14 => ?_))
  have k15 := k8.call hb14
  have k16 := k10.call hb14
  have hbel17 := bel_call hbel12 hb14
  simp only [List.setIfInBounds_toArray, List.set_cons_zero, List.set_cons_succ]
  refine lst (wanted_none rfl) (w_alloc (c := bs 0) (T := 23) 5 rfl (run_alN rfl) (fun w18 he19 => ?_))
  have hne21 : w.heap.size ≠ w13.heap.size := Nat.ne_of_lt k15.lt
  have k20 := k15.alloc he19
  have hne23 : w1.heap.size ≠ w13.heap.size := Nat.ne_of_lt k16.lt
  have k22 := k16.alloc he19
  have k24 := Blk.new he19
  have hg25 : w.heap.size ≤ w13.heap.size := hbel17.size
  have hbel26 := bel_alloc hbel17 he19
  simp only [List.setIfInBounds_toArray, List.set_cons_zero, List.set_cons_succ]
  refine lst (wanted_none rfl) (w_store 23 _ _ (w13.heap.size) (bs (a * a % PP)) rfl rfl rfl rfl k24 (by rw [bs_sz]; exact info_b) ((bs_sz _).trans (bs_sz _).symm) (bs_one _) (fun w27 he28 => ?_))
  have k29 := k20.other hne21 he28
  have k30 := k22.other hne23 he28
  have k31 := k24.set he28
  have hbel32 := bel_set hbel26 hg25 he28
  go_step
  go_step
  go_step
  go_step
  go_step
  refine lst (wanted_none rfl) (w_value 13 (.agg (bs (a * a % PP))) rfl (run_row rfl rfl k31 Try.underlying23 rfl (by rw [bs_sz]; exact info_b)) ?_)
  simp only [List.setIfInBounds_toArray, List.set_cons_zero, List.set_cons_succ]
  refine lst (wanted_none rfl) (w_enter 14 (.tuple #[.agg (bs r), .bool true]) rfl (run_Root rfl rfl) (hroot _) (fun w33 hb34 => ?_))
  have k35 := k29.call hb34
  have k36 := k30.call hb34
  have k37 := k31.call hb34
  have hbel38 := bel_call hbel32 hb34
  simp only [List.setIfInBounds_toArray, List.set_cons_zero, List.set_cons_succ]
  refine lst (wanted_none rfl) (w_value 12 (.tuple #[.agg (bs r), .bool true]) rfl (run_mv rfl rfl) ?_)
  simp only [List.setIfInBounds_toArray, List.set_cons_zero, List.set_cons_succ]
  refine lst (wanted_none rfl) (w_value 15 (.agg (bs r)) rfl (run_ex rfl rfl rfl) ?_)
  simp only [List.setIfInBounds_toArray, List.set_cons_zero, List.set_cons_succ]
  refine lst (wanted_none rfl) (w_value 16 (.bool true) rfl (run_ex rfl rfl rfl) ?_)
  simp only [List.setIfInBounds_toArray, List.set_cons_zero, List.set_cons_succ]
  refine lst (wanted_none rfl) (w_alloc (c := bs 0) (T := 23) 6 rfl (run_alN rfl) (fun w39 he40 => ?_))
  have hne42 : w.heap.size ≠ w33.heap.size := Nat.ne_of_lt k35.lt
  have k41 := k35.alloc he40
  have hne44 : w1.heap.size ≠ w33.heap.size := Nat.ne_of_lt k36.lt
  have k43 := k36.alloc he40
  have hne46 : w13.heap.size ≠ w33.heap.size := Nat.ne_of_lt k37.lt
  have k45 := k37.alloc he40
  have k47 := Blk.new he40
  have hg48 : w.heap.size ≤ w33.heap.size := hbel38.size
  have hbel49 := bel_alloc hbel38 he40
  simp only [List.setIfInBounds_toArray, List.set_cons_zero, List.set_cons_succ]
  refine lst (wanted_none rfl) (w_store 23 _ _ (w33.heap.size) (bs r) rfl rfl rfl rfl k47 (by rw [bs_sz]; exact info_b) ((bs_sz _).trans (bs_sz _).symm) (bs_one _) (fun w50 he51 => ?_))
  have k52 := k41.other hne42 he51
  have k53 := k43.other hne44 he51
  have k54 := k45.other hne46 he51
  have k55 := k47.set he51
  have hbel56 := bel_set hbel49 hg48 he51
  refine lst (wanted_none rfl) (w_value 7 (.bool true) rfl (run_as rfl rfl) ?_)
  simp only [List.setIfInBounds_toArray, List.set_cons_zero, List.set_cons_succ]
  go_step
  go_step
  go_step
  go_step
  have k57 := k52.drew
  have k58 := k53.drew
  have k59 := k54.drew
  have k60 := k55.drew
  have hbel61 := hbel56.drew
  refine wp_region_held_drew (S := fun w' => Blk w' (w.heap.size) (bs a) 23 ∧ Blk w' (w1.heap.size) (bs b) 23) (by kernel_rfl) ⟨k57, k58⟩ (fun _ => ?_)
  generalize w50.drew = wd62 at *
  refine Sym.take_at 0 17 (.agg (bs a)) rfl rfl (by kernel_rfl) (by kernel_rfl) (by kernel_rfl) (fun _ _ _ h => h) (wanted_none rfl) (fun _ hw => run_row rfl rfl (hw.1) Try.underlying23 rfl (by rw [bs_sz]; exact info_b)) ⟨k57, k58⟩ ?_
  simp only [List.setIfInBounds_toArray, List.set_cons_zero, List.set_cons_succ]
  refine Sym.take_at 2 19 (.agg (bs b)) rfl rfl (by kernel_rfl) (by kernel_rfl) (by kernel_rfl) (fun _ _ _ h => h) (wanted_none rfl) (fun _ hw => run_row rfl rfl (hw.2) Try.underlying23 rfl (by rw [bs_sz]; exact info_b)) ⟨k57, k58⟩ ?_
  simp only [List.setIfInBounds_toArray, List.set_cons_zero, List.set_cons_succ]
  refine one_ready 1 (by kernel_rfl) ?_
  refine opd rfl (wanted_none rfl) (w_enter 18 (.agg (bs (a % PP))) rfl (run_Reduce rfl rfl) (reduce_any a Ha.out _) (fun w63 hb64 => ?_))
  have k65 := k57.call hb64
  have k66 := k58.call hb64
  have k67 := k59.call hb64
  have k68 := k60.call hb64
  have hbel69 := bel_call hbel61 hb64
  refine ⟨⟨k65, k66⟩, ?_⟩
  simp only [List.setIfInBounds_toArray, List.set_cons_zero, List.set_cons_succ]
  refine one_ready 3 (by kernel_rfl) ?_
  refine opd rfl (wanted_none rfl) (w_enter 20 (.agg (bs (b % PP))) rfl (run_Reduce rfl rfl) (reduce_any b Hb.out _) (fun w70 hb71 => ?_))
  have k72 := k65.call hb71
  have k73 := k66.call hb71
  have k74 := k67.call hb71
  have k75 := k68.call hb71
  have hbel76 := bel_call hbel69 hb71
  refine ⟨⟨k72, k73⟩, ?_⟩
  simp only [List.setIfInBounds_toArray, List.set_cons_zero, List.set_cons_succ]
  refine Sym.take_at 4 21 (.bool false) rfl rfl (by kernel_rfl) (by kernel_rfl) (by kernel_rfl) (fun _ _ _ h => h) (wanted_none rfl) (fun _ hw => run_eqN (a % PP) (b % PP) (Nat.lt_trans (Nat.mod_lt _ (by decide)) pp_lt) (Nat.lt_trans (Nat.mod_lt _ (by decide)) pp_lt) false C1.out rfl rfl rfl) ⟨k72, k73⟩ ?_
  simp only [List.setIfInBounds_toArray, List.set_cons_zero, List.set_cons_succ]
  refine Sym.take_at 5 22 (.bool false) rfl rfl (by kernel_rfl) (by kernel_rfl) (by kernel_rfl) (fun _ _ _ h => h) (wanted_none rfl) (fun _ hw => run_mv rfl rfl) ⟨k72, k73⟩ ?_
  simp only [List.setIfInBounds_toArray, List.set_cons_zero, List.set_cons_succ]
  refine Sym.take_at 6 23 (.agg (bs a)) rfl rfl (by kernel_rfl) (by kernel_rfl) (by kernel_rfl) (fun _ _ _ h => h) rfl (fun _ hw => run_row rfl rfl (hw.1) Try.underlying23 rfl (by rw [bs_sz]; exact info_b)) ⟨k72, k73⟩ ?_
  simp only [List.setIfInBounds_toArray, List.set_cons_zero, List.set_cons_succ]
  refine Sym.take_at 8 25 (.agg (bs b)) rfl rfl (by kernel_rfl) (by kernel_rfl) (by kernel_rfl) (fun _ _ _ h => h) rfl (fun _ hw => run_row rfl rfl (hw.2) Try.underlying23 rfl (by rw [bs_sz]; exact info_b)) ⟨k72, k73⟩ ?_
  simp only [List.setIfInBounds_toArray, List.set_cons_zero, List.set_cons_succ]
  refine one_ready 7 (by kernel_rfl) ?_
  refine opd rfl rfl (w_enter 24 (.agg (bs (a % PP))) rfl (run_Reduce rfl rfl) (reduce_any a Ha.out _) (fun w77 hb78 => ?_))
  have k79 := k72.call hb78
  have k80 := k73.call hb78
  have k81 := k74.call hb78
  have k82 := k75.call hb78
  have hbel83 := bel_call hbel76 hb78
  refine ⟨⟨k79, k80⟩, ?_⟩
  simp only [List.setIfInBounds_toArray, List.set_cons_zero, List.set_cons_succ]
  refine one_ready 9 (by kernel_rfl) ?_
  refine opd rfl rfl (w_enter 26 (.agg (bs ((PP - (b % PP)) % PP))) rfl (run_Neg rfl rfl) (neg_any b Hb.out _) (fun w84 hb85 => ?_))
  have k86 := k79.call hb85
  have k87 := k80.call hb85
  have k88 := k81.call hb85
  have k89 := k82.call hb85
  have hbel90 := bel_call hbel83 hb85
  refine ⟨⟨k86, k87⟩, ?_⟩
  simp only [List.setIfInBounds_toArray, List.set_cons_zero, List.set_cons_succ]
  refine Sym.take_at 10 27 (.bool false) rfl rfl (by kernel_rfl) (by kernel_rfl) (by kernel_rfl) (fun _ _ _ h => h) rfl (fun _ hw => run_eqN (a % PP) ((PP - (b % PP)) % PP) (Nat.lt_trans (Nat.mod_lt _ (by decide)) pp_lt) (Nat.lt_trans (Nat.mod_lt _ (by decide)) pp_lt) false C2.out rfl rfl rfl) ⟨k86, k87⟩ ?_
  simp only [List.setIfInBounds_toArray, List.set_cons_zero, List.set_cons_succ]
  refine Sym.take_at 11 28 (.bool false) rfl rfl (by kernel_rfl) (by kernel_rfl) (by kernel_rfl) (fun _ _ _ h => h) (wanted_none rfl) (fun _ hw => run_pickf rfl rfl rfl) ⟨k86, k87⟩ ?_
  simp only [List.setIfInBounds_toArray, List.set_cons_zero, List.set_cons_succ]
  refine one_ready 12 (by kernel_rfl) ?_
  refine opd rfl (wanted_none rfl) (w_value 8 (.bool false) rfl (run_as rfl rfl) ⟨⟨k86, k87⟩, ?_⟩)
  simp only [List.setIfInBounds_toArray, List.set_cons_zero, List.set_cons_succ]
  refine wpAnyH_done (by kernel_rfl) ?_ _
  go_step
  go_step
  go_step
  have k91 := k86.drew
  have k92 := k87.drew
  have k93 := k88.drew
  have k94 := k89.drew
  have hbel95 := hbel90.drew
  refine wp_region_held_drew (S := fun w' => Blk w' (w33.heap.size) (bs r) 23 ∧ Blk w' (w.heap.size) (bs a) 23 ∧ Blk w' (w13.heap.size) (bs (a * a % PP)) 23 ∧ Blk w' (w1.heap.size) (bs b) 23) (by kernel_rfl) ⟨k94, k91, k93, k92⟩ (fun _ => ?_)
  generalize w84.drew = wd96 at *
  refine one_ready 0 (by kernel_rfl) ?_
  refine opd rfl (wanted_none rfl) (w_enter 29 (.bool true) rfl (run_awake rfl) (awake_any _) (fun w97 hb98 => ?_))
  have k99 := k91.call hb98
  have k100 := k92.call hb98
  have k101 := k93.call hb98
  have k102 := k94.call hb98
  have hbel103 := bel_call hbel95 hb98
  refine ⟨⟨k102, k99, k101, k100⟩, ?_⟩
  simp only [List.setIfInBounds_toArray, List.set_cons_zero, List.set_cons_succ]
  refine Sym.take_at 1 30 (.bool true) rfl rfl (by kernel_rfl) (by kernel_rfl) (by kernel_rfl) (fun _ _ _ h => h) (wanted_none rfl) (fun _ hw => run_mv rfl rfl) ⟨k102, k99, k101, k100⟩ ?_
  simp only [List.setIfInBounds_toArray, List.set_cons_zero, List.set_cons_succ]
  refine Sym.take_at 2 31 (.bool true) rfl rfl (by kernel_rfl) (by kernel_rfl) (by kernel_rfl) (fun _ _ _ h => h) rfl (fun _ hw => run_mv rfl rfl) ⟨k102, k99, k101, k100⟩ ?_
  simp only [List.setIfInBounds_toArray, List.set_cons_zero, List.set_cons_succ]
  refine Sym.take_at 3 32 (.bool true) rfl rfl (by kernel_rfl) (by kernel_rfl) (by kernel_rfl) (fun _ _ _ h => h) (wanted_none rfl) (fun _ hw => run_pick rfl rfl rfl) ⟨k102, k99, k101, k100⟩ ?_
  simp only [List.setIfInBounds_toArray, List.set_cons_zero, List.set_cons_succ]
  refine Sym.take_at 4 33 (.bool true) rfl rfl (by kernel_rfl) (by kernel_rfl) (by kernel_rfl) (fun _ _ _ h => h) (wanted_none rfl) (fun _ hw => run_mv rfl rfl) ⟨k102, k99, k101, k100⟩ ?_
  simp only [List.setIfInBounds_toArray, List.set_cons_zero, List.set_cons_succ]
  refine Sym.take_at 5 34 (.agg (bs r)) rfl rfl (by kernel_rfl) (by kernel_rfl) (by kernel_rfl) (fun _ _ _ h => h) rfl (fun _ hw => run_row rfl rfl (hw.1) Try.underlying23 rfl (by rw [bs_sz]; exact info_b)) ⟨k102, k99, k101, k100⟩ ?_
  simp only [List.setIfInBounds_toArray, List.set_cons_zero, List.set_cons_succ]
  refine Sym.take_at 6 35 (.agg (bs a)) rfl rfl (by kernel_rfl) (by kernel_rfl) (by kernel_rfl) (fun _ _ _ h => h) rfl (fun _ hw => run_row rfl rfl (hw.2.1) Try.underlying23 rfl (by rw [bs_sz]; exact info_b)) ⟨k102, k99, k101, k100⟩ ?_
  simp only [List.setIfInBounds_toArray, List.set_cons_zero, List.set_cons_succ]
  refine one_ready 7 (by kernel_rfl) ?_
  refine opd rfl rfl (w_enter 36 (.agg (bs (a % PP))) rfl (run_Reduce rfl rfl) (reduce_any a Ha.out _) (fun w104 hb105 => ?_))
  have k106 := k99.call hb105
  have k107 := k100.call hb105
  have k108 := k101.call hb105
  have k109 := k102.call hb105
  have hbel110 := bel_call hbel103 hb105
  refine ⟨⟨k109, k106, k108, k107⟩, ?_⟩
  simp only [List.setIfInBounds_toArray, List.set_cons_zero, List.set_cons_succ]
  refine Sym.take_at 8 37 (.bool false) rfl rfl (by kernel_rfl) (by kernel_rfl) (by kernel_rfl) (fun _ _ _ h => h) rfl (fun _ hw => run_eqN r (a % PP) Hr.out (Nat.lt_trans (Nat.mod_lt _ (by decide)) pp_lt) false D1.out rfl rfl rfl) ⟨k109, k106, k108, k107⟩ ?_
  simp only [List.setIfInBounds_toArray, List.set_cons_zero, List.set_cons_succ]
  refine Sym.take_at 9 38 (.bool false) rfl rfl (by kernel_rfl) (by kernel_rfl) (by kernel_rfl) (fun _ _ _ h => h) rfl (fun _ hw => run_mv rfl rfl) ⟨k109, k106, k108, k107⟩ ?_
  simp only [List.setIfInBounds_toArray, List.set_cons_zero, List.set_cons_succ]
  refine Sym.take_at 10 39 (.agg (bs r)) rfl rfl (by kernel_rfl) (by kernel_rfl) (by kernel_rfl) (fun _ _ _ h => h) rfl (fun _ hw => run_row rfl rfl (hw.1) Try.underlying23 rfl (by rw [bs_sz]; exact info_b)) ⟨k109, k106, k108, k107⟩ ?_
  simp only [List.setIfInBounds_toArray, List.set_cons_zero, List.set_cons_succ]
  refine Sym.take_at 11 40 (.agg (bs a)) rfl rfl (by kernel_rfl) (by kernel_rfl) (by kernel_rfl) (fun _ _ _ h => h) rfl (fun _ hw => run_row rfl rfl (hw.2.1) Try.underlying23 rfl (by rw [bs_sz]; exact info_b)) ⟨k109, k106, k108, k107⟩ ?_
  simp only [List.setIfInBounds_toArray, List.set_cons_zero, List.set_cons_succ]
  refine one_ready 12 (by kernel_rfl) ?_
  refine opd rfl rfl (w_enter 41 (.agg (bs ((PP - (a % PP)) % PP))) rfl (run_Neg rfl rfl) (neg_any a Ha.out _) (fun w111 hb112 => ?_))
  have k113 := k106.call hb112
  have k114 := k107.call hb112
  have k115 := k108.call hb112
  have k116 := k109.call hb112
  have hbel117 := bel_call hbel110 hb112
  refine ⟨⟨k116, k113, k115, k114⟩, ?_⟩
  simp only [List.setIfInBounds_toArray, List.set_cons_zero, List.set_cons_succ]
  refine Sym.take_at 13 42 (.bool true) rfl rfl (by kernel_rfl) (by kernel_rfl) (by kernel_rfl) (fun _ _ _ h => h) rfl (fun _ hw => run_eqN r ((PP - (a % PP)) % PP) Hr.out (Nat.lt_trans (Nat.mod_lt _ (by decide)) pp_lt) true D2.out rfl rfl rfl) ⟨k116, k113, k115, k114⟩ ?_
  simp only [List.setIfInBounds_toArray, List.set_cons_zero, List.set_cons_succ]
  refine Sym.take_at 14 43 (.bool true) rfl rfl (by kernel_rfl) (by kernel_rfl) (by kernel_rfl) (fun _ _ _ h => h) rfl (fun _ hw => run_pickf rfl rfl rfl) ⟨k116, k113, k115, k114⟩ ?_
  simp only [List.setIfInBounds_toArray, List.set_cons_zero, List.set_cons_succ]
  refine Sym.take_at 15 44 (.bool true) rfl rfl (by kernel_rfl) (by kernel_rfl) (by kernel_rfl) (fun _ _ _ h => h) (wanted_none rfl) (fun _ hw => run_pick rfl rfl rfl) ⟨k116, k113, k115, k114⟩ ?_
  simp only [List.setIfInBounds_toArray, List.set_cons_zero, List.set_cons_succ]
  refine Sym.take_at 16 45 (.bool true) rfl rfl (by kernel_rfl) (by kernel_rfl) (by kernel_rfl) (fun _ _ _ h => h) (wanted_none rfl) (fun _ hw => run_mv rfl rfl) ⟨k116, k113, k115, k114⟩ ?_
  simp only [List.setIfInBounds_toArray, List.set_cons_zero, List.set_cons_succ]
  refine Sym.take_at 17 46 (.agg (bs (a * a % PP))) rfl rfl (by kernel_rfl) (by kernel_rfl) (by kernel_rfl) (fun _ _ _ h => h) rfl (fun _ hw => run_row rfl rfl (hw.2.2.1) Try.underlying23 rfl (by rw [bs_sz]; exact info_b)) ⟨k116, k113, k115, k114⟩ ?_
  simp only [List.setIfInBounds_toArray, List.set_cons_zero, List.set_cons_succ]
  refine Sym.take_at 18 47 (.agg (bs b)) rfl rfl (by kernel_rfl) (by kernel_rfl) (by kernel_rfl) (fun _ _ _ h => h) rfl (fun _ hw => run_row rfl rfl (hw.2.2.2) Try.underlying23 rfl (by rw [bs_sz]; exact info_b)) ⟨k116, k113, k115, k114⟩ ?_
  simp only [List.setIfInBounds_toArray, List.set_cons_zero, List.set_cons_succ]
  refine Sym.take_at 19 48 (.agg (bs b)) rfl rfl (by kernel_rfl) (by kernel_rfl) (by kernel_rfl) (fun _ _ _ h => h) rfl (fun _ hw => run_row rfl rfl (hw.2.2.2) Try.underlying23 rfl (by rw [bs_sz]; exact info_b)) ⟨k116, k113, k115, k114⟩ ?_
  simp only [List.setIfInBounds_toArray, List.set_cons_zero, List.set_cons_succ]
  refine Sym.take_at 22 51 (.bool false) rfl rfl (by kernel_rfl) (by kernel_rfl) (by kernel_rfl) (fun _ _ _ h => h) rfl (fun _ hw => run_mv rfl rfl) ⟨k116, k113, k115, k114⟩ ?_
  simp only [List.setIfInBounds_toArray, List.set_cons_zero, List.set_cons_succ]
  refine one_ready 20 (by kernel_rfl) ?_
  refine opd rfl rfl (w_enter 49 (.agg (bs (b * b % PP))) rfl (run_Mul rfl rfl rfl) (mul_any b b Hb.out Hb.out _) (fun w118 hb119 => ?_))
  have k120 := k113.call hb119
  have k121 := k114.call hb119
  have k122 := k115.call hb119
  have k123 := k116.call hb119
  have hbel124 := bel_call hbel117 hb119
  refine ⟨⟨k123, k120, k122, k121⟩, ?_⟩
  simp only [List.setIfInBounds_toArray, List.set_cons_zero, List.set_cons_succ]
  refine Sym.take_at 21 50 (.bool false) rfl rfl (by kernel_rfl) (by kernel_rfl) (by kernel_rfl) (fun _ _ _ h => h) rfl (fun _ hw => run_eqN (a * a % PP) (b * b % PP) (Nat.lt_trans (Nat.mod_lt _ (by decide)) pp_lt) (Nat.lt_trans (Nat.mod_lt _ (by decide)) pp_lt) false E1.out rfl rfl rfl) ⟨k123, k120, k122, k121⟩ ?_
  simp only [List.setIfInBounds_toArray, List.set_cons_zero, List.set_cons_succ]
  refine Sym.take_at 23 52 (.bool true) rfl rfl (by kernel_rfl) (by kernel_rfl) (by kernel_rfl) (fun _ _ _ h => h) rfl (fun _ hw => run_eqBt false false rfl rfl rfl rfl) ⟨k123, k120, k122, k121⟩ ?_
  simp only [List.setIfInBounds_toArray, List.set_cons_zero, List.set_cons_succ]
  refine Sym.take_at 24 53 (.bool true) rfl rfl (by kernel_rfl) (by kernel_rfl) (by kernel_rfl) (fun _ _ _ h => h) (wanted_none rfl) (fun _ hw => run_pick rfl rfl rfl) ⟨k123, k120, k122, k121⟩ ?_
  simp only [List.setIfInBounds_toArray, List.set_cons_zero, List.set_cons_succ]
  refine one_ready 25 (by kernel_rfl) ?_
  refine opd rfl (wanted_none rfl) (w_value 4 (.bool true) rfl (run_as rfl rfl) ⟨⟨k123, k120, k122, k121⟩, ?_⟩)
  simp only [List.setIfInBounds_toArray, List.set_cons_zero, List.set_cons_succ]
  refine wpAnyH_done (by kernel_rfl) ?_ _
  go_step
  go_step
  go_wp2
  go_ret
  exact ⟨rfl, hbel124⟩

set_option maxHeartbeats 4000000 in
set_option maxRecDepth 100000 in
theorem walk (a : Nat) (ha : a < MM) (b : Nat) (hb : b < MM) (w : World) :
    Calls Try.prog 8 #[.agg (bs a), .agg (bs b)] w fun e w' => e = .returned (.bool true) ∧ Below w.heap.size w w' := by
  have hs : a * a % PP < PP := Nat.mod_lt _ ppos
  have hok := square_root a
  have hsq := rootV_sq _ hok
  have hroot : ∀ w, Calls Try.prog 24 #[.agg (bs (a * a % PP))] w fun e w' => e = .returned (.tuple #[.agg (bs (rootV (a * a % PP))), .bool true]) ∧ Below w.heap.size w w' := by
    intro w
    have := root_any (a * a % PP) (Nat.lt_trans hs pp_lt) w
    rwa [Nat.mod_eq_of_lt hs, hok] at this
  have hrl : rootV (a * a % PP) < PP := by
    have hR : rootR (a * a % PP) < PP := by
      unfold rootR rt2 rt1
      split
      · exact Nat.mod_lt _ ppos
      · exact Nat.mod_lt _ ppos
    unfold rootV
    rw [if_pos hok]
    split <;> omega
  generalize rootV (a * a % PP) = r at *
  have hr := same_sq r a hsq
  rw [Nat.mod_eq_of_lt hrl] at hr
  have hrm := Nat.lt_trans hrl pp_lt
  have hab : a % PP = b % PP → a * a % PP = b * b % PP := fun h => by rw [Nat.mul_mod, h, ← Nat.mul_mod]
  have hab2 : a % PP = (PP - b % PP) % PP → a * a % PP = b * b % PP := fun h => by rw [Nat.mul_mod, h, opp_sq]
  have hne : ¬ a % PP = b % PP → ¬ a % PP = (PP - b % PP) % PP → ¬ a * a % PP = b * b % PP := fun h1 h2 h => by
    rcases same_sq a b h with e | e
    · exact h1 e
    · exact h2 e
  by_cases c1 : a % PP = b % PP
  · by_cases d1 : r = a % PP
    · exact walk_t_t a b r ha hb hrm hroot (decide_eq_true c1) (decide_eq_true (hab c1)) (decide_eq_true d1) w
    · exact walk_t_f a b r ha hb hrm hroot (decide_eq_true c1) (decide_eq_true (hab c1)) (decide_eq_false d1) (decide_eq_true (hr.resolve_left d1)) w
  · by_cases c2 : a % PP = (PP - b % PP) % PP
    · by_cases d1 : r = a % PP
      · exact walk_ft_t a b r ha hb hrm hroot (decide_eq_false c1) (decide_eq_true c2) (decide_eq_true (hab2 c2)) (decide_eq_true d1) w
      · exact walk_ft_f a b r ha hb hrm hroot (decide_eq_false c1) (decide_eq_true c2) (decide_eq_true (hab2 c2)) (decide_eq_false d1) (decide_eq_true (hr.resolve_left d1)) w
    · by_cases d1 : r = a % PP
      · exact walk_ff_t a b r ha hb hrm hroot (decide_eq_false c1) (decide_eq_false c2) (decide_eq_false (hne c1 c2)) (decide_eq_true d1) w
      · exact walk_ff_f a b r ha hb hrm hroot (decide_eq_false c1) (decide_eq_false c2) (decide_eq_false (hne c1 c2)) (decide_eq_false d1) (decide_eq_true (hr.resolve_left d1)) w

set_option maxRecDepth 100000 in
theorem lifted (os : Os) (started : os.Started) (H : Type) (enc : TypeId × Value → H) :
    ReturnsInHanded {} Try.checked os 8 .any (Rows.fieldSquaresSpec.pre6 enc Try.prog Try.f8 Rows.fieldSquaresRow.domain false) (Rows.fieldSquaresSpec.post enc Try.prog Try.f8 false true false false) := by
  refine returnsInHanded_of_change (C := Try.checked) own started (by kernel_rfl) Try.func8
    (ChangeSpec.witness6 (enc := enc) (C := Try.checked) false ⟨#[], #[.agg #[.int .u8 0, .int .u8 0, .int .u8 0, .int .u8 0, .int .u8 0, .int .u8 0, .int .u8 0, .int .u8 0, .int .u8 0, .int .u8 0, .int .u8 0, .int .u8 0, .int .u8 0, .int .u8 0, .int .u8 0, .int .u8 0, .int .u8 0, .int .u8 0, .int .u8 0, .int .u8 0, .int .u8 0, .int .u8 0, .int .u8 0, .int .u8 0, .int .u8 0, .int .u8 0, .int .u8 0, .int .u8 0, .int .u8 0, .int .u8 0, .int .u8 0, .int .u8 0], .agg #[.int .u8 0, .int .u8 0, .int .u8 0, .int .u8 0, .int .u8 0, .int .u8 0, .int .u8 0, .int .u8 0, .int .u8 0, .int .u8 0, .int .u8 0, .int .u8 0, .int .u8 0, .int .u8 0, .int .u8 0, .int .u8 0, .int .u8 0, .int .u8 0, .int .u8 0, .int .u8 0, .int .u8 0, .int .u8 0, .int .u8 0, .int .u8 0, .int .u8 0, .int .u8 0, .int .u8 0, .int .u8 0, .int .u8 0, .int .u8 0, .int .u8 0, .int .u8 0]], []⟩ 8 (by kernel_rfl) (by kernel_rfl) (by kernel_rfl) (by kernel_rfl)) ?_
  intro W base args ds gs before hval0 hW hcnd _
  have hval : ∀ (j : Nat) t v, Try.f8.params[j]? = some t → args[j]? = some v → Value.okWide Try.prog W .any base t v := hval0
  have hW' := hW
  obtain ⟨p, q, hA0, hV, rfl, hfz, hnd⟩ := hW
  have hA : DataW.TrodAll enc Try.prog W 0 (fun _ => true) true Try.f8.params.toList args.toList ds p := hA0
  rw [Try.params8] at hA hval
  obtain ⟨v0, vs0, d0, ds0, p0, q0, hargs, rfl, rfl, h0, r0⟩ := trodAll_cons hA
  obtain ⟨v1, vs1, d1, ds1, p1, q1, rfl, rfl, rfl, h1, r1⟩ := trodAll_cons r0
  obtain ⟨rfl, rfl, rfl⟩ := trodAll_nil r1
  obtain rfl : args = #[v0, v1] := by cases args; simp_all
  obtain ⟨rfl, rfl⟩ := trodVars_none hV
  obtain ⟨a0, b0, rfl, rfl, k0⟩ := open_num (hval 0 23 v0 rfl rfl) h0
  obtain ⟨a1, b1, rfl, rfl, k1⟩ := open_num (hval 1 23 v1 rfl rfl) h1
  clear hA0 hval0
  simp only [List.append_nil] at hW'
  refine (walk a0 b0 a1 b1 W).mono fun e W' ⟨he, hg⟩ => ?_
  subst he
  exact ⟨_, rfl, _, _, _, [], [], [], hW', (trodAll_cons_mk (shut_bool Try.underlying4 _) trodAll_mk0), (trodAll_cons_mk (k0 _ _) (trodAll_cons_mk (k1 _ _) trodAll_mk0)), rfl, hg.frame _, fun h => by cases h⟩

theorem over : Rows.fieldSquaresRow.holds Try.pinned (OpenSpec.ofChange Rows.fieldSquaresSpec) :=
  OpenClaim.holds_of_wide 8 Try.f8 rfl rfl rfl rfl rfl rfl rfl ⟨rfl, rfl, rfl, rfl, rfl⟩ rfl rfl rfl rfl rfl (by kernel_rfl) Try.func8 (by kernel_rfl)
    (of_decide_eq_true (by kernel_rfl)) (by unfold Func.isWrapper; first | (rw [if_pos (by decide +kernel)]; kernel_rfl) | (rw [if_neg (by decide +kernel)]; exact ⟨rfl, rfl⟩))
    (fun os started H enc _ => lifted os started H enc)

/-- The statement. -/
theorem proved : Rows.FieldSquaresSaid :=
  over
#print axioms proved
end Go.Proofs.Ytghcggecahaccaa.fieldSquares
