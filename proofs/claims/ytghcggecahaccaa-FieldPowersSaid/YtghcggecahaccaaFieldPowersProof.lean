/- Powers, what gives 1, and roots are the document's: FieldPowers returns true, for every two numbers of 32 bytes. No condition. -/
import Derived.Test.YtghcggecahaccaaRows
import Derived.Test.YtghcggecahaccaaFldP
import Derived.Test.YtghcggecahaccaaFldO
import Derived.Test.YtghcggecahaccaaFldQ
import Derived.Test.YtghcggecahaccaaFldAD
import Derived.WalkKit
import Derived.ProofKit
import Derived.OpenShut
namespace Go.Proofs.Ytghcggecahaccaa.fieldPowers
open Go.ChangeShapes Go.WideShapes Go.ChangeAt Go.RowKit
open Go.Proofs.Ytghcggecahaccaa Go.Proofs.Ytghcggecahaccaa.Fld Go.Proofs.Ytghcggecahaccaa.Sym
set_option linter.unusedVariables false

theorem own : ownKnob Try.prog.godebug = none := by kernel_rfl

set_option maxHeartbeats 4000000 in
set_option maxRecDepth 100000 in
theorem walk (a : Nat) (ha : a < MM) (n : Nat) (hn : n < MM) (w : World) :
    Calls Try.prog 5 #[.agg (bs a), .agg (bs n)] w fun e w' => e = .returned (.bool true) ∧ Below w.heap.size w w' := by
  have F1 : (a ^ n % PP) = (a ^ n % PP) := by
    rfl
  have F2 : (a ^ (PP - 2) % PP) = (a ^ (PP - 2) % PP) := by
    rfl
  have F3 : (rootV (a % PP)) = (rootV (a % PP)) := by
    rfl
  have Ha := Lib.hid ha
  clear ha
  have Hn := Lib.hid hn
  clear hn
  go_enter Try.func5, Try.ntmps5
  have hbel0 := Below.refl w.heap.size w
  go_step
  go_step
  go_step
  refine lst (wanted_none rfl) (w_alloc (c := bs a) (T := 23) 2 rfl (run_box rfl rfl) (fun w1 he2 => ?_))
  have k3 := Blk.new he2
  have hg4 : w.heap.size ≤ w.heap.size := hbel0.size
  have hbel5 := bel_alloc hbel0 he2
  simp only [List.setIfInBounds_toArray, List.set_cons_zero, List.set_cons_succ]
  refine lst (wanted_none rfl) (w_alloc (c := bs n) (T := 23) 3 rfl (run_box rfl rfl) (fun w6 he7 => ?_))
  have hne9 : w.heap.size ≠ w1.heap.size := Nat.ne_of_lt k3.lt
  have k8 := k3.alloc he7
  have k10 := Blk.new he7
  have hg11 : w.heap.size ≤ w1.heap.size := hbel5.size
  have hbel12 := bel_alloc hbel5 he7
  simp only [List.setIfInBounds_toArray, List.set_cons_zero, List.set_cons_succ]
  refine lst (wanted_none rfl) (w_value 4 (.bool false) rfl (run_as rfl rfl) ?_)
  simp only [List.setIfInBounds_toArray, List.set_cons_zero, List.set_cons_succ]
  go_step
  go_step
  go_step
  go_step
  go_step
  refine lst (wanted_none rfl) (w_value 10 (.agg (bs a)) rfl (run_row rfl rfl k8 Try.underlying23 rfl (by rw [bs_sz]; exact info_b)) ?_)
  simp only [List.setIfInBounds_toArray, List.set_cons_zero, List.set_cons_succ]
  refine lst (wanted_none rfl) (w_enter 11 (.tuple #[.agg (bs (rootV (a % PP))), .bool (rootOk (a % PP))]) rfl (run_Root rfl rfl) (root_any a Ha.out _) (fun w13 hb14 => ?_))
  have k15 := k8.call hb14
  have k16 := k10.call hb14
  have hbel17 := bel_call hbel12 hb14
  simp only [List.setIfInBounds_toArray, List.set_cons_zero, List.set_cons_succ]
  refine lst (wanted_none rfl) (w_value 9 (.tuple #[.agg (bs (rootV (a % PP))), .bool (rootOk (a % PP))]) rfl (run_mv rfl rfl) ?_)
  simp only [List.setIfInBounds_toArray, List.set_cons_zero, List.set_cons_succ]
  refine lst (wanted_none rfl) (w_value 12 (.agg (bs (rootV (a % PP)))) rfl (run_ex rfl rfl rfl) ?_)
  simp only [List.setIfInBounds_toArray, List.set_cons_zero, List.set_cons_succ]
  refine lst (wanted_none rfl) (w_value 13 (.bool (rootOk (a % PP))) rfl (run_ex rfl rfl rfl) ?_)
  simp only [List.setIfInBounds_toArray, List.set_cons_zero, List.set_cons_succ]
  refine lst (wanted_none rfl) (w_alloc (c := bs 0) (T := 23) 5 rfl (run_alN rfl) (fun w18 he19 => ?_))
  have hne21 : w.heap.size ≠ w13.heap.size := Nat.ne_of_lt k15.lt
  have k20 := k15.alloc he19
  have hne23 : w1.heap.size ≠ w13.heap.size := Nat.ne_of_lt k16.lt
  have k22 := k16.alloc he19
  have k24 := Blk.new he19
  have hg25 : w.heap.size ≤ w13.heap.size := hbel17.size
  have hbel26 := bel_alloc hbel17 he19
  simp only [List.setIfInBounds_toArray, List.set_cons_zero, List.set_cons_succ]
  refine lst (wanted_none rfl) (w_store 23 _ _ (w13.heap.size) (bs (rootV (a % PP))) rfl rfl rfl rfl k24 (by rw [bs_sz]; exact info_b) ((bs_sz _).trans (bs_sz _).symm) (bs_one _) (fun w27 he28 => ?_))
  have k29 := k20.other hne21 he28
  have k30 := k22.other hne23 he28
  have k31 := k24.set he28
  have hbel32 := bel_set hbel26 hg25 he28
  refine lst (wanted_none rfl) (w_value 6 (.bool (rootOk (a % PP))) rfl (run_as rfl rfl) ?_)
  simp only [List.setIfInBounds_toArray, List.set_cons_zero, List.set_cons_succ]
  go_step
  go_step
  go_step
  go_step
  go_step
  refine lst (wanted_none rfl) (w_value 15 (.agg (bs a)) rfl (run_row rfl rfl k29 Try.underlying23 rfl (by rw [bs_sz]; exact info_b)) ?_)
  simp only [List.setIfInBounds_toArray, List.set_cons_zero, List.set_cons_succ]
  refine lst (wanted_none rfl) (w_enter 16 (.tuple #[.agg (bs (rootV (a % PP))), .bool (rootOk (a % PP))]) rfl (run_rRoot rfl rfl) (rroot_any a Ha.out _) (fun w33 hb34 => ?_))
  have k35 := k29.call hb34
  have k36 := k30.call hb34
  have k37 := k31.call hb34
  have hbel38 := bel_call hbel32 hb34
  simp only [List.setIfInBounds_toArray, List.set_cons_zero, List.set_cons_succ]
  refine lst (wanted_none rfl) (w_value 14 (.tuple #[.agg (bs (rootV (a % PP))), .bool (rootOk (a % PP))]) rfl (run_mv rfl rfl) ?_)
  simp only [List.setIfInBounds_toArray, List.set_cons_zero, List.set_cons_succ]
  refine lst (wanted_none rfl) (w_value 17 (.agg (bs (rootV (a % PP)))) rfl (run_ex rfl rfl rfl) ?_)
  simp only [List.setIfInBounds_toArray, List.set_cons_zero, List.set_cons_succ]
  refine lst (wanted_none rfl) (w_value 18 (.bool (rootOk (a % PP))) rfl (run_ex rfl rfl rfl) ?_)
  simp only [List.setIfInBounds_toArray, List.set_cons_zero, List.set_cons_succ]
  refine lst (wanted_none rfl) (w_alloc (c := bs 0) (T := 23) 7 rfl (run_alN rfl) (fun w39 he40 => ?_))
  have hne42 : w.heap.size ≠ w33.heap.size := Nat.ne_of_lt k35.lt
  have k41 := k35.alloc he40
  have hne44 : w1.heap.size ≠ w33.heap.size := Nat.ne_of_lt k36.lt
  have k43 := k36.alloc he40
  have hne46 : w13.heap.size ≠ w33.heap.size := Nat.ne_of_lt k37.lt
  have k45 := k37.alloc he40
  have k47 := Blk.new he40
  have hg48 : w.heap.size ≤ w33.heap.size := hbel38.size
  have hbel49 := bel_alloc hbel38 he40
  simp only [List.setIfInBounds_toArray, List.set_cons_zero, List.set_cons_succ]
  refine lst (wanted_none rfl) (w_store 23 _ _ (w33.heap.size) (bs (rootV (a % PP))) rfl rfl rfl rfl k47 (by rw [bs_sz]; exact info_b) ((bs_sz _).trans (bs_sz _).symm) (bs_one _) (fun w50 he51 => ?_))
  have k52 := k41.other hne42 he51
  have k53 := k43.other hne44 he51
  have k54 := k45.other hne46 he51
  have k55 := k47.set he51
  have hbel56 := bel_set hbel49 hg48 he51
  refine lst (wanted_none rfl) (w_value 8 (.bool (rootOk (a % PP))) rfl (run_as rfl rfl) ?_)
  simp only [List.setIfInBounds_toArray, List.set_cons_zero, List.set_cons_succ]
  go_step
  go_step
  go_step
  go_step
  have k57 := k52.drew
  have k58 := k53.drew
  have k59 := k54.drew
  have k60 := k55.drew
  have hbel61 := hbel56.drew
  refine wp_region_held_drew (S := fun w' => Blk w' (w.heap.size) (bs a) 23 ∧ Blk w' (w1.heap.size) (bs n) 23 ∧ Blk w' (w13.heap.size) (bs (rootV (a % PP))) 23 ∧ Blk w' (w33.heap.size) (bs (rootV (a % PP))) 23) (by kernel_rfl) ⟨k57, k58, k59, k60⟩ (fun _ => ?_)
  generalize w50.drew = wd62 at *
  refine one_ready 0 (by kernel_rfl) ?_
  refine opd rfl (wanted_none rfl) (w_enter 19 (.bool true) rfl (run_awake rfl) (awake_any _) (fun w63 hb64 => ?_))
  have k65 := k57.call hb64
  have k66 := k58.call hb64
  have k67 := k59.call hb64
  have k68 := k60.call hb64
  have hbel69 := bel_call hbel61 hb64
  refine ⟨⟨k65, k66, k67, k68⟩, ?_⟩
  simp only [List.setIfInBounds_toArray, List.set_cons_zero, List.set_cons_succ]
  refine Sym.take_at 1 20 (.bool true) rfl rfl (by kernel_rfl) (by kernel_rfl) (by kernel_rfl) (fun _ _ _ h => h) (wanted_none rfl) (fun _ hw => run_mv rfl rfl) ⟨k65, k66, k67, k68⟩ ?_
  simp only [List.setIfInBounds_toArray, List.set_cons_zero, List.set_cons_succ]
  refine Sym.take_at 2 21 (.agg (bs a)) rfl rfl (by kernel_rfl) (by kernel_rfl) (by kernel_rfl) (fun _ _ _ h => h) rfl (fun _ hw => run_row rfl rfl (hw.1) Try.underlying23 rfl (by rw [bs_sz]; exact info_b)) ⟨k65, k66, k67, k68⟩ ?_
  simp only [List.setIfInBounds_toArray, List.set_cons_zero, List.set_cons_succ]
  refine Sym.take_at 3 22 (.agg (bs n)) rfl rfl (by kernel_rfl) (by kernel_rfl) (by kernel_rfl) (fun _ _ _ h => h) rfl (fun _ hw => run_row rfl rfl (hw.2.1) Try.underlying23 rfl (by rw [bs_sz]; exact info_b)) ⟨k65, k66, k67, k68⟩ ?_
  simp only [List.setIfInBounds_toArray, List.set_cons_zero, List.set_cons_succ]
  refine Sym.take_at 5 24 (.agg (bs a)) rfl rfl (by kernel_rfl) (by kernel_rfl) (by kernel_rfl) (fun _ _ _ h => h) rfl (fun _ hw => run_row rfl rfl (hw.1) Try.underlying23 rfl (by rw [bs_sz]; exact info_b)) ⟨k65, k66, k67, k68⟩ ?_
  simp only [List.setIfInBounds_toArray, List.set_cons_zero, List.set_cons_succ]
  refine Sym.take_at 6 25 (.agg (bs n)) rfl rfl (by kernel_rfl) (by kernel_rfl) (by kernel_rfl) (fun _ _ _ h => h) rfl (fun _ hw => run_row rfl rfl (hw.2.1) Try.underlying23 rfl (by rw [bs_sz]; exact info_b)) ⟨k65, k66, k67, k68⟩ ?_
  simp only [List.setIfInBounds_toArray, List.set_cons_zero, List.set_cons_succ]
  refine one_ready 4 (by kernel_rfl) ?_
  refine opd rfl rfl (w_enter 23 (.agg (bs (a ^ n % PP))) rfl (run_Power rfl rfl rfl) (power_any a n Ha.out Hn.out _) (fun w70 hb71 => ?_))
  have k72 := k65.call hb71
  have k73 := k66.call hb71
  have k74 := k67.call hb71
  have k75 := k68.call hb71
  have hbel76 := bel_call hbel69 hb71
  refine ⟨⟨k72, k73, k74, k75⟩, ?_⟩
  simp only [List.setIfInBounds_toArray, List.set_cons_zero, List.set_cons_succ]
  refine one_ready 7 (by kernel_rfl) ?_
  refine opd rfl rfl (w_enter 26 (.agg (bs (a ^ n % PP))) rfl (run_rPower rfl rfl rfl) (rpower_any a n Ha.out Hn.out _) (fun w77 hb78 => ?_))
  have k79 := k72.call hb78
  have k80 := k73.call hb78
  have k81 := k74.call hb78
  have k82 := k75.call hb78
  have hbel83 := bel_call hbel76 hb78
  refine ⟨⟨k79, k80, k81, k82⟩, ?_⟩
  simp only [List.setIfInBounds_toArray, List.set_cons_zero, List.set_cons_succ]
  refine Sym.take_at 8 27 (.bool true) rfl rfl (by kernel_rfl) (by kernel_rfl) (by kernel_rfl) (fun _ _ _ h => h) rfl (fun _ hw => run_eqN (a ^ n % PP) (a ^ n % PP) (Nat.lt_trans (Nat.mod_lt _ (by decide)) pp_lt) (Nat.lt_trans (Nat.mod_lt _ (by decide)) pp_lt) true (decide_eq_true F1) rfl rfl rfl) ⟨k79, k80, k81, k82⟩ ?_
  simp only [List.setIfInBounds_toArray, List.set_cons_zero, List.set_cons_succ]
  refine Sym.take_at 9 28 (.bool true) rfl rfl (by kernel_rfl) (by kernel_rfl) (by kernel_rfl) (fun _ _ _ h => h) (wanted_none rfl) (fun _ hw => run_pick rfl rfl rfl) ⟨k79, k80, k81, k82⟩ ?_
  simp only [List.setIfInBounds_toArray, List.set_cons_zero, List.set_cons_succ]
  refine Sym.take_at 10 29 (.bool true) rfl rfl (by kernel_rfl) (by kernel_rfl) (by kernel_rfl) (fun _ _ _ h => h) (wanted_none rfl) (fun _ hw => run_mv rfl rfl) ⟨k79, k80, k81, k82⟩ ?_
  simp only [List.setIfInBounds_toArray, List.set_cons_zero, List.set_cons_succ]
  refine Sym.take_at 11 30 (.agg (bs a)) rfl rfl (by kernel_rfl) (by kernel_rfl) (by kernel_rfl) (fun _ _ _ h => h) rfl (fun _ hw => run_row rfl rfl (hw.1) Try.underlying23 rfl (by rw [bs_sz]; exact info_b)) ⟨k79, k80, k81, k82⟩ ?_
  simp only [List.setIfInBounds_toArray, List.set_cons_zero, List.set_cons_succ]
  refine Sym.take_at 13 32 (.agg (bs a)) rfl rfl (by kernel_rfl) (by kernel_rfl) (by kernel_rfl) (fun _ _ _ h => h) rfl (fun _ hw => run_row rfl rfl (hw.1) Try.underlying23 rfl (by rw [bs_sz]; exact info_b)) ⟨k79, k80, k81, k82⟩ ?_
  simp only [List.setIfInBounds_toArray, List.set_cons_zero, List.set_cons_succ]
  refine one_ready 12 (by kernel_rfl) ?_
  refine opd rfl rfl (w_enter 31 (.agg (bs (a ^ (PP - 2) % PP))) rfl (run_Inv rfl rfl) (inv_any a Ha.out _) (fun w84 hb85 => ?_))
  have k86 := k79.call hb85
  have k87 := k80.call hb85
  have k88 := k81.call hb85
  have k89 := k82.call hb85
  have hbel90 := bel_call hbel83 hb85
  refine ⟨⟨k86, k87, k88, k89⟩, ?_⟩
  simp only [List.setIfInBounds_toArray, List.set_cons_zero, List.set_cons_succ]
  refine one_ready 14 (by kernel_rfl) ?_
  refine opd rfl rfl (w_enter 33 (.agg (bs (a ^ (PP - 2) % PP))) rfl (run_rInv rfl rfl) (rinv_any a Ha.out _) (fun w91 hb92 => ?_))
  have k93 := k86.call hb92
  have k94 := k87.call hb92
  have k95 := k88.call hb92
  have k96 := k89.call hb92
  have hbel97 := bel_call hbel90 hb92
  refine ⟨⟨k93, k94, k95, k96⟩, ?_⟩
  simp only [List.setIfInBounds_toArray, List.set_cons_zero, List.set_cons_succ]
  refine Sym.take_at 15 34 (.bool true) rfl rfl (by kernel_rfl) (by kernel_rfl) (by kernel_rfl) (fun _ _ _ h => h) rfl (fun _ hw => run_eqN (a ^ (PP - 2) % PP) (a ^ (PP - 2) % PP) (Nat.lt_trans (Nat.mod_lt _ (by decide)) pp_lt) (Nat.lt_trans (Nat.mod_lt _ (by decide)) pp_lt) true (decide_eq_true F2) rfl rfl rfl) ⟨k93, k94, k95, k96⟩ ?_
  simp only [List.setIfInBounds_toArray, List.set_cons_zero, List.set_cons_succ]
  refine Sym.take_at 16 35 (.bool true) rfl rfl (by kernel_rfl) (by kernel_rfl) (by kernel_rfl) (fun _ _ _ h => h) (wanted_none rfl) (fun _ hw => run_pick rfl rfl rfl) ⟨k93, k94, k95, k96⟩ ?_
  simp only [List.setIfInBounds_toArray, List.set_cons_zero, List.set_cons_succ]
  refine Sym.take_at 17 36 (.bool true) rfl rfl (by kernel_rfl) (by kernel_rfl) (by kernel_rfl) (fun _ _ _ h => h) (wanted_none rfl) (fun _ hw => run_mv rfl rfl) ⟨k93, k94, k95, k96⟩ ?_
  simp only [List.setIfInBounds_toArray, List.set_cons_zero, List.set_cons_succ]
  refine Sym.take_at 18 37 (.agg (bs (rootV (a % PP)))) rfl rfl (by kernel_rfl) (by kernel_rfl) (by kernel_rfl) (fun _ _ _ h => h) rfl (fun _ hw => run_row rfl rfl (hw.2.2.1) Try.underlying23 rfl (by rw [bs_sz]; exact info_b)) ⟨k93, k94, k95, k96⟩ ?_
  simp only [List.setIfInBounds_toArray, List.set_cons_zero, List.set_cons_succ]
  refine Sym.take_at 19 38 (.agg (bs (rootV (a % PP)))) rfl rfl (by kernel_rfl) (by kernel_rfl) (by kernel_rfl) (fun _ _ _ h => h) rfl (fun _ hw => run_row rfl rfl (hw.2.2.2) Try.underlying23 rfl (by rw [bs_sz]; exact info_b)) ⟨k93, k94, k95, k96⟩ ?_
  simp only [List.setIfInBounds_toArray, List.set_cons_zero, List.set_cons_succ]
  refine Sym.take_at 20 39 (.bool true) rfl rfl (by kernel_rfl) (by kernel_rfl) (by kernel_rfl) (fun _ _ _ h => h) rfl (fun _ hw => run_eqN (rootV (a % PP)) (rootV (a % PP)) (rootV_lt _) (rootV_lt _) true (decide_eq_true F3) rfl rfl rfl) ⟨k93, k94, k95, k96⟩ ?_
  simp only [List.setIfInBounds_toArray, List.set_cons_zero, List.set_cons_succ]
  refine Sym.take_at 21 40 (.bool true) rfl rfl (by kernel_rfl) (by kernel_rfl) (by kernel_rfl) (fun _ _ _ h => h) (wanted_none rfl) (fun _ hw => run_pick rfl rfl rfl) ⟨k93, k94, k95, k96⟩ ?_
  simp only [List.setIfInBounds_toArray, List.set_cons_zero, List.set_cons_succ]
  refine Sym.take_at 22 41 (.bool true) rfl rfl (by kernel_rfl) (by kernel_rfl) (by kernel_rfl) (fun _ _ _ h => h) (wanted_none rfl) (fun _ hw => run_mv rfl rfl) ⟨k93, k94, k95, k96⟩ ?_
  simp only [List.setIfInBounds_toArray, List.set_cons_zero, List.set_cons_succ]
  refine Sym.take_at 23 42 (.bool (rootOk (a % PP))) rfl rfl (by kernel_rfl) (by kernel_rfl) (by kernel_rfl) (fun _ _ _ h => h) rfl (fun _ hw => run_mv rfl rfl) ⟨k93, k94, k95, k96⟩ ?_
  simp only [List.setIfInBounds_toArray, List.set_cons_zero, List.set_cons_succ]
  refine Sym.take_at 24 43 (.bool (rootOk (a % PP))) rfl rfl (by kernel_rfl) (by kernel_rfl) (by kernel_rfl) (fun _ _ _ h => h) rfl (fun _ hw => run_mv rfl rfl) ⟨k93, k94, k95, k96⟩ ?_
  simp only [List.setIfInBounds_toArray, List.set_cons_zero, List.set_cons_succ]
  refine Sym.take_at 25 44 (.bool true) rfl rfl (by kernel_rfl) (by kernel_rfl) (by kernel_rfl) (fun _ _ _ h => h) rfl (fun _ hw => run_eqBt (rootOk (a % PP)) (rootOk (a % PP)) rfl rfl rfl rfl) ⟨k93, k94, k95, k96⟩ ?_
  simp only [List.setIfInBounds_toArray, List.set_cons_zero, List.set_cons_succ]
  refine Sym.take_at 26 45 (.bool true) rfl rfl (by kernel_rfl) (by kernel_rfl) (by kernel_rfl) (fun _ _ _ h => h) (wanted_none rfl) (fun _ hw => run_pick rfl rfl rfl) ⟨k93, k94, k95, k96⟩ ?_
  simp only [List.setIfInBounds_toArray, List.set_cons_zero, List.set_cons_succ]
  refine one_ready 27 (by kernel_rfl) ?_
  refine opd rfl (wanted_none rfl) (w_value 4 (.bool true) rfl (run_as rfl rfl) ⟨⟨k93, k94, k95, k96⟩, ?_⟩)
  simp only [List.setIfInBounds_toArray, List.set_cons_zero, List.set_cons_succ]
  refine wpAnyH_done (by kernel_rfl) ?_ _
  go_step
  go_step
  go_wp2
  go_ret
  exact ⟨rfl, hbel97⟩

set_option maxRecDepth 100000 in
theorem lifted (os : Os) (started : os.Started) (H : Type) (enc : TypeId × Value → H) :
    ReturnsInHanded {} Try.checked os 5 .any (Rows.fieldPowersSpec.pre6 enc Try.prog Try.f5 Rows.fieldPowersRow.domain false) (Rows.fieldPowersSpec.post enc Try.prog Try.f5 false true false false) := by
  refine returnsInHanded_of_change (C := Try.checked) own started (by kernel_rfl) Try.func5
    (ChangeSpec.witness6 (enc := enc) (C := Try.checked) false ⟨#[], #[.agg #[.int .u8 0, .int .u8 0, .int .u8 0, .int .u8 0, .int .u8 0, .int .u8 0, .int .u8 0, .int .u8 0, .int .u8 0, .int .u8 0, .int .u8 0, .int .u8 0, .int .u8 0, .int .u8 0, .int .u8 0, .int .u8 0, .int .u8 0, .int .u8 0, .int .u8 0, .int .u8 0, .int .u8 0, .int .u8 0, .int .u8 0, .int .u8 0, .int .u8 0, .int .u8 0, .int .u8 0, .int .u8 0, .int .u8 0, .int .u8 0, .int .u8 0, .int .u8 0], .agg #[.int .u8 0, .int .u8 0, .int .u8 0, .int .u8 0, .int .u8 0, .int .u8 0, .int .u8 0, .int .u8 0, .int .u8 0, .int .u8 0, .int .u8 0, .int .u8 0, .int .u8 0, .int .u8 0, .int .u8 0, .int .u8 0, .int .u8 0, .int .u8 0, .int .u8 0, .int .u8 0, .int .u8 0, .int .u8 0, .int .u8 0, .int .u8 0, .int .u8 0, .int .u8 0, .int .u8 0, .int .u8 0, .int .u8 0, .int .u8 0, .int .u8 0, .int .u8 0]], []⟩ 8 (by kernel_rfl) (by kernel_rfl) (by kernel_rfl) (by kernel_rfl)) ?_
  intro W base args ds gs before hval0 hW hcnd _
  have hval : ∀ (j : Nat) t v, Try.f5.params[j]? = some t → args[j]? = some v → Value.okWide Try.prog W .any base t v := hval0
  have hW' := hW
  obtain ⟨p, q, hA0, hV, rfl, hfz, hnd⟩ := hW
  have hA : DataW.TrodAll enc Try.prog W 0 (fun _ => true) true Try.f5.params.toList args.toList ds p := hA0
  rw [Try.params5] at hA hval
  obtain ⟨v0, vs0, d0, ds0, p0, q0, hargs, rfl, rfl, h0, r0⟩ := trodAll_cons hA
  obtain ⟨v1, vs1, d1, ds1, p1, q1, rfl, rfl, rfl, h1, r1⟩ := trodAll_cons r0
  obtain ⟨rfl, rfl, rfl⟩ := trodAll_nil r1
  obtain rfl : args = #[v0, v1] := by cases args; simp_all
  obtain ⟨rfl, rfl⟩ := trodVars_none hV
  obtain ⟨a0, b0, rfl, rfl, k0⟩ := open_num (hval 0 23 v0 rfl rfl) h0
  obtain ⟨a1, b1, rfl, rfl, k1⟩ := open_num (hval 1 23 v1 rfl rfl) h1
  clear hA0 hval0
  simp only [List.append_nil] at hW'
  refine (walk a0 b0 a1 b1 W).mono fun e W' ⟨he, hg⟩ => ?_
  subst he
  exact ⟨_, rfl, _, _, _, [], [], [], hW', (trodAll_cons_mk (shut_bool Try.underlying4 _) trodAll_mk0), (trodAll_cons_mk (k0 _ _) (trodAll_cons_mk (k1 _ _) trodAll_mk0)), rfl, hg.frame _, fun h => by cases h⟩

theorem over : Rows.fieldPowersRow.holds Try.pinned (OpenSpec.ofChange Rows.fieldPowersSpec) :=
  OpenClaim.holds_of_wide 5 Try.f5 rfl rfl rfl rfl rfl rfl rfl ⟨rfl, rfl, rfl, rfl, rfl⟩ rfl rfl rfl rfl rfl (by kernel_rfl) Try.func5 (by kernel_rfl)
    (of_decide_eq_true (by kernel_rfl)) (by unfold Func.isWrapper; first | (rw [if_pos (by decide +kernel)]; kernel_rfl) | (rw [if_neg (by decide +kernel)]; exact ⟨rfl, rfl⟩))
    (fun os started H enc _ => lifted os started H enc)

/-- The statement. -/
theorem proved : Rows.FieldPowersSaid :=
  over
#print axioms proved
end Go.Proofs.Ytghcggecahaccaa.fieldPowers
