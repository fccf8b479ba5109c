/- A difference is 0 just between numbers that leave the same rest; each number has one opposite: FieldApart returns true, for every two numbers of 32 bytes. No condition. -/
import Derived.Test.YtghcggecahaccaaRows
import Derived.Test.YtghcggecahaccaaFldP
import Derived.Test.YtghcggecahaccaaFldO
import Derived.Test.YtghcggecahaccaaFldQ
import Derived.WalkKit
import Derived.ProofKit
import Derived.OpenShut
namespace Go.Proofs.Ytghcggecahaccaa.fieldApart
open Go.ChangeShapes Go.WideShapes Go.ChangeAt Go.RowKit
open Go.Proofs.Ytghcggecahaccaa Go.Proofs.Ytghcggecahaccaa.Fld Go.Proofs.Ytghcggecahaccaa.Sym
set_option linter.unusedVariables false

theorem own : ownKnob Try.prog.godebug = none := by kernel_rfl

set_option maxHeartbeats 4000000 in
set_option maxRecDepth 100000 in
theorem walk (a : Nat) (ha : a < MM) (b : Nat) (hb : b < MM) (w : World) :
    Calls Try.prog 10 #[.agg (bs a), .agg (bs b)] w fun e w' => e = .returned (.bool true) ∧ Below w.heap.size w w' := by
  have F3 : ((a + ((PP - (a % PP)) % PP)) % PP) = 0 := by
    unfold PP; omega
  have F4 : ((PP - (((PP - (a % PP)) % PP) % PP)) % PP) = (a % PP) := by
    unfold PP; omega
  have HS : Hid (decide ((a % PP + (PP - b % PP)) % PP = 0) = decide (a % PP = b % PP)) := by
    show _ = _
    rw [Bool.eq_iff_iff, decide_eq_true_iff, decide_eq_true_iff]
    unfold PP; omega
  have Ha := Lib.hid ha
  clear ha
  have Hb := Lib.hid hb
  clear hb
  go_enter Try.func10, Try.ntmps10
  have hbel0 := Below.refl w.heap.size w
  go_step
  go_step
  go_step
  refine lst (wanted_none rfl) (w_alloc (c := bs a) (T := 23) 2 rfl (run_box rfl rfl) (fun w1 he2 => ?_))
  have k3 := Blk.new he2
  have hg4 : w.heap.size ≤ w.heap.size := hbel0.size
  have hbel5 := bel_alloc hbel0 he2
  simp only [List.setIfInBounds_toArray, List.set_cons_zero, List.set_cons_succ]
  refine lst (wanted_none rfl) (w_alloc (c := bs b) (T := 23) 3 rfl (run_box rfl rfl) (fun w6 he7 => ?_))
  have hne9 : w.heap.size ≠ w1.heap.size := Nat.ne_of_lt k3.lt
  have k8 := k3.alloc he7
  have k10 := Blk.new he7
  have hg11 : w.heap.size ≤ w1.heap.size := hbel5.size
  have hbel12 := bel_alloc hbel5 he7
  simp only [List.setIfInBounds_toArray, List.set_cons_zero, List.set_cons_succ]
  refine lst (wanted_none rfl) (w_value 4 (.bool false) rfl (run_as rfl rfl) ?_)
  simp only [List.setIfInBounds_toArray, List.set_cons_zero, List.set_cons_succ]
  go_step
  go_step
  go_step
  go_step
  go_step
  refine lst (wanted_none rfl) (w_value 6 (.agg (bs 0)) rfl (by unfold execOp; go_simp; rfl) ?_)
  simp only [List.setIfInBounds_toArray, List.set_cons_zero, List.set_cons_succ]
  refine lst (wanted_none rfl) (w_alloc (c := bs 0) (T := 23) 5 rfl (run_alN rfl) (fun w13 he14 => ?_))
  have hne16 : w.heap.size ≠ w6.heap.size := Nat.ne_of_lt k8.lt
  have k15 := k8.alloc he14
  have hne18 : w1.heap.size ≠ w6.heap.size := Nat.ne_of_lt k10.lt
  have k17 := k10.alloc he14
  have k19 := Blk.new he14
  have hg20 : w.heap.size ≤ w6.heap.size := hbel12.size
  have hbel21 := bel_alloc hbel12 he14
  simp only [List.setIfInBounds_toArray, List.set_cons_zero, List.set_cons_succ]
  refine lst (wanted_none rfl) (w_store 23 _ _ (w6.heap.size) (bs 0) rfl rfl rfl rfl k19 (by rw [bs_sz]; exact info_b) ((bs_sz _).trans (bs_sz _).symm) (bs_one _) (fun w22 he23 => ?_))
  have k24 := k15.other hne16 he23
  have k25 := k17.other hne18 he23
  have k26 := k19.set he23
  have hbel27 := bel_set hbel21 hg20 he23
  go_step
  go_step
  go_step
  go_step
  have k28 := k24.drew
  have k29 := k25.drew
  have k30 := k26.drew
  have hbel31 := hbel27.drew
  refine wp_region_held_drew (S := fun w' => Blk w' (w.heap.size) (bs a) 23 ∧ Blk w' (w1.heap.size) (bs b) 23 ∧ Blk w' (w6.heap.size) (bs 0) 23) (by kernel_rfl) ⟨k28, k29, k30⟩ (fun _ => ?_)
  generalize w22.drew = wd32 at *
  refine one_ready 0 (by kernel_rfl) ?_
  refine opd rfl (wanted_none rfl) (w_enter 7 (.bool true) rfl (run_awake rfl) (awake_any _) (fun w33 hb34 => ?_))
  have k35 := k28.call hb34
  have k36 := k29.call hb34
  have k37 := k30.call hb34
  have hbel38 := bel_call hbel31 hb34
  refine ⟨⟨k35, k36, k37⟩, ?_⟩
  simp only [List.setIfInBounds_toArray, List.set_cons_zero, List.set_cons_succ]
  refine Sym.take_at 1 8 (.bool true) rfl rfl (by kernel_rfl) (by kernel_rfl) (by kernel_rfl) (fun _ _ _ h => h) (wanted_none rfl) (fun _ hw => run_mv rfl rfl) ⟨k35, k36, k37⟩ ?_
  simp only [List.setIfInBounds_toArray, List.set_cons_zero, List.set_cons_succ]
  refine Sym.take_at 2 9 (.agg (bs a)) rfl rfl (by kernel_rfl) (by kernel_rfl) (by kernel_rfl) (fun _ _ _ h => h) rfl (fun _ hw => run_row rfl rfl (hw.1) Try.underlying23 rfl (by rw [bs_sz]; exact info_b)) ⟨k35, k36, k37⟩ ?_
  simp only [List.setIfInBounds_toArray, List.set_cons_zero, List.set_cons_succ]
  refine Sym.take_at 3 10 (.agg (bs b)) rfl rfl (by kernel_rfl) (by kernel_rfl) (by kernel_rfl) (fun _ _ _ h => h) rfl (fun _ hw => run_row rfl rfl (hw.2.1) Try.underlying23 rfl (by rw [bs_sz]; exact info_b)) ⟨k35, k36, k37⟩ ?_
  simp only [List.setIfInBounds_toArray, List.set_cons_zero, List.set_cons_succ]
  refine Sym.take_at 5 12 (.agg (bs 0)) rfl rfl (by kernel_rfl) (by kernel_rfl) (by kernel_rfl) (fun _ _ _ h => h) rfl (fun _ hw => run_row rfl rfl (hw.2.2) Try.underlying23 rfl (by rw [bs_sz]; exact info_b)) ⟨k35, k36, k37⟩ ?_
  simp only [List.setIfInBounds_toArray, List.set_cons_zero, List.set_cons_succ]
  refine Sym.take_at 7 14 (.agg (bs a)) rfl rfl (by kernel_rfl) (by kernel_rfl) (by kernel_rfl) (fun _ _ _ h => h) rfl (fun _ hw => run_row rfl rfl (hw.1) Try.underlying23 rfl (by rw [bs_sz]; exact info_b)) ⟨k35, k36, k37⟩ ?_
  simp only [List.setIfInBounds_toArray, List.set_cons_zero, List.set_cons_succ]
  refine Sym.take_at 9 16 (.agg (bs b)) rfl rfl (by kernel_rfl) (by kernel_rfl) (by kernel_rfl) (fun _ _ _ h => h) rfl (fun _ hw => run_row rfl rfl (hw.2.1) Try.underlying23 rfl (by rw [bs_sz]; exact info_b)) ⟨k35, k36, k37⟩ ?_
  simp only [List.setIfInBounds_toArray, List.set_cons_zero, List.set_cons_succ]
  refine one_ready 4 (by kernel_rfl) ?_
  refine opd rfl rfl (w_enter 11 (.agg (bs ((a % PP + (PP - b % PP)) % PP))) rfl (run_Sub rfl rfl rfl) (sub_any a b Ha.out Hb.out _) (fun w39 hb40 => ?_))
  have k41 := k35.call hb40
  have k42 := k36.call hb40
  have k43 := k37.call hb40
  have hbel44 := bel_call hbel38 hb40
  refine ⟨⟨k41, k42, k43⟩, ?_⟩
  simp only [List.setIfInBounds_toArray, List.set_cons_zero, List.set_cons_succ]
  refine Sym.take_at 6 13 (.bool (decide (((a % PP + (PP - b % PP)) % PP) = 0))) rfl rfl (by kernel_rfl) (by kernel_rfl) (by kernel_rfl) (fun _ _ _ h => h) rfl (fun _ hw => run_eqN ((a % PP + (PP - b % PP)) % PP) 0 (Nat.lt_trans (Nat.mod_lt _ (by decide)) pp_lt) (by decide) (decide (((a % PP + (PP - b % PP)) % PP) = 0)) rfl rfl rfl rfl) ⟨k41, k42, k43⟩ ?_
  simp only [List.setIfInBounds_toArray, List.set_cons_zero, List.set_cons_succ]
  refine one_ready 8 (by kernel_rfl) ?_
  refine opd rfl rfl (w_enter 15 (.agg (bs (a % PP))) rfl (run_Reduce rfl rfl) (reduce_any a Ha.out _) (fun w45 hb46 => ?_))
  have k47 := k41.call hb46
  have k48 := k42.call hb46
  have k49 := k43.call hb46
  have hbel50 := bel_call hbel44 hb46
  refine ⟨⟨k47, k48, k49⟩, ?_⟩
  simp only [List.setIfInBounds_toArray, List.set_cons_zero, List.set_cons_succ]
  refine one_ready 10 (by kernel_rfl) ?_
  refine opd rfl rfl (w_enter 17 (.agg (bs (b % PP))) rfl (run_Reduce rfl rfl) (reduce_any b Hb.out _) (fun w51 hb52 => ?_))
  have k53 := k47.call hb52
  have k54 := k48.call hb52
  have k55 := k49.call hb52
  have hbel56 := bel_call hbel50 hb52
  refine ⟨⟨k53, k54, k55⟩, ?_⟩
  simp only [List.setIfInBounds_toArray, List.set_cons_zero, List.set_cons_succ]
  refine Sym.take_at 11 18 (.bool (decide ((a % PP) = (b % PP)))) rfl rfl (by kernel_rfl) (by kernel_rfl) (by kernel_rfl) (fun _ _ _ h => h) rfl (fun _ hw => run_eqN (a % PP) (b % PP) (Nat.lt_trans (Nat.mod_lt _ (by decide)) pp_lt) (Nat.lt_trans (Nat.mod_lt _ (by decide)) pp_lt) (decide ((a % PP) = (b % PP))) rfl rfl rfl rfl) ⟨k53, k54, k55⟩ ?_
  simp only [List.setIfInBounds_toArray, List.set_cons_zero, List.set_cons_succ]
  refine Sym.take_at 12 19 (.bool true) rfl rfl (by kernel_rfl) (by kernel_rfl) (by kernel_rfl) (fun _ _ _ h => h) rfl (fun _ hw => run_eqBt (decide (((a % PP + (PP - b % PP)) % PP) = 0)) (decide ((a % PP) = (b % PP))) HS.out rfl rfl rfl) ⟨k53, k54, k55⟩ ?_
  simp only [List.setIfInBounds_toArray, List.set_cons_zero, List.set_cons_succ]
  refine Sym.take_at 13 20 (.bool true) rfl rfl (by kernel_rfl) (by kernel_rfl) (by kernel_rfl) (fun _ _ _ h => h) (wanted_none rfl) (fun _ hw => run_pick rfl rfl rfl) ⟨k53, k54, k55⟩ ?_
  simp only [List.setIfInBounds_toArray, List.set_cons_zero, List.set_cons_succ]
  refine Sym.take_at 14 21 (.bool true) rfl rfl (by kernel_rfl) (by kernel_rfl) (by kernel_rfl) (fun _ _ _ h => h) (wanted_none rfl) (fun _ hw => run_mv rfl rfl) ⟨k53, k54, k55⟩ ?_
  simp only [List.setIfInBounds_toArray, List.set_cons_zero, List.set_cons_succ]
  refine Sym.take_at 15 22 (.agg (bs a)) rfl rfl (by kernel_rfl) (by kernel_rfl) (by kernel_rfl) (fun _ _ _ h => h) rfl (fun _ hw => run_row rfl rfl (hw.1) Try.underlying23 rfl (by rw [bs_sz]; exact info_b)) ⟨k53, k54, k55⟩ ?_
  simp only [List.setIfInBounds_toArray, List.set_cons_zero, List.set_cons_succ]
  refine Sym.take_at 16 23 (.agg (bs a)) rfl rfl (by kernel_rfl) (by kernel_rfl) (by kernel_rfl) (fun _ _ _ h => h) rfl (fun _ hw => run_row rfl rfl (hw.1) Try.underlying23 rfl (by rw [bs_sz]; exact info_b)) ⟨k53, k54, k55⟩ ?_
  simp only [List.setIfInBounds_toArray, List.set_cons_zero, List.set_cons_succ]
  refine Sym.take_at 19 26 (.agg (bs 0)) rfl rfl (by kernel_rfl) (by kernel_rfl) (by kernel_rfl) (fun _ _ _ h => h) rfl (fun _ hw => run_row rfl rfl (hw.2.2) Try.underlying23 rfl (by rw [bs_sz]; exact info_b)) ⟨k53, k54, k55⟩ ?_
  simp only [List.setIfInBounds_toArray, List.set_cons_zero, List.set_cons_succ]
  refine one_ready 17 (by kernel_rfl) ?_
  refine opd rfl rfl (w_enter 24 (.agg (bs ((PP - (a % PP)) % PP))) rfl (run_Neg rfl rfl) (neg_any a Ha.out _) (fun w57 hb58 => ?_))
  have k59 := k53.call hb58
  have k60 := k54.call hb58
  have k61 := k55.call hb58
  have hbel62 := bel_call hbel56 hb58
  refine ⟨⟨k59, k60, k61⟩, ?_⟩
  simp only [List.setIfInBounds_toArray, List.set_cons_zero, List.set_cons_succ]
  refine one_ready 18 (by kernel_rfl) ?_
  refine opd rfl rfl (w_enter 25 (.agg (bs ((a + ((PP - (a % PP)) % PP)) % PP))) rfl (run_Add rfl rfl rfl) (add_any a ((PP - (a % PP)) % PP) Ha.out (Nat.lt_trans (Nat.mod_lt _ (by decide)) pp_lt) _) (fun w63 hb64 => ?_))
  have k65 := k59.call hb64
  have k66 := k60.call hb64
  have k67 := k61.call hb64
  have hbel68 := bel_call hbel62 hb64
  refine ⟨⟨k65, k66, k67⟩, ?_⟩
  simp only [List.setIfInBounds_toArray, List.set_cons_zero, List.set_cons_succ]
  refine Sym.take_at 20 27 (.bool true) rfl rfl (by kernel_rfl) (by kernel_rfl) (by kernel_rfl) (fun _ _ _ h => h) rfl (fun _ hw => run_eqN ((a + ((PP - (a % PP)) % PP)) % PP) 0 (Nat.lt_trans (Nat.mod_lt _ (by decide)) pp_lt) (by decide) true (decide_eq_true F3) rfl rfl rfl) ⟨k65, k66, k67⟩ ?_
  simp only [List.setIfInBounds_toArray, List.set_cons_zero, List.set_cons_succ]
  refine Sym.take_at 21 28 (.bool true) rfl rfl (by kernel_rfl) (by kernel_rfl) (by kernel_rfl) (fun _ _ _ h => h) (wanted_none rfl) (fun _ hw => run_pick rfl rfl rfl) ⟨k65, k66, k67⟩ ?_
  simp only [List.setIfInBounds_toArray, List.set_cons_zero, List.set_cons_succ]
  refine Sym.take_at 22 29 (.bool true) rfl rfl (by kernel_rfl) (by kernel_rfl) (by kernel_rfl) (fun _ _ _ h => h) (wanted_none rfl) (fun _ hw => run_mv rfl rfl) ⟨k65, k66, k67⟩ ?_
  simp only [List.setIfInBounds_toArray, List.set_cons_zero, List.set_cons_succ]
  refine Sym.take_at 23 30 (.agg (bs a)) rfl rfl (by kernel_rfl) (by kernel_rfl) (by kernel_rfl) (fun _ _ _ h => h) rfl (fun _ hw => run_row rfl rfl (hw.1) Try.underlying23 rfl (by rw [bs_sz]; exact info_b)) ⟨k65, k66, k67⟩ ?_
  simp only [List.setIfInBounds_toArray, List.set_cons_zero, List.set_cons_succ]
  refine Sym.take_at 26 33 (.agg (bs a)) rfl rfl (by kernel_rfl) (by kernel_rfl) (by kernel_rfl) (fun _ _ _ h => h) rfl (fun _ hw => run_row rfl rfl (hw.1) Try.underlying23 rfl (by rw [bs_sz]; exact info_b)) ⟨k65, k66, k67⟩ ?_
  simp only [List.setIfInBounds_toArray, List.set_cons_zero, List.set_cons_succ]
  refine one_ready 24 (by kernel_rfl) ?_
  refine opd rfl rfl (w_enter 31 (.agg (bs ((PP - (a % PP)) % PP))) rfl (run_Neg rfl rfl) (neg_any a Ha.out _) (fun w69 hb70 => ?_))
  have k71 := k65.call hb70
  have k72 := k66.call hb70
  have k73 := k67.call hb70
  have hbel74 := bel_call hbel68 hb70
  refine ⟨⟨k71, k72, k73⟩, ?_⟩
  simp only [List.setIfInBounds_toArray, List.set_cons_zero, List.set_cons_succ]
  refine one_ready 25 (by kernel_rfl) ?_
  refine opd rfl rfl (w_enter 32 (.agg (bs ((PP - (((PP - (a % PP)) % PP) % PP)) % PP))) rfl (run_Neg rfl rfl) (neg_any ((PP - (a % PP)) % PP) (Nat.lt_trans (Nat.mod_lt _ (by decide)) pp_lt) _) (fun w75 hb76 => ?_))
  have k77 := k71.call hb76
  have k78 := k72.call hb76
  have k79 := k73.call hb76
  have hbel80 := bel_call hbel74 hb76
  refine ⟨⟨k77, k78, k79⟩, ?_⟩
  simp only [List.setIfInBounds_toArray, List.set_cons_zero, List.set_cons_succ]
  refine one_ready 27 (by kernel_rfl) ?_
  refine opd rfl rfl (w_enter 34 (.agg (bs (a % PP))) rfl (run_Reduce rfl rfl) (reduce_any a Ha.out _) (fun w81 hb82 => ?_))
  have k83 := k77.call hb82
  have k84 := k78.call hb82
  have k85 := k79.call hb82
  have hbel86 := bel_call hbel80 hb82
  refine ⟨⟨k83, k84, k85⟩, ?_⟩
  simp only [List.setIfInBounds_toArray, List.set_cons_zero, List.set_cons_succ]
  refine Sym.take_at 28 35 (.bool true) rfl rfl (by kernel_rfl) (by kernel_rfl) (by kernel_rfl) (fun _ _ _ h => h) rfl (fun _ hw => run_eqN ((PP - (((PP - (a % PP)) % PP) % PP)) % PP) (a % PP) (Nat.lt_trans (Nat.mod_lt _ (by decide)) pp_lt) (Nat.lt_trans (Nat.mod_lt _ (by decide)) pp_lt) true (decide_eq_true F4) rfl rfl rfl) ⟨k83, k84, k85⟩ ?_
  simp only [List.setIfInBounds_toArray, List.set_cons_zero, List.set_cons_succ]
  refine Sym.take_at 29 36 (.bool true) rfl rfl (by kernel_rfl) (by kernel_rfl) (by kernel_rfl) (fun _ _ _ h => h) (wanted_none rfl) (fun _ hw => run_pick rfl rfl rfl) ⟨k83, k84, k85⟩ ?_
  simp only [List.setIfInBounds_toArray, List.set_cons_zero, List.set_cons_succ]
  refine Sym.take_at 30 37 (.bool true) rfl rfl (by kernel_rfl) (by kernel_rfl) (by kernel_rfl) (fun _ _ _ h => h) (wanted_none rfl) (fun _ hw => run_mv rfl rfl) ⟨k83, k84, k85⟩ ?_
  simp only [List.setIfInBounds_toArray, List.set_cons_zero, List.set_cons_succ]
  refine Sym.take_at 31 38 (.agg (bs a)) rfl rfl (by kernel_rfl) (by kernel_rfl) (by kernel_rfl) (fun _ _ _ h => h) rfl (fun _ hw => run_row rfl rfl (hw.1) Try.underlying23 rfl (by rw [bs_sz]; exact info_b)) ⟨k83, k84, k85⟩ ?_
  simp only [List.setIfInBounds_toArray, List.set_cons_zero, List.set_cons_succ]
  refine Sym.take_at 32 39 (.agg (bs b)) rfl rfl (by kernel_rfl) (by kernel_rfl) (by kernel_rfl) (fun _ _ _ h => h) rfl (fun _ hw => run_row rfl rfl (hw.2.1) Try.underlying23 rfl (by rw [bs_sz]; exact info_b)) ⟨k83, k84, k85⟩ ?_
  simp only [List.setIfInBounds_toArray, List.set_cons_zero, List.set_cons_succ]
  refine one_ready 33 (by kernel_rfl) ?_
  refine opd rfl rfl (w_enter 40 (.agg (bs ((a % PP + (PP - b % PP)) % PP))) rfl (run_Sub rfl rfl rfl) (sub_any a b Ha.out Hb.out _) (fun w87 hb88 => ?_))
  have k89 := k83.call hb88
  have k90 := k84.call hb88
  have k91 := k85.call hb88
  have hbel92 := bel_call hbel86 hb88
  refine ⟨⟨k89, k90, k91⟩, ?_⟩
  simp only [List.setIfInBounds_toArray, List.set_cons_zero, List.set_cons_succ]
  refine one_ready 34 (by kernel_rfl) ?_
  refine opd rfl rfl (w_enter 41 (.bool true) rfl (run_Canon rfl rfl) (canon_true ((a % PP + (PP - b % PP)) % PP) (Nat.mod_lt _ (by decide)) _) (fun w93 hb94 => ?_))
  have k95 := k89.call hb94
  have k96 := k90.call hb94
  have k97 := k91.call hb94
  have hbel98 := bel_call hbel92 hb94
  refine ⟨⟨k95, k96, k97⟩, ?_⟩
  simp only [List.setIfInBounds_toArray, List.set_cons_zero, List.set_cons_succ]
  refine Sym.take_at 35 42 (.bool true) rfl rfl (by kernel_rfl) (by kernel_rfl) (by kernel_rfl) (fun _ _ _ h => h) (wanted_none rfl) (fun _ hw => run_pick rfl rfl rfl) ⟨k95, k96, k97⟩ ?_
  simp only [List.setIfInBounds_toArray, List.set_cons_zero, List.set_cons_succ]
  refine one_ready 36 (by kernel_rfl) ?_
  refine opd rfl (wanted_none rfl) (w_value 4 (.bool true) rfl (run_as rfl rfl) ⟨⟨k95, k96, k97⟩, ?_⟩)
  simp only [List.setIfInBounds_toArray, List.set_cons_zero, List.set_cons_succ]
  refine wpAnyH_done (by kernel_rfl) ?_ _
  go_step
  go_step
  go_wp2
  go_ret
  exact ⟨rfl, hbel98⟩

set_option maxRecDepth 100000 in
theorem lifted (os : Os) (started : os.Started) (H : Type) (enc : TypeId × Value → H) :
    ReturnsInHanded {} Try.checked os 10 .any (Rows.fieldApartSpec.pre6 enc Try.prog Try.f10 Rows.fieldApartRow.domain false) (Rows.fieldApartSpec.post enc Try.prog Try.f10 false true false false) := by
  refine returnsInHanded_of_change (C := Try.checked) own started (by kernel_rfl) Try.func10
    (ChangeSpec.witness6 (enc := enc) (C := Try.checked) false ⟨#[], #[.agg #[.int .u8 0, .int .u8 0, .int .u8 0, .int .u8 0, .int .u8 0, .int .u8 0, .int .u8 0, .int .u8 0, .int .u8 0, .int .u8 0, .int .u8 0, .int .u8 0, .int .u8 0, .int .u8 0, .int .u8 0, .int .u8 0, .int .u8 0, .int .u8 0, .int .u8 0, .int .u8 0, .int .u8 0, .int .u8 0, .int .u8 0, .int .u8 0, .int .u8 0, .int .u8 0, .int .u8 0, .int .u8 0, .int .u8 0, .int .u8 0, .int .u8 0, .int .u8 0], .agg #[.int .u8 0, .int .u8 0, .int .u8 0, .int .u8 0, .int .u8 0, .int .u8 0, .int .u8 0, .int .u8 0, .int .u8 0, .int .u8 0, .int .u8 0, .int .u8 0, .int .u8 0, .int .u8 0, .int .u8 0, .int .u8 0, .int .u8 0, .int .u8 0, .int .u8 0, .int .u8 0, .int .u8 0, .int .u8 0, .int .u8 0, .int .u8 0, .int .u8 0, .int .u8 0, .int .u8 0, .int .u8 0, .int .u8 0, .int .u8 0, .int .u8 0, .int .u8 0]], []⟩ 8 (by kernel_rfl) (by kernel_rfl) (by kernel_rfl) (by kernel_rfl)) ?_
  intro W base args ds gs before hval0 hW hcnd _
  have hval : ∀ (j : Nat) t v, Try.f10.params[j]? = some t → args[j]? = some v → Value.okWide Try.prog W .any base t v := hval0
  have hW' := hW
  obtain ⟨p, q, hA0, hV, rfl, hfz, hnd⟩ := hW
  have hA : DataW.TrodAll enc Try.prog W 0 (fun _ => true) true Try.f10.params.toList args.toList ds p := hA0
  rw [Try.params10] at hA hval
  obtain ⟨v0, vs0, d0, ds0, p0, q0, hargs, rfl, rfl, h0, r0⟩ := trodAll_cons hA
  obtain ⟨v1, vs1, d1, ds1, p1, q1, rfl, rfl, rfl, h1, r1⟩ := trodAll_cons r0
  obtain ⟨rfl, rfl, rfl⟩ := trodAll_nil r1
  obtain rfl : args = #[v0, v1] := by cases args; simp_all
  obtain ⟨rfl, rfl⟩ := trodVars_none hV
  obtain ⟨a0, b0, rfl, rfl, k0⟩ := open_num (hval 0 23 v0 rfl rfl) h0
  obtain ⟨a1, b1, rfl, rfl, k1⟩ := open_num (hval 1 23 v1 rfl rfl) h1
  clear hA0 hval0
  simp only [List.append_nil] at hW'
  refine (walk a0 b0 a1 b1 W).mono fun e W' ⟨he, hg⟩ => ?_
  subst he
  exact ⟨_, rfl, _, _, _, [], [], [], hW', (trodAll_cons_mk (shut_bool Try.underlying4 _) trodAll_mk0), (trodAll_cons_mk (k0 _ _) (trodAll_cons_mk (k1 _ _) trodAll_mk0)), rfl, hg.frame _, fun h => by cases h⟩

theorem over : Rows.fieldApartRow.holds Try.pinned (OpenSpec.ofChange Rows.fieldApartSpec) :=
  OpenClaim.holds_of_wide 10 Try.f10 rfl rfl rfl rfl rfl rfl rfl ⟨rfl, rfl, rfl, rfl, rfl⟩ rfl rfl rfl rfl rfl (by kernel_rfl) Try.func10 (by kernel_rfl)
    (of_decide_eq_true (by kernel_rfl)) (by unfold Func.isWrapper; first | (rw [if_pos (by decide +kernel)]; kernel_rfl) | (rw [if_neg (by decide +kernel)]; exact ⟨rfl, rfl⟩))
    (fun os started H enc _ => lifted os started H enc)

/-- The statement. -/
theorem proved : Rows.FieldApartSaid :=
  over
#print axioms proved
end Go.Proofs.Ytghcggecahaccaa.fieldApart
