/- Sums and products of the field go together as those of numbers do: FieldRules returns true, for every three numbers of 32 bytes. No condition. -/
import Derived.Test.YtghcggecahaccaaRows
import Derived.Test.YtghcggecahaccaaFldP
import Derived.Test.YtghcggecahaccaaFldO
import Derived.WalkKit
import Derived.ProofKit
import Derived.OpenShut
namespace Go.Proofs.Ytghcggecahaccaa.fieldRules
open Go.ChangeShapes Go.WideShapes Go.ChangeAt Go.RowKit
open Go.Proofs.Ytghcggecahaccaa Go.Proofs.Ytghcggecahaccaa.Fld Go.Proofs.Ytghcggecahaccaa.Sym
set_option linter.unusedVariables false

theorem own : ownKnob Try.prog.godebug = none := by kernel_rfl

set_option maxHeartbeats 4000000 in
set_option maxRecDepth 100000 in
theorem walk (a : Nat) (ha : a < MM) (b : Nat) (hb : b < MM) (c : Nat) (hc : c < MM) (w : World) :
    Calls Try.prog 6 #[.agg (bs a), .agg (bs b), .agg (bs c)] w fun e w' => e = .returned (.bool true) ∧ Below w.heap.size w w' := by
  have F1 : ((a + b) % PP) = ((b + a) % PP) := by
    rw [Nat.add_comm]
  have F2 : (a * b % PP) = (b * a % PP) := by
    rw [Nat.mul_comm]
  have F3 : ((((a + b) % PP) + c) % PP) = ((a + ((b + c) % PP)) % PP) := by
    simp only [Nat.add_mod_mod, Nat.mod_add_mod]; rw [Nat.add_assoc]
  have F4 : ((a * b % PP) * c % PP) = (a * (b * c % PP) % PP) := by
    simp only [Nat.mul_mod_mod, Nat.mod_mul_mod]; rw [Nat.mul_assoc]
  have F5 : (a * ((b + c) % PP) % PP) = (((a * b % PP) + (a * c % PP)) % PP) := by
    simp only [Nat.add_mod_mod, Nat.mod_add_mod, Nat.mul_mod_mod]; rw [Nat.mul_add]
  have F6 : ((((a + b) % PP) % PP + (PP - b % PP)) % PP) = (a % PP) := by
    unfold PP; omega
  have Ha := Lib.hid ha
  clear ha
  have Hb := Lib.hid hb
  clear hb
  have Hc := Lib.hid hc
  clear hc
  go_enter Try.func6, Try.ntmps6
  have hbel0 := Below.refl w.heap.size w
  go_step
  go_step
  go_step
  refine lst (wanted_none rfl) (w_alloc (c := bs a) (T := 23) 3 rfl (run_box rfl rfl) (fun w1 he2 => ?_))
  have k3 := Blk.new he2
  have hg4 : w.heap.size ≤ w.heap.size := hbel0.size
  have hbel5 := bel_alloc hbel0 he2
  simp only [List.setIfInBounds_toArray, List.set_cons_zero, List.set_cons_succ]
  refine lst (wanted_none rfl) (w_alloc (c := bs b) (T := 23) 4 rfl (run_box rfl rfl) (fun w6 he7 => ?_))
  have hne9 : w.heap.size ≠ w1.heap.size := Nat.ne_of_lt k3.lt
  have k8 := k3.alloc he7
  have k10 := Blk.new he7
  have hg11 : w.heap.size ≤ w1.heap.size := hbel5.size
  have hbel12 := bel_alloc hbel5 he7
  simp only [List.setIfInBounds_toArray, List.set_cons_zero, List.set_cons_succ]
  refine lst (wanted_none rfl) (w_alloc (c := bs c) (T := 23) 5 rfl (run_box rfl rfl) (fun w13 he14 => ?_))
  have hne16 : w.heap.size ≠ w6.heap.size := Nat.ne_of_lt k8.lt
  have k15 := k8.alloc he14
  have hne18 : w1.heap.size ≠ w6.heap.size := Nat.ne_of_lt k10.lt
  have k17 := k10.alloc he14
  have k19 := Blk.new he14
  have hg20 : w.heap.size ≤ w6.heap.size := hbel12.size
  have hbel21 := bel_alloc hbel12 he14
  simp only [List.setIfInBounds_toArray, List.set_cons_zero, List.set_cons_succ]
  refine lst (wanted_none rfl) (w_value 6 (.bool false) rfl (run_as rfl rfl) ?_)
  simp only [List.setIfInBounds_toArray, List.set_cons_zero, List.set_cons_succ]
  go_step
  go_step
  go_step
  go_step
  have k22 := k15.drew
  have k23 := k17.drew
  have k24 := k19.drew
  have hbel25 := hbel21.drew
  refine wp_region_held_drew (S := fun w' => Blk w' (w.heap.size) (bs a) 23 ∧ Blk w' (w1.heap.size) (bs b) 23 ∧ Blk w' (w6.heap.size) (bs c) 23) (by kernel_rfl) ⟨k22, k23, k24⟩ (fun _ => ?_)
  generalize w13.drew = wd26 at *
  refine one_ready 0 (by kernel_rfl) ?_
  refine opd rfl (wanted_none rfl) (w_enter 7 (.bool true) rfl (run_awake rfl) (awake_any _) (fun w27 hb28 => ?_))
  have k29 := k22.call hb28
  have k30 := k23.call hb28
  have k31 := k24.call hb28
  have hbel32 := bel_call hbel25 hb28
  refine ⟨⟨k29, k30, k31⟩, ?_⟩
  simp only [List.setIfInBounds_toArray, List.set_cons_zero, List.set_cons_succ]
  refine Sym.take_at 1 8 (.bool true) rfl rfl (by kernel_rfl) (by kernel_rfl) (by kernel_rfl) (fun _ _ _ h => h) (wanted_none rfl) (fun _ hw => run_mv rfl rfl) ⟨k29, k30, k31⟩ ?_
  simp only [List.setIfInBounds_toArray, List.set_cons_zero, List.set_cons_succ]
  refine Sym.take_at 2 9 (.agg (bs a)) rfl rfl (by kernel_rfl) (by kernel_rfl) (by kernel_rfl) (fun _ _ _ h => h) rfl (fun _ hw => run_row rfl rfl (hw.1) Try.underlying23 rfl (by rw [bs_sz]; exact info_b)) ⟨k29, k30, k31⟩ ?_
  simp only [List.setIfInBounds_toArray, List.set_cons_zero, List.set_cons_succ]
  refine Sym.take_at 3 10 (.agg (bs b)) rfl rfl (by kernel_rfl) (by kernel_rfl) (by kernel_rfl) (fun _ _ _ h => h) rfl (fun _ hw => run_row rfl rfl (hw.2.1) Try.underlying23 rfl (by rw [bs_sz]; exact info_b)) ⟨k29, k30, k31⟩ ?_
  simp only [List.setIfInBounds_toArray, List.set_cons_zero, List.set_cons_succ]
  refine Sym.take_at 5 12 (.agg (bs b)) rfl rfl (by kernel_rfl) (by kernel_rfl) (by kernel_rfl) (fun _ _ _ h => h) rfl (fun _ hw => run_row rfl rfl (hw.2.1) Try.underlying23 rfl (by rw [bs_sz]; exact info_b)) ⟨k29, k30, k31⟩ ?_
  simp only [List.setIfInBounds_toArray, List.set_cons_zero, List.set_cons_succ]
  refine Sym.take_at 6 13 (.agg (bs a)) rfl rfl (by kernel_rfl) (by kernel_rfl) (by kernel_rfl) (fun _ _ _ h => h) rfl (fun _ hw => run_row rfl rfl (hw.1) Try.underlying23 rfl (by rw [bs_sz]; exact info_b)) ⟨k29, k30, k31⟩ ?_
  simp only [List.setIfInBounds_toArray, List.set_cons_zero, List.set_cons_succ]
  refine one_ready 4 (by kernel_rfl) ?_
  refine opd rfl rfl (w_enter 11 (.agg (bs ((a + b) % PP))) rfl (run_Add rfl rfl rfl) (add_any a b Ha.out Hb.out _) (fun w33 hb34 => ?_))
  have k35 := k29.call hb34
  have k36 := k30.call hb34
  have k37 := k31.call hb34
  have hbel38 := bel_call hbel32 hb34
  refine ⟨⟨k35, k36, k37⟩, ?_⟩
  simp only [List.setIfInBounds_toArray, List.set_cons_zero, List.set_cons_succ]
  refine one_ready 7 (by kernel_rfl) ?_
  refine opd rfl rfl (w_enter 14 (.agg (bs ((b + a) % PP))) rfl (run_Add rfl rfl rfl) (add_any b a Hb.out Ha.out _) (fun w39 hb40 => ?_))
  have k41 := k35.call hb40
  have k42 := k36.call hb40
  have k43 := k37.call hb40
  have hbel44 := bel_call hbel38 hb40
  refine ⟨⟨k41, k42, k43⟩, ?_⟩
  simp only [List.setIfInBounds_toArray, List.set_cons_zero, List.set_cons_succ]
  refine Sym.take_at 8 15 (.bool true) rfl rfl (by kernel_rfl) (by kernel_rfl) (by kernel_rfl) (fun _ _ _ h => h) rfl (fun _ hw => run_eqN ((a + b) % PP) ((b + a) % PP) (Nat.lt_trans (Nat.mod_lt _ (by decide)) pp_lt) (Nat.lt_trans (Nat.mod_lt _ (by decide)) pp_lt) true (decide_eq_true F1) rfl rfl rfl) ⟨k41, k42, k43⟩ ?_
  simp only [List.setIfInBounds_toArray, List.set_cons_zero, List.set_cons_succ]
  refine Sym.take_at 9 16 (.bool true) rfl rfl (by kernel_rfl) (by kernel_rfl) (by kernel_rfl) (fun _ _ _ h => h) (wanted_none rfl) (fun _ hw => run_pick rfl rfl rfl) ⟨k41, k42, k43⟩ ?_
  simp only [List.setIfInBounds_toArray, List.set_cons_zero, List.set_cons_succ]
  refine Sym.take_at 10 17 (.bool true) rfl rfl (by kernel_rfl) (by kernel_rfl) (by kernel_rfl) (fun _ _ _ h => h) (wanted_none rfl) (fun _ hw => run_mv rfl rfl) ⟨k41, k42, k43⟩ ?_
  simp only [List.setIfInBounds_toArray, List.set_cons_zero, List.set_cons_succ]
  refine Sym.take_at 11 18 (.agg (bs a)) rfl rfl (by kernel_rfl) (by kernel_rfl) (by kernel_rfl) (fun _ _ _ h => h) rfl (fun _ hw => run_row rfl rfl (hw.1) Try.underlying23 rfl (by rw [bs_sz]; exact info_b)) ⟨k41, k42, k43⟩ ?_
  simp only [List.setIfInBounds_toArray, List.set_cons_zero, List.set_cons_succ]
  refine Sym.take_at 12 19 (.agg (bs b)) rfl rfl (by kernel_rfl) (by kernel_rfl) (by kernel_rfl) (fun _ _ _ h => h) rfl (fun _ hw => run_row rfl rfl (hw.2.1) Try.underlying23 rfl (by rw [bs_sz]; exact info_b)) ⟨k41, k42, k43⟩ ?_
  simp only [List.setIfInBounds_toArray, List.set_cons_zero, List.set_cons_succ]
  refine Sym.take_at 14 21 (.agg (bs b)) rfl rfl (by kernel_rfl) (by kernel_rfl) (by kernel_rfl) (fun _ _ _ h => h) rfl (fun _ hw => run_row rfl rfl (hw.2.1) Try.underlying23 rfl (by rw [bs_sz]; exact info_b)) ⟨k41, k42, k43⟩ ?_
  simp only [List.setIfInBounds_toArray, List.set_cons_zero, List.set_cons_succ]
  refine Sym.take_at 15 22 (.agg (bs a)) rfl rfl (by kernel_rfl) (by kernel_rfl) (by kernel_rfl) (fun _ _ _ h => h) rfl (fun _ hw => run_row rfl rfl (hw.1) Try.underlying23 rfl (by rw [bs_sz]; exact info_b)) ⟨k41, k42, k43⟩ ?_
  simp only [List.setIfInBounds_toArray, List.set_cons_zero, List.set_cons_succ]
  refine one_ready 13 (by kernel_rfl) ?_
  refine opd rfl rfl (w_enter 20 (.agg (bs (a * b % PP))) rfl (run_Mul rfl rfl rfl) (mul_any a b Ha.out Hb.out _) (fun w45 hb46 => ?_))
  have k47 := k41.call hb46
  have k48 := k42.call hb46
  have k49 := k43.call hb46
  have hbel50 := bel_call hbel44 hb46
  refine ⟨⟨k47, k48, k49⟩, ?_⟩
  simp only [List.setIfInBounds_toArray, List.set_cons_zero, List.set_cons_succ]
  refine one_ready 16 (by kernel_rfl) ?_
  refine opd rfl rfl (w_enter 23 (.agg (bs (b * a % PP))) rfl (run_Mul rfl rfl rfl) (mul_any b a Hb.out Ha.out _) (fun w51 hb52 => ?_))
  have k53 := k47.call hb52
  have k54 := k48.call hb52
  have k55 := k49.call hb52
  have hbel56 := bel_call hbel50 hb52
  refine ⟨⟨k53, k54, k55⟩, ?_⟩
  simp only [List.setIfInBounds_toArray, List.set_cons_zero, List.set_cons_succ]
  refine Sym.take_at 17 24 (.bool true) rfl rfl (by kernel_rfl) (by kernel_rfl) (by kernel_rfl) (fun _ _ _ h => h) rfl (fun _ hw => run_eqN (a * b % PP) (b * a % PP) (Nat.lt_trans (Nat.mod_lt _ (by decide)) pp_lt) (Nat.lt_trans (Nat.mod_lt _ (by decide)) pp_lt) true (decide_eq_true F2) rfl rfl rfl) ⟨k53, k54, k55⟩ ?_
  simp only [List.setIfInBounds_toArray, List.set_cons_zero, List.set_cons_succ]
  refine Sym.take_at 18 25 (.bool true) rfl rfl (by kernel_rfl) (by kernel_rfl) (by kernel_rfl) (fun _ _ _ h => h) (wanted_none rfl) (fun _ hw => run_pick rfl rfl rfl) ⟨k53, k54, k55⟩ ?_
  simp only [List.setIfInBounds_toArray, List.set_cons_zero, List.set_cons_succ]
  refine Sym.take_at 19 26 (.bool true) rfl rfl (by kernel_rfl) (by kernel_rfl) (by kernel_rfl) (fun _ _ _ h => h) (wanted_none rfl) (fun _ hw => run_mv rfl rfl) ⟨k53, k54, k55⟩ ?_
  simp only [List.setIfInBounds_toArray, List.set_cons_zero, List.set_cons_succ]
  refine Sym.take_at 20 27 (.agg (bs a)) rfl rfl (by kernel_rfl) (by kernel_rfl) (by kernel_rfl) (fun _ _ _ h => h) rfl (fun _ hw => run_row rfl rfl (hw.1) Try.underlying23 rfl (by rw [bs_sz]; exact info_b)) ⟨k53, k54, k55⟩ ?_
  simp only [List.setIfInBounds_toArray, List.set_cons_zero, List.set_cons_succ]
  refine Sym.take_at 21 28 (.agg (bs b)) rfl rfl (by kernel_rfl) (by kernel_rfl) (by kernel_rfl) (fun _ _ _ h => h) rfl (fun _ hw => run_row rfl rfl (hw.2.1) Try.underlying23 rfl (by rw [bs_sz]; exact info_b)) ⟨k53, k54, k55⟩ ?_
  simp only [List.setIfInBounds_toArray, List.set_cons_zero, List.set_cons_succ]
  refine Sym.take_at 23 30 (.agg (bs c)) rfl rfl (by kernel_rfl) (by kernel_rfl) (by kernel_rfl) (fun _ _ _ h => h) rfl (fun _ hw => run_row rfl rfl (hw.2.2) Try.underlying23 rfl (by rw [bs_sz]; exact info_b)) ⟨k53, k54, k55⟩ ?_
  simp only [List.setIfInBounds_toArray, List.set_cons_zero, List.set_cons_succ]
  refine Sym.take_at 25 32 (.agg (bs a)) rfl rfl (by kernel_rfl) (by kernel_rfl) (by kernel_rfl) (fun _ _ _ h => h) rfl (fun _ hw => run_row rfl rfl (hw.1) Try.underlying23 rfl (by rw [bs_sz]; exact info_b)) ⟨k53, k54, k55⟩ ?_
  simp only [List.setIfInBounds_toArray, List.set_cons_zero, List.set_cons_succ]
  refine Sym.take_at 26 33 (.agg (bs b)) rfl rfl (by kernel_rfl) (by kernel_rfl) (by kernel_rfl) (fun _ _ _ h => h) rfl (fun _ hw => run_row rfl rfl (hw.2.1) Try.underlying23 rfl (by rw [bs_sz]; exact info_b)) ⟨k53, k54, k55⟩ ?_
  simp only [List.setIfInBounds_toArray, List.set_cons_zero, List.set_cons_succ]
  refine Sym.take_at 27 34 (.agg (bs c)) rfl rfl (by kernel_rfl) (by kernel_rfl) (by kernel_rfl) (fun _ _ _ h => h) rfl (fun _ hw => run_row rfl rfl (hw.2.2) Try.underlying23 rfl (by rw [bs_sz]; exact info_b)) ⟨k53, k54, k55⟩ ?_
  simp only [List.setIfInBounds_toArray, List.set_cons_zero, List.set_cons_succ]
  refine one_ready 22 (by kernel_rfl) ?_
  refine opd rfl rfl (w_enter 29 (.agg (bs ((a + b) % PP))) rfl (run_Add rfl rfl rfl) (add_any a b Ha.out Hb.out _) (fun w57 hb58 => ?_))
  have k59 := k53.call hb58
  have k60 := k54.call hb58
  have k61 := k55.call hb58
  have hbel62 := bel_call hbel56 hb58
  refine ⟨⟨k59, k60, k61⟩, ?_⟩
  simp only [List.setIfInBounds_toArray, List.set_cons_zero, List.set_cons_succ]
  refine one_ready 24 (by kernel_rfl) ?_
  refine opd rfl rfl (w_enter 31 (.agg (bs ((((a + b) % PP) + c) % PP))) rfl (run_Add rfl rfl rfl) (add_any ((a + b) % PP) c (Nat.lt_trans (Nat.mod_lt _ (by decide)) pp_lt) Hc.out _) (fun w63 hb64 => ?_))
  have k65 := k59.call hb64
  have k66 := k60.call hb64
  have k67 := k61.call hb64
  have hbel68 := bel_call hbel62 hb64
  refine ⟨⟨k65, k66, k67⟩, ?_⟩
  simp only [List.setIfInBounds_toArray, List.set_cons_zero, List.set_cons_succ]
  refine one_ready 28 (by kernel_rfl) ?_
  refine opd rfl rfl (w_enter 35 (.agg (bs ((b + c) % PP))) rfl (run_Add rfl rfl rfl) (add_any b c Hb.out Hc.out _) (fun w69 hb70 => ?_))
  have k71 := k65.call hb70
  have k72 := k66.call hb70
  have k73 := k67.call hb70
  have hbel74 := bel_call hbel68 hb70
  refine ⟨⟨k71, k72, k73⟩, ?_⟩
  simp only [List.setIfInBounds_toArray, List.set_cons_zero, List.set_cons_succ]
  refine one_ready 29 (by kernel_rfl) ?_
  refine opd rfl rfl (w_enter 36 (.agg (bs ((a + ((b + c) % PP)) % PP))) rfl (run_Add rfl rfl rfl) (add_any a ((b + c) % PP) Ha.out (Nat.lt_trans (Nat.mod_lt _ (by decide)) pp_lt) _) (fun w75 hb76 => ?_))
  have k77 := k71.call hb76
  have k78 := k72.call hb76
  have k79 := k73.call hb76
  have hbel80 := bel_call hbel74 hb76
  refine ⟨⟨k77, k78, k79⟩, ?_⟩
  simp only [List.setIfInBounds_toArray, List.set_cons_zero, List.set_cons_succ]
  refine Sym.take_at 30 37 (.bool true) rfl rfl (by kernel_rfl) (by kernel_rfl) (by kernel_rfl) (fun _ _ _ h => h) rfl (fun _ hw => run_eqN ((((a + b) % PP) + c) % PP) ((a + ((b + c) % PP)) % PP) (Nat.lt_trans (Nat.mod_lt _ (by decide)) pp_lt) (Nat.lt_trans (Nat.mod_lt _ (by decide)) pp_lt) true (decide_eq_true F3) rfl rfl rfl) ⟨k77, k78, k79⟩ ?_
  simp only [List.setIfInBounds_toArray, List.set_cons_zero, List.set_cons_succ]
  refine Sym.take_at 31 38 (.bool true) rfl rfl (by kernel_rfl) (by kernel_rfl) (by kernel_rfl) (fun _ _ _ h => h) (wanted_none rfl) (fun _ hw => run_pick rfl rfl rfl) ⟨k77, k78, k79⟩ ?_
  simp only [List.setIfInBounds_toArray, List.set_cons_zero, List.set_cons_succ]
  refine Sym.take_at 32 39 (.bool true) rfl rfl (by kernel_rfl) (by kernel_rfl) (by kernel_rfl) (fun _ _ _ h => h) (wanted_none rfl) (fun _ hw => run_mv rfl rfl) ⟨k77, k78, k79⟩ ?_
  simp only [List.setIfInBounds_toArray, List.set_cons_zero, List.set_cons_succ]
  refine Sym.take_at 33 40 (.agg (bs a)) rfl rfl (by kernel_rfl) (by kernel_rfl) (by kernel_rfl) (fun _ _ _ h => h) rfl (fun _ hw => run_row rfl rfl (hw.1) Try.underlying23 rfl (by rw [bs_sz]; exact info_b)) ⟨k77, k78, k79⟩ ?_
  simp only [List.setIfInBounds_toArray, List.set_cons_zero, List.set_cons_succ]
  refine Sym.take_at 34 41 (.agg (bs b)) rfl rfl (by kernel_rfl) (by kernel_rfl) (by kernel_rfl) (fun _ _ _ h => h) rfl (fun _ hw => run_row rfl rfl (hw.2.1) Try.underlying23 rfl (by rw [bs_sz]; exact info_b)) ⟨k77, k78, k79⟩ ?_
  simp only [List.setIfInBounds_toArray, List.set_cons_zero, List.set_cons_succ]
  refine Sym.take_at 36 43 (.agg (bs c)) rfl rfl (by kernel_rfl) (by kernel_rfl) (by kernel_rfl) (fun _ _ _ h => h) rfl (fun _ hw => run_row rfl rfl (hw.2.2) Try.underlying23 rfl (by rw [bs_sz]; exact info_b)) ⟨k77, k78, k79⟩ ?_
  simp only [List.setIfInBounds_toArray, List.set_cons_zero, List.set_cons_succ]
  refine Sym.take_at 38 45 (.agg (bs a)) rfl rfl (by kernel_rfl) (by kernel_rfl) (by kernel_rfl) (fun _ _ _ h => h) rfl (fun _ hw => run_row rfl rfl (hw.1) Try.underlying23 rfl (by rw [bs_sz]; exact info_b)) ⟨k77, k78, k79⟩ ?_
  simp only [List.setIfInBounds_toArray, List.set_cons_zero, List.set_cons_succ]
  refine Sym.take_at 39 46 (.agg (bs b)) rfl rfl (by kernel_rfl) (by kernel_rfl) (by kernel_rfl) (fun _ _ _ h => h) rfl (fun _ hw => run_row rfl rfl (hw.2.1) Try.underlying23 rfl (by rw [bs_sz]; exact info_b)) ⟨k77, k78, k79⟩ ?_
  simp only [List.setIfInBounds_toArray, List.set_cons_zero, List.set_cons_succ]
  refine Sym.take_at 40 47 (.agg (bs c)) rfl rfl (by kernel_rfl) (by kernel_rfl) (by kernel_rfl) (fun _ _ _ h => h) rfl (fun _ hw => run_row rfl rfl (hw.2.2) Try.underlying23 rfl (by rw [bs_sz]; exact info_b)) ⟨k77, k78, k79⟩ ?_
  simp only [List.setIfInBounds_toArray, List.set_cons_zero, List.set_cons_succ]
  refine one_ready 35 (by kernel_rfl) ?_
  refine opd rfl rfl (w_enter 42 (.agg (bs (a * b % PP))) rfl (run_Mul rfl rfl rfl) (mul_any a b Ha.out Hb.out _) (fun w81 hb82 => ?_))
  have k83 := k77.call hb82
  have k84 := k78.call hb82
  have k85 := k79.call hb82
  have hbel86 := bel_call hbel80 hb82
  refine ⟨⟨k83, k84, k85⟩, ?_⟩
  simp only [List.setIfInBounds_toArray, List.set_cons_zero, List.set_cons_succ]
  refine one_ready 37 (by kernel_rfl) ?_
  refine opd rfl rfl (w_enter 44 (.agg (bs ((a * b % PP) * c % PP))) rfl (run_Mul rfl rfl rfl) (mul_any (a * b % PP) c (Nat.lt_trans (Nat.mod_lt _ (by decide)) pp_lt) Hc.out _) (fun w87 hb88 => ?_))
  have k89 := k83.call hb88
  have k90 := k84.call hb88
  have k91 := k85.call hb88
  have hbel92 := bel_call hbel86 hb88
  refine ⟨⟨k89, k90, k91⟩, ?_⟩
  simp only [List.setIfInBounds_toArray, List.set_cons_zero, List.set_cons_succ]
  refine one_ready 41 (by kernel_rfl) ?_
  refine opd rfl rfl (w_enter 48 (.agg (bs (b * c % PP))) rfl (run_Mul rfl rfl rfl) (mul_any b c Hb.out Hc.out _) (fun w93 hb94 => ?_))
  have k95 := k89.call hb94
  have k96 := k90.call hb94
  have k97 := k91.call hb94
  have hbel98 := bel_call hbel92 hb94
  refine ⟨⟨k95, k96, k97⟩, ?_⟩
  simp only [List.setIfInBounds_toArray, List.set_cons_zero, List.set_cons_succ]
  refine one_ready 42 (by kernel_rfl) ?_
  refine opd rfl rfl (w_enter 49 (.agg (bs (a * (b * c % PP) % PP))) rfl (run_Mul rfl rfl rfl) (mul_any a (b * c % PP) Ha.out (Nat.lt_trans (Nat.mod_lt _ (by decide)) pp_lt) _) (fun w99 hb100 => ?_))
  have k101 := k95.call hb100
  have k102 := k96.call hb100
  have k103 := k97.call hb100
  have hbel104 := bel_call hbel98 hb100
  refine ⟨⟨k101, k102, k103⟩, ?_⟩
  simp only [List.setIfInBounds_toArray, List.set_cons_zero, List.set_cons_succ]
  refine Sym.take_at 43 50 (.bool true) rfl rfl (by kernel_rfl) (by kernel_rfl) (by kernel_rfl) (fun _ _ _ h => h) rfl (fun _ hw => run_eqN ((a * b % PP) * c % PP) (a * (b * c % PP) % PP) (Nat.lt_trans (Nat.mod_lt _ (by decide)) pp_lt) (Nat.lt_trans (Nat.mod_lt _ (by decide)) pp_lt) true (decide_eq_true F4) rfl rfl rfl) ⟨k101, k102, k103⟩ ?_
  simp only [List.setIfInBounds_toArray, List.set_cons_zero, List.set_cons_succ]
  refine Sym.take_at 44 51 (.bool true) rfl rfl (by kernel_rfl) (by kernel_rfl) (by kernel_rfl) (fun _ _ _ h => h) (wanted_none rfl) (fun _ hw => run_pick rfl rfl rfl) ⟨k101, k102, k103⟩ ?_
  simp only [List.setIfInBounds_toArray, List.set_cons_zero, List.set_cons_succ]
  refine Sym.take_at 45 52 (.bool true) rfl rfl (by kernel_rfl) (by kernel_rfl) (by kernel_rfl) (fun _ _ _ h => h) (wanted_none rfl) (fun _ hw => run_mv rfl rfl) ⟨k101, k102, k103⟩ ?_
  simp only [List.setIfInBounds_toArray, List.set_cons_zero, List.set_cons_succ]
  refine Sym.take_at 46 53 (.agg (bs a)) rfl rfl (by kernel_rfl) (by kernel_rfl) (by kernel_rfl) (fun _ _ _ h => h) rfl (fun _ hw => run_row rfl rfl (hw.1) Try.underlying23 rfl (by rw [bs_sz]; exact info_b)) ⟨k101, k102, k103⟩ ?_
  simp only [List.setIfInBounds_toArray, List.set_cons_zero, List.set_cons_succ]
  refine Sym.take_at 47 54 (.agg (bs b)) rfl rfl (by kernel_rfl) (by kernel_rfl) (by kernel_rfl) (fun _ _ _ h => h) rfl (fun _ hw => run_row rfl rfl (hw.2.1) Try.underlying23 rfl (by rw [bs_sz]; exact info_b)) ⟨k101, k102, k103⟩ ?_
  simp only [List.setIfInBounds_toArray, List.set_cons_zero, List.set_cons_succ]
  refine Sym.take_at 48 55 (.agg (bs c)) rfl rfl (by kernel_rfl) (by kernel_rfl) (by kernel_rfl) (fun _ _ _ h => h) rfl (fun _ hw => run_row rfl rfl (hw.2.2) Try.underlying23 rfl (by rw [bs_sz]; exact info_b)) ⟨k101, k102, k103⟩ ?_
  simp only [List.setIfInBounds_toArray, List.set_cons_zero, List.set_cons_succ]
  refine Sym.take_at 51 58 (.agg (bs a)) rfl rfl (by kernel_rfl) (by kernel_rfl) (by kernel_rfl) (fun _ _ _ h => h) rfl (fun _ hw => run_row rfl rfl (hw.1) Try.underlying23 rfl (by rw [bs_sz]; exact info_b)) ⟨k101, k102, k103⟩ ?_
  simp only [List.setIfInBounds_toArray, List.set_cons_zero, List.set_cons_succ]
  refine Sym.take_at 52 59 (.agg (bs b)) rfl rfl (by kernel_rfl) (by kernel_rfl) (by kernel_rfl) (fun _ _ _ h => h) rfl (fun _ hw => run_row rfl rfl (hw.2.1) Try.underlying23 rfl (by rw [bs_sz]; exact info_b)) ⟨k101, k102, k103⟩ ?_
  simp only [List.setIfInBounds_toArray, List.set_cons_zero, List.set_cons_succ]
  refine Sym.take_at 54 61 (.agg (bs a)) rfl rfl (by kernel_rfl) (by kernel_rfl) (by kernel_rfl) (fun _ _ _ h => h) rfl (fun _ hw => run_row rfl rfl (hw.1) Try.underlying23 rfl (by rw [bs_sz]; exact info_b)) ⟨k101, k102, k103⟩ ?_
  simp only [List.setIfInBounds_toArray, List.set_cons_zero, List.set_cons_succ]
  refine Sym.take_at 55 62 (.agg (bs c)) rfl rfl (by kernel_rfl) (by kernel_rfl) (by kernel_rfl) (fun _ _ _ h => h) rfl (fun _ hw => run_row rfl rfl (hw.2.2) Try.underlying23 rfl (by rw [bs_sz]; exact info_b)) ⟨k101, k102, k103⟩ ?_
  simp only [List.setIfInBounds_toArray, List.set_cons_zero, List.set_cons_succ]
  refine one_ready 49 (by kernel_rfl) ?_
  refine opd rfl rfl (w_enter 56 (.agg (bs ((b + c) % PP))) rfl (run_Add rfl rfl rfl) (add_any b c Hb.out Hc.out _) (fun w105 hb106 => ?_))
  have k107 := k101.call hb106
  have k108 := k102.call hb106
  have k109 := k103.call hb106
  have hbel110 := bel_call hbel104 hb106
  refine ⟨⟨k107, k108, k109⟩, ?_⟩
  simp only [List.setIfInBounds_toArray, List.set_cons_zero, List.set_cons_succ]
  refine one_ready 50 (by kernel_rfl) ?_
  refine opd rfl rfl (w_enter 57 (.agg (bs (a * ((b + c) % PP) % PP))) rfl (run_Mul rfl rfl rfl) (mul_any a ((b + c) % PP) Ha.out (Nat.lt_trans (Nat.mod_lt _ (by decide)) pp_lt) _) (fun w111 hb112 => ?_))
  have k113 := k107.call hb112
  have k114 := k108.call hb112
  have k115 := k109.call hb112
  have hbel116 := bel_call hbel110 hb112
  refine ⟨⟨k113, k114, k115⟩, ?_⟩
  simp only [List.setIfInBounds_toArray, List.set_cons_zero, List.set_cons_succ]
  refine one_ready 53 (by kernel_rfl) ?_
  refine opd rfl rfl (w_enter 60 (.agg (bs (a * b % PP))) rfl (run_Mul rfl rfl rfl) (mul_any a b Ha.out Hb.out _) (fun w117 hb118 => ?_))
  have k119 := k113.call hb118
  have k120 := k114.call hb118
  have k121 := k115.call hb118
  have hbel122 := bel_call hbel116 hb118
  refine ⟨⟨k119, k120, k121⟩, ?_⟩
  simp only [List.setIfInBounds_toArray, List.set_cons_zero, List.set_cons_succ]
  refine one_ready 56 (by kernel_rfl) ?_
  refine opd rfl rfl (w_enter 63 (.agg (bs (a * c % PP))) rfl (run_Mul rfl rfl rfl) (mul_any a c Ha.out Hc.out _) (fun w123 hb124 => ?_))
  have k125 := k119.call hb124
  have k126 := k120.call hb124
  have k127 := k121.call hb124
  have hbel128 := bel_call hbel122 hb124
  refine ⟨⟨k125, k126, k127⟩, ?_⟩
  simp only [List.setIfInBounds_toArray, List.set_cons_zero, List.set_cons_succ]
  refine one_ready 57 (by kernel_rfl) ?_
  refine opd rfl rfl (w_enter 64 (.agg (bs (((a * b % PP) + (a * c % PP)) % PP))) rfl (run_Add rfl rfl rfl) (add_any (a * b % PP) (a * c % PP) (Nat.lt_trans (Nat.mod_lt _ (by decide)) pp_lt) (Nat.lt_trans (Nat.mod_lt _ (by decide)) pp_lt) _) (fun w129 hb130 => ?_))
  have k131 := k125.call hb130
  have k132 := k126.call hb130
  have k133 := k127.call hb130
  have hbel134 := bel_call hbel128 hb130
  refine ⟨⟨k131, k132, k133⟩, ?_⟩
  simp only [List.setIfInBounds_toArray, List.set_cons_zero, List.set_cons_succ]
  refine Sym.take_at 58 65 (.bool true) rfl rfl (by kernel_rfl) (by kernel_rfl) (by kernel_rfl) (fun _ _ _ h => h) rfl (fun _ hw => run_eqN (a * ((b + c) % PP) % PP) (((a * b % PP) + (a * c % PP)) % PP) (Nat.lt_trans (Nat.mod_lt _ (by decide)) pp_lt) (Nat.lt_trans (Nat.mod_lt _ (by decide)) pp_lt) true (decide_eq_true F5) rfl rfl rfl) ⟨k131, k132, k133⟩ ?_
  simp only [List.setIfInBounds_toArray, List.set_cons_zero, List.set_cons_succ]
  refine Sym.take_at 59 66 (.bool true) rfl rfl (by kernel_rfl) (by kernel_rfl) (by kernel_rfl) (fun _ _ _ h => h) (wanted_none rfl) (fun _ hw => run_pick rfl rfl rfl) ⟨k131, k132, k133⟩ ?_
  simp only [List.setIfInBounds_toArray, List.set_cons_zero, List.set_cons_succ]
  refine Sym.take_at 60 67 (.bool true) rfl rfl (by kernel_rfl) (by kernel_rfl) (by kernel_rfl) (fun _ _ _ h => h) (wanted_none rfl) (fun _ hw => run_mv rfl rfl) ⟨k131, k132, k133⟩ ?_
  simp only [List.setIfInBounds_toArray, List.set_cons_zero, List.set_cons_succ]
  refine Sym.take_at 61 68 (.agg (bs a)) rfl rfl (by kernel_rfl) (by kernel_rfl) (by kernel_rfl) (fun _ _ _ h => h) rfl (fun _ hw => run_row rfl rfl (hw.1) Try.underlying23 rfl (by rw [bs_sz]; exact info_b)) ⟨k131, k132, k133⟩ ?_
  simp only [List.setIfInBounds_toArray, List.set_cons_zero, List.set_cons_succ]
  refine Sym.take_at 62 69 (.agg (bs b)) rfl rfl (by kernel_rfl) (by kernel_rfl) (by kernel_rfl) (fun _ _ _ h => h) rfl (fun _ hw => run_row rfl rfl (hw.2.1) Try.underlying23 rfl (by rw [bs_sz]; exact info_b)) ⟨k131, k132, k133⟩ ?_
  simp only [List.setIfInBounds_toArray, List.set_cons_zero, List.set_cons_succ]
  refine Sym.take_at 64 71 (.agg (bs b)) rfl rfl (by kernel_rfl) (by kernel_rfl) (by kernel_rfl) (fun _ _ _ h => h) rfl (fun _ hw => run_row rfl rfl (hw.2.1) Try.underlying23 rfl (by rw [bs_sz]; exact info_b)) ⟨k131, k132, k133⟩ ?_
  simp only [List.setIfInBounds_toArray, List.set_cons_zero, List.set_cons_succ]
  refine Sym.take_at 66 73 (.agg (bs a)) rfl rfl (by kernel_rfl) (by kernel_rfl) (by kernel_rfl) (fun _ _ _ h => h) rfl (fun _ hw => run_row rfl rfl (hw.1) Try.underlying23 rfl (by rw [bs_sz]; exact info_b)) ⟨k131, k132, k133⟩ ?_
  simp only [List.setIfInBounds_toArray, List.set_cons_zero, List.set_cons_succ]
  refine one_ready 63 (by kernel_rfl) ?_
  refine opd rfl rfl (w_enter 70 (.agg (bs ((a + b) % PP))) rfl (run_Add rfl rfl rfl) (add_any a b Ha.out Hb.out _) (fun w135 hb136 => ?_))
  have k137 := k131.call hb136
  have k138 := k132.call hb136
  have k139 := k133.call hb136
  have hbel140 := bel_call hbel134 hb136
  refine ⟨⟨k137, k138, k139⟩, ?_⟩
  simp only [List.setIfInBounds_toArray, List.set_cons_zero, List.set_cons_succ]
  refine one_ready 65 (by kernel_rfl) ?_
  refine opd rfl rfl (w_enter 72 (.agg (bs ((((a + b) % PP) % PP + (PP - b % PP)) % PP))) rfl (run_Sub rfl rfl rfl) (sub_any ((a + b) % PP) b (Nat.lt_trans (Nat.mod_lt _ (by decide)) pp_lt) Hb.out _) (fun w141 hb142 => ?_))
  have k143 := k137.call hb142
  have k144 := k138.call hb142
  have k145 := k139.call hb142
  have hbel146 := bel_call hbel140 hb142
  refine ⟨⟨k143, k144, k145⟩, ?_⟩
  simp only [List.setIfInBounds_toArray, List.set_cons_zero, List.set_cons_succ]
  refine one_ready 67 (by kernel_rfl) ?_
  refine opd rfl rfl (w_enter 74 (.agg (bs (a % PP))) rfl (run_Reduce rfl rfl) (reduce_any a Ha.out _) (fun w147 hb148 => ?_))
  have k149 := k143.call hb148
  have k150 := k144.call hb148
  have k151 := k145.call hb148
  have hbel152 := bel_call hbel146 hb148
  refine ⟨⟨k149, k150, k151⟩, ?_⟩
  simp only [List.setIfInBounds_toArray, List.set_cons_zero, List.set_cons_succ]
  refine Sym.take_at 68 75 (.bool true) rfl rfl (by kernel_rfl) (by kernel_rfl) (by kernel_rfl) (fun _ _ _ h => h) rfl (fun _ hw => run_eqN ((((a + b) % PP) % PP + (PP - b % PP)) % PP) (a % PP) (Nat.lt_trans (Nat.mod_lt _ (by decide)) pp_lt) (Nat.lt_trans (Nat.mod_lt _ (by decide)) pp_lt) true (decide_eq_true F6) rfl rfl rfl) ⟨k149, k150, k151⟩ ?_
  simp only [List.setIfInBounds_toArray, List.set_cons_zero, List.set_cons_succ]
  refine Sym.take_at 69 76 (.bool true) rfl rfl (by kernel_rfl) (by kernel_rfl) (by kernel_rfl) (fun _ _ _ h => h) (wanted_none rfl) (fun _ hw => run_pick rfl rfl rfl) ⟨k149, k150, k151⟩ ?_
  simp only [List.setIfInBounds_toArray, List.set_cons_zero, List.set_cons_succ]
  refine one_ready 70 (by kernel_rfl) ?_
  refine opd rfl (wanted_none rfl) (w_value 6 (.bool true) rfl (run_as rfl rfl) ⟨⟨k149, k150, k151⟩, ?_⟩)
  simp only [List.setIfInBounds_toArray, List.set_cons_zero, List.set_cons_succ]
  refine wpAnyH_done (by kernel_rfl) ?_ _
  go_step
  go_step
  go_wp2
  go_ret
  exact ⟨rfl, hbel152⟩

set_option maxRecDepth 100000 in
theorem lifted (os : Os) (started : os.Started) (H : Type) (enc : TypeId × Value → H) :
    ReturnsInHanded {} Try.checked os 6 .any (Rows.fieldRulesSpec.pre6 enc Try.prog Try.f6 Rows.fieldRulesRow.domain false) (Rows.fieldRulesSpec.post enc Try.prog Try.f6 false true false false) := by
  refine returnsInHanded_of_change (C := Try.checked) own started (by kernel_rfl) Try.func6
    (ChangeSpec.witness6 (enc := enc) (C := Try.checked) false ⟨#[], #[.agg #[.int .u8 0, .int .u8 0, .int .u8 0, .int .u8 0, .int .u8 0, .int .u8 0, .int .u8 0, .int .u8 0, .int .u8 0, .int .u8 0, .int .u8 0, .int .u8 0, .int .u8 0, .int .u8 0, .int .u8 0, .int .u8 0, .int .u8 0, .int .u8 0, .int .u8 0, .int .u8 0, .int .u8 0, .int .u8 0, .int .u8 0, .int .u8 0, .int .u8 0, .int .u8 0, .int .u8 0, .int .u8 0, .int .u8 0, .int .u8 0, .int .u8 0, .int .u8 0], .agg #[.int .u8 0, .int .u8 0, .int .u8 0, .int .u8 0, .int .u8 0, .int .u8 0, .int .u8 0, .int .u8 0, .int .u8 0, .int .u8 0, .int .u8 0, .int .u8 0, .int .u8 0, .int .u8 0, .int .u8 0, .int .u8 0, .int .u8 0, .int .u8 0, .int .u8 0, .int .u8 0, .int .u8 0, .int .u8 0, .int .u8 0, .int .u8 0, .int .u8 0, .int .u8 0, .int .u8 0, .int .u8 0, .int .u8 0, .int .u8 0, .int .u8 0, .int .u8 0], .agg #[.int .u8 0, .int .u8 0, .int .u8 0, .int .u8 0, .int .u8 0, .int .u8 0, .int .u8 0, .int .u8 0, .int .u8 0, .int .u8 0, .int .u8 0, .int .u8 0, .int .u8 0, .int .u8 0, .int .u8 0, .int .u8 0, .int .u8 0, .int .u8 0, .int .u8 0, .int .u8 0, .int .u8 0, .int .u8 0, .int .u8 0, .int .u8 0, .int .u8 0, .int .u8 0, .int .u8 0, .int .u8 0, .int .u8 0, .int .u8 0, .int .u8 0, .int .u8 0]], []⟩ 8 (by kernel_rfl) (by kernel_rfl) (by kernel_rfl) (by kernel_rfl)) ?_
  intro W base args ds gs before hval0 hW hcnd _
  have hval : ∀ (j : Nat) t v, Try.f6.params[j]? = some t → args[j]? = some v → Value.okWide Try.prog W .any base t v := hval0
  have hW' := hW
  obtain ⟨p, q, hA0, hV, rfl, hfz, hnd⟩ := hW
  have hA : DataW.TrodAll enc Try.prog W 0 (fun _ => true) true Try.f6.params.toList args.toList ds p := hA0
  rw [Try.params6] at hA hval
  obtain ⟨v0, vs0, d0, ds0, p0, q0, hargs, rfl, rfl, h0, r0⟩ := trodAll_cons hA
  obtain ⟨v1, vs1, d1, ds1, p1, q1, rfl, rfl, rfl, h1, r1⟩ := trodAll_cons r0
  obtain ⟨v2, vs2, d2, ds2, p2, q2, rfl, rfl, rfl, h2, r2⟩ := trodAll_cons r1
  obtain ⟨rfl, rfl, rfl⟩ := trodAll_nil r2
  obtain rfl : args = #[v0, v1, v2] := by cases args; simp_all
  obtain ⟨rfl, rfl⟩ := trodVars_none hV
  obtain ⟨a0, b0, rfl, rfl, k0⟩ := open_num (hval 0 23 v0 rfl rfl) h0
  obtain ⟨a1, b1, rfl, rfl, k1⟩ := open_num (hval 1 23 v1 rfl rfl) h1
  obtain ⟨a2, b2, rfl, rfl, k2⟩ := open_num (hval 2 23 v2 rfl rfl) h2
  clear hA0 hval0
  simp only [List.append_nil] at hW'
  refine (walk a0 b0 a1 b1 a2 b2 W).mono fun e W' ⟨he, hg⟩ => ?_
  subst he
  exact ⟨_, rfl, _, _, _, [], [], [], hW', (trodAll_cons_mk (shut_bool Try.underlying4 _) trodAll_mk0), (trodAll_cons_mk (k0 _ _) (trodAll_cons_mk (k1 _ _) (trodAll_cons_mk (k2 _ _) trodAll_mk0))), rfl, hg.frame _, fun h => by cases h⟩

theorem over : Rows.fieldRulesRow.holds Try.pinned (OpenSpec.ofChange Rows.fieldRulesSpec) :=
  OpenClaim.holds_of_wide 6 Try.f6 rfl rfl rfl rfl rfl rfl rfl ⟨rfl, rfl, rfl, rfl, rfl⟩ rfl rfl rfl rfl rfl (by kernel_rfl) Try.func6 (by kernel_rfl)
    (of_decide_eq_true (by kernel_rfl)) (by unfold Func.isWrapper; first | (rw [if_pos (by decide +kernel)]; kernel_rfl) | (rw [if_neg (by decide +kernel)]; exact ⟨rfl, rfl⟩))
    (fun os started H enc _ => lifted os started H enc)

/-- The statement. -/
theorem proved : Rows.FieldRulesSaid :=
  over
#print axioms proved
end Go.Proofs.Ytghcggecahaccaa.fieldRules
