/- What is not 0, times its inverse, is 1; a root squared is the number; of each number it or its double has a root, never both, unless it is 0: FieldInverse returns true, for every number of 32 bytes. No condition. -/
import Derived.Test.YtghcggecahaccaaRows
import Derived.Test.YtghcggecahaccaaFldP
import Derived.Test.YtghcggecahaccaaFldO
import Derived.Test.YtghcggecahaccaaFldQ
import Derived.Test.YtghcggecahaccaaFldAF
import Derived.Test.YtghcggecahaccaaFldAD
import Derived.Test.YtghcggecahaccaaSkp
import Derived.WalkKit
import Derived.ProofKit
import Derived.OpenShut
namespace Go.Proofs.Ytghcggecahaccaa.fieldInverse
open Go.ChangeShapes Go.WideShapes Go.ChangeAt Go.RowKit
open Go.Proofs.Ytghcggecahaccaa Go.Proofs.Ytghcggecahaccaa.Fld Go.Proofs.Ytghcggecahaccaa.Sym
set_option linter.unusedVariables false

theorem own : ownKnob Try.prog.godebug = none := by kernel_rfl
section
variable {o : Oper} {a : Act} {w : World} {x y : Operand}
theorem run_zero8 {b : Nat} (hb : b = 0) (ho : o.op = .binOp .eql 5 x (.const (.int .u8 0)) 5) (hx : a.eval x = .int .u8 (b : Int)) :
    (execOp a.eval o).run Try.prog w = .ok (.value (.bool true)) w := by
  subst hb
  have hf : a.eval (.const (.int .u8 0)) = .int .u8 0 := rfl
  unfold execOp
  simp only [ho, hx]
  generalize a.eval = f at *
  go_simp
theorem run_neqBt (c d : Bool) (h : (c != d) = true) (ho : o.op = .binOp .neq 4 x y 4) (hx : a.eval x = .bool c) (hy : a.eval y = .bool d) :
    (execOp a.eval o).run Try.prog w = .ok (.value (.bool true)) w := by
  unfold execOp
  simp only [ho, hx, hy]
  generalize a.eval = f at *
  cases c <;> cases d <;> first | (exact absurd h (by decide)) | go_simp
end
set_option maxHeartbeats 4000000 in
set_option maxRecDepth 100000 in
theorem walk_z (a q : Nat) (t : Bool) (ha : a < MM) (hq : q < MM) (hroot : ∀ w, Calls Try.prog 24 #[.agg (bs a)] w fun e w' => e = .returned (.tuple #[.agg (bs 0), .bool true]) ∧ Below w.heap.size w w') (htwice : ∀ w, Calls Try.prog 24 #[.agg (bs (a * 2 % PP))] w fun e w' => e = .returned (.tuple #[.agg (bs q), .bool t]) ∧ Below w.heap.size w w') (c1 : decide ((a % PP) = 0) = true) (i1 : decide ((a ^ (PP - 2) % PP) = 0) = true) (w : World) :
    Calls Try.prog 7 #[.agg (bs a)] w fun e w' => e = .returned (.bool true) ∧ Below w.heap.size w w' := by
  have Ha := Lib.hid ha
  have Hq := Lib.hid hq
  have C1 := Lib.hid c1
  have I1 := Lib.hid i1
  clear ha hq c1 i1
  go_enter Try.func7, Try.ntmps7
  have hbel0 := Below.refl w.heap.size w
  go_step
  go_step
  go_step
  refine lst (wanted_none rfl) (w_alloc (c := bs a) (T := 23) 1 rfl (run_box rfl rfl) (fun w1 he2 => ?_))
  have k3 := Blk.new he2
  have hg4 : w.heap.size ≤ w.heap.size := hbel0.size
  have hbel5 := bel_alloc hbel0 he2
  simp only [List.setIfInBounds_toArray, List.set_cons_zero, List.set_cons_succ]
  refine lst (wanted_none rfl) (w_value 2 (.bool false) rfl (run_as rfl rfl) ?_)
  simp only [List.setIfInBounds_toArray, List.set_cons_zero, List.set_cons_succ]
  go_step
  go_step
  go_step
  go_step
  go_step
  refine lst (wanted_none rfl) (w_value 8 (.agg (bs a)) rfl (run_row rfl rfl k3 Try.underlying23 rfl (by rw [bs_sz]; exact info_b)) ?_)
  simp only [List.setIfInBounds_toArray, List.set_cons_zero, List.set_cons_succ]
  refine lst (wanted_none rfl) (w_enter 9 (.agg (bs (a % PP))) rfl (run_Reduce rfl rfl) (reduce_any a Ha.out _) (fun w6 hb7 => ?_))
  have k8 := k3.call hb7
  have hbel9 := bel_call hbel5 hb7
  simp only [List.setIfInBounds_toArray, List.set_cons_zero, List.set_cons_succ]
  refine lst (wanted_none rfl) (w_value 10 (.agg (bs 0)) rfl (by unfold execOp; go_simp; rfl) ?_)
  simp only [List.setIfInBounds_toArray, List.set_cons_zero, List.set_cons_succ]
  refine lst (wanted_none rfl) (w_value 11 (.bool true) rfl (run_eqN (a % PP) 0 (Nat.lt_trans (Nat.mod_lt _ (by decide)) pp_lt) (by decide) true C1.out rfl rfl rfl) ?_)
  simp only [List.setIfInBounds_toArray, List.set_cons_zero, List.set_cons_succ]
  refine lst (wanted_none rfl) (w_value 3 (.bool true) rfl (run_as rfl rfl) ?_)
  simp only [List.setIfInBounds_toArray, List.set_cons_zero, List.set_cons_succ]
  go_step
  go_step
  go_step
  go_step
  go_step
  refine lst (wanted_none rfl) (w_value 13 (.agg (bs a)) rfl (run_row rfl rfl k8 Try.underlying23 rfl (by rw [bs_sz]; exact info_b)) ?_)
  simp only [List.setIfInBounds_toArray, List.set_cons_zero, List.set_cons_succ]
  refine lst (wanted_none rfl) (w_enter 14 (.tuple #[.agg (bs 0), .bool true]) rfl (run_Root rfl rfl) (hroot _) (fun w10 hb11 => ?_))
  have k12 := k8.call hb11
  have hbel13 := bel_call hbel9 hb11
  simp only [List.setIfInBounds_toArray, List.set_cons_zero, List.set_cons_succ]
  refine lst (wanted_none rfl) (w_value 12 (.tuple #[.agg (bs 0), .bool true]) rfl (run_mv rfl rfl) ?_)
  simp only [List.setIfInBounds_toArray, List.set_cons_zero, List.set_cons_succ]
  refine lst (wanted_none rfl) (w_value 15 (.agg (bs 0)) rfl (run_ex rfl rfl rfl) ?_)
  simp only [List.setIfInBounds_toArray, List.set_cons_zero, List.set_cons_succ]
  refine lst (wanted_none rfl) (w_value 16 (.bool true) rfl (run_ex rfl rfl rfl) ?_)
  simp only [List.setIfInBounds_toArray, List.set_cons_zero, List.set_cons_succ]
  refine lst (wanted_none rfl) (w_alloc (c := bs 0) (T := 23) 4 rfl (run_alN rfl) (fun w14 he15 => ?_))
  have hne17 : w.heap.size ≠ w10.heap.size := Nat.ne_of_lt k12.lt
  have k16 := k12.alloc he15
  have k18 := Blk.new he15
  have hg19 : w.heap.size ≤ w10.heap.size := hbel13.size
  have hbel20 := bel_alloc hbel13 he15
  simp only [List.setIfInBounds_toArray, List.set_cons_zero, List.set_cons_succ]
  refine lst (wanted_none rfl) (w_store 23 _ _ (w10.heap.size) (bs 0) rfl rfl rfl rfl k18 (by rw [bs_sz]; exact info_b) ((bs_sz _).trans (bs_sz _).symm) (bs_one _) (fun w21 he22 => ?_))
  have k23 := k16.other hne17 he22
  have k24 := k18.set he22
  have hbel25 := bel_set hbel20 hg19 he22
  refine lst (wanted_none rfl) (w_value 5 (.bool true) rfl (run_as rfl rfl) ?_)
  simp only [List.setIfInBounds_toArray, List.set_cons_zero, List.set_cons_succ]
  go_step
  go_step
  go_step
  go_step
  go_step
  refine lst (wanted_none rfl) (w_value 18 (.agg (bs a)) rfl (run_row rfl rfl k23 Try.underlying23 rfl (by rw [bs_sz]; exact info_b)) ?_)
  simp only [List.setIfInBounds_toArray, List.set_cons_zero, List.set_cons_succ]
  refine lst (wanted_none rfl) (w_value 19 (.agg (bs 2)) rfl (by unfold execOp; go_simp; rfl) ?_)
  simp only [List.setIfInBounds_toArray, List.set_cons_zero, List.set_cons_succ]
  refine lst (wanted_none rfl) (w_enter 20 (.agg (bs (a * 2 % PP))) rfl (run_Mul rfl rfl rfl) (mul_any a 2 Ha.out (by decide) _) (fun w26 hb27 => ?_))
  have k28 := k23.call hb27
  have k29 := k24.call hb27
  have hbel30 := bel_call hbel25 hb27
  simp only [List.setIfInBounds_toArray, List.set_cons_zero, List.set_cons_succ]
  refine lst (wanted_none rfl) (w_enter 21 (.tuple #[.agg (bs q), .bool t]) rfl (run_Root rfl rfl) (htwice _) (fun w31 hb32 => ?_))
  have k33 := k28.call hb32
  have k34 := k29.call hb32
  have hbel35 := bel_call hbel30 hb32
  simp only [List.setIfInBounds_toArray, List.set_cons_zero, List.set_cons_succ]
  refine lst (wanted_none rfl) (w_value 17 (.tuple #[.agg (bs q), .bool t]) rfl (run_mv rfl rfl) ?_)
  simp only [List.setIfInBounds_toArray, List.set_cons_zero, List.set_cons_succ]
  refine lst (wanted_none rfl) (w_value 22 (.agg (bs q)) rfl (run_ex rfl rfl rfl) ?_)
  simp only [List.setIfInBounds_toArray, List.set_cons_zero, List.set_cons_succ]
  refine lst (wanted_none rfl) (w_value 23 (.bool t) rfl (run_ex rfl rfl rfl) ?_)
  simp only [List.setIfInBounds_toArray, List.set_cons_zero, List.set_cons_succ]
  refine lst (wanted_none rfl) (w_alloc (c := bs 0) (T := 23) 6 rfl (run_alN rfl) (fun w36 he37 => ?_))
  have hne39 : w.heap.size ≠ w31.heap.size := Nat.ne_of_lt k33.lt
  have k38 := k33.alloc he37
  have hne41 : w10.heap.size ≠ w31.heap.size := Nat.ne_of_lt k34.lt
  have k40 := k34.alloc he37
  have k42 := Blk.new he37
  have hg43 : w.heap.size ≤ w31.heap.size := hbel35.size
  have hbel44 := bel_alloc hbel35 he37
  simp only [List.setIfInBounds_toArray, List.set_cons_zero, List.set_cons_succ]
  refine lst (wanted_none rfl) (w_store 23 _ _ (w31.heap.size) (bs q) rfl rfl rfl rfl k42 (by rw [bs_sz]; exact info_b) ((bs_sz _).trans (bs_sz _).symm) (bs_one _) (fun w45 he46 => ?_))
  have k47 := k38.other hne39 he46
  have k48 := k40.other hne41 he46
  have k49 := k42.set he46
  have hbel50 := bel_set hbel44 hg43 he46
  refine lst (wanted_none rfl) (w_value 7 (.bool t) rfl (run_as rfl rfl) ?_)
  simp only [List.setIfInBounds_toArray, List.set_cons_zero, List.set_cons_succ]
  go_step
  go_step
  go_step
  go_step
  go_step
  go_step
  refine lst (wanted_none rfl) (w_value 24 (.bool true) rfl (run_mv rfl rfl) ?_)
  simp only [List.setIfInBounds_toArray, List.set_cons_zero, List.set_cons_succ]
  go_step
  go_step
  go_step
  go_step
  go_step
  go_step
  refine lst (wanted_none rfl) (w_enter 25 (.bool true) rfl (run_awake rfl) (awake_any _) (fun w51 hb52 => ?_))
  have k53 := k47.call hb52
  have k54 := k48.call hb52
  have k55 := k49.call hb52
  have hbel56 := bel_call hbel50 hb52
  simp only [List.setIfInBounds_toArray, List.set_cons_zero, List.set_cons_succ]
  refine lst (wanted_none rfl) (w_value 26 (.bool true) rfl (run_mv rfl rfl) ?_)
  simp only [List.setIfInBounds_toArray, List.set_cons_zero, List.set_cons_succ]
  refine lst rfl (w_value 27 (.agg (bs a)) rfl (run_row rfl rfl k53 Try.underlying23 rfl (by rw [bs_sz]; exact info_b)) ?_)
  simp only [List.setIfInBounds_toArray, List.set_cons_zero, List.set_cons_succ]
  refine lst rfl (w_enter 28 (.agg (bs (a ^ (PP - 2) % PP))) rfl (run_Inv rfl rfl) (inv_any a Ha.out _) (fun w57 hb58 => ?_))
  have k59 := k53.call hb58
  have k60 := k54.call hb58
  have k61 := k55.call hb58
  have hbel62 := bel_call hbel56 hb58
  simp only [List.setIfInBounds_toArray, List.set_cons_zero, List.set_cons_succ]
  refine lst rfl (w_value 29 (.agg (bs 0)) rfl (by unfold execOp; go_simp; rfl) ?_)
  simp only [List.setIfInBounds_toArray, List.set_cons_zero, List.set_cons_succ]
  refine lst rfl (w_value 30 (.bool true) rfl (run_eqN (a ^ (PP - 2) % PP) 0 (Nat.lt_trans (Nat.mod_lt _ (by decide)) pp_lt) (by decide) true I1.out rfl rfl rfl) ?_)
  simp only [List.setIfInBounds_toArray, List.set_cons_zero, List.set_cons_succ]
  refine lst (wanted_none rfl) (w_value 31 (.bool true) rfl (run_pick rfl rfl rfl) ?_)
  simp only [List.setIfInBounds_toArray, List.set_cons_zero, List.set_cons_succ]
  refine lst (wanted_none rfl) (w_value 32 (.bool true) rfl (run_mv rfl rfl) ?_)
  simp only [List.setIfInBounds_toArray, List.set_cons_zero, List.set_cons_succ]
  refine lst rfl (w_value 33 (.bool true) rfl (run_mv rfl rfl) ?_)
  simp only [List.setIfInBounds_toArray, List.set_cons_zero, List.set_cons_succ]
  refine lst (wanted_none rfl) (w_value 34 (.bool true) rfl (run_pick rfl rfl rfl) ?_)
  simp only [List.setIfInBounds_toArray, List.set_cons_zero, List.set_cons_succ]
  refine lst (wanted_none rfl) (w_value 35 (.bool true) rfl (run_mv rfl rfl) ?_)
  simp only [List.setIfInBounds_toArray, List.set_cons_zero, List.set_cons_succ]
  refine lst rfl (w_value 36 (.agg (bs 0)) rfl (run_row rfl rfl k60 Try.underlying23 rfl (by rw [bs_sz]; exact info_b)) ?_)
  simp only [List.setIfInBounds_toArray, List.set_cons_zero, List.set_cons_succ]
  refine lst rfl (w_value 37 (.agg (bs 0)) rfl (by unfold execOp; go_simp; rfl) ?_)
  simp only [List.setIfInBounds_toArray, List.set_cons_zero, List.set_cons_succ]
  refine lst rfl (w_value 38 (.bool true) rfl (run_eqN 0 0 (by decide) (by decide) true rfl rfl rfl rfl) ?_)
  simp only [List.setIfInBounds_toArray, List.set_cons_zero, List.set_cons_succ]
  refine lst (wanted_none rfl) (w_value 39 (.bool true) rfl (run_pick rfl rfl rfl) ?_)
  simp only [List.setIfInBounds_toArray, List.set_cons_zero, List.set_cons_succ]
  refine lst (wanted_none rfl) (w_value 2 (.bool true) rfl (run_as rfl rfl) ?_)
  simp only [List.setIfInBounds_toArray, List.set_cons_zero, List.set_cons_succ]
  go_step
  go_step
  go_step
  go_wp2
  go_ret
  exact ⟨rfl, hbel62⟩
set_option maxHeartbeats 4000000 in
set_option maxRecDepth 100000 in
theorem walk_y (a r q : Nat) (ha : a < MM) (hq : q < MM) (hr : r < MM) (hroot : ∀ w, Calls Try.prog 24 #[.agg (bs a)] w fun e w' => e = .returned (.tuple #[.agg (bs r), .bool true]) ∧ Below w.heap.size w w') (htwice : ∀ w, Calls Try.prog 24 #[.agg (bs (a * 2 % PP))] w fun e w' => e = .returned (.tuple #[.agg (bs q), .bool false]) ∧ Below w.heap.size w w') (c1 : decide ((a % PP) = 0) = false) (i1 : decide (a * (a ^ (PP - 2) % PP) % PP = 1) = true) (r1 : decide (r * r % PP = (a % PP)) = true) (ev : r % 2 = 0) (w : World) :
    Calls Try.prog 7 #[.agg (bs a)] w fun e w' => e = .returned (.bool true) ∧ Below w.heap.size w w' := by
  have Ha := Lib.hid ha
  have Hq := Lib.hid hq
  have C1 := Lib.hid c1
  have I1 := Lib.hid i1
  clear ha hq c1 i1
  have Hr := Lib.hid hr
  clear hr
  have R1 := Lib.hid r1
  have EV := Lib.hid ev
  clear r1 ev
  go_enter Try.func7, Try.ntmps7
  have hbel0 := Below.refl w.heap.size w
  go_step
  go_step
  go_step
  refine lst (wanted_none rfl) (w_alloc (c := bs a) (T := 23) 1 rfl (run_box rfl rfl) (fun w1 he2 => ?_))
  have k3 := Blk.new he2
  have hg4 : w.heap.size ≤ w.heap.size := hbel0.size
  have hbel5 := bel_alloc hbel0 he2
  simp only [List.setIfInBounds_toArray, List.set_cons_zero, List.set_cons_succ]
  refine lst (wanted_none rfl) (w_value 2 (.bool false) rfl (run_as rfl rfl) ?_)
  simp only [List.setIfInBounds_toArray, List.set_cons_zero, List.set_cons_succ]
  go_step
  go_step
  go_step
  go_step
  go_step
  refine lst (wanted_none rfl) (w_value 8 (.agg (bs a)) rfl (run_row rfl rfl k3 Try.underlying23 rfl (by rw [bs_sz]; exact info_b)) ?_)
  simp only [List.setIfInBounds_toArray, List.set_cons_zero, List.set_cons_succ]
  refine lst (wanted_none rfl) (w_enter 9 (.agg (bs (a % PP))) rfl (run_Reduce rfl rfl) (reduce_any a Ha.out _) (fun w6 hb7 => ?_))
  have k8 := k3.call hb7
  have hbel9 := bel_call hbel5 hb7
  simp only [List.setIfInBounds_toArray, List.set_cons_zero, List.set_cons_succ]
  refine lst (wanted_none rfl) (w_value 10 (.agg (bs 0)) rfl (by unfold execOp; go_simp; rfl) ?_)
  simp only [List.setIfInBounds_toArray, List.set_cons_zero, List.set_cons_succ]
  refine lst (wanted_none rfl) (w_value 11 (.bool false) rfl (run_eqN (a % PP) 0 (Nat.lt_trans (Nat.mod_lt _ (by decide)) pp_lt) (by decide) false C1.out rfl rfl rfl) ?_)
  simp only [List.setIfInBounds_toArray, List.set_cons_zero, List.set_cons_succ]
  refine lst (wanted_none rfl) (w_value 3 (.bool false) rfl (run_as rfl rfl) ?_)
  simp only [List.setIfInBounds_toArray, List.set_cons_zero, List.set_cons_succ]
  go_step
  go_step
  go_step
  go_step
  go_step
  refine lst (wanted_none rfl) (w_value 13 (.agg (bs a)) rfl (run_row rfl rfl k8 Try.underlying23 rfl (by rw [bs_sz]; exact info_b)) ?_)
  simp only [List.setIfInBounds_toArray, List.set_cons_zero, List.set_cons_succ]
  refine lst (wanted_none rfl) (w_enter 14 (.tuple #[.agg (bs r), .bool true]) rfl (run_Root rfl rfl) (hroot _) (fun w10 hb11 => ?_))
  have k12 := k8.call hb11
  have hbel13 := bel_call hbel9 hb11
  simp only [List.setIfInBounds_toArray, List.set_cons_zero, List.set_cons_succ]
  refine lst (wanted_none rfl) (w_value 12 (.tuple #[.agg (bs r), .bool true]) rfl (run_mv rfl rfl) ?_)
  simp only [List.setIfInBounds_toArray, List.set_cons_zero, List.set_cons_succ]
  refine lst (wanted_none rfl) (w_value 15 (.agg (bs r)) rfl (run_ex rfl rfl rfl) ?_)
  simp only [List.setIfInBounds_toArray, List.set_cons_zero, List.set_cons_succ]
  refine lst (wanted_none rfl) (w_value 16 (.bool true) rfl (run_ex rfl rfl rfl) ?_)
  simp only [List.setIfInBounds_toArray, List.set_cons_zero, List.set_cons_succ]
  refine lst (wanted_none rfl) (w_alloc (c := bs 0) (T := 23) 4 rfl (run_alN rfl) (fun w14 he15 => ?_))
  have hne17 : w.heap.size ≠ w10.heap.size := Nat.ne_of_lt k12.lt
  have k16 := k12.alloc he15
  have k18 := Blk.new he15
  have hg19 : w.heap.size ≤ w10.heap.size := hbel13.size
  have hbel20 := bel_alloc hbel13 he15
  simp only [List.setIfInBounds_toArray, List.set_cons_zero, List.set_cons_succ]
  refine lst (wanted_none rfl) (w_store 23 _ _ (w10.heap.size) (bs r) rfl rfl rfl rfl k18 (by rw [bs_sz]; exact info_b) ((bs_sz _).trans (bs_sz _).symm) (bs_one _) (fun w21 he22 => ?_))
  have k23 := k16.other hne17 he22
  have k24 := k18.set he22
  have hbel25 := bel_set hbel20 hg19 he22
  refine lst (wanted_none rfl) (w_value 5 (.bool true) rfl (run_as rfl rfl) ?_)
  simp only [List.setIfInBounds_toArray, List.set_cons_zero, List.set_cons_succ]
  go_step
  go_step
  go_step
  go_step
  go_step
  refine lst (wanted_none rfl) (w_value 18 (.agg (bs a)) rfl (run_row rfl rfl k23 Try.underlying23 rfl (by rw [bs_sz]; exact info_b)) ?_)
  simp only [List.setIfInBounds_toArray, List.set_cons_zero, List.set_cons_succ]
  refine lst (wanted_none rfl) (w_value 19 (.agg (bs 2)) rfl (by unfold execOp; go_simp; rfl) ?_)
  simp only [List.setIfInBounds_toArray, List.set_cons_zero, List.set_cons_succ]
  refine lst (wanted_none rfl) (w_enter 20 (.agg (bs (a * 2 % PP))) rfl (run_Mul rfl rfl rfl) (mul_any a 2 Ha.out (by decide) _) (fun w26 hb27 => ?_))
  have k28 := k23.call hb27
  have k29 := k24.call hb27
  have hbel30 := bel_call hbel25 hb27
  simp only [List.setIfInBounds_toArray, List.set_cons_zero, List.set_cons_succ]
  refine lst (wanted_none rfl) (w_enter 21 (.tuple #[.agg (bs q), .bool false]) rfl (run_Root rfl rfl) (htwice _) (fun w31 hb32 => ?_))
  have k33 := k28.call hb32
  have k34 := k29.call hb32
  have hbel35 := bel_call hbel30 hb32
  simp only [List.setIfInBounds_toArray, List.set_cons_zero, List.set_cons_succ]
  refine lst (wanted_none rfl) (w_value 17 (.tuple #[.agg (bs q), .bool false]) rfl (run_mv rfl rfl) ?_)
  simp only [List.setIfInBounds_toArray, List.set_cons_zero, List.set_cons_succ]
  refine lst (wanted_none rfl) (w_value 22 (.agg (bs q)) rfl (run_ex rfl rfl rfl) ?_)
  simp only [List.setIfInBounds_toArray, List.set_cons_zero, List.set_cons_succ]
  refine lst (wanted_none rfl) (w_value 23 (.bool false) rfl (run_ex rfl rfl rfl) ?_)
  simp only [List.setIfInBounds_toArray, List.set_cons_zero, List.set_cons_succ]
  refine lst (wanted_none rfl) (w_alloc (c := bs 0) (T := 23) 6 rfl (run_alN rfl) (fun w36 he37 => ?_))
  have hne39 : w.heap.size ≠ w31.heap.size := Nat.ne_of_lt k33.lt
  have k38 := k33.alloc he37
  have hne41 : w10.heap.size ≠ w31.heap.size := Nat.ne_of_lt k34.lt
  have k40 := k34.alloc he37
  have k42 := Blk.new he37
  have hg43 : w.heap.size ≤ w31.heap.size := hbel35.size
  have hbel44 := bel_alloc hbel35 he37
  simp only [List.setIfInBounds_toArray, List.set_cons_zero, List.set_cons_succ]
  refine lst (wanted_none rfl) (w_store 23 _ _ (w31.heap.size) (bs q) rfl rfl rfl rfl k42 (by rw [bs_sz]; exact info_b) ((bs_sz _).trans (bs_sz _).symm) (bs_one _) (fun w45 he46 => ?_))
  have k47 := k38.other hne39 he46
  have k48 := k40.other hne41 he46
  have k49 := k42.set he46
  have hbel50 := bel_set hbel44 hg43 he46
  refine lst (wanted_none rfl) (w_value 7 (.bool false) rfl (run_as rfl rfl) ?_)
  simp only [List.setIfInBounds_toArray, List.set_cons_zero, List.set_cons_succ]
  go_step
  go_step
  go_step
  go_step
  go_step
  go_step
  refine lst (wanted_none rfl) (w_value 24 (.bool false) rfl (run_mv rfl rfl) ?_)
  simp only [List.setIfInBounds_toArray, List.set_cons_zero, List.set_cons_succ]
  go_step
  go_step
  go_step
  go_step
  go_step
  go_step
  go_step
  go_step
  have k51 := k47.drew
  have k52 := k48.drew
  have k53 := k49.drew
  have hbel54 := hbel50.drew
  refine wp_region_held_drew (S := fun w' => Blk w' (w.heap.size) (bs a) 23 ∧ Blk w' (w10.heap.size) (bs r) 23) (by kernel_rfl) ⟨k51, k52⟩ (fun _ => ?_)
  generalize w45.drew = wd55 at *
  refine one_ready 0 (by kernel_rfl) ?_
  refine opd rfl (wanted_none rfl) (w_enter 40 (.bool true) rfl (run_awake rfl) (awake_any _) (fun w56 hb57 => ?_))
  have k58 := k51.call hb57
  have k59 := k52.call hb57
  have k60 := k53.call hb57
  have hbel61 := bel_call hbel54 hb57
  refine ⟨⟨k58, k59⟩, ?_⟩
  simp only [List.setIfInBounds_toArray, List.set_cons_zero, List.set_cons_succ]
  refine Sym.take_at 1 41 (.bool true) rfl rfl (by kernel_rfl) (by kernel_rfl) (by kernel_rfl) (fun _ _ _ h => h) (wanted_none rfl) (fun _ hw => run_mv rfl rfl) ⟨k58, k59⟩ ?_
  simp only [List.setIfInBounds_toArray, List.set_cons_zero, List.set_cons_succ]
  refine Sym.take_at 2 42 (.agg (bs a)) rfl rfl (by kernel_rfl) (by kernel_rfl) (by kernel_rfl) (fun _ _ _ h => h) rfl (fun _ hw => run_row rfl rfl (hw.1) Try.underlying23 rfl (by rw [bs_sz]; exact info_b)) ⟨k58, k59⟩ ?_
  simp only [List.setIfInBounds_toArray, List.set_cons_zero, List.set_cons_succ]
  refine Sym.take_at 3 43 (.agg (bs a)) rfl rfl (by kernel_rfl) (by kernel_rfl) (by kernel_rfl) (fun _ _ _ h => h) rfl (fun _ hw => run_row rfl rfl (hw.1) Try.underlying23 rfl (by rw [bs_sz]; exact info_b)) ⟨k58, k59⟩ ?_
  simp only [List.setIfInBounds_toArray, List.set_cons_zero, List.set_cons_succ]
  refine Sym.take_at 6 46 (.agg (bs 1)) rfl rfl (by kernel_rfl) (by kernel_rfl) (by kernel_rfl) (fun _ _ _ h => h) rfl (fun _ hw => by unfold execOp; go_simp; rfl) ⟨k58, k59⟩ ?_
  simp only [List.setIfInBounds_toArray, List.set_cons_zero, List.set_cons_succ]
  refine one_ready 4 (by kernel_rfl) ?_
  refine opd rfl rfl (w_enter 44 (.agg (bs (a ^ (PP - 2) % PP))) rfl (run_Inv rfl rfl) (inv_any a Ha.out _) (fun w62 hb63 => ?_))
  have k64 := k58.call hb63
  have k65 := k59.call hb63
  have k66 := k60.call hb63
  have hbel67 := bel_call hbel61 hb63
  refine ⟨⟨k64, k65⟩, ?_⟩
  simp only [List.setIfInBounds_toArray, List.set_cons_zero, List.set_cons_succ]
  refine one_ready 5 (by kernel_rfl) ?_
  refine opd rfl rfl (w_enter 45 (.agg (bs (a * (a ^ (PP - 2) % PP) % PP))) rfl (run_Mul rfl rfl rfl) (mul_any a (a ^ (PP - 2) % PP) Ha.out (Nat.lt_trans (Nat.mod_lt _ (by decide)) pp_lt) _) (fun w68 hb69 => ?_))
  have k70 := k64.call hb69
  have k71 := k65.call hb69
  have k72 := k66.call hb69
  have hbel73 := bel_call hbel67 hb69
  refine ⟨⟨k70, k71⟩, ?_⟩
  simp only [List.setIfInBounds_toArray, List.set_cons_zero, List.set_cons_succ]
  refine Sym.take_at 7 47 (.bool true) rfl rfl (by kernel_rfl) (by kernel_rfl) (by kernel_rfl) (fun _ _ _ h => h) rfl (fun _ hw => run_eqN (a * (a ^ (PP - 2) % PP) % PP) 1 (Nat.lt_trans (Nat.mod_lt _ (by decide)) pp_lt) (by decide) true I1.out rfl rfl rfl) ⟨k70, k71⟩ ?_
  simp only [List.setIfInBounds_toArray, List.set_cons_zero, List.set_cons_succ]
  refine Sym.take_at 8 48 (.bool true) rfl rfl (by kernel_rfl) (by kernel_rfl) (by kernel_rfl) (fun _ _ _ h => h) (wanted_none rfl) (fun _ hw => run_pick rfl rfl rfl) ⟨k70, k71⟩ ?_
  simp only [List.setIfInBounds_toArray, List.set_cons_zero, List.set_cons_succ]
  refine Sym.take_at 9 49 (.bool true) rfl rfl (by kernel_rfl) (by kernel_rfl) (by kernel_rfl) (fun _ _ _ h => h) (wanted_none rfl) (fun _ hw => run_mv rfl rfl) ⟨k70, k71⟩ ?_
  simp only [List.setIfInBounds_toArray, List.set_cons_zero, List.set_cons_succ]
  refine Sym.take_at 10 50 (.bool true) rfl rfl (by kernel_rfl) (by kernel_rfl) (by kernel_rfl) (fun _ _ _ h => h) rfl (fun _ hw => run_mv rfl rfl) ⟨k70, k71⟩ ?_
  simp only [List.setIfInBounds_toArray, List.set_cons_zero, List.set_cons_succ]
  refine Sym.take_at 11 51 (.bool false) rfl rfl (by kernel_rfl) (by kernel_rfl) (by kernel_rfl) (fun _ _ _ h => h) rfl (fun _ hw => run_mv rfl rfl) ⟨k70, k71⟩ ?_
  simp only [List.setIfInBounds_toArray, List.set_cons_zero, List.set_cons_succ]
  refine Sym.take_at 12 52 (.bool true) rfl rfl (by kernel_rfl) (by kernel_rfl) (by kernel_rfl) (fun _ _ _ h => h) rfl (fun _ hw => run_neqBt true false rfl rfl rfl rfl) ⟨k70, k71⟩ ?_
  simp only [List.setIfInBounds_toArray, List.set_cons_zero, List.set_cons_succ]
  refine Sym.take_at 13 53 (.bool true) rfl rfl (by kernel_rfl) (by kernel_rfl) (by kernel_rfl) (fun _ _ _ h => h) (wanted_none rfl) (fun _ hw => run_pick rfl rfl rfl) ⟨k70, k71⟩ ?_
  simp only [List.setIfInBounds_toArray, List.set_cons_zero, List.set_cons_succ]
  refine Sym.take_at 14 54 (.bool true) rfl rfl (by kernel_rfl) (by kernel_rfl) (by kernel_rfl) (fun _ _ _ h => h) (wanted_none rfl) (fun _ hw => run_mv rfl rfl) ⟨k70, k71⟩ ?_
  simp only [List.setIfInBounds_toArray, List.set_cons_zero, List.set_cons_succ]
  refine Sym.take_at 15 55 (.bool true) rfl rfl (by kernel_rfl) (by kernel_rfl) (by kernel_rfl) (fun _ _ _ h => h) rfl (fun _ hw => run_mv rfl rfl) ⟨k70, k71⟩ ?_
  simp only [List.setIfInBounds_toArray, List.set_cons_zero, List.set_cons_succ]
  refine Sym.take_at 16 56 (.bool false) rfl rfl (by kernel_rfl) (by kernel_rfl) (by kernel_rfl) (fun _ _ _ h => h) rfl (fun _ hw => run_not true rfl rfl) ⟨k70, k71⟩ ?_
  simp only [List.setIfInBounds_toArray, List.set_cons_zero, List.set_cons_succ]
  refine Sym.take_at 17 57 (.bool false) rfl rfl (by kernel_rfl) (by kernel_rfl) (by kernel_rfl) (fun _ _ _ h => h) rfl (fun _ hw => run_mv rfl rfl) ⟨k70, k71⟩ ?_
  simp only [List.setIfInBounds_toArray, List.set_cons_zero, List.set_cons_succ]
  refine Sym.take_at 18 58 (.agg (bs r)) rfl rfl (by kernel_rfl) (by kernel_rfl) (by kernel_rfl) (fun _ _ _ h => h) rfl (fun _ hw => run_row rfl rfl (hw.2) Try.underlying23 rfl (by rw [bs_sz]; exact info_b)) ⟨k70, k71⟩ ?_
  simp only [List.setIfInBounds_toArray, List.set_cons_zero, List.set_cons_succ]
  refine Sym.take_at 19 59 (.agg (bs r)) rfl rfl (by kernel_rfl) (by kernel_rfl) (by kernel_rfl) (fun _ _ _ h => h) rfl (fun _ hw => run_row rfl rfl (hw.2) Try.underlying23 rfl (by rw [bs_sz]; exact info_b)) ⟨k70, k71⟩ ?_
  simp only [List.setIfInBounds_toArray, List.set_cons_zero, List.set_cons_succ]
  refine Sym.take_at 21 61 (.agg (bs a)) rfl rfl (by kernel_rfl) (by kernel_rfl) (by kernel_rfl) (fun _ _ _ h => h) rfl (fun _ hw => run_row rfl rfl (hw.1) Try.underlying23 rfl (by rw [bs_sz]; exact info_b)) ⟨k70, k71⟩ ?_
  simp only [List.setIfInBounds_toArray, List.set_cons_zero, List.set_cons_succ]
  refine one_ready 20 (by kernel_rfl) ?_
  refine opd rfl rfl (w_enter 60 (.agg (bs (r * r % PP))) rfl (run_Mul rfl rfl rfl) (mul_any r r Hr.out Hr.out _) (fun w74 hb75 => ?_))
  have k76 := k70.call hb75
  have k77 := k71.call hb75
  have k78 := k72.call hb75
  have hbel79 := bel_call hbel73 hb75
  refine ⟨⟨k76, k77⟩, ?_⟩
  simp only [List.setIfInBounds_toArray, List.set_cons_zero, List.set_cons_succ]
  refine one_ready 22 (by kernel_rfl) ?_
  refine opd rfl rfl (w_enter 62 (.agg (bs (a % PP))) rfl (run_Reduce rfl rfl) (reduce_any a Ha.out _) (fun w80 hb81 => ?_))
  have k82 := k76.call hb81
  have k83 := k77.call hb81
  have k84 := k78.call hb81
  have hbel85 := bel_call hbel79 hb81
  refine ⟨⟨k82, k83⟩, ?_⟩
  simp only [List.setIfInBounds_toArray, List.set_cons_zero, List.set_cons_succ]
  refine Sym.take_at 23 63 (.bool true) rfl rfl (by kernel_rfl) (by kernel_rfl) (by kernel_rfl) (fun _ _ _ h => h) rfl (fun _ hw => run_eqN (r * r % PP) (a % PP) (Nat.lt_trans (Nat.mod_lt _ (by decide)) pp_lt) (Nat.lt_trans (Nat.mod_lt _ (by decide)) pp_lt) true R1.out rfl rfl rfl) ⟨k82, k83⟩ ?_
  simp only [List.setIfInBounds_toArray, List.set_cons_zero, List.set_cons_succ]
  refine Sym.take_at 24 64 (.bool true) rfl rfl (by kernel_rfl) (by kernel_rfl) (by kernel_rfl) (fun _ _ _ h => h) rfl (fun _ hw => run_mv rfl rfl) ⟨k82, k83⟩ ?_
  simp only [List.setIfInBounds_toArray, List.set_cons_zero, List.set_cons_succ]
  refine Sym.take_at 25 65 (.pointer (some ⟨w10.heap.size, 0, none⟩)) rfl rfl (by kernel_rfl) (by kernel_rfl) (by kernel_rfl) (fun _ _ _ h => h) rfl (fun _ hw => run_ix 4 0 (w10.heap.size) rfl rfl (by decide)) ⟨k82, k83⟩ ?_
  simp only [List.setIfInBounds_toArray, List.set_cons_zero, List.set_cons_succ]
  refine Sym.take_at 26 66 (.int .u8 (bt r 0 : Int)) rfl rfl (by kernel_rfl) (by kernel_rfl) (by kernel_rfl) (fun _ _ _ h => h) rfl (fun _ hw => run_ld8v (bt r) 0 (w10.heap.size) (show Arr.Row _ _ 32 23 .u8 (bt r) from (hw.2)) rfl rfl (by decide)) ⟨k82, k83⟩ ?_
  simp only [List.setIfInBounds_toArray, List.set_cons_zero, List.set_cons_succ]
  refine Sym.take_at 27 67 (.int .u8 ((r % 2 : Nat) : Int)) rfl rfl (by kernel_rfl) (by kernel_rfl) (by kernel_rfl) (fun _ _ _ h => h) rfl (fun _ hw => run_rem2 r rfl rfl) ⟨k82, k83⟩ ?_
  simp only [List.setIfInBounds_toArray, List.set_cons_zero, List.set_cons_succ]
  refine Sym.take_at 28 68 (.bool true) rfl rfl (by kernel_rfl) (by kernel_rfl) (by kernel_rfl) (fun _ _ _ h => h) rfl (fun _ hw => run_zero8 (b := r % 2) EV.out rfl rfl) ⟨k82, k83⟩ ?_
  simp only [List.setIfInBounds_toArray, List.set_cons_zero, List.set_cons_succ]
  refine Sym.take_at 29 69 (.bool true) rfl rfl (by kernel_rfl) (by kernel_rfl) (by kernel_rfl) (fun _ _ _ h => h) rfl (fun _ hw => run_pick rfl rfl rfl) ⟨k82, k83⟩ ?_
  simp only [List.setIfInBounds_toArray, List.set_cons_zero, List.set_cons_succ]
  refine Sym.take_at 30 70 (.bool true) rfl rfl (by kernel_rfl) (by kernel_rfl) (by kernel_rfl) (fun _ _ _ h => h) rfl (fun _ hw => run_pickf rfl rfl rfl) ⟨k82, k83⟩ ?_
  simp only [List.setIfInBounds_toArray, List.set_cons_zero, List.set_cons_succ]
  refine Sym.take_at 31 71 (.bool true) rfl rfl (by kernel_rfl) (by kernel_rfl) (by kernel_rfl) (fun _ _ _ h => h) (wanted_none rfl) (fun _ hw => run_pick rfl rfl rfl) ⟨k82, k83⟩ ?_
  simp only [List.setIfInBounds_toArray, List.set_cons_zero, List.set_cons_succ]
  refine one_ready 32 (by kernel_rfl) ?_
  refine opd rfl (wanted_none rfl) (w_value 2 (.bool true) rfl (run_as rfl rfl) ⟨⟨k82, k83⟩, ?_⟩)
  simp only [List.setIfInBounds_toArray, List.set_cons_zero, List.set_cons_succ]
  refine wpAnyH_done (by kernel_rfl) ?_ _
  go_step
  go_step
  go_wp2
  go_ret
  exact ⟨rfl, hbel85⟩
set_option maxHeartbeats 4000000 in
set_option maxRecDepth 100000 in
theorem walk_n (a r q : Nat) (ha : a < MM) (hq : q < MM) (hr : r < MM) (hroot : ∀ w, Calls Try.prog 24 #[.agg (bs a)] w fun e w' => e = .returned (.tuple #[.agg (bs r), .bool false]) ∧ Below w.heap.size w w') (htwice : ∀ w, Calls Try.prog 24 #[.agg (bs (a * 2 % PP))] w fun e w' => e = .returned (.tuple #[.agg (bs q), .bool true]) ∧ Below w.heap.size w w') (c1 : decide ((a % PP) = 0) = false) (i1 : decide (a * (a ^ (PP - 2) % PP) % PP = 1) = true) (w : World) :
    Calls Try.prog 7 #[.agg (bs a)] w fun e w' => e = .returned (.bool true) ∧ Below w.heap.size w w' := by
  have Ha := Lib.hid ha
  have Hq := Lib.hid hq
  have C1 := Lib.hid c1
  have I1 := Lib.hid i1
  clear ha hq c1 i1
  have Hr := Lib.hid hr
  clear hr
  go_enter Try.func7, Try.ntmps7
  have hbel0 := Below.refl w.heap.size w
  go_step
  go_step
  go_step
  refine lst (wanted_none rfl) (w_alloc (c := bs a) (T := 23) 1 rfl (run_box rfl rfl) (fun w1 he2 => ?_))
  have k3 := Blk.new he2
  have hg4 : w.heap.size ≤ w.heap.size := hbel0.size
  have hbel5 := bel_alloc hbel0 he2
  simp only [List.setIfInBounds_toArray, List.set_cons_zero, List.set_cons_succ]
  refine lst (wanted_none rfl) (w_value 2 (.bool false) rfl (run_as rfl rfl) ?_)
  simp only [List.setIfInBounds_toArray, List.set_cons_zero, List.set_cons_succ]
  go_step
  go_step
  go_step
  go_step
  go_step
  refine lst (wanted_none rfl) (w_value 8 (.agg (bs a)) rfl (run_row rfl rfl k3 Try.underlying23 rfl (by rw [bs_sz]; exact info_b)) ?_)
  simp only [List.setIfInBounds_toArray, List.set_cons_zero, List.set_cons_succ]
  refine lst (wanted_none rfl) (w_enter 9 (.agg (bs (a % PP))) rfl (run_Reduce rfl rfl) (reduce_any a Ha.out _) (fun w6 hb7 => ?_))
  have k8 := k3.call hb7
  have hbel9 := bel_call hbel5 hb7
  simp only [List.setIfInBounds_toArray, List.set_cons_zero, List.set_cons_succ]
  refine lst (wanted_none rfl) (w_value 10 (.agg (bs 0)) rfl (by unfold execOp; go_simp; rfl) ?_)
  simp only [List.setIfInBounds_toArray, List.set_cons_zero, List.set_cons_succ]
  refine lst (wanted_none rfl) (w_value 11 (.bool false) rfl (run_eqN (a % PP) 0 (Nat.lt_trans (Nat.mod_lt _ (by decide)) pp_lt) (by decide) false C1.out rfl rfl rfl) ?_)
  simp only [List.setIfInBounds_toArray, List.set_cons_zero, List.set_cons_succ]
  refine lst (wanted_none rfl) (w_value 3 (.bool false) rfl (run_as rfl rfl) ?_)
  simp only [List.setIfInBounds_toArray, List.set_cons_zero, List.set_cons_succ]
  go_step
  go_step
  go_step
  go_step
  go_step
  refine lst (wanted_none rfl) (w_value 13 (.agg (bs a)) rfl (run_row rfl rfl k8 Try.underlying23 rfl (by rw [bs_sz]; exact info_b)) ?_)
  simp only [List.setIfInBounds_toArray, List.set_cons_zero, List.set_cons_succ]
  refine lst (wanted_none rfl) (w_enter 14 (.tuple #[.agg (bs r), .bool false]) rfl (run_Root rfl rfl) (hroot _) (fun w10 hb11 => ?_))
  have k12 := k8.call hb11
  have hbel13 := bel_call hbel9 hb11
  simp only [List.setIfInBounds_toArray, List.set_cons_zero, List.set_cons_succ]
  refine lst (wanted_none rfl) (w_value 12 (.tuple #[.agg (bs r), .bool false]) rfl (run_mv rfl rfl) ?_)
  simp only [List.setIfInBounds_toArray, List.set_cons_zero, List.set_cons_succ]
  refine lst (wanted_none rfl) (w_value 15 (.agg (bs r)) rfl (run_ex rfl rfl rfl) ?_)
  simp only [List.setIfInBounds_toArray, List.set_cons_zero, List.set_cons_succ]
  refine lst (wanted_none rfl) (w_value 16 (.bool false) rfl (run_ex rfl rfl rfl) ?_)
  simp only [List.setIfInBounds_toArray, List.set_cons_zero, List.set_cons_succ]
  refine lst (wanted_none rfl) (w_alloc (c := bs 0) (T := 23) 4 rfl (run_alN rfl) (fun w14 he15 => ?_))
  have hne17 : w.heap.size ≠ w10.heap.size := Nat.ne_of_lt k12.lt
  have k16 := k12.alloc he15
  have k18 := Blk.new he15
  have hg19 : w.heap.size ≤ w10.heap.size := hbel13.size
  have hbel20 := bel_alloc hbel13 he15
  simp only [List.setIfInBounds_toArray, List.set_cons_zero, List.set_cons_succ]
  refine lst (wanted_none rfl) (w_store 23 _ _ (w10.heap.size) (bs r) rfl rfl rfl rfl k18 (by rw [bs_sz]; exact info_b) ((bs_sz _).trans (bs_sz _).symm) (bs_one _) (fun w21 he22 => ?_))
  have k23 := k16.other hne17 he22
  have k24 := k18.set he22
  have hbel25 := bel_set hbel20 hg19 he22
  refine lst (wanted_none rfl) (w_value 5 (.bool false) rfl (run_as rfl rfl) ?_)
  simp only [List.setIfInBounds_toArray, List.set_cons_zero, List.set_cons_succ]
  go_step
  go_step
  go_step
  go_step
  go_step
  refine lst (wanted_none rfl) (w_value 18 (.agg (bs a)) rfl (run_row rfl rfl k23 Try.underlying23 rfl (by rw [bs_sz]; exact info_b)) ?_)
  simp only [List.setIfInBounds_toArray, List.set_cons_zero, List.set_cons_succ]
  refine lst (wanted_none rfl) (w_value 19 (.agg (bs 2)) rfl (by unfold execOp; go_simp; rfl) ?_)
  simp only [List.setIfInBounds_toArray, List.set_cons_zero, List.set_cons_succ]
  refine lst (wanted_none rfl) (w_enter 20 (.agg (bs (a * 2 % PP))) rfl (run_Mul rfl rfl rfl) (mul_any a 2 Ha.out (by decide) _) (fun w26 hb27 => ?_))
  have k28 := k23.call hb27
  have k29 := k24.call hb27
  have hbel30 := bel_call hbel25 hb27
  simp only [List.setIfInBounds_toArray, List.set_cons_zero, List.set_cons_succ]
  refine lst (wanted_none rfl) (w_enter 21 (.tuple #[.agg (bs q), .bool true]) rfl (run_Root rfl rfl) (htwice _) (fun w31 hb32 => ?_))
  have k33 := k28.call hb32
  have k34 := k29.call hb32
  have hbel35 := bel_call hbel30 hb32
  simp only [List.setIfInBounds_toArray, List.set_cons_zero, List.set_cons_succ]
  refine lst (wanted_none rfl) (w_value 17 (.tuple #[.agg (bs q), .bool true]) rfl (run_mv rfl rfl) ?_)
  simp only [List.setIfInBounds_toArray, List.set_cons_zero, List.set_cons_succ]
  refine lst (wanted_none rfl) (w_value 22 (.agg (bs q)) rfl (run_ex rfl rfl rfl) ?_)
  simp only [List.setIfInBounds_toArray, List.set_cons_zero, List.set_cons_succ]
  refine lst (wanted_none rfl) (w_value 23 (.bool true) rfl (run_ex rfl rfl rfl) ?_)
  simp only [List.setIfInBounds_toArray, List.set_cons_zero, List.set_cons_succ]
  refine lst (wanted_none rfl) (w_alloc (c := bs 0) (T := 23) 6 rfl (run_alN rfl) (fun w36 he37 => ?_))
  have hne39 : w.heap.size ≠ w31.heap.size := Nat.ne_of_lt k33.lt
  have k38 := k33.alloc he37
  have hne41 : w10.heap.size ≠ w31.heap.size := Nat.ne_of_lt k34.lt
  have k40 := k34.alloc he37
  have k42 := Blk.new he37
  have hg43 : w.heap.size ≤ w31.heap.size := hbel35.size
  have hbel44 := bel_alloc hbel35 he37
  simp only [List.setIfInBounds_toArray, List.set_cons_zero, List.set_cons_succ]
  refine lst (wanted_none rfl) (w_store 23 _ _ (w31.heap.size) (bs q) rfl rfl rfl rfl k42 (by rw [bs_sz]; exact info_b) ((bs_sz _).trans (bs_sz _).symm) (bs_one _) (fun w45 he46 => ?_))
  have k47 := k38.other hne39 he46
  have k48 := k40.other hne41 he46
  have k49 := k42.set he46
  have hbel50 := bel_set hbel44 hg43 he46
  refine lst (wanted_none rfl) (w_value 7 (.bool true) rfl (run_as rfl rfl) ?_)
  simp only [List.setIfInBounds_toArray, List.set_cons_zero, List.set_cons_succ]
  go_step
  go_step
  go_step
  go_step
  go_step
  go_step
  refine lst (wanted_none rfl) (w_value 24 (.bool false) rfl (run_mv rfl rfl) ?_)
  simp only [List.setIfInBounds_toArray, List.set_cons_zero, List.set_cons_succ]
  go_step
  go_step
  go_step
  go_step
  go_step
  go_step
  go_step
  go_step
  have k51 := k47.drew
  have k52 := k48.drew
  have k53 := k49.drew
  have hbel54 := hbel50.drew
  refine wp_region_held_drew (S := fun w' => Blk w' (w.heap.size) (bs a) 23 ∧ Blk w' (w10.heap.size) (bs r) 23) (by kernel_rfl) ⟨k51, k52⟩ (fun _ => ?_)
  generalize w45.drew = wd55 at *
  refine one_ready 0 (by kernel_rfl) ?_
  refine opd rfl (wanted_none rfl) (w_enter 40 (.bool true) rfl (run_awake rfl) (awake_any _) (fun w56 hb57 => ?_))
  have k58 := k51.call hb57
  have k59 := k52.call hb57
  have k60 := k53.call hb57
  have hbel61 := bel_call hbel54 hb57
  refine ⟨⟨k58, k59⟩, ?_⟩
  simp only [List.setIfInBounds_toArray, List.set_cons_zero, List.set_cons_succ]
  refine Sym.take_at 1 41 (.bool true) rfl rfl (by kernel_rfl) (by kernel_rfl) (by kernel_rfl) (fun _ _ _ h => h) (wanted_none rfl) (fun _ hw => run_mv rfl rfl) ⟨k58, k59⟩ ?_
  simp only [List.setIfInBounds_toArray, List.set_cons_zero, List.set_cons_succ]
  refine Sym.take_at 2 42 (.agg (bs a)) rfl rfl (by kernel_rfl) (by kernel_rfl) (by kernel_rfl) (fun _ _ _ h => h) rfl (fun _ hw => run_row rfl rfl (hw.1) Try.underlying23 rfl (by rw [bs_sz]; exact info_b)) ⟨k58, k59⟩ ?_
  simp only [List.setIfInBounds_toArray, List.set_cons_zero, List.set_cons_succ]
  refine Sym.take_at 3 43 (.agg (bs a)) rfl rfl (by kernel_rfl) (by kernel_rfl) (by kernel_rfl) (fun _ _ _ h => h) rfl (fun _ hw => run_row rfl rfl (hw.1) Try.underlying23 rfl (by rw [bs_sz]; exact info_b)) ⟨k58, k59⟩ ?_
  simp only [List.setIfInBounds_toArray, List.set_cons_zero, List.set_cons_succ]
  refine Sym.take_at 6 46 (.agg (bs 1)) rfl rfl (by kernel_rfl) (by kernel_rfl) (by kernel_rfl) (fun _ _ _ h => h) rfl (fun _ hw => by unfold execOp; go_simp; rfl) ⟨k58, k59⟩ ?_
  simp only [List.setIfInBounds_toArray, List.set_cons_zero, List.set_cons_succ]
  refine one_ready 4 (by kernel_rfl) ?_
  refine opd rfl rfl (w_enter 44 (.agg (bs (a ^ (PP - 2) % PP))) rfl (run_Inv rfl rfl) (inv_any a Ha.out _) (fun w62 hb63 => ?_))
  have k64 := k58.call hb63
  have k65 := k59.call hb63
  have k66 := k60.call hb63
  have hbel67 := bel_call hbel61 hb63
  refine ⟨⟨k64, k65⟩, ?_⟩
  simp only [List.setIfInBounds_toArray, List.set_cons_zero, List.set_cons_succ]
  refine one_ready 5 (by kernel_rfl) ?_
  refine opd rfl rfl (w_enter 45 (.agg (bs (a * (a ^ (PP - 2) % PP) % PP))) rfl (run_Mul rfl rfl rfl) (mul_any a (a ^ (PP - 2) % PP) Ha.out (Nat.lt_trans (Nat.mod_lt _ (by decide)) pp_lt) _) (fun w68 hb69 => ?_))
  have k70 := k64.call hb69
  have k71 := k65.call hb69
  have k72 := k66.call hb69
  have hbel73 := bel_call hbel67 hb69
  refine ⟨⟨k70, k71⟩, ?_⟩
  simp only [List.setIfInBounds_toArray, List.set_cons_zero, List.set_cons_succ]
  refine Sym.take_at 7 47 (.bool true) rfl rfl (by kernel_rfl) (by kernel_rfl) (by kernel_rfl) (fun _ _ _ h => h) rfl (fun _ hw => run_eqN (a * (a ^ (PP - 2) % PP) % PP) 1 (Nat.lt_trans (Nat.mod_lt _ (by decide)) pp_lt) (by decide) true I1.out rfl rfl rfl) ⟨k70, k71⟩ ?_
  simp only [List.setIfInBounds_toArray, List.set_cons_zero, List.set_cons_succ]
  refine Sym.take_at 8 48 (.bool true) rfl rfl (by kernel_rfl) (by kernel_rfl) (by kernel_rfl) (fun _ _ _ h => h) (wanted_none rfl) (fun _ hw => run_pick rfl rfl rfl) ⟨k70, k71⟩ ?_
  simp only [List.setIfInBounds_toArray, List.set_cons_zero, List.set_cons_succ]
  refine Sym.take_at 9 49 (.bool true) rfl rfl (by kernel_rfl) (by kernel_rfl) (by kernel_rfl) (fun _ _ _ h => h) (wanted_none rfl) (fun _ hw => run_mv rfl rfl) ⟨k70, k71⟩ ?_
  simp only [List.setIfInBounds_toArray, List.set_cons_zero, List.set_cons_succ]
  refine Sym.take_at 10 50 (.bool false) rfl rfl (by kernel_rfl) (by kernel_rfl) (by kernel_rfl) (fun _ _ _ h => h) rfl (fun _ hw => run_mv rfl rfl) ⟨k70, k71⟩ ?_
  simp only [List.setIfInBounds_toArray, List.set_cons_zero, List.set_cons_succ]
  refine Sym.take_at 11 51 (.bool true) rfl rfl (by kernel_rfl) (by kernel_rfl) (by kernel_rfl) (fun _ _ _ h => h) rfl (fun _ hw => run_mv rfl rfl) ⟨k70, k71⟩ ?_
  simp only [List.setIfInBounds_toArray, List.set_cons_zero, List.set_cons_succ]
  refine Sym.take_at 12 52 (.bool true) rfl rfl (by kernel_rfl) (by kernel_rfl) (by kernel_rfl) (fun _ _ _ h => h) rfl (fun _ hw => run_neqBt false true rfl rfl rfl rfl) ⟨k70, k71⟩ ?_
  simp only [List.setIfInBounds_toArray, List.set_cons_zero, List.set_cons_succ]
  refine Sym.take_at 13 53 (.bool true) rfl rfl (by kernel_rfl) (by kernel_rfl) (by kernel_rfl) (fun _ _ _ h => h) (wanted_none rfl) (fun _ hw => run_pick rfl rfl rfl) ⟨k70, k71⟩ ?_
  simp only [List.setIfInBounds_toArray, List.set_cons_zero, List.set_cons_succ]
  refine Sym.take_at 14 54 (.bool true) rfl rfl (by kernel_rfl) (by kernel_rfl) (by kernel_rfl) (fun _ _ _ h => h) (wanted_none rfl) (fun _ hw => run_mv rfl rfl) ⟨k70, k71⟩ ?_
  simp only [List.setIfInBounds_toArray, List.set_cons_zero, List.set_cons_succ]
  refine Sym.take_at 15 55 (.bool false) rfl rfl (by kernel_rfl) (by kernel_rfl) (by kernel_rfl) (fun _ _ _ h => h) rfl (fun _ hw => run_mv rfl rfl) ⟨k70, k71⟩ ?_
  simp only [List.setIfInBounds_toArray, List.set_cons_zero, List.set_cons_succ]
  refine Sym.take_at 16 56 (.bool true) rfl rfl (by kernel_rfl) (by kernel_rfl) (by kernel_rfl) (fun _ _ _ h => h) rfl (fun _ hw => run_not false rfl rfl) ⟨k70, k71⟩ ?_
  simp only [List.setIfInBounds_toArray, List.set_cons_zero, List.set_cons_succ]
  refine Sym.take_at 17 57 (.bool true) rfl rfl (by kernel_rfl) (by kernel_rfl) (by kernel_rfl) (fun _ _ _ h => h) rfl (fun _ hw => run_mv rfl rfl) ⟨k70, k71⟩ ?_
  simp only [List.setIfInBounds_toArray, List.set_cons_zero, List.set_cons_succ]
  refine skip_at 18 58 rfl rfl (by kernel_rfl) (by kernel_rfl) (by kernel_rfl) (fun _ _ _ h => h) rfl ⟨k70, k71⟩ ?_
  simp only [List.setIfInBounds_toArray, List.set_cons_zero, List.set_cons_succ]
  refine skip_at 19 59 rfl rfl (by kernel_rfl) (by kernel_rfl) (by kernel_rfl) (fun _ _ _ h => h) rfl ⟨k70, k71⟩ ?_
  simp only [List.setIfInBounds_toArray, List.set_cons_zero, List.set_cons_succ]
  refine skip_at 21 61 rfl rfl (by kernel_rfl) (by kernel_rfl) (by kernel_rfl) (fun _ _ _ h => h) rfl ⟨k70, k71⟩ ?_
  simp only [List.setIfInBounds_toArray, List.set_cons_zero, List.set_cons_succ]
  refine one_ready 20 (by kernel_rfl) ?_
  refine opd_skip 60 rfl rfl rfl ⟨⟨k70, k71⟩, ?_⟩
  simp only [List.setIfInBounds_toArray, List.set_cons_zero, List.set_cons_succ]
  refine one_ready 22 (by kernel_rfl) ?_
  refine opd_skip 62 rfl rfl rfl ⟨⟨k70, k71⟩, ?_⟩
  simp only [List.setIfInBounds_toArray, List.set_cons_zero, List.set_cons_succ]
  refine skip_at 23 63 rfl rfl (by kernel_rfl) (by kernel_rfl) (by kernel_rfl) (fun _ _ _ h => h) rfl ⟨k70, k71⟩ ?_
  simp only [List.setIfInBounds_toArray, List.set_cons_zero, List.set_cons_succ]
  refine skip_at 24 64 rfl rfl (by kernel_rfl) (by kernel_rfl) (by kernel_rfl) (fun _ _ _ h => h) rfl ⟨k70, k71⟩ ?_
  simp only [List.setIfInBounds_toArray, List.set_cons_zero, List.set_cons_succ]
  refine skip_at 25 65 rfl rfl (by kernel_rfl) (by kernel_rfl) (by kernel_rfl) (fun _ _ _ h => h) rfl ⟨k70, k71⟩ ?_
  simp only [List.setIfInBounds_toArray, List.set_cons_zero, List.set_cons_succ]
  refine skip_at 26 66 rfl rfl (by kernel_rfl) (by kernel_rfl) (by kernel_rfl) (fun _ _ _ h => h) rfl ⟨k70, k71⟩ ?_
  simp only [List.setIfInBounds_toArray, List.set_cons_zero, List.set_cons_succ]
  refine skip_at 27 67 rfl rfl (by kernel_rfl) (by kernel_rfl) (by kernel_rfl) (fun _ _ _ h => h) rfl ⟨k70, k71⟩ ?_
  simp only [List.setIfInBounds_toArray, List.set_cons_zero, List.set_cons_succ]
  refine skip_at 28 68 rfl rfl (by kernel_rfl) (by kernel_rfl) (by kernel_rfl) (fun _ _ _ h => h) rfl ⟨k70, k71⟩ ?_
  simp only [List.setIfInBounds_toArray, List.set_cons_zero, List.set_cons_succ]
  refine skip_at 29 69 rfl rfl (by kernel_rfl) (by kernel_rfl) (by kernel_rfl) (fun _ _ _ h => h) rfl ⟨k70, k71⟩ ?_
  simp only [List.setIfInBounds_toArray, List.set_cons_zero, List.set_cons_succ]
  refine Sym.take_at 30 70 (.bool true) rfl rfl (by kernel_rfl) (by kernel_rfl) (by kernel_rfl) (fun _ _ _ h => h) rfl (fun _ hw => run_pick rfl rfl rfl) ⟨k70, k71⟩ ?_
  simp only [List.setIfInBounds_toArray, List.set_cons_zero, List.set_cons_succ]
  refine Sym.take_at 31 71 (.bool true) rfl rfl (by kernel_rfl) (by kernel_rfl) (by kernel_rfl) (fun _ _ _ h => h) (wanted_none rfl) (fun _ hw => run_pick rfl rfl rfl) ⟨k70, k71⟩ ?_
  simp only [List.setIfInBounds_toArray, List.set_cons_zero, List.set_cons_succ]
  refine one_ready 32 (by kernel_rfl) ?_
  refine opd rfl (wanted_none rfl) (w_value 2 (.bool true) rfl (run_as rfl rfl) ⟨⟨k70, k71⟩, ?_⟩)
  simp only [List.setIfInBounds_toArray, List.set_cons_zero, List.set_cons_succ]
  refine wpAnyH_done (by kernel_rfl) ?_ _
  go_step
  go_step
  go_wp2
  go_ret
  exact ⟨rfl, hbel73⟩

set_option maxHeartbeats 4000000 in
set_option maxRecDepth 100000 in
theorem walk (a : Nat) (ha : a < MM) (w : World) :
    Calls Try.prog 7 #[.agg (bs a)] w fun e w' => e = .returned (.bool true) ∧ Below w.heap.size w w' := by
  have hroot := root_any a ha
  have hd := root_any (a * 2 % PP) (Nat.lt_trans (Nat.mod_lt _ ppos) pp_lt)
  rw [Nat.mod_mod] at hd
  have hl : a % PP < PP := Nat.mod_lt _ ppos
  have h2 : a * 2 % PP = (a % PP) * 2 % PP := (Nat.mod_mul_mod a 2 PP).symm
  by_cases h0 : a % PP = 0
  · rw [h0, rootV_zero, rootOk_zero] at hroot
    refine walk_z a _ _ ha (rootV_lt _) hroot hd (decide_eq_true h0) (decide_eq_true ?_) w
    rw [Nat.pow_mod, h0, Nat.zero_pow (by decide), Nat.zero_mod]
  · have ht := root_twice (a % PP) hl h0
    rw [← h2] at ht
    rw [ht] at hd
    have hi := inv_one a h0
    cases hk : rootOk (a % PP) with
    | true =>
      rw [hk] at hd hroot
      exact walk_y a _ _ ha (rootV_lt _) (rootV_lt _) hroot hd (decide_eq_false h0) (decide_eq_true hi) (decide_eq_true (rootV_sq _ hk)) (rootV_even _ hk) w
    | false =>
      rw [hk] at hd hroot
      exact walk_n a _ _ ha (rootV_lt _) (rootV_lt _) hroot hd (decide_eq_false h0) (decide_eq_true hi) w

set_option maxRecDepth 100000 in
theorem lifted (os : Os) (started : os.Started) (H : Type) (enc : TypeId × Value → H) :
    ReturnsInHanded {} Try.checked os 7 .any (Rows.fieldInverseSpec.pre6 enc Try.prog Try.f7 Rows.fieldInverseRow.domain false) (Rows.fieldInverseSpec.post enc Try.prog Try.f7 false true false false) := by
  refine returnsInHanded_of_change (C := Try.checked) own started (by kernel_rfl) Try.func7
    (ChangeSpec.witness6 (enc := enc) (C := Try.checked) false ⟨#[], #[.agg #[.int .u8 0, .int .u8 0, .int .u8 0, .int .u8 0, .int .u8 0, .int .u8 0, .int .u8 0, .int .u8 0, .int .u8 0, .int .u8 0, .int .u8 0, .int .u8 0, .int .u8 0, .int .u8 0, .int .u8 0, .int .u8 0, .int .u8 0, .int .u8 0, .int .u8 0, .int .u8 0, .int .u8 0, .int .u8 0, .int .u8 0, .int .u8 0, .int .u8 0, .int .u8 0, .int .u8 0, .int .u8 0, .int .u8 0, .int .u8 0, .int .u8 0, .int .u8 0]], []⟩ 8 (by kernel_rfl) (by kernel_rfl) (by kernel_rfl) (by kernel_rfl)) ?_
  intro W base args ds gs before hval0 hW hcnd _
  have hval : ∀ (j : Nat) t v, Try.f7.params[j]? = some t → args[j]? = some v → Value.okWide Try.prog W .any base t v := hval0
  have hW' := hW
  obtain ⟨p, q, hA0, hV, rfl, hfz, hnd⟩ := hW
  have hA : DataW.TrodAll enc Try.prog W 0 (fun _ => true) true Try.f7.params.toList args.toList ds p := hA0
  rw [Try.params7] at hA hval
  obtain ⟨v0, vs0, d0, ds0, p0, q0, hargs, rfl, rfl, h0, r0⟩ := trodAll_cons hA
  obtain ⟨rfl, rfl, rfl⟩ := trodAll_nil r0
  obtain rfl : args = #[v0] := by cases args; simp_all
  obtain ⟨rfl, rfl⟩ := trodVars_none hV
  obtain ⟨a0, b0, rfl, rfl, k0⟩ := open_num (hval 0 23 v0 rfl rfl) h0
  clear hA0 hval0
  simp only [List.append_nil] at hW'
  refine (walk a0 b0 W).mono fun e W' ⟨he, hg⟩ => ?_
  subst he
  exact ⟨_, rfl, _, _, _, [], [], [], hW', (trodAll_cons_mk (shut_bool Try.underlying4 _) trodAll_mk0), (trodAll_cons_mk (k0 _ _) trodAll_mk0), rfl, hg.frame _, fun h => by cases h⟩

theorem over : Rows.fieldInverseRow.holds Try.pinned (OpenSpec.ofChange Rows.fieldInverseSpec) :=
  OpenClaim.holds_of_wide 7 Try.f7 rfl rfl rfl rfl rfl rfl rfl ⟨rfl, rfl, rfl, rfl, rfl⟩ rfl rfl rfl rfl rfl (by kernel_rfl) Try.func7 (by kernel_rfl)
    (of_decide_eq_true (by kernel_rfl)) (by unfold Func.isWrapper; first | (rw [if_pos (by decide +kernel)]; kernel_rfl) | (rw [if_neg (by decide +kernel)]; exact ⟨rfl, rfl⟩))
    (fun os started H enc _ => lifted os started H enc)

/-- The statement. -/
theorem proved : Rows.FieldInverseSaid :=
  over
#print axioms proved
end Go.Proofs.Ytghcggecahaccaa.fieldInverse
