/- Layer 3, the document's answers: Canon, Reduce, Neg. -/
import Derived.Test.YtghcggecahaccaaFldU
import Derived.Test.YtghcggecahaccaaFldQ
import Derived.Test.YtghcggecahaccaaSym
import Derived.Deep.LoopGhost
namespace Go.Proofs.Ytghcggecahaccaa.Fld
open Go.RowKit
open Go.Proofs.Ytghcggecahaccaa.Arr Go.Proofs.Ytghcggecahaccaa.Sym

theorem run_rorder {o : Oper} {a : Act} {w : World} (ho : o.op = .call { callee := .value (.func 34), args := #[], argTypes := #[] })  :
    (execOp a.eval o).run Try.prog w = .ok (.enter 34 #[]) w := by
  unfold execOp
  simp only [ho]
  have hf : a.eval (.func 34) = .func (.func 34) #[] #[] := rfl
  generalize a.eval = f at *
  go_simp
theorem run_rbelow {o : Oper} {a : Act} {w : World} {x0 x1 : Operand} {v0 v1 : Value} (ho : o.op = .call { callee := .value (.func 33), args := #[x0, x1], argTypes := #[23, 23] }) (h0 : a.eval x0 = v0) (h1 : a.eval x1 = v1) :
    (execOp a.eval o).run Try.prog w = .ok (.enter 33 #[v0, v1]) w := by
  unfold execOp
  simp only [ho]
  have hf : a.eval (.func 33) = .func (.func 33) #[] #[] := rfl
  generalize a.eval = f at *
  go_simp
theorem run_rless {o : Oper} {a : Act} {w : World} {x0 x1 : Operand} {v0 v1 : Value} (ho : o.op = .call { callee := .value (.func 37), args := #[x0, x1], argTypes := #[23, 23] }) (h0 : a.eval x0 = v0) (h1 : a.eval x1 = v1) :
    (execOp a.eval o).run Try.prog w = .ok (.enter 37 #[v0, v1]) w := by
  unfold execOp
  simp only [ho]
  have hf : a.eval (.func 37) = .func (.func 37) #[] #[] := rfl
  generalize a.eval = f at *
  go_simp
theorem run_rCanon {o : Oper} {a : Act} {w : World} {x0 : Operand} {v0 : Value} (ho : o.op = .call { callee := .value (.func 13), args := #[x0], argTypes := #[23] }) (h0 : a.eval x0 = v0) :
    (execOp a.eval o).run Try.prog w = .ok (.enter 13 #[v0]) w := by
  unfold execOp
  simp only [ho]
  have hf : a.eval (.func 13) = .func (.func 13) #[] #[] := rfl
  generalize a.eval = f at *
  go_simp
theorem run_rReduce {o : Oper} {a : Act} {w : World} {x0 : Operand} {v0 : Value} (ho : o.op = .call { callee := .value (.func 15), args := #[x0], argTypes := #[23] }) (h0 : a.eval x0 = v0) :
    (execOp a.eval o).run Try.prog w = .ok (.enter 15 #[v0]) w := by
  unfold execOp
  simp only [ho]
  have hf : a.eval (.func 15) = .func (.func 15) #[] #[] := rfl
  generalize a.eval = f at *
  go_simp
theorem run_rNeg {o : Oper} {a : Act} {w : World} {x0 : Operand} {v0 : Value} (ho : o.op = .call { callee := .value (.func 17), args := #[x0], argTypes := #[23] }) (h0 : a.eval x0 = v0) :
    (execOp a.eval o).run Try.prog w = .ok (.enter 17 #[v0]) w := by
  unfold execOp
  simp only [ho]
  have hf : a.eval (.func 17) = .func (.func 17) #[] #[] := rfl
  generalize a.eval = f at *
  go_simp
theorem PP_pos : 0 < PP := by decide
theorem rcanonb (a : Nat) (ha : a < MM) (w : World) : Calls Try.prog 33 #[.agg (bs a), .agg (bs PP)] w fun e w' => e = .returned (.bool (canonB a)) ∧ Below w.heap.size w w' := rbelow_any a PP ha pp_lt w
theorem rless_ge (a b : Nat) (h : b ≤ a ∧ b ≤ MM) (w : World) : Calls Try.prog 37 #[.agg (bs a), .agg (bs b)] w fun e w' => e = .returned (.agg (bs (a - b))) ∧ Below w.heap.size w w' := by
  have := rless_any a b h.2 w
  rw [bs_low (a + MM - b) (a - b) (by omega)] at this
  exact this
set_option maxHeartbeats 1000000 in
theorem rcanon_any (a : Nat) (ha : a < MM) (w : World) : Calls Try.prog 13 #[.agg (bs a)] w fun e w' => e = .returned (.bool (canonB a)) ∧ Below w.heap.size w w' := by
  have HA := Lib.hid ha
  clear ha
  go_enter Try.func13, Try.ntmps13
  have hbel0 := Below.refl w.heap.size w
  go_step
  go_step
  go_step
  refine lst (wanted_none rfl) (w_alloc (c := bs a) (T := 23) 1 rfl (run_box rfl rfl) (fun w1 he2 => ?_))
  have k3 := Blk.new he2
  have hg4 : w.heap.size ≤ w.heap.size := hbel0.size
  have hbel5 := bel_alloc hbel0 he2
  simp only [List.setIfInBounds_toArray, List.set_cons_zero, List.set_cons_succ]
  refine lst (wanted_none rfl) (w_value 2 (.bool false) rfl (run_as rfl rfl) ?_)
  simp only [List.setIfInBounds_toArray, List.set_cons_zero, List.set_cons_succ]
  go_step
  go_step
  go_step
  go_step
  have k6 := k3.drew
  have hbel7 := hbel5.drew
  refine wp_region_held_drew (S := fun w' => Blk w' (w.heap.size) (bs a) 23) (by kernel_rfl) k6 (fun _ => ?_)
  generalize w1.drew = wd8 at *
  refine Sym.take_at 0 3 (.agg (bs a)) rfl rfl (by kernel_rfl) (by kernel_rfl) (by kernel_rfl) (fun _ _ _ h => h) (wanted_none rfl) (fun _ hw => run_row rfl rfl hw Try.underlying23 rfl (by rw [bs_sz]; exact info_b)) k6 ?_
  simp only [List.setIfInBounds_toArray, List.set_cons_zero, List.set_cons_succ]
  refine one_ready 1 (by kernel_rfl) ?_
  refine opd rfl (wanted_none rfl) (w_enter 4 (.agg (bs PP)) rfl (run_rorder rfl) (rorder_any _) (fun w9 hb10 => ?_))
  have k11 := k6.call hb10
  have hbel12 := bel_call hbel7 hb10
  refine ⟨k11, ?_⟩
  simp only [List.setIfInBounds_toArray, List.set_cons_zero, List.set_cons_succ]
  refine one_ready 2 (by kernel_rfl) ?_
  refine opd rfl (wanted_none rfl) (w_enter 5 (.bool (canonB a)) rfl (run_rbelow rfl rfl rfl) (rcanonb a HA.out _) (fun w13 hb14 => ?_))
  have k15 := k11.call hb14
  have hbel16 := bel_call hbel12 hb14
  refine ⟨k15, ?_⟩
  simp only [List.setIfInBounds_toArray, List.set_cons_zero, List.set_cons_succ]
  refine one_ready 3 (by kernel_rfl) ?_
  refine opd rfl (wanted_none rfl) (w_value 2 (.bool (canonB a)) rfl (run_as rfl rfl) ⟨k15, ?_⟩)
  simp only [List.setIfInBounds_toArray, List.set_cons_zero, List.set_cons_succ]
  refine wpAnyH_done (by kernel_rfl) ?_ _
  go_step
  go_step
  go_wp2
  go_ret
  exact ⟨rfl, hbel16⟩

set_option maxHeartbeats 1000000 in
theorem rreduce_any (a : Nat) (ha : a < MM) (w : World) : Calls Try.prog 15 #[.agg (bs a)] w fun e w' => e = .returned (.agg (bs (a % PP))) ∧ Below w.heap.size w w' := by
  have HA := Lib.hid ha
  clear ha
  go_enter Try.func15, Try.ntmps15
  have hbel0 := Below.refl w.heap.size w
  go_step
  go_step
  go_step
  refine lst (wanted_none rfl) (w_alloc (c := bs a) (T := 23) 1 rfl (run_box rfl rfl) (fun w1 he2 => ?_))
  have k3 := Blk.new he2
  have hg4 : w.heap.size ≤ w.heap.size := hbel0.size
  have hbel5 := bel_alloc hbel0 he2
  simp only [List.setIfInBounds_toArray, List.set_cons_zero, List.set_cons_succ]
  refine lst (wanted_none rfl) (w_alloc (c := bs 0) (T := 23) 2 rfl (run_alN rfl) (fun w6 he7 => ?_))
  have hne9 : w.heap.size ≠ w1.heap.size := Nat.ne_of_lt k3.lt
  have k8 := k3.alloc he7
  have k10 := Blk.new he7
  have hg11 : w.heap.size ≤ w1.heap.size := hbel5.size
  have hbel12 := bel_alloc hbel5 he7
  simp only [List.setIfInBounds_toArray, List.set_cons_zero, List.set_cons_succ]
  go_step
  go_wp2_with fail
  go_loopg [] a (fun n wr => n < MM ∧ n % PP = a % PP ∧ Blk wr (w.heap.size) (bs n) 23 ∧ Blk wr (w1.heap.size) (bs 0) 23 ∧ Below w.heap.size w wr)
  case atStart => exact ⟨HA.out, rfl, k8, k10, hbel12⟩
  case round =>
    obtain ⟨hn, hm, r0, r1, hbelr⟩ := hrel
    have HN := Lib.hid hn
    have HM := Lib.hid hm
    have hnn : w.heap.size ≠ w1.heap.size := hne9
    clear hn hm
    by_cases hlt : gk < PP
    · have hcan : ∀ w, Calls Try.prog 13 #[.agg (bs gk)] w fun e w' => e = .returned (.bool true) ∧ Below w.heap.size w w' := by
        intro w
        have := rcanon_any gk HN.out w
        rwa [show canonB gk = true from decide_eq_true hlt] at this
      have HL := Lib.hid hlt
      clear hlt
      have hres : gk = a % PP := by rw [← HM.out, Nat.mod_eq_of_lt HL.out]
      have HR := Lib.hid hres
      clear hres
      go_step
      go_step
      go_step
      refine lst (wanted_none rfl) (w_value 3 (.agg (bs gk)) rfl (run_row rfl rfl r0 Try.underlying23 rfl (by rw [bs_sz]; exact info_b)) ?_)
      simp only [List.setIfInBounds_toArray, List.set_cons_zero, List.set_cons_succ]
      refine lst (wanted_none rfl) (w_enter 4 (.bool true) rfl (run_rCanon rfl rfl) (hcan _) (fun w13 hb14 => ?_))
      have k15 := r0.call hb14
      have k16 := r1.call hb14
      have hbel17 := bel_call hbelr hb14
      simp only [List.setIfInBounds_toArray, List.set_cons_zero, List.set_cons_succ]
      refine lst (wanted_none rfl) (w_value 5 (.bool false) rfl (run_not true rfl rfl) ?_)
      simp only [List.setIfInBounds_toArray, List.set_cons_zero, List.set_cons_succ]
      go_step
      go_step
      go_step
      go_step
      go_step
      go_step
      go_step
      go_step
      go_step
      refine lst (wanted_none rfl) (w_value 9 (.agg (bs gk)) rfl (run_row rfl rfl k15 Try.underlying23 rfl (by rw [bs_sz]; exact info_b)) ?_)
      simp only [List.setIfInBounds_toArray, List.set_cons_zero, List.set_cons_succ]
      refine lst (wanted_none rfl) (w_store 23 _ _ (w1.heap.size) (bs gk) rfl rfl rfl rfl k16 (by rw [bs_sz]; exact info_b) ((bs_sz _).trans (bs_sz _).symm) (bs_one _) (fun w23 he24 => ?_))
      have k25 := k15.other hnn he24
      have k26 := k16.set he24
      have hbel27 := bel_set hbel17 hg11 he24
      go_step
      go_wp2
      refine bodyPost_ret (v := .agg (bs gk)) (results_cell_row rfl _ _ (w1.heap.size) 23 _ (0, 0) _ rfl k26 Try.underlying23 rfl (by rw [bs_sz]; exact info_b)) rfl ⟨by rw [← HR.out], hbel27⟩
    · have hcan : ∀ w, Calls Try.prog 13 #[.agg (bs gk)] w fun e w' => e = .returned (.bool false) ∧ Below w.heap.size w w' := by
        intro w
        have := rcanon_any gk HN.out w
        rwa [show canonB gk = false from decide_eq_false hlt] at this
      have hge : PP ≤ gk ∧ PP ≤ MM := ⟨Nat.le_of_not_lt hlt, Nat.le_of_lt pp_lt⟩
      have HG := Lib.hid hge
      clear hge hlt
      go_step
      go_step
      go_step
      refine lst (wanted_none rfl) (w_value 3 (.agg (bs gk)) rfl (run_row rfl rfl r0 Try.underlying23 rfl (by rw [bs_sz]; exact info_b)) ?_)
      simp only [List.setIfInBounds_toArray, List.set_cons_zero, List.set_cons_succ]
      refine lst (wanted_none rfl) (w_enter 4 (.bool false) rfl (run_rCanon rfl rfl) (hcan _) (fun w18 hb19 => ?_))
      have k20 := r0.call hb19
      have k21 := r1.call hb19
      have hbel22 := bel_call hbelr hb19
      simp only [List.setIfInBounds_toArray, List.set_cons_zero, List.set_cons_succ]
      refine lst (wanted_none rfl) (w_value 5 (.bool true) rfl (run_not false rfl rfl) ?_)
      simp only [List.setIfInBounds_toArray, List.set_cons_zero, List.set_cons_succ]
      go_step
      go_step
      go_step
      go_step
      go_step
      go_step
      go_step
      go_step
      have k28 := k20.drew
      have k29 := k21.drew
      have hbel30 := hbel22.drew
      refine wp_region_held_drew (S := fun w' => True) (by kernel_rfl) trivial (fun _ => ?_)
      generalize w18.drew = wd31 at *
      refine two_ready 0 1 (by kernel_rfl) ?_ ?_
      · refine opd rfl (wanted_none rfl) (w_value 6 (.agg (bs gk)) rfl (run_row rfl rfl k28 Try.underlying23 rfl (by rw [bs_sz]; exact info_b)) ⟨trivial, ?_⟩)
        simp only [List.setIfInBounds_toArray, List.set_cons_zero, List.set_cons_succ]
        refine one_ready 1 (by kernel_rfl) ?_
        refine opd rfl (wanted_none rfl) (w_enter 7 (.agg (bs PP)) rfl (run_rorder rfl) (rorder_any _) (fun w32 hb33 => ?_))
        have k34 := k28.call hb33
        have k35 := k29.call hb33
        have hbel36 := bel_call hbel30 hb33
        refine ⟨trivial, ?_⟩
        simp only [List.setIfInBounds_toArray, List.set_cons_zero, List.set_cons_succ]
        refine one_ready 2 (by kernel_rfl) ?_
        refine opd rfl (wanted_none rfl) (w_enter 8 (.agg (bs (gk - PP))) rfl (run_rless rfl rfl rfl) (rless_ge gk PP HG.out _) (fun w37 hb38 => ?_))
        have k39 := k34.call hb38
        have k40 := k35.call hb38
        have hbel41 := bel_call hbel36 hb38
        refine ⟨trivial, ?_⟩
        simp only [List.setIfInBounds_toArray, List.set_cons_zero, List.set_cons_succ]
        refine one_ready 3 (by kernel_rfl) ?_
        refine opd rfl (wanted_none rfl) (w_store 23 _ _ (w.heap.size) (bs (gk - PP)) rfl rfl rfl rfl k39 (by rw [bs_sz]; exact info_b) ((bs_sz _).trans (bs_sz _).symm) (bs_one _) (fun w42 he43 => ?_))
        have k44 := k40.other hnn.symm he43
        have k45 := k39.set he43
        have hbel46 := bel_set hbel41 (Nat.le_refl _) he43
        refine ⟨trivial, ?_⟩
        refine wpAnyH_done (by kernel_rfl) ?_ _
        go_wp2
        go_roundg (gk - PP)
        case rel => exact ⟨Nat.lt_of_le_of_lt (Nat.sub_le _ _) HN.out, by rw [← HM.out]; exact (Nat.mod_eq_sub_mod HG.out.1).symm, k45, k44, hbel46⟩
        case measure =>
          have := HG.out.1
          have := PP_pos
          omega
      · refine opd rfl (wanted_none rfl) (w_enter 7 (.agg (bs PP)) rfl (run_rorder rfl) (rorder_any _) (fun w47 hb48 => ?_))
        have k49 := k28.call hb48
        have k50 := k29.call hb48
        have hbel51 := bel_call hbel30 hb48
        refine ⟨trivial, ?_⟩
        simp only [List.setIfInBounds_toArray, List.set_cons_zero, List.set_cons_succ]
        refine one_ready 0 (by kernel_rfl) ?_
        refine opd rfl (wanted_none rfl) (w_value 6 (.agg (bs gk)) rfl (run_row rfl rfl k49 Try.underlying23 rfl (by rw [bs_sz]; exact info_b)) ⟨trivial, ?_⟩)
        simp only [List.setIfInBounds_toArray, List.set_cons_zero, List.set_cons_succ]
        refine one_ready 2 (by kernel_rfl) ?_
        refine opd rfl (wanted_none rfl) (w_enter 8 (.agg (bs (gk - PP))) rfl (run_rless rfl rfl rfl) (rless_ge gk PP HG.out _) (fun w52 hb53 => ?_))
        have k54 := k49.call hb53
        have k55 := k50.call hb53
        have hbel56 := bel_call hbel51 hb53
        refine ⟨trivial, ?_⟩
        simp only [List.setIfInBounds_toArray, List.set_cons_zero, List.set_cons_succ]
        refine one_ready 3 (by kernel_rfl) ?_
        refine opd rfl (wanted_none rfl) (w_store 23 _ _ (w.heap.size) (bs (gk - PP)) rfl rfl rfl rfl k54 (by rw [bs_sz]; exact info_b) ((bs_sz _).trans (bs_sz _).symm) (bs_one _) (fun w57 he58 => ?_))
        have k59 := k55.other hnn.symm he58
        have k60 := k54.set he58
        have hbel61 := bel_set hbel56 (Nat.le_refl _) he58
        refine ⟨trivial, ?_⟩
        refine wpAnyH_done (by kernel_rfl) ?_ _
        go_wp2
        go_roundg (gk - PP)
        case rel => exact ⟨Nat.lt_of_le_of_lt (Nat.sub_le _ _) HN.out, by rw [← HM.out]; exact (Nat.mod_eq_sub_mod HG.out.1).symm, k60, k59, hbel61⟩
        case measure =>
          have := HG.out.1
          have := PP_pos
          omega

set_option maxHeartbeats 1000000 in
theorem rneg_z (a : Nat) (hred : ∀ w, Calls Try.prog 15 #[.agg (bs a)] w fun e w' => e = .returned (.agg (bs 0)) ∧ Below w.heap.size w w') (w : World) : Calls Try.prog 17 #[.agg (bs a)] w fun e w' => e = .returned (.agg (bs 0)) ∧ Below w.heap.size w w' := by
  go_enter Try.func17, Try.ntmps17
  have hbel0 := Below.refl w.heap.size w
  go_step
  go_step
  go_step
  refine lst (wanted_none rfl) (w_alloc (c := bs a) (T := 23) 1 rfl (run_box rfl rfl) (fun w1 he2 => ?_))
  have k3 := Blk.new he2
  have hg4 : w.heap.size ≤ w.heap.size := hbel0.size
  have hbel5 := bel_alloc hbel0 he2
  simp only [List.setIfInBounds_toArray, List.set_cons_zero, List.set_cons_succ]
  refine lst (wanted_none rfl) (w_alloc (c := bs 0) (T := 23) 2 rfl (run_alN rfl) (fun w6 he7 => ?_))
  have hne9 : w.heap.size ≠ w1.heap.size := Nat.ne_of_lt k3.lt
  have k8 := k3.alloc he7
  have k10 := Blk.new he7
  have hg11 : w.heap.size ≤ w1.heap.size := hbel5.size
  have hbel12 := bel_alloc hbel5 he7
  simp only [List.setIfInBounds_toArray, List.set_cons_zero, List.set_cons_succ]
  go_step
  go_step
  go_step
  go_step
  go_step
  refine lst (wanted_none rfl) (w_value 3 (.agg (bs a)) rfl (run_row rfl rfl k8 Try.underlying23 rfl (by rw [bs_sz]; exact info_b)) ?_)
  simp only [List.setIfInBounds_toArray, List.set_cons_zero, List.set_cons_succ]
  refine lst (wanted_none rfl) (w_enter 4 (.agg (bs 0)) rfl (run_rReduce rfl rfl) (hred _) (fun w13 hb14 => ?_))
  have k15 := k8.call hb14
  have k16 := k10.call hb14
  have hbel17 := bel_call hbel12 hb14
  simp only [List.setIfInBounds_toArray, List.set_cons_zero, List.set_cons_succ]
  refine lst (wanted_none rfl) (w_store 23 _ _ (w.heap.size) (bs 0) rfl rfl rfl rfl k15 (by rw [bs_sz]; exact info_b) ((bs_sz _).trans (bs_sz _).symm) (bs_one _) (fun w18 he19 => ?_))
  have k20 := k16.other hne9.symm he19
  have k21 := k15.set he19
  have hbel22 := bel_set hbel17 hg4 he19
  go_step
  go_step
  go_step
  go_step
  go_step
  go_step
  refine lst (wanted_none rfl) (w_value 5 (.agg (bs 0)) rfl (run_row rfl rfl k21 Try.underlying23 rfl (by rw [bs_sz]; exact info_b)) ?_)
  simp only [List.setIfInBounds_toArray, List.set_cons_zero, List.set_cons_succ]
  refine lst (wanted_none rfl) (w_value 6 (.agg (bs 0)) rfl (by unfold execOp; go_simp; rfl) ?_)
  simp only [List.setIfInBounds_toArray, List.set_cons_zero, List.set_cons_succ]
  refine lst (wanted_none rfl) (w_value 7 (.bool true) rfl (run_eqN 0 0 (by decide) (by decide) true rfl rfl rfl rfl) ?_)
  simp only [List.setIfInBounds_toArray, List.set_cons_zero, List.set_cons_succ]
  go_step
  go_step
  go_step
  go_step
  go_step
  go_step
  refine lst (wanted_none rfl) (w_value 8 (.agg (bs 0)) rfl (run_row rfl rfl k21 Try.underlying23 rfl (by rw [bs_sz]; exact info_b)) ?_)
  simp only [List.setIfInBounds_toArray, List.set_cons_zero, List.set_cons_succ]
  refine lst (wanted_none rfl) (w_store 23 _ _ (w1.heap.size) (bs 0) rfl rfl rfl rfl k20 (by rw [bs_sz]; exact info_b) ((bs_sz _).trans (bs_sz _).symm) (bs_one _) (fun w23 he24 => ?_))
  have k25 := k21.other hne9 he24
  have k26 := k20.set he24
  have hbel27 := bel_set hbel22 hg11 he24
  go_step
  go_step
  go_step
  go_wp2
  refine bodyPost_ret (v := .agg (bs 0)) (results_cell_row rfl _ _ (w1.heap.size) 23 _ (0, 0) _ rfl k26 Try.underlying23 rfl (by rw [bs_sz]; exact info_b)) rfl ⟨rfl, hbel27⟩

set_option maxHeartbeats 1000000 in
theorem rneg_p (a m : Nat) (hm : m ≠ 0 ∧ m ≤ PP ∧ m < MM) (hred : ∀ w, Calls Try.prog 15 #[.agg (bs a)] w fun e w' => e = .returned (.agg (bs m)) ∧ Below w.heap.size w w') (w : World) : Calls Try.prog 17 #[.agg (bs a)] w fun e w' => e = .returned (.agg (bs (PP - m))) ∧ Below w.heap.size w w' := by
  go_enter Try.func17, Try.ntmps17
  have hbel0 := Below.refl w.heap.size w
  go_step
  go_step
  go_step
  refine lst (wanted_none rfl) (w_alloc (c := bs a) (T := 23) 1 rfl (run_box rfl rfl) (fun w1 he2 => ?_))
  have k3 := Blk.new he2
  have hg4 : w.heap.size ≤ w.heap.size := hbel0.size
  have hbel5 := bel_alloc hbel0 he2
  simp only [List.setIfInBounds_toArray, List.set_cons_zero, List.set_cons_succ]
  refine lst (wanted_none rfl) (w_alloc (c := bs 0) (T := 23) 2 rfl (run_alN rfl) (fun w6 he7 => ?_))
  have hne9 : w.heap.size ≠ w1.heap.size := Nat.ne_of_lt k3.lt
  have k8 := k3.alloc he7
  have k10 := Blk.new he7
  have hg11 : w.heap.size ≤ w1.heap.size := hbel5.size
  have hbel12 := bel_alloc hbel5 he7
  simp only [List.setIfInBounds_toArray, List.set_cons_zero, List.set_cons_succ]
  go_step
  go_step
  go_step
  go_step
  go_step
  refine lst (wanted_none rfl) (w_value 3 (.agg (bs a)) rfl (run_row rfl rfl k8 Try.underlying23 rfl (by rw [bs_sz]; exact info_b)) ?_)
  simp only [List.setIfInBounds_toArray, List.set_cons_zero, List.set_cons_succ]
  refine lst (wanted_none rfl) (w_enter 4 (.agg (bs m)) rfl (run_rReduce rfl rfl) (hred _) (fun w13 hb14 => ?_))
  have k15 := k8.call hb14
  have k16 := k10.call hb14
  have hbel17 := bel_call hbel12 hb14
  simp only [List.setIfInBounds_toArray, List.set_cons_zero, List.set_cons_succ]
  refine lst (wanted_none rfl) (w_store 23 _ _ (w.heap.size) (bs m) rfl rfl rfl rfl k15 (by rw [bs_sz]; exact info_b) ((bs_sz _).trans (bs_sz _).symm) (bs_one _) (fun w18 he19 => ?_))
  have k20 := k16.other hne9.symm he19
  have k21 := k15.set he19
  have hbel22 := bel_set hbel17 hg4 he19
  go_step
  go_step
  go_step
  go_step
  go_step
  go_step
  refine lst (wanted_none rfl) (w_value 5 (.agg (bs m)) rfl (run_row rfl rfl k21 Try.underlying23 rfl (by rw [bs_sz]; exact info_b)) ?_)
  simp only [List.setIfInBounds_toArray, List.set_cons_zero, List.set_cons_succ]
  refine lst (wanted_none rfl) (w_value 6 (.agg (bs 0)) rfl (by unfold execOp; go_simp; rfl) ?_)
  simp only [List.setIfInBounds_toArray, List.set_cons_zero, List.set_cons_succ]
  refine lst (wanted_none rfl) (w_value 7 (.bool false) rfl (run_eqN m 0 hm.2.2 (by decide) false (decide_eq_false hm.1) rfl rfl rfl) ?_)
  simp only [List.setIfInBounds_toArray, List.set_cons_zero, List.set_cons_succ]
  go_step
  go_step
  go_step
  go_step
  go_step
  go_step
  go_step
  go_step
  have k23 := k21.drew
  have k24 := k20.drew
  have hbel25 := hbel22.drew
  refine wp_region_held_drew (S := fun w' => Blk w' (w.heap.size) (bs m) 23) (by kernel_rfl) k23 (fun _ => ?_)
  generalize w18.drew = wd26 at *
  refine Sym.take_at 1 10 (.agg (bs m)) rfl rfl (by kernel_rfl) (by kernel_rfl) (by kernel_rfl) (fun _ _ _ h => h) (wanted_none rfl) (fun _ hw => run_row rfl rfl hw Try.underlying23 rfl (by rw [bs_sz]; exact info_b)) k23 ?_
  simp only [List.setIfInBounds_toArray, List.set_cons_zero, List.set_cons_succ]
  refine one_ready 0 (by kernel_rfl) ?_
  refine opd rfl (wanted_none rfl) (w_enter 9 (.agg (bs PP)) rfl (run_rorder rfl) (rorder_any _) (fun w27 hb28 => ?_))
  have k29 := k23.call hb28
  have k30 := k24.call hb28
  have hbel31 := bel_call hbel25 hb28
  refine ⟨k29, ?_⟩
  simp only [List.setIfInBounds_toArray, List.set_cons_zero, List.set_cons_succ]
  refine one_ready 2 (by kernel_rfl) ?_
  refine opd rfl (wanted_none rfl) (w_enter 11 (.agg (bs (PP - m))) rfl (run_rless rfl rfl rfl) (rless_ge PP m ⟨hm.2.1, Nat.le_of_lt hm.2.2⟩ _) (fun w32 hb33 => ?_))
  have k34 := k29.call hb33
  have k35 := k30.call hb33
  have hbel36 := bel_call hbel31 hb33
  refine ⟨k34, ?_⟩
  simp only [List.setIfInBounds_toArray, List.set_cons_zero, List.set_cons_succ]
  refine one_ready 3 (by kernel_rfl) ?_
  refine opd rfl (wanted_none rfl) (w_store 23 _ _ (w1.heap.size) (bs (PP - m)) rfl rfl rfl rfl k35 (by rw [bs_sz]; exact info_b) ((bs_sz _).trans (bs_sz _).symm) (bs_one _) (fun w37 he38 => ?_))
  have k39 := k34.other hne9 he38
  have k40 := k35.set he38
  have hbel41 := bel_set hbel36 hg11 he38
  refine ⟨k39, ?_⟩
  refine wpAnyH_done (by kernel_rfl) ?_ _
  go_step
  go_step
  go_wp2
  refine bodyPost_ret (v := .agg (bs (PP - m))) (results_cell_row rfl _ _ (w1.heap.size) 23 _ (0, 0) _ rfl k40 Try.underlying23 rfl (by rw [bs_sz]; exact info_b)) rfl ⟨rfl, hbel41⟩

theorem rneg_any (a : Nat) (ha : a < MM) (w : World) : Calls Try.prog 17 #[.agg (bs a)] w fun e w' => e = .returned (.agg (bs ((PP - (a % PP)) % PP))) ∧ Below w.heap.size w w' := by
  have hr := rreduce_any a ha
  have hl : a % PP < PP := Nat.mod_lt _ PP_pos
  generalize a % PP = m at *
  by_cases h0 : m = 0
  · subst h0
    rw [show (PP - 0) % PP = 0 from Nat.mod_self PP]
    exact rneg_z a hr w
  · rw [Nat.mod_eq_of_lt (show PP - m < PP by omega)]
    exact rneg_p a m ⟨h0, Nat.le_of_lt hl, Nat.lt_trans hl pp_lt⟩ hr w
end Go.Proofs.Ytghcggecahaccaa.Fld
