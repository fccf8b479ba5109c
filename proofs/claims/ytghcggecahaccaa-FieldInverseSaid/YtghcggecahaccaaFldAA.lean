/- Layer 3, the document's answers: differences. -/
import Derived.Test.YtghcggecahaccaaFldZ
namespace Go.Proofs.Ytghcggecahaccaa.Fld
open Go.RowKit
open Go.Proofs.Ytghcggecahaccaa.Arr Go.Proofs.Ytghcggecahaccaa.Sym

theorem run_rAdd {o : Oper} {a : Act} {w : World} {x0 x1 : Operand} {v0 v1 : Value} (ho : o.op = .call { callee := .value (.func 19), args := #[x0, x1], argTypes := #[23, 23] }) (h0 : a.eval x0 = v0) (h1 : a.eval x1 = v1) :
    (execOp a.eval o).run Try.prog w = .ok (.enter 19 #[v0, v1]) w := by
  unfold execOp
  simp only [ho]
  have hf : a.eval (.func 19) = .func (.func 19) #[] #[] := rfl
  generalize a.eval = f at *
  go_simp
theorem run_rSub {o : Oper} {a : Act} {w : World} {x0 x1 : Operand} {v0 v1 : Value} (ho : o.op = .call { callee := .value (.func 21), args := #[x0, x1], argTypes := #[23, 23] }) (h0 : a.eval x0 = v0) (h1 : a.eval x1 = v1) :
    (execOp a.eval o).run Try.prog w = .ok (.enter 21 #[v0, v1]) w := by
  unfold execOp
  simp only [ho]
  have hf : a.eval (.func 21) = .func (.func 21) #[] #[] := rfl
  generalize a.eval = f at *
  go_simp
theorem run_rMul {o : Oper} {a : Act} {w : World} {x0 x1 : Operand} {v0 v1 : Value} (ho : o.op = .call { callee := .value (.func 23), args := #[x0, x1], argTypes := #[23, 23] }) (h0 : a.eval x0 = v0) (h1 : a.eval x1 = v1) :
    (execOp a.eval o).run Try.prog w = .ok (.enter 23 #[v0, v1]) w := by
  unfold execOp
  simp only [ho]
  have hf : a.eval (.func 23) = .func (.func 23) #[] #[] := rfl
  generalize a.eval = f at *
  go_simp
theorem run_rPower {o : Oper} {a : Act} {w : World} {x0 x1 : Operand} {v0 v1 : Value} (ho : o.op = .call { callee := .value (.func 27), args := #[x0, x1], argTypes := #[23, 23] }) (h0 : a.eval x0 = v0) (h1 : a.eval x1 = v1) :
    (execOp a.eval o).run Try.prog w = .ok (.enter 27 #[v0, v1]) w := by
  unfold execOp
  simp only [ho]
  have hf : a.eval (.func 27) = .func (.func 27) #[] #[] := rfl
  generalize a.eval = f at *
  go_simp
theorem run_rInv {o : Oper} {a : Act} {w : World} {x0 : Operand} {v0 : Value} (ho : o.op = .call { callee := .value (.func 29), args := #[x0], argTypes := #[23] }) (h0 : a.eval x0 = v0) :
    (execOp a.eval o).run Try.prog w = .ok (.enter 29 #[v0]) w := by
  unfold execOp
  simp only [ho]
  have hf : a.eval (.func 29) = .func (.func 29) #[] #[] := rfl
  generalize a.eval = f at *
  go_simp
theorem run_rRoot {o : Oper} {a : Act} {w : World} {x0 : Operand} {v0 : Value} (ho : o.op = .call { callee := .value (.func 25), args := #[x0], argTypes := #[23] }) (h0 : a.eval x0 = v0) :
    (execOp a.eval o).run Try.prog w = .ok (.enter 25 #[v0]) w := by
  unfold execOp
  simp only [ho]
  have hf : a.eval (.func 25) = .func (.func 25) #[] #[] := rfl
  generalize a.eval = f at *
  go_simp
set_option maxHeartbeats 1000000 in
theorem rsub_any (a b : Nat) (ha : a < MM) (hb : b < MM) (w : World) : Calls Try.prog 21 #[.agg (bs a), .agg (bs b)] w fun e w' => e = .returned (.agg (bs ((a + ((PP - (b % PP)) % PP)) % PP))) ∧ Below w.heap.size w w' := by
  have HA := Lib.hid ha
  have HB := Lib.hid hb
  clear ha hb
  go_enter Try.func21, Try.ntmps21
  have hbel0 := Below.refl w.heap.size w
  go_step
  go_step
  go_step
  refine lst (wanted_none rfl) (w_alloc (c := bs a) (T := 23) 2 rfl (run_box rfl rfl) (fun w1 he2 => ?_))
  have k3 := Blk.new he2
  have hg4 : w.heap.size ≤ w.heap.size := hbel0.size
  have hbel5 := bel_alloc hbel0 he2
  simp only [List.setIfInBounds_toArray, List.set_cons_zero, List.set_cons_succ]
  refine lst (wanted_none rfl) (w_alloc (c := bs b) (T := 23) 3 rfl (run_box rfl rfl) (fun w6 he7 => ?_))
  have hne9 : w.heap.size ≠ w1.heap.size := Nat.ne_of_lt k3.lt
  have k8 := k3.alloc he7
  have k10 := Blk.new he7
  have hg11 : w.heap.size ≤ w1.heap.size := hbel5.size
  have hbel12 := bel_alloc hbel5 he7
  simp only [List.setIfInBounds_toArray, List.set_cons_zero, List.set_cons_succ]
  refine lst (wanted_none rfl) (w_alloc (c := bs 0) (T := 23) 4 rfl (run_alN rfl) (fun w13 he14 => ?_))
  have hne16 : w.heap.size ≠ w6.heap.size := Nat.ne_of_lt k8.lt
  have k15 := k8.alloc he14
  have hne18 : w1.heap.size ≠ w6.heap.size := Nat.ne_of_lt k10.lt
  have k17 := k10.alloc he14
  have k19 := Blk.new he14
  have hg20 : w.heap.size ≤ w6.heap.size := hbel12.size
  have hbel21 := bel_alloc hbel12 he14
  simp only [List.setIfInBounds_toArray, List.set_cons_zero, List.set_cons_succ]
  go_step
  go_step
  go_step
  go_step
  have k22 := k15.drew
  have k23 := k17.drew
  have k24 := k19.drew
  have hbel25 := hbel21.drew
  refine wp_region_held_drew (S := fun w' => Blk w' (w.heap.size) (bs a) 23 ∧ Blk w' (w1.heap.size) (bs b) 23) (by kernel_rfl) ⟨k22, k23⟩ (fun _ => ?_)
  generalize w13.drew = wd26 at *
  refine Sym.take_at 0 5 (.agg (bs a)) rfl rfl (by kernel_rfl) (by kernel_rfl) (by kernel_rfl) (fun _ _ _ h => h) (wanted_none rfl) (fun _ hw => run_row rfl rfl (hw.1) Try.underlying23 rfl (by rw [bs_sz]; exact info_b)) ⟨k22, k23⟩ ?_
  simp only [List.setIfInBounds_toArray, List.set_cons_zero, List.set_cons_succ]
  refine Sym.take_at 1 6 (.agg (bs b)) rfl rfl (by kernel_rfl) (by kernel_rfl) (by kernel_rfl) (fun _ _ _ h => h) (wanted_none rfl) (fun _ hw => run_row rfl rfl (hw.2) Try.underlying23 rfl (by rw [bs_sz]; exact info_b)) ⟨k22, k23⟩ ?_
  simp only [List.setIfInBounds_toArray, List.set_cons_zero, List.set_cons_succ]
  refine one_ready 2 (by kernel_rfl) ?_
  refine opd rfl (wanted_none rfl) (w_enter 7 (.agg (bs ((PP - (b % PP)) % PP))) rfl (run_rNeg rfl rfl) (rneg_any b HB.out _) (fun w27 hb28 => ?_))
  have k29 := k22.call hb28
  have k30 := k23.call hb28
  have k31 := k24.call hb28
  have hbel32 := bel_call hbel25 hb28
  refine ⟨⟨k29, k30⟩, ?_⟩
  simp only [List.setIfInBounds_toArray, List.set_cons_zero, List.set_cons_succ]
  refine one_ready 3 (by kernel_rfl) ?_
  refine opd rfl (wanted_none rfl) (w_enter 8 (.agg (bs ((a + ((PP - (b % PP)) % PP)) % PP))) rfl (run_rAdd rfl rfl rfl) (radd_any a ((PP - (b % PP)) % PP) HA.out (Nat.lt_trans (Nat.mod_lt _ (by decide)) pp_lt) _) (fun w33 hb34 => ?_))
  have k35 := k29.call hb34
  have k36 := k30.call hb34
  have k37 := k31.call hb34
  have hbel38 := bel_call hbel32 hb34
  refine ⟨⟨k35, k36⟩, ?_⟩
  simp only [List.setIfInBounds_toArray, List.set_cons_zero, List.set_cons_succ]
  refine one_ready 4 (by kernel_rfl) ?_
  refine opd rfl (wanted_none rfl) (w_store 23 _ _ (w6.heap.size) (bs ((a + ((PP - (b % PP)) % PP)) % PP)) rfl rfl rfl rfl k37 (by rw [bs_sz]; exact info_b) ((bs_sz _).trans (bs_sz _).symm) (bs_one _) (fun w39 he40 => ?_))
  have k41 := k35.other hne16 he40
  have k42 := k36.other hne18 he40
  have k43 := k37.set he40
  have hbel44 := bel_set hbel38 hg20 he40
  refine ⟨⟨k41, k42⟩, ?_⟩
  refine wpAnyH_done (by kernel_rfl) ?_ _
  go_step
  go_step
  go_wp2
  refine bodyPost_ret (v := .agg (bs ((a + ((PP - (b % PP)) % PP)) % PP))) (results_cell_row rfl _ _ (w6.heap.size) 23 _ (0, 0) _ rfl k43 Try.underlying23 rfl (by rw [bs_sz]; exact info_b)) rfl ⟨rfl, hbel44⟩

end Go.Proofs.Ytghcggecahaccaa.Fld
