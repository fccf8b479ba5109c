/- Layer 3: a number's words out of its bytes, read. -/
import Derived.Test.YtfpphinnngblgaaDoorFldB
import Derived.StillTailTactics
namespace Go.Proofs.YtfpphinnngblgaaDoor.Fld
open Go.RowKit Go.Lib
open Go.Proofs.YtfpphinnngblgaaDoor.Num (val up val_congr val_add val_lt val_up val_digits val_word)
open Go.Proofs.YtfpphinnngblgaaDoor.Arr

section
variable {P : Program} {ops : Array Oper} {w : World}
theorem still_value {Q : Act → Prop} {a : Act} {o : Oper} {rest : List Oper} (v : Value) (hg : o.guard = none) (h : (execOp a.eval o).run P w = .ok (.value v) w) (k : wpStill P ops w Q rest (a.put o.dst v)) : wpStill P ops w Q (o :: rest) a := by
  unfold wpStill
  rw [if_pos (by unfold Region.wanted; rw [hg])]
  unfold Oper.still
  rw [h, Oper.stillUpon_value]
  exact k
theorem still_enter {Q : Act → Prop} {a : Act} {o : Oper} {rest : List Oper} {f : FuncId} {args : Array Value} (v : Value) (hg : o.guard = none) (h : (execOp a.eval o).run P w = .ok (.enter f args) w) (hc : Calls P f args w (fun e w' => e = .returned v ∧ w' = w)) (k : wpStill P ops w Q rest (a.put o.dst v)) : wpStill P ops w Q (o :: rest) a := by
  unfold wpStill
  rw [if_pos (by unfold Region.wanted; rw [hg])]
  unfold Oper.still
  rw [h]
  exact ⟨rfl, v, hc, k⟩
end
theorem run_ix {o : Oper} {a : Act} {w : World} (t : Tmp) (i B : Nat) (ho : o.op = .indexAddr 23 (.tmp t) (.const (.int .i64 (i : Int)))) (ht : a.eval (.tmp t) = .pointer (some ⟨B, 0, none⟩)) (hi : i < 32) :
    (execOp a.eval o).run Tryd.prog w = .ok (.value (.pointer (some ⟨B, i, none⟩))) w := by
  have h1 : (i : Int) < 32 := by omega
  have h2 : (0 : Int) ≤ (i : Int) := by omega
  unfold execOp
  simp only [ho, ht]
  go_simp
theorem run_wd {o : Oper} {a : Act} {w : World} {x0 x1 x2 x3 x4 x5 x6 x7 : Operand} (v0 v1 v2 v3 v4 v5 v6 v7 : Value) (ho : o.op = .call { callee := .value (.func 64), args := #[x0, x1, x2, x3, x4, x5, x6, x7], argTypes := #[5, 5, 5, 5, 5, 5, 5, 5] })
    (h0 : a.eval x0 = v0) (h1 : a.eval x1 = v1) (h2 : a.eval x2 = v2) (h3 : a.eval x3 = v3) (h4 : a.eval x4 = v4) (h5 : a.eval x5 = v5) (h6 : a.eval x6 = v6) (h7 : a.eval x7 = v7) :
    (execOp a.eval o).run Tryd.prog w = .ok (.enter 64 #[v0, v1, v2, v3, v4, v5, v6, v7]) w := by
  unfold execOp
  simp only [ho]
  have hf : a.eval (.func 64) = .func (.func 64) #[] #[] := rfl
  generalize a.eval = f at *
  go_simp
theorem run_bd {o : Oper} {a : Act} {w : World} {x0 x1 x2 x3 : Operand} (n : Nat) (ho : o.op = .build 52 #[(0, x0), (1, x1), (2, x2), (3, x3)])
    (h0 : a.eval x0 = .int .u64 (wd n 0 : Int)) (h1 : a.eval x1 = .int .u64 (wd n 1 : Int)) (h2 : a.eval x2 = .int .u64 (wd n 2 : Int)) (h3 : a.eval x3 = .int .u64 (wd n 3 : Int)) :
    (execOp a.eval o).run Tryd.prog w = .ok (.value (.agg (ws n))) w := by
  unfold execOp
  simp only [ho]
  generalize a.eval = f at *
  simp [h0, h1, h2, h3, go_sem]
  rfl
theorem run_ld {o : Oper} {a : Act} {w : World} (t : Tmp) (i B n : Nat) (hr : Row w B 32 23 .u8 (bt n)) (ho : o.op = .load 5 (.tmp t)) (ht : a.eval (.tmp t) = .pointer (some ⟨B, i, none⟩)) (hi : i < 32) :
    (execOp a.eval o).run Tryd.prog w = .ok (.value (.int .u8 (bt n i : Int))) w := by
  have h1 := (hr.at i hi).1
  unfold execOp
  simp only [ho, ht]
  go_simp
set_option maxHeartbeats 8000000 in
theorem load_any (n : Nat) (w : World) : Calls Tryd.prog 47 #[.agg (bs n)] w fun e w' => e = .returned (.agg (ws n)) ∧ Below w.heap.size w w' := by
  go_enter Tryd.func47, Tryd.ntmps47
  go_wp2_with fail
  generalize hW : World.alloc (World.alloc _ _) _ = W0
  obtain ⟨r1, r2, hb⟩ := load_start w n _ _ rfl rfl W0 hW
  clear hW
  refine wp_region_still_tail 69 (by kernel_rfl) (by kernel_rfl) ?_
  simp only [List.append_eq, List.cons_append, List.nil_append]
  simp only [List.take_succ_cons, List.take_zero, List.drop_succ_cons, List.drop_zero]
  change wpStill _ _ (World.drew W0) _ _ _
  have R1 := r1.drew
  refine still_value _ rfl (run_ix 1 0 w.heap.size rfl rfl (by decide)) ?_
  simp only [Act.put, List.setIfInBounds_toArray, List.set_cons_zero, List.set_cons_succ]
  refine still_value _ rfl (run_ld 3 0 w.heap.size n R1 rfl rfl (by decide)) ?_
  simp only [Act.put, List.setIfInBounds_toArray, List.set_cons_zero, List.set_cons_succ]
  refine still_value _ rfl (run_ix 1 1 w.heap.size rfl rfl (by decide)) ?_
  simp only [Act.put, List.setIfInBounds_toArray, List.set_cons_zero, List.set_cons_succ]
  refine still_value _ rfl (run_ld 5 1 w.heap.size n R1 rfl rfl (by decide)) ?_
  simp only [Act.put, List.setIfInBounds_toArray, List.set_cons_zero, List.set_cons_succ]
  refine still_value _ rfl (run_ix 1 2 w.heap.size rfl rfl (by decide)) ?_
  simp only [Act.put, List.setIfInBounds_toArray, List.set_cons_zero, List.set_cons_succ]
  refine still_value _ rfl (run_ld 7 2 w.heap.size n R1 rfl rfl (by decide)) ?_
  simp only [Act.put, List.setIfInBounds_toArray, List.set_cons_zero, List.set_cons_succ]
  refine still_value _ rfl (run_ix 1 3 w.heap.size rfl rfl (by decide)) ?_
  simp only [Act.put, List.setIfInBounds_toArray, List.set_cons_zero, List.set_cons_succ]
  refine still_value _ rfl (run_ld 9 3 w.heap.size n R1 rfl rfl (by decide)) ?_
  simp only [Act.put, List.setIfInBounds_toArray, List.set_cons_zero, List.set_cons_succ]
  refine still_value _ rfl (run_ix 1 4 w.heap.size rfl rfl (by decide)) ?_
  simp only [Act.put, List.setIfInBounds_toArray, List.set_cons_zero, List.set_cons_succ]
  refine still_value _ rfl (run_ld 11 4 w.heap.size n R1 rfl rfl (by decide)) ?_
  simp only [Act.put, List.setIfInBounds_toArray, List.set_cons_zero, List.set_cons_succ]
  refine still_value _ rfl (run_ix 1 5 w.heap.size rfl rfl (by decide)) ?_
  simp only [Act.put, List.setIfInBounds_toArray, List.set_cons_zero, List.set_cons_succ]
  refine still_value _ rfl (run_ld 13 5 w.heap.size n R1 rfl rfl (by decide)) ?_
  simp only [Act.put, List.setIfInBounds_toArray, List.set_cons_zero, List.set_cons_succ]
  refine still_value _ rfl (run_ix 1 6 w.heap.size rfl rfl (by decide)) ?_
  simp only [Act.put, List.setIfInBounds_toArray, List.set_cons_zero, List.set_cons_succ]
  refine still_value _ rfl (run_ld 15 6 w.heap.size n R1 rfl rfl (by decide)) ?_
  simp only [Act.put, List.setIfInBounds_toArray, List.set_cons_zero, List.set_cons_succ]
  refine still_value _ rfl (run_ix 1 7 w.heap.size rfl rfl (by decide)) ?_
  simp only [Act.put, List.setIfInBounds_toArray, List.set_cons_zero, List.set_cons_succ]
  refine still_value _ rfl (run_ld 17 7 w.heap.size n R1 rfl rfl (by decide)) ?_
  simp only [Act.put, List.setIfInBounds_toArray, List.set_cons_zero, List.set_cons_succ]
  refine still_enter _ rfl (run_wd (.int .u8 (bt n 0 : Int)) (.int .u8 (bt n 1 : Int)) (.int .u8 (bt n 2 : Int)) (.int .u8 (bt n 3 : Int)) (.int .u8 (bt n 4 : Int)) (.int .u8 (bt n 5 : Int)) (.int .u8 (bt n 6 : Int)) (.int .u8 (bt n 7 : Int)) rfl rfl rfl rfl rfl rfl rfl rfl rfl) (word_bt' n 0 0 rfl _) ?_
  simp only [Act.put, List.setIfInBounds_toArray, List.set_cons_zero, List.set_cons_succ]
  refine still_value _ rfl (run_ix 1 8 w.heap.size rfl rfl (by decide)) ?_
  simp only [Act.put, List.setIfInBounds_toArray, List.set_cons_zero, List.set_cons_succ]
  refine still_value _ rfl (run_ld 20 8 w.heap.size n R1 rfl rfl (by decide)) ?_
  simp only [Act.put, List.setIfInBounds_toArray, List.set_cons_zero, List.set_cons_succ]
  refine still_value _ rfl (run_ix 1 9 w.heap.size rfl rfl (by decide)) ?_
  simp only [Act.put, List.setIfInBounds_toArray, List.set_cons_zero, List.set_cons_succ]
  refine still_value _ rfl (run_ld 22 9 w.heap.size n R1 rfl rfl (by decide)) ?_
  simp only [Act.put, List.setIfInBounds_toArray, List.set_cons_zero, List.set_cons_succ]
  refine still_value _ rfl (run_ix 1 10 w.heap.size rfl rfl (by decide)) ?_
  simp only [Act.put, List.setIfInBounds_toArray, List.set_cons_zero, List.set_cons_succ]
  refine still_value _ rfl (run_ld 24 10 w.heap.size n R1 rfl rfl (by decide)) ?_
  simp only [Act.put, List.setIfInBounds_toArray, List.set_cons_zero, List.set_cons_succ]
  refine still_value _ rfl (run_ix 1 11 w.heap.size rfl rfl (by decide)) ?_
  simp only [Act.put, List.setIfInBounds_toArray, List.set_cons_zero, List.set_cons_succ]
  refine still_value _ rfl (run_ld 26 11 w.heap.size n R1 rfl rfl (by decide)) ?_
  simp only [Act.put, List.setIfInBounds_toArray, List.set_cons_zero, List.set_cons_succ]
  refine still_value _ rfl (run_ix 1 12 w.heap.size rfl rfl (by decide)) ?_
  simp only [Act.put, List.setIfInBounds_toArray, List.set_cons_zero, List.set_cons_succ]
  refine still_value _ rfl (run_ld 28 12 w.heap.size n R1 rfl rfl (by decide)) ?_
  simp only [Act.put, List.setIfInBounds_toArray, List.set_cons_zero, List.set_cons_succ]
  refine still_value _ rfl (run_ix 1 13 w.heap.size rfl rfl (by decide)) ?_
  simp only [Act.put, List.setIfInBounds_toArray, List.set_cons_zero, List.set_cons_succ]
  refine still_value _ rfl (run_ld 30 13 w.heap.size n R1 rfl rfl (by decide)) ?_
  simp only [Act.put, List.setIfInBounds_toArray, List.set_cons_zero, List.set_cons_succ]
  refine still_value _ rfl (run_ix 1 14 w.heap.size rfl rfl (by decide)) ?_
  simp only [Act.put, List.setIfInBounds_toArray, List.set_cons_zero, List.set_cons_succ]
  refine still_value _ rfl (run_ld 32 14 w.heap.size n R1 rfl rfl (by decide)) ?_
  simp only [Act.put, List.setIfInBounds_toArray, List.set_cons_zero, List.set_cons_succ]
  refine still_value _ rfl (run_ix 1 15 w.heap.size rfl rfl (by decide)) ?_
  simp only [Act.put, List.setIfInBounds_toArray, List.set_cons_zero, List.set_cons_succ]
  refine still_value _ rfl (run_ld 34 15 w.heap.size n R1 rfl rfl (by decide)) ?_
  simp only [Act.put, List.setIfInBounds_toArray, List.set_cons_zero, List.set_cons_succ]
  refine still_enter _ rfl (run_wd (.int .u8 (bt n 8 : Int)) (.int .u8 (bt n 9 : Int)) (.int .u8 (bt n 10 : Int)) (.int .u8 (bt n 11 : Int)) (.int .u8 (bt n 12 : Int)) (.int .u8 (bt n 13 : Int)) (.int .u8 (bt n 14 : Int)) (.int .u8 (bt n 15 : Int)) rfl rfl rfl rfl rfl rfl rfl rfl rfl) (word_bt' n 1 8 rfl _) ?_
  simp only [Act.put, List.setIfInBounds_toArray, List.set_cons_zero, List.set_cons_succ]
  refine still_value _ rfl (run_ix 1 16 w.heap.size rfl rfl (by decide)) ?_
  simp only [Act.put, List.setIfInBounds_toArray, List.set_cons_zero, List.set_cons_succ]
  refine still_value _ rfl (run_ld 37 16 w.heap.size n R1 rfl rfl (by decide)) ?_
  simp only [Act.put, List.setIfInBounds_toArray, List.set_cons_zero, List.set_cons_succ]
  refine still_value _ rfl (run_ix 1 17 w.heap.size rfl rfl (by decide)) ?_
  simp only [Act.put, List.setIfInBounds_toArray, List.set_cons_zero, List.set_cons_succ]
  refine still_value _ rfl (run_ld 39 17 w.heap.size n R1 rfl rfl (by decide)) ?_
  simp only [Act.put, List.setIfInBounds_toArray, List.set_cons_zero, List.set_cons_succ]
  refine still_value _ rfl (run_ix 1 18 w.heap.size rfl rfl (by decide)) ?_
  simp only [Act.put, List.setIfInBounds_toArray, List.set_cons_zero, List.set_cons_succ]
  refine still_value _ rfl (run_ld 41 18 w.heap.size n R1 rfl rfl (by decide)) ?_
  simp only [Act.put, List.setIfInBounds_toArray, List.set_cons_zero, List.set_cons_succ]
  refine still_value _ rfl (run_ix 1 19 w.heap.size rfl rfl (by decide)) ?_
  simp only [Act.put, List.setIfInBounds_toArray, List.set_cons_zero, List.set_cons_succ]
  refine still_value _ rfl (run_ld 43 19 w.heap.size n R1 rfl rfl (by decide)) ?_
  simp only [Act.put, List.setIfInBounds_toArray, List.set_cons_zero, List.set_cons_succ]
  refine still_value _ rfl (run_ix 1 20 w.heap.size rfl rfl (by decide)) ?_
  simp only [Act.put, List.setIfInBounds_toArray, List.set_cons_zero, List.set_cons_succ]
  refine still_value _ rfl (run_ld 45 20 w.heap.size n R1 rfl rfl (by decide)) ?_
  simp only [Act.put, List.setIfInBounds_toArray, List.set_cons_zero, List.set_cons_succ]
  refine still_value _ rfl (run_ix 1 21 w.heap.size rfl rfl (by decide)) ?_
  simp only [Act.put, List.setIfInBounds_toArray, List.set_cons_zero, List.set_cons_succ]
  refine still_value _ rfl (run_ld 47 21 w.heap.size n R1 rfl rfl (by decide)) ?_
  simp only [Act.put, List.setIfInBounds_toArray, List.set_cons_zero, List.set_cons_succ]
  refine still_value _ rfl (run_ix 1 22 w.heap.size rfl rfl (by decide)) ?_
  simp only [Act.put, List.setIfInBounds_toArray, List.set_cons_zero, List.set_cons_succ]
  refine still_value _ rfl (run_ld 49 22 w.heap.size n R1 rfl rfl (by decide)) ?_
  simp only [Act.put, List.setIfInBounds_toArray, List.set_cons_zero, List.set_cons_succ]
  refine still_value _ rfl (run_ix 1 23 w.heap.size rfl rfl (by decide)) ?_
  simp only [Act.put, List.setIfInBounds_toArray, List.set_cons_zero, List.set_cons_succ]
  refine still_value _ rfl (run_ld 51 23 w.heap.size n R1 rfl rfl (by decide)) ?_
  simp only [Act.put, List.setIfInBounds_toArray, List.set_cons_zero, List.set_cons_succ]
  refine still_enter _ rfl (run_wd (.int .u8 (bt n 16 : Int)) (.int .u8 (bt n 17 : Int)) (.int .u8 (bt n 18 : Int)) (.int .u8 (bt n 19 : Int)) (.int .u8 (bt n 20 : Int)) (.int .u8 (bt n 21 : Int)) (.int .u8 (bt n 22 : Int)) (.int .u8 (bt n 23 : Int)) rfl rfl rfl rfl rfl rfl rfl rfl rfl) (word_bt' n 2 16 rfl _) ?_
  simp only [Act.put, List.setIfInBounds_toArray, List.set_cons_zero, List.set_cons_succ]
  refine still_value _ rfl (run_ix 1 24 w.heap.size rfl rfl (by decide)) ?_
  simp only [Act.put, List.setIfInBounds_toArray, List.set_cons_zero, List.set_cons_succ]
  refine still_value _ rfl (run_ld 54 24 w.heap.size n R1 rfl rfl (by decide)) ?_
  simp only [Act.put, List.setIfInBounds_toArray, List.set_cons_zero, List.set_cons_succ]
  refine still_value _ rfl (run_ix 1 25 w.heap.size rfl rfl (by decide)) ?_
  simp only [Act.put, List.setIfInBounds_toArray, List.set_cons_zero, List.set_cons_succ]
  refine still_value _ rfl (run_ld 56 25 w.heap.size n R1 rfl rfl (by decide)) ?_
  simp only [Act.put, List.setIfInBounds_toArray, List.set_cons_zero, List.set_cons_succ]
  refine still_value _ rfl (run_ix 1 26 w.heap.size rfl rfl (by decide)) ?_
  simp only [Act.put, List.setIfInBounds_toArray, List.set_cons_zero, List.set_cons_succ]
  refine still_value _ rfl (run_ld 58 26 w.heap.size n R1 rfl rfl (by decide)) ?_
  simp only [Act.put, List.setIfInBounds_toArray, List.set_cons_zero, List.set_cons_succ]
  refine still_value _ rfl (run_ix 1 27 w.heap.size rfl rfl (by decide)) ?_
  simp only [Act.put, List.setIfInBounds_toArray, List.set_cons_zero, List.set_cons_succ]
  refine still_value _ rfl (run_ld 60 27 w.heap.size n R1 rfl rfl (by decide)) ?_
  simp only [Act.put, List.setIfInBounds_toArray, List.set_cons_zero, List.set_cons_succ]
  refine still_value _ rfl (run_ix 1 28 w.heap.size rfl rfl (by decide)) ?_
  simp only [Act.put, List.setIfInBounds_toArray, List.set_cons_zero, List.set_cons_succ]
  refine still_value _ rfl (run_ld 62 28 w.heap.size n R1 rfl rfl (by decide)) ?_
  simp only [Act.put, List.setIfInBounds_toArray, List.set_cons_zero, List.set_cons_succ]
  refine still_value _ rfl (run_ix 1 29 w.heap.size rfl rfl (by decide)) ?_
  simp only [Act.put, List.setIfInBounds_toArray, List.set_cons_zero, List.set_cons_succ]
  refine still_value _ rfl (run_ld 64 29 w.heap.size n R1 rfl rfl (by decide)) ?_
  simp only [Act.put, List.setIfInBounds_toArray, List.set_cons_zero, List.set_cons_succ]
  refine still_value _ rfl (run_ix 1 30 w.heap.size rfl rfl (by decide)) ?_
  simp only [Act.put, List.setIfInBounds_toArray, List.set_cons_zero, List.set_cons_succ]
  refine still_value _ rfl (run_ld 66 30 w.heap.size n R1 rfl rfl (by decide)) ?_
  simp only [Act.put, List.setIfInBounds_toArray, List.set_cons_zero, List.set_cons_succ]
  refine still_value _ rfl (run_ix 1 31 w.heap.size rfl rfl (by decide)) ?_
  simp only [Act.put, List.setIfInBounds_toArray, List.set_cons_zero, List.set_cons_succ]
  refine still_value _ rfl (run_ld 68 31 w.heap.size n R1 rfl rfl (by decide)) ?_
  simp only [Act.put, List.setIfInBounds_toArray, List.set_cons_zero, List.set_cons_succ]
  refine still_enter _ rfl (run_wd (.int .u8 (bt n 24 : Int)) (.int .u8 (bt n 25 : Int)) (.int .u8 (bt n 26 : Int)) (.int .u8 (bt n 27 : Int)) (.int .u8 (bt n 28 : Int)) (.int .u8 (bt n 29 : Int)) (.int .u8 (bt n 30 : Int)) (.int .u8 (bt n 31 : Int)) rfl rfl rfl rfl rfl rfl rfl rfl rfl) (word_bt' n 3 24 rfl _) ?_
  simp only [Act.put, List.setIfInBounds_toArray, List.set_cons_zero, List.set_cons_succ]
  refine still_value (.agg (ws n)) rfl (run_bd n rfl rfl rfl rfl rfl) ?_
  simp only [Act.put, List.setIfInBounds_toArray, List.set_cons_zero, List.set_cons_succ]
  refine wpStill_nil ?_
  clear R1 r1
  change wpList _ _ _ _ _ (World.drew W0)
  with_reducible refine wpList_store_row rfl 52 _ _ rfl (w.heap.size + 1) (ws n) rfl rfl 52 _ r2.drew.heap (by rw [ws_size]; exact info_w) (by rw [ws_size, rowOf_size]) (ws_one _) ?_
  go_wp2
  refine bodyPost_ret (v := .agg (ws n)) (results_cell_row rfl _ _ (w.heap.size + 1) 52 _ (0, 0) _ rfl (setRow_heap _ _ _ _ _ _ r2.drew.heap) Tryd.underlying52 rfl (by rw [ws_size]; exact info_w)) rfl ⟨rfl, below_setRow hb.drew (by omega)⟩

end Go.Proofs.YtfpphinnngblgaaDoor.Fld
