/- Layer 12: rules; the laws. -/
import Derived.Test.YtdohmmdfenafnaaDoorVeO
namespace Go.Proofs.YtdohmmdfenafnaaDoor.Ve
open Go.RowKit
open Go.Proofs.YtdohmmdfenafnaaDoor.Sym Go.Proofs.YtdohmmdfenafnaaDoor.Mem
open Go.Proofs.YtdohmmdfenafnaaDoor.Sx hiding Mm m_alloc m_store m_put m_call m_callx m_make m_append r_string r_ixS
set_option linter.unusedVariables false
open Go.Proofs.YtdohmmdfenafnaaDoor.Pa
attribute [local irreducible] wpList Oper.wp

def holds_m (r : Rul) (version : List UInt8) : Bool :=
  if r.op = 0 then
    true
  else
    if r.op = 1 then
      (decide ((compare_m version r.version) = 0))
    else
      if r.op = 2 then
        (decide ((compare_m version r.version) < 0))
      else
        if r.op = 3 then
          (decide ((compare_m version r.version) ≤ 0))
        else
          if r.op = 4 then
            (decide (0 < (compare_m version r.version)))
          else
            if r.op = 5 then
              (decide (0 ≤ (compare_m version r.version)))
            else
              false

set_option maxHeartbeats 4000000 in
set_option maxRecDepth 100000 in
theorem holds_any (r : Rul) (version : List UInt8) (w : World)   : Calls Tryd.prog 36 #[.agg #[.string (tx r.name), .int .i64 (r.op), .string (tx r.version)], .string (tx version)] w (fun e w' => e = .returned (.bool ((holds_m r version))) ∧ Below w.heap.size w w') := by
  go_enter Tryd.func36, Tryd.ntmps36
  have hm00 := Mm.nil none (fun _ => True) w
  have hm0 := hm00
  refine wp_seq_k (fun K1 hK1 => ?_)
  refine wp_region_lit ?_
  refine lst rfl (m_alloc (c := #[.string (tx r.name), .int .i64 (r.op), .string (tx r.version)]) (T := 36) hm0 2 rfl (run_box rfl rfl) (fun g4 w2 (hm3 : Mm none (fun _ => True) w w2 [.blk g4 #[.string (tx r.name), .int .i64 (r.op), .string (tx r.version)] 36]) => ?_))
  simp only [nz1, nz2, nz3]
  refine lvw 4 (.bool false) rfl rfl (run_as rfl rfl) ?_
  simp only [nz1, nz2, nz3]
  refine wpList_nil ?_
  refine then_n (hK1 _ _ ?_)
  refine wp_seq_k (fun K5 hK5 => ?_)
  refine wp_region_lit ?_
  refine lvw 6 (.string (tx version)) rfl rfl (run_mv rfl rfl) ?_
  simp only [nz1, nz2, nz3]
  refine lvw 7 (.pointer (some ⟨g4, 2, none⟩)) rfl rfl (r_fa36_2 g4 0 rfl rfl) ?_
  simp only [nz1, nz2, nz3]
  refine lvw 8 (.string (tx r.version)) rfl rfl (r_load (hm3.at 0 rfl) rfl Tryd.underlying9 rfl rfl rfl) ?_
  simp only [nz1, nz2, nz3]
  refine lst rfl (m_call hm3 9 (.int .i64 ((compare_m version r.version))) rfl (run_compare rfl rfl rfl) (compare_any version r.version  _  ) (fun w6 (hm7 : Mm none (fun _ => True) w w6 [.blk g4 #[.string (tx r.name), .int .i64 (r.op), .string (tx r.version)] 36]) => ?_))
  have hf8 : -1 ≤ (compare_m version r.version) ∧ (compare_m version r.version) ≤ 1 := compare_rng version r.version
  simp only [nz1, nz2, nz3]
  refine lvw 5 (.int .i64 ((compare_m version r.version))) rfl rfl (run_as rfl rfl) ?_
  simp only [nz1, nz2, nz3]
  refine wpList_nil ?_
  refine then_n (hK5 _ _ ?_)
  refine wp_seq_k (fun K9 hK9 => ?_)
  refine wp_seq_k (fun K10 hK10 => ?_)
  refine wp_region_lit ?_
  refine lvw 10 (.pointer (some ⟨g4, 1, none⟩)) rfl rfl (r_fa36_1 g4 0 rfl rfl) ?_
  simp only [nz1, nz2, nz3]
  refine lvw 11 (.int .i64 (r.op)) rfl rfl (r_load (hm7.at 0 rfl) rfl Tryd.underlying3 rfl rfl rfl) ?_
  simp only [nz1, nz2, nz3]
  refine wpList_nil ?_
  refine then_n (hK10 _ _ ?_)
  refine wp_block ?_
  refine wp_seq_k (fun K11 hK11 => ?_)
  refine wp_region_lit ?_
  refine lvw 13 (.bool (decide (r.op = 0))) rfl rfl (z_eql r.op 0 rfl rfl rfl) ?_
  simp only [nz1, nz2, nz3]
  refine lvw 12 (.bool (decide (r.op = 0))) rfl rfl (run_as rfl rfl) ?_
  simp only [nz1, nz2, nz3]
  refine wpList_nil ?_
  refine then_n (hK11 _ _ ?_)
  refine cond_d (r.op = 0) rfl (fun hc12 => ?_) (fun hc12 => ?_)
  · refine wp_seq_k (fun K13 hK13 => ?_)
    refine wp_region_lit ?_
    refine lvw 4 (.bool true) rfl rfl (run_as rfl rfl) ?_
    simp only [nz1, nz2, nz3]
    refine wpList_nil ?_
    refine then_n (hK13 _ _ ?_)
    refine wp_ret ?_
    refine blk_r ?_
    refine then_r ?_
    have he14 : holds_m r version = true := (show holds_m r version = true from by unfold holds_m; rw [if_pos hc12] <;> rfl)
    exact ⟨rfl, .bool true, res_t rfl rfl, ⟨by rw [he14], hm7.below⟩⟩
  refine wp_seq_k (fun K15 hK15 => ?_)
  refine wp_region_lit ?_
  refine lvw 15 (.bool (decide (r.op = 1))) rfl rfl (z_eql r.op 1 rfl rfl rfl) ?_
  simp only [nz1, nz2, nz3]
  refine lvw 14 (.bool (decide (r.op = 1))) rfl rfl (run_as rfl rfl) ?_
  simp only [nz1, nz2, nz3]
  refine wpList_nil ?_
  refine then_n (hK15 _ _ ?_)
  refine cond_d (r.op = 1) rfl (fun hc16 => ?_) (fun hc16 => ?_)
  · refine wp_seq_k (fun K17 hK17 => ?_)
    refine wp_region_lit ?_
    refine lvw 16 (.int .i64 ((compare_m version r.version))) rfl rfl (run_mv rfl rfl) ?_
    simp only [nz1, nz2, nz3]
    refine lvw 17 (.bool (decide ((compare_m version r.version) = 0))) rfl rfl (z_eql (compare_m version r.version) 0 rfl rfl rfl) ?_
    simp only [nz1, nz2, nz3]
    refine lvw 4 (.bool (decide ((compare_m version r.version) = 0))) rfl rfl (run_as rfl rfl) ?_
    simp only [nz1, nz2, nz3]
    refine wpList_nil ?_
    refine then_n (hK17 _ _ ?_)
    refine wp_ret ?_
    refine blk_r ?_
    refine then_r ?_
    have he18 : holds_m r version = (decide ((compare_m version r.version) = 0)) := (show holds_m r version = (decide ((compare_m version r.version) = 0)) from by unfold holds_m; rw [if_neg hc12, if_pos hc16] <;> rfl)
    exact ⟨rfl, .bool (decide ((compare_m version r.version) = 0)), res_t rfl rfl, ⟨by rw [he18], hm7.below⟩⟩
  refine wp_seq_k (fun K19 hK19 => ?_)
  refine wp_region_lit ?_
  refine lvw 19 (.bool (decide (r.op = 2))) rfl rfl (z_eql r.op 2 rfl rfl rfl) ?_
  simp only [nz1, nz2, nz3]
  refine lvw 18 (.bool (decide (r.op = 2))) rfl rfl (run_as rfl rfl) ?_
  simp only [nz1, nz2, nz3]
  refine wpList_nil ?_
  refine then_n (hK19 _ _ ?_)
  refine cond_d (r.op = 2) rfl (fun hc20 => ?_) (fun hc20 => ?_)
  · refine wp_seq_k (fun K21 hK21 => ?_)
    refine wp_region_lit ?_
    refine lvw 20 (.int .i64 ((compare_m version r.version))) rfl rfl (run_mv rfl rfl) ?_
    simp only [nz1, nz2, nz3]
    refine lvw 21 (.bool (decide ((compare_m version r.version) < 0))) rfl rfl (z_lss (compare_m version r.version) 0 rfl rfl rfl) ?_
    simp only [nz1, nz2, nz3]
    refine lvw 4 (.bool (decide ((compare_m version r.version) < 0))) rfl rfl (run_as rfl rfl) ?_
    simp only [nz1, nz2, nz3]
    refine wpList_nil ?_
    refine then_n (hK21 _ _ ?_)
    refine wp_ret ?_
    refine blk_r ?_
    refine then_r ?_
    have he22 : holds_m r version = (decide ((compare_m version r.version) < 0)) := (show holds_m r version = (decide ((compare_m version r.version) < 0)) from by unfold holds_m; rw [if_neg hc12, if_neg hc16, if_pos hc20] <;> rfl)
    exact ⟨rfl, .bool (decide ((compare_m version r.version) < 0)), res_t rfl rfl, ⟨by rw [he22], hm7.below⟩⟩
  refine wp_seq_k (fun K23 hK23 => ?_)
  refine wp_region_lit ?_
  refine lvw 23 (.bool (decide (r.op = 3))) rfl rfl (z_eql r.op 3 rfl rfl rfl) ?_
  simp only [nz1, nz2, nz3]
  refine lvw 22 (.bool (decide (r.op = 3))) rfl rfl (run_as rfl rfl) ?_
  simp only [nz1, nz2, nz3]
  refine wpList_nil ?_
  refine then_n (hK23 _ _ ?_)
  refine cond_d (r.op = 3) rfl (fun hc24 => ?_) (fun hc24 => ?_)
  · refine wp_seq_k (fun K25 hK25 => ?_)
    refine wp_region_lit ?_
    refine lvw 24 (.int .i64 ((compare_m version r.version))) rfl rfl (run_mv rfl rfl) ?_
    simp only [nz1, nz2, nz3]
    refine lvw 25 (.bool (decide ((compare_m version r.version) ≤ 0))) rfl rfl (z_leq (compare_m version r.version) 0 rfl rfl rfl) ?_
    simp only [nz1, nz2, nz3]
    refine lvw 4 (.bool (decide ((compare_m version r.version) ≤ 0))) rfl rfl (run_as rfl rfl) ?_
    simp only [nz1, nz2, nz3]
    refine wpList_nil ?_
    refine then_n (hK25 _ _ ?_)
    refine wp_ret ?_
    refine blk_r ?_
    refine then_r ?_
    have he26 : holds_m r version = (decide ((compare_m version r.version) ≤ 0)) := (show holds_m r version = (decide ((compare_m version r.version) ≤ 0)) from by unfold holds_m; rw [if_neg hc12, if_neg hc16, if_neg hc20, if_pos hc24] <;> rfl)
    exact ⟨rfl, .bool (decide ((compare_m version r.version) ≤ 0)), res_t rfl rfl, ⟨by rw [he26], hm7.below⟩⟩
  refine wp_seq_k (fun K27 hK27 => ?_)
  refine wp_region_lit ?_
  refine lvw 27 (.bool (decide (r.op = 4))) rfl rfl (z_eql r.op 4 rfl rfl rfl) ?_
  simp only [nz1, nz2, nz3]
  refine lvw 26 (.bool (decide (r.op = 4))) rfl rfl (run_as rfl rfl) ?_
  simp only [nz1, nz2, nz3]
  refine wpList_nil ?_
  refine then_n (hK27 _ _ ?_)
  refine cond_d (r.op = 4) rfl (fun hc28 => ?_) (fun hc28 => ?_)
  · refine wp_seq_k (fun K29 hK29 => ?_)
    refine wp_region_lit ?_
    refine lvw 28 (.int .i64 ((compare_m version r.version))) rfl rfl (run_mv rfl rfl) ?_
    simp only [nz1, nz2, nz3]
    refine lvw 29 (.bool (decide (0 < (compare_m version r.version)))) rfl rfl (z_gtr (compare_m version r.version) 0 rfl rfl rfl) ?_
    simp only [nz1, nz2, nz3]
    refine lvw 4 (.bool (decide (0 < (compare_m version r.version)))) rfl rfl (run_as rfl rfl) ?_
    simp only [nz1, nz2, nz3]
    refine wpList_nil ?_
    refine then_n (hK29 _ _ ?_)
    refine wp_ret ?_
    refine blk_r ?_
    refine then_r ?_
    have he30 : holds_m r version = (decide (0 < (compare_m version r.version))) := (show holds_m r version = (decide (0 < (compare_m version r.version))) from by unfold holds_m; rw [if_neg hc12, if_neg hc16, if_neg hc20, if_neg hc24, if_pos hc28] <;> rfl)
    exact ⟨rfl, .bool (decide (0 < (compare_m version r.version))), res_t rfl rfl, ⟨by rw [he30], hm7.below⟩⟩
  refine wp_seq_k (fun K31 hK31 => ?_)
  refine wp_region_lit ?_
  refine lvw 31 (.bool (decide (r.op = 5))) rfl rfl (z_eql r.op 5 rfl rfl rfl) ?_
  simp only [nz1, nz2, nz3]
  refine lvw 30 (.bool (decide (r.op = 5))) rfl rfl (run_as rfl rfl) ?_
  simp only [nz1, nz2, nz3]
  refine wpList_nil ?_
  refine then_n (hK31 _ _ ?_)
  refine cond_d (r.op = 5) rfl (fun hc32 => ?_) (fun hc32 => ?_)
  rotate_left
  · refine wp_skip ?_
    refine blk_n ?_
    refine then_n (hK9 _ _ ?_)
    refine wp_seq_k (fun K35 hK35 => ?_)
    refine wp_region_lit ?_
    refine lvw 4 (.bool false) rfl rfl (run_as rfl rfl) ?_
    simp only [nz1, nz2, nz3]
    refine wpList_nil ?_
    refine then_n (hK35 _ _ ?_)
    refine wp_ret ?_
    have he36 : holds_m r version = false := (show holds_m r version = false from by unfold holds_m; rw [if_neg hc12, if_neg hc16, if_neg hc20, if_neg hc24, if_neg hc28, if_neg hc32] <;> rfl)
    exact ⟨rfl, .bool false, res_t rfl rfl, ⟨by rw [he36], hm7.below⟩⟩
  refine wp_seq_k (fun K33 hK33 => ?_)
  refine wp_region_lit ?_
  refine lvw 32 (.int .i64 ((compare_m version r.version))) rfl rfl (run_mv rfl rfl) ?_
  simp only [nz1, nz2, nz3]
  refine lvw 33 (.bool (decide (0 ≤ (compare_m version r.version)))) rfl rfl (z_geq (compare_m version r.version) 0 rfl rfl rfl) ?_
  simp only [nz1, nz2, nz3]
  refine lvw 4 (.bool (decide (0 ≤ (compare_m version r.version)))) rfl rfl (run_as rfl rfl) ?_
  simp only [nz1, nz2, nz3]
  refine wpList_nil ?_
  refine then_n (hK33 _ _ ?_)
  refine wp_ret ?_
  refine blk_r ?_
  refine then_r ?_
  have he34 : holds_m r version = (decide (0 ≤ (compare_m version r.version))) := (show holds_m r version = (decide (0 ≤ (compare_m version r.version))) from by unfold holds_m; rw [if_neg hc12, if_neg hc16, if_neg hc20, if_neg hc24, if_neg hc28, if_pos hc32] <;> rfl)
  exact ⟨rfl, .bool (decide (0 ≤ (compare_m version r.version))), res_t rfl rfl, ⟨by rw [he34], hm7.below⟩⟩
theorem run_holds {o : Oper} {a : Act} {w : World} {x0 x1 : Operand} {v0 v1 : Value} (ho : o.op = .call { callee := .value (.func 36), args := #[x0, x1], argTypes := #[36, 9] }) (h0 : a.eval x0 = v0) (h1 : a.eval x1 = v1) :
    (execOp a.eval o).run Tryd.prog w = .ok (.enter 36 #[v0, v1]) w := by
  unfold execOp
  simp only [ho]
  have hf : a.eval (.func 36) = .func (.func 36) #[] #[] := rfl
  generalize a.eval = f at *
  go_simp
def rholds_m (r : Rul) (version : List UInt8) : Bool :=
  if r.op = 0 then
    true
  else
    if r.op = 1 then
      (decide ((rcompare_m version r.version) = 0))
    else
      if r.op = 2 then
        (decide ((rcompare_m version r.version) < 0))
      else
        if r.op = 3 then
          (decide ((rcompare_m version r.version) ≤ 0))
        else
          if r.op = 4 then
            (decide (0 < (rcompare_m version r.version)))
          else
            if r.op = 5 then
              (decide (0 ≤ (rcompare_m version r.version)))
            else
              false

set_option maxHeartbeats 4000000 in
set_option maxRecDepth 100000 in
theorem rholds_any (r : Rul) (version : List UInt8) (w : World)   : Calls Tryd.prog 37 #[.agg #[.string (tx r.name), .int .i64 (r.op), .string (tx r.version)], .string (tx version)] w (fun e w' => e = .returned (.bool ((rholds_m r version))) ∧ Below w.heap.size w w') := by
  go_enter Tryd.func37, Tryd.ntmps37
  have hm00 := Mm.nil none (fun _ => True) w
  have hm0 := hm00
  refine wp_seq_k (fun K1 hK1 => ?_)
  refine wp_region_lit ?_
  refine lst rfl (m_alloc (c := #[.string (tx r.name), .int .i64 (r.op), .string (tx r.version)]) (T := 36) hm0 2 rfl (run_box rfl rfl) (fun g4 w2 (hm3 : Mm none (fun _ => True) w w2 [.blk g4 #[.string (tx r.name), .int .i64 (r.op), .string (tx r.version)] 36]) => ?_))
  simp only [nz1, nz2, nz3]
  refine lvw 4 (.bool false) rfl rfl (run_as rfl rfl) ?_
  simp only [nz1, nz2, nz3]
  refine wpList_nil ?_
  refine then_n (hK1 _ _ ?_)
  refine wp_seq_k (fun K5 hK5 => ?_)
  refine wp_region_lit ?_
  refine lvw 6 (.string (tx version)) rfl rfl (run_mv rfl rfl) ?_
  simp only [nz1, nz2, nz3]
  refine lvw 7 (.pointer (some ⟨g4, 2, none⟩)) rfl rfl (r_fa36_2 g4 0 rfl rfl) ?_
  simp only [nz1, nz2, nz3]
  refine lvw 8 (.string (tx r.version)) rfl rfl (r_load (hm3.at 0 rfl) rfl Tryd.underlying9 rfl rfl rfl) ?_
  simp only [nz1, nz2, nz3]
  refine lst rfl (m_call hm3 9 (.int .i64 ((rcompare_m version r.version))) rfl (run_rcompare rfl rfl rfl) (rcompare_any version r.version  _  ) (fun w6 (hm7 : Mm none (fun _ => True) w w6 [.blk g4 #[.string (tx r.name), .int .i64 (r.op), .string (tx r.version)] 36]) => ?_))
  simp only [nz1, nz2, nz3]
  refine lvw 5 (.int .i64 ((rcompare_m version r.version))) rfl rfl (run_as rfl rfl) ?_
  simp only [nz1, nz2, nz3]
  refine wpList_nil ?_
  refine then_n (hK5 _ _ ?_)
  refine wp_seq_k (fun K8 hK8 => ?_)
  refine wp_seq_k (fun K9 hK9 => ?_)
  refine wp_region_lit ?_
  refine lvw 10 (.pointer (some ⟨g4, 1, none⟩)) rfl rfl (r_fa36_1 g4 0 rfl rfl) ?_
  simp only [nz1, nz2, nz3]
  refine lvw 11 (.int .i64 (r.op)) rfl rfl (r_load (hm7.at 0 rfl) rfl Tryd.underlying3 rfl rfl rfl) ?_
  simp only [nz1, nz2, nz3]
  refine wpList_nil ?_
  refine then_n (hK9 _ _ ?_)
  refine wp_block ?_
  refine wp_seq_k (fun K10 hK10 => ?_)
  refine wp_region_lit ?_
  refine lvw 13 (.bool (decide (r.op = 0))) rfl rfl (z_eql r.op 0 rfl rfl rfl) ?_
  simp only [nz1, nz2, nz3]
  refine lvw 12 (.bool (decide (r.op = 0))) rfl rfl (run_as rfl rfl) ?_
  simp only [nz1, nz2, nz3]
  refine wpList_nil ?_
  refine then_n (hK10 _ _ ?_)
  refine cond_d (r.op = 0) rfl (fun hc11 => ?_) (fun hc11 => ?_)
  · refine wp_seq_k (fun K12 hK12 => ?_)
    refine wp_region_lit ?_
    refine lvw 4 (.bool true) rfl rfl (run_as rfl rfl) ?_
    simp only [nz1, nz2, nz3]
    refine wpList_nil ?_
    refine then_n (hK12 _ _ ?_)
    refine wp_ret ?_
    refine blk_r ?_
    refine then_r ?_
    have he13 : rholds_m r version = true := (show rholds_m r version = true from by unfold rholds_m; rw [if_pos hc11] <;> rfl)
    exact ⟨rfl, .bool true, res_t rfl rfl, ⟨by rw [he13], hm7.below⟩⟩
  refine wp_seq_k (fun K14 hK14 => ?_)
  refine wp_region_lit ?_
  refine lvw 15 (.bool (decide (r.op = 1))) rfl rfl (z_eql r.op 1 rfl rfl rfl) ?_
  simp only [nz1, nz2, nz3]
  refine lvw 14 (.bool (decide (r.op = 1))) rfl rfl (run_as rfl rfl) ?_
  simp only [nz1, nz2, nz3]
  refine wpList_nil ?_
  refine then_n (hK14 _ _ ?_)
  refine cond_d (r.op = 1) rfl (fun hc15 => ?_) (fun hc15 => ?_)
  · refine wp_seq_k (fun K16 hK16 => ?_)
    refine wp_region_lit ?_
    refine lvw 16 (.int .i64 ((rcompare_m version r.version))) rfl rfl (run_mv rfl rfl) ?_
    simp only [nz1, nz2, nz3]
    refine lvw 17 (.bool (decide ((rcompare_m version r.version) = 0))) rfl rfl (z_eql (rcompare_m version r.version) 0 rfl rfl rfl) ?_
    simp only [nz1, nz2, nz3]
    refine lvw 4 (.bool (decide ((rcompare_m version r.version) = 0))) rfl rfl (run_as rfl rfl) ?_
    simp only [nz1, nz2, nz3]
    refine wpList_nil ?_
    refine then_n (hK16 _ _ ?_)
    refine wp_ret ?_
    refine blk_r ?_
    refine then_r ?_
    have he17 : rholds_m r version = (decide ((rcompare_m version r.version) = 0)) := (show rholds_m r version = (decide ((rcompare_m version r.version) = 0)) from by unfold rholds_m; rw [if_neg hc11, if_pos hc15] <;> rfl)
    exact ⟨rfl, .bool (decide ((rcompare_m version r.version) = 0)), res_t rfl rfl, ⟨by rw [he17], hm7.below⟩⟩
  refine wp_seq_k (fun K18 hK18 => ?_)
  refine wp_region_lit ?_
  refine lvw 19 (.bool (decide (r.op = 2))) rfl rfl (z_eql r.op 2 rfl rfl rfl) ?_
  simp only [nz1, nz2, nz3]
  refine lvw 18 (.bool (decide (r.op = 2))) rfl rfl (run_as rfl rfl) ?_
  simp only [nz1, nz2, nz3]
  refine wpList_nil ?_
  refine then_n (hK18 _ _ ?_)
  refine cond_d (r.op = 2) rfl (fun hc19 => ?_) (fun hc19 => ?_)
  · refine wp_seq_k (fun K20 hK20 => ?_)
    refine wp_region_lit ?_
    refine lvw 20 (.int .i64 ((rcompare_m version r.version))) rfl rfl (run_mv rfl rfl) ?_
    simp only [nz1, nz2, nz3]
    refine lvw 21 (.bool (decide ((rcompare_m version r.version) < 0))) rfl rfl (z_lss (rcompare_m version r.version) 0 rfl rfl rfl) ?_
    simp only [nz1, nz2, nz3]
    refine lvw 4 (.bool (decide ((rcompare_m version r.version) < 0))) rfl rfl (run_as rfl rfl) ?_
    simp only [nz1, nz2, nz3]
    refine wpList_nil ?_
    refine then_n (hK20 _ _ ?_)
    refine wp_ret ?_
    refine blk_r ?_
    refine then_r ?_
    have he21 : rholds_m r version = (decide ((rcompare_m version r.version) < 0)) := (show rholds_m r version = (decide ((rcompare_m version r.version) < 0)) from by unfold rholds_m; rw [if_neg hc11, if_neg hc15, if_pos hc19] <;> rfl)
    exact ⟨rfl, .bool (decide ((rcompare_m version r.version) < 0)), res_t rfl rfl, ⟨by rw [he21], hm7.below⟩⟩
  refine wp_seq_k (fun K22 hK22 => ?_)
  refine wp_region_lit ?_
  refine lvw 23 (.bool (decide (r.op = 3))) rfl rfl (z_eql r.op 3 rfl rfl rfl) ?_
  simp only [nz1, nz2, nz3]
  refine lvw 22 (.bool (decide (r.op = 3))) rfl rfl (run_as rfl rfl) ?_
  simp only [nz1, nz2, nz3]
  refine wpList_nil ?_
  refine then_n (hK22 _ _ ?_)
  refine cond_d (r.op = 3) rfl (fun hc23 => ?_) (fun hc23 => ?_)
  · refine wp_seq_k (fun K24 hK24 => ?_)
    refine wp_region_lit ?_
    refine lvw 24 (.int .i64 ((rcompare_m version r.version))) rfl rfl (run_mv rfl rfl) ?_
    simp only [nz1, nz2, nz3]
    refine lvw 25 (.bool (decide ((rcompare_m version r.version) ≤ 0))) rfl rfl (z_leq (rcompare_m version r.version) 0 rfl rfl rfl) ?_
    simp only [nz1, nz2, nz3]
    refine lvw 4 (.bool (decide ((rcompare_m version r.version) ≤ 0))) rfl rfl (run_as rfl rfl) ?_
    simp only [nz1, nz2, nz3]
    refine wpList_nil ?_
    refine then_n (hK24 _ _ ?_)
    refine wp_ret ?_
    refine blk_r ?_
    refine then_r ?_
    have he25 : rholds_m r version = (decide ((rcompare_m version r.version) ≤ 0)) := (show rholds_m r version = (decide ((rcompare_m version r.version) ≤ 0)) from by unfold rholds_m; rw [if_neg hc11, if_neg hc15, if_neg hc19, if_pos hc23] <;> rfl)
    exact ⟨rfl, .bool (decide ((rcompare_m version r.version) ≤ 0)), res_t rfl rfl, ⟨by rw [he25], hm7.below⟩⟩
  refine wp_seq_k (fun K26 hK26 => ?_)
  refine wp_region_lit ?_
  refine lvw 27 (.bool (decide (r.op = 4))) rfl rfl (z_eql r.op 4 rfl rfl rfl) ?_
  simp only [nz1, nz2, nz3]
  refine lvw 26 (.bool (decide (r.op = 4))) rfl rfl (run_as rfl rfl) ?_
  simp only [nz1, nz2, nz3]
  refine wpList_nil ?_
  refine then_n (hK26 _ _ ?_)
  refine cond_d (r.op = 4) rfl (fun hc27 => ?_) (fun hc27 => ?_)
  · refine wp_seq_k (fun K28 hK28 => ?_)
    refine wp_region_lit ?_
    refine lvw 28 (.int .i64 ((rcompare_m version r.version))) rfl rfl (run_mv rfl rfl) ?_
    simp only [nz1, nz2, nz3]
    refine lvw 29 (.bool (decide (0 < (rcompare_m version r.version)))) rfl rfl (z_gtr (rcompare_m version r.version) 0 rfl rfl rfl) ?_
    simp only [nz1, nz2, nz3]
    refine lvw 4 (.bool (decide (0 < (rcompare_m version r.version)))) rfl rfl (run_as rfl rfl) ?_
    simp only [nz1, nz2, nz3]
    refine wpList_nil ?_
    refine then_n (hK28 _ _ ?_)
    refine wp_ret ?_
    refine blk_r ?_
    refine then_r ?_
    have he29 : rholds_m r version = (decide (0 < (rcompare_m version r.version))) := (show rholds_m r version = (decide (0 < (rcompare_m version r.version))) from by unfold rholds_m; rw [if_neg hc11, if_neg hc15, if_neg hc19, if_neg hc23, if_pos hc27] <;> rfl)
    exact ⟨rfl, .bool (decide (0 < (rcompare_m version r.version))), res_t rfl rfl, ⟨by rw [he29], hm7.below⟩⟩
  refine wp_seq_k (fun K30 hK30 => ?_)
  refine wp_region_lit ?_
  refine lvw 31 (.bool (decide (r.op = 5))) rfl rfl (z_eql r.op 5 rfl rfl rfl) ?_
  simp only [nz1, nz2, nz3]
  refine lvw 30 (.bool (decide (r.op = 5))) rfl rfl (run_as rfl rfl) ?_
  simp only [nz1, nz2, nz3]
  refine wpList_nil ?_
  refine then_n (hK30 _ _ ?_)
  refine cond_d (r.op = 5) rfl (fun hc31 => ?_) (fun hc31 => ?_)
  rotate_left
  · refine wp_skip ?_
    refine blk_n ?_
    refine then_n (hK8 _ _ ?_)
    refine wp_seq_k (fun K34 hK34 => ?_)
    refine wp_region_lit ?_
    refine lvw 4 (.bool false) rfl rfl (run_as rfl rfl) ?_
    simp only [nz1, nz2, nz3]
    refine wpList_nil ?_
    refine then_n (hK34 _ _ ?_)
    refine wp_ret ?_
    have he35 : rholds_m r version = false := (show rholds_m r version = false from by unfold rholds_m; rw [if_neg hc11, if_neg hc15, if_neg hc19, if_neg hc23, if_neg hc27, if_neg hc31] <;> rfl)
    exact ⟨rfl, .bool false, res_t rfl rfl, ⟨by rw [he35], hm7.below⟩⟩
  refine wp_seq_k (fun K32 hK32 => ?_)
  refine wp_region_lit ?_
  refine lvw 32 (.int .i64 ((rcompare_m version r.version))) rfl rfl (run_mv rfl rfl) ?_
  simp only [nz1, nz2, nz3]
  refine lvw 33 (.bool (decide (0 ≤ (rcompare_m version r.version)))) rfl rfl (z_geq (rcompare_m version r.version) 0 rfl rfl rfl) ?_
  simp only [nz1, nz2, nz3]
  refine lvw 4 (.bool (decide (0 ≤ (rcompare_m version r.version)))) rfl rfl (run_as rfl rfl) ?_
  simp only [nz1, nz2, nz3]
  refine wpList_nil ?_
  refine then_n (hK32 _ _ ?_)
  refine wp_ret ?_
  refine blk_r ?_
  refine then_r ?_
  have he33 : rholds_m r version = (decide (0 ≤ (rcompare_m version r.version))) := (show rholds_m r version = (decide (0 ≤ (rcompare_m version r.version))) from by unfold rholds_m; rw [if_neg hc11, if_neg hc15, if_neg hc19, if_neg hc23, if_neg hc27, if_pos hc31] <;> rfl)
  exact ⟨rfl, .bool (decide (0 ≤ (rcompare_m version r.version))), res_t rfl rfl, ⟨by rw [he33], hm7.below⟩⟩
theorem run_rholds {o : Oper} {a : Act} {w : World} {x0 x1 : Operand} {v0 v1 : Value} (ho : o.op = .call { callee := .value (.func 37), args := #[x0, x1], argTypes := #[36, 9] }) (h0 : a.eval x0 = v0) (h1 : a.eval x1 = v1) :
    (execOp a.eval o).run Tryd.prog w = .ok (.enter 37 #[v0, v1]) w := by
  unfold execOp
  simp only [ho]
  have hf : a.eval (.func 37) = .func (.func 37) #[] #[] := rfl
  generalize a.eval = f at *
  go_simp
def vawake_m : Bool :=
  if (compare_m ([49, 46, 49, 48]) ([49, 46, 57])) = 1 then
    if (compare_m ([49, 46, 48, 126, 114, 99, 49]) ([49, 46, 48])) = -1 then
      if (compare_m ([49, 46, 48, 97]) ([49, 46, 48])) = 1 then
        if (compare_m ([49, 46, 48, 48]) ([49, 46, 48])) = 0 then
          if (holds_m (Rul.mk ([]) 5 ([50])) ([50, 46, 49])) = true then
            if (!(check_m ([45, 49]))) = true then
              (check_m ([50, 46, 49, 45, 98, 101, 116, 97]))
            else
              false
          else
            false
        else
          false
      else
        false
    else
      false
  else
    false

set_option maxHeartbeats 4000000 in
set_option maxRecDepth 100000 in
theorem vawake_any (w : World)   : Calls Tryd.prog 31 #[] w (fun e w' => e = .returned (.bool (vawake_m)) ∧ Below w.heap.size w w') := by
  go_enter Tryd.func31, Tryd.ntmps31
  have hm00 := Mm.nil none (fun _ => True) w
  have hm0 := hm00
  refine wp_seq_k (fun K1 hK1 => ?_)
  refine wp_region_lit ?_
  refine lvw 0 (.bool false) rfl rfl (run_as rfl rfl) ?_
  simp only [nz1, nz2]
  refine wpList_nil ?_
  refine then_n (hK1 _ _ ?_)
  refine wp_seq_k (fun K2 hK2 => ?_)
  refine wp_region_lit ?_
  refine lst rfl (m_call hm0 1 (.int .i64 ((compare_m ([49, 46, 49, 48]) ([49, 46, 57])))) rfl (run_compare rfl rfl rfl) (compare_any ([49, 46, 49, 48]) ([49, 46, 57])  _  ) (fun w3 (hm4 : Mm none (fun _ => True) w w3 []) => ?_))
  have hf5 : -1 ≤ (compare_m ([49, 46, 49, 48]) ([49, 46, 57])) ∧ (compare_m ([49, 46, 49, 48]) ([49, 46, 57])) ≤ 1 := compare_rng ([49, 46, 49, 48]) ([49, 46, 57])
  simp only [nz1, nz2, nz3]
  refine lvb 2 ((compare_m ([49, 46, 49, 48]) ([49, 46, 57])) = 1) rfl rfl (z_eql (compare_m ([49, 46, 49, 48]) ([49, 46, 57])) 1 rfl rfl rfl) (fun hs6 => ?_) (fun hs6 => ?_)
  rotate_left
  · simp only [nz1, nz2, nz3]
    refine lvw 3 (.bool false) rfl rfl (run_mv rfl rfl) ?_
    simp only [nz1, nz2, nz3]
    refine lst_skip 4 rfl rfl ?_
    simp only [nz1, nz2, nz3]
    refine lst_skip 5 rfl rfl ?_
    simp only [nz1, nz2, nz3]
    refine lvw 6 (.bool false) rfl rfl (run_pickf rfl rfl rfl) ?_
    simp only [nz1, nz2, nz3]
    refine lvw 7 (.bool false) rfl rfl (run_mv rfl rfl) ?_
    simp only [nz1, nz2, nz3]
    refine lst_skip 8 rfl rfl ?_
    simp only [nz1, nz2, nz3]
    refine lst_skip 9 rfl rfl ?_
    simp only [nz1, nz2, nz3]
    refine lvw 10 (.bool false) rfl rfl (run_pickf rfl rfl rfl) ?_
    simp only [nz1, nz2, nz3]
    refine lvw 11 (.bool false) rfl rfl (run_mv rfl rfl) ?_
    simp only [nz1, nz2, nz3]
    refine lst_skip 12 rfl rfl ?_
    simp only [nz1, nz2, nz3]
    refine lst_skip 13 rfl rfl ?_
    simp only [nz1, nz2, nz3]
    refine lvw 14 (.bool false) rfl rfl (run_pickf rfl rfl rfl) ?_
    simp only [nz1, nz2, nz3]
    refine lvw 15 (.bool false) rfl rfl (run_mv rfl rfl) ?_
    simp only [nz1, nz2, nz3]
    refine lst_skip 16 rfl rfl ?_
    simp only [nz1, nz2, nz3]
    refine lst_skip 17 rfl rfl ?_
    simp only [nz1, nz2, nz3]
    refine lvw 18 (.bool false) rfl rfl (run_pickf rfl rfl rfl) ?_
    simp only [nz1, nz2, nz3]
    refine lvw 19 (.bool false) rfl rfl (run_mv rfl rfl) ?_
    simp only [nz1, nz2, nz3]
    refine lst_skip 20 rfl rfl ?_
    simp only [nz1, nz2, nz3]
    refine lst_skip 21 rfl rfl ?_
    simp only [nz1, nz2, nz3]
    refine lvw 22 (.bool false) rfl rfl (run_pickf rfl rfl rfl) ?_
    simp only [nz1, nz2, nz3]
    refine lvw 23 (.bool false) rfl rfl (run_mv rfl rfl) ?_
    simp only [nz1, nz2, nz3]
    refine lst_skip 24 rfl rfl ?_
    simp only [nz1, nz2, nz3]
    refine lvw 25 (.bool false) rfl rfl (run_pickf rfl rfl rfl) ?_
    simp only [nz1, nz2, nz3]
    refine lvw 0 (.bool false) rfl rfl (run_as rfl rfl) ?_
    simp only [nz1, nz2]
    refine wpList_nil ?_
    refine then_n (hK2 _ _ ?_)
    refine wp_ret ?_
    have he33 : vawake_m = false := (show vawake_m = false from by unfold vawake_m; rw [if_neg hs6] <;> rfl)
    exact ⟨rfl, .bool false, res_t rfl rfl, ⟨by rw [he33], hm4.below⟩⟩
  simp only [nz1, nz2, nz3]
  refine lvw 3 (.bool true) rfl rfl (run_mv rfl rfl) ?_
  simp only [nz1, nz2, nz3]
  refine lst rfl (m_call hm4 4 (.int .i64 ((compare_m ([49, 46, 48, 126, 114, 99, 49]) ([49, 46, 48])))) rfl (run_compare rfl rfl rfl) (compare_any ([49, 46, 48, 126, 114, 99, 49]) ([49, 46, 48])  _  ) (fun w7 (hm8 : Mm none (fun _ => True) w w7 []) => ?_))
  have hf9 : -1 ≤ (compare_m ([49, 46, 48, 126, 114, 99, 49]) ([49, 46, 48])) ∧ (compare_m ([49, 46, 48, 126, 114, 99, 49]) ([49, 46, 48])) ≤ 1 := compare_rng ([49, 46, 48, 126, 114, 99, 49]) ([49, 46, 48])
  simp only [nz1, nz2, nz3]
  refine lvb 5 ((compare_m ([49, 46, 48, 126, 114, 99, 49]) ([49, 46, 48])) = -1) rfl rfl (z_eql (compare_m ([49, 46, 48, 126, 114, 99, 49]) ([49, 46, 48])) (-1) rfl rfl rfl) (fun hs10 => ?_) (fun hs10 => ?_)
  rotate_left
  · simp only [nz1, nz2, nz3]
    refine lvw 6 (.bool false) rfl rfl (run_pick rfl rfl rfl) ?_
    simp only [nz1, nz2, nz3]
    refine lvw 7 (.bool false) rfl rfl (run_mv rfl rfl) ?_
    simp only [nz1, nz2, nz3]
    refine lst_skip 8 rfl rfl ?_
    simp only [nz1, nz2, nz3]
    refine lst_skip 9 rfl rfl ?_
    simp only [nz1, nz2, nz3]
    refine lvw 10 (.bool false) rfl rfl (run_pickf rfl rfl rfl) ?_
    simp only [nz1, nz2, nz3]
    refine lvw 11 (.bool false) rfl rfl (run_mv rfl rfl) ?_
    simp only [nz1, nz2, nz3]
    refine lst_skip 12 rfl rfl ?_
    simp only [nz1, nz2, nz3]
    refine lst_skip 13 rfl rfl ?_
    simp only [nz1, nz2, nz3]
    refine lvw 14 (.bool false) rfl rfl (run_pickf rfl rfl rfl) ?_
    simp only [nz1, nz2, nz3]
    refine lvw 15 (.bool false) rfl rfl (run_mv rfl rfl) ?_
    simp only [nz1, nz2, nz3]
    refine lst_skip 16 rfl rfl ?_
    simp only [nz1, nz2, nz3]
    refine lst_skip 17 rfl rfl ?_
    simp only [nz1, nz2, nz3]
    refine lvw 18 (.bool false) rfl rfl (run_pickf rfl rfl rfl) ?_
    simp only [nz1, nz2, nz3]
    refine lvw 19 (.bool false) rfl rfl (run_mv rfl rfl) ?_
    simp only [nz1, nz2, nz3]
    refine lst_skip 20 rfl rfl ?_
    simp only [nz1, nz2, nz3]
    refine lst_skip 21 rfl rfl ?_
    simp only [nz1, nz2, nz3]
    refine lvw 22 (.bool false) rfl rfl (run_pickf rfl rfl rfl) ?_
    simp only [nz1, nz2, nz3]
    refine lvw 23 (.bool false) rfl rfl (run_mv rfl rfl) ?_
    simp only [nz1, nz2, nz3]
    refine lst_skip 24 rfl rfl ?_
    simp only [nz1, nz2, nz3]
    refine lvw 25 (.bool false) rfl rfl (run_pickf rfl rfl rfl) ?_
    simp only [nz1, nz2, nz3]
    refine lvw 0 (.bool false) rfl rfl (run_as rfl rfl) ?_
    simp only [nz1, nz2]
    refine wpList_nil ?_
    refine then_n (hK2 _ _ ?_)
    refine wp_ret ?_
    have he32 : vawake_m = false := (show vawake_m = false from by unfold vawake_m; rw [if_pos hs6, if_neg hs10] <;> rfl)
    exact ⟨rfl, .bool false, res_t rfl rfl, ⟨by rw [he32], hm8.below⟩⟩
  simp only [nz1, nz2, nz3]
  refine lvw 6 (.bool true) rfl rfl (run_pick rfl rfl rfl) ?_
  simp only [nz1, nz2, nz3]
  refine lvw 7 (.bool true) rfl rfl (run_mv rfl rfl) ?_
  simp only [nz1, nz2, nz3]
  refine lst rfl (m_call hm8 8 (.int .i64 ((compare_m ([49, 46, 48, 97]) ([49, 46, 48])))) rfl (run_compare rfl rfl rfl) (compare_any ([49, 46, 48, 97]) ([49, 46, 48])  _  ) (fun w11 (hm12 : Mm none (fun _ => True) w w11 []) => ?_))
  have hf13 : -1 ≤ (compare_m ([49, 46, 48, 97]) ([49, 46, 48])) ∧ (compare_m ([49, 46, 48, 97]) ([49, 46, 48])) ≤ 1 := compare_rng ([49, 46, 48, 97]) ([49, 46, 48])
  simp only [nz1, nz2, nz3]
  refine lvb 9 ((compare_m ([49, 46, 48, 97]) ([49, 46, 48])) = 1) rfl rfl (z_eql (compare_m ([49, 46, 48, 97]) ([49, 46, 48])) 1 rfl rfl rfl) (fun hs14 => ?_) (fun hs14 => ?_)
  rotate_left
  · simp only [nz1, nz2, nz3]
    refine lvw 10 (.bool false) rfl rfl (run_pick rfl rfl rfl) ?_
    simp only [nz1, nz2, nz3]
    refine lvw 11 (.bool false) rfl rfl (run_mv rfl rfl) ?_
    simp only [nz1, nz2, nz3]
    refine lst_skip 12 rfl rfl ?_
    simp only [nz1, nz2, nz3]
    refine lst_skip 13 rfl rfl ?_
    simp only [nz1, nz2, nz3]
    refine lvw 14 (.bool false) rfl rfl (run_pickf rfl rfl rfl) ?_
    simp only [nz1, nz2, nz3]
    refine lvw 15 (.bool false) rfl rfl (run_mv rfl rfl) ?_
    simp only [nz1, nz2, nz3]
    refine lst_skip 16 rfl rfl ?_
    simp only [nz1, nz2, nz3]
    refine lst_skip 17 rfl rfl ?_
    simp only [nz1, nz2, nz3]
    refine lvw 18 (.bool false) rfl rfl (run_pickf rfl rfl rfl) ?_
    simp only [nz1, nz2, nz3]
    refine lvw 19 (.bool false) rfl rfl (run_mv rfl rfl) ?_
    simp only [nz1, nz2, nz3]
    refine lst_skip 20 rfl rfl ?_
    simp only [nz1, nz2, nz3]
    refine lst_skip 21 rfl rfl ?_
    simp only [nz1, nz2, nz3]
    refine lvw 22 (.bool false) rfl rfl (run_pickf rfl rfl rfl) ?_
    simp only [nz1, nz2, nz3]
    refine lvw 23 (.bool false) rfl rfl (run_mv rfl rfl) ?_
    simp only [nz1, nz2, nz3]
    refine lst_skip 24 rfl rfl ?_
    simp only [nz1, nz2, nz3]
    refine lvw 25 (.bool false) rfl rfl (run_pickf rfl rfl rfl) ?_
    simp only [nz1, nz2, nz3]
    refine lvw 0 (.bool false) rfl rfl (run_as rfl rfl) ?_
    simp only [nz1, nz2]
    refine wpList_nil ?_
    refine then_n (hK2 _ _ ?_)
    refine wp_ret ?_
    have he31 : vawake_m = false := (show vawake_m = false from by unfold vawake_m; rw [if_pos hs6, if_pos hs10, if_neg hs14] <;> rfl)
    exact ⟨rfl, .bool false, res_t rfl rfl, ⟨by rw [he31], hm12.below⟩⟩
  simp only [nz1, nz2, nz3]
  refine lvw 10 (.bool true) rfl rfl (run_pick rfl rfl rfl) ?_
  simp only [nz1, nz2, nz3]
  refine lvw 11 (.bool true) rfl rfl (run_mv rfl rfl) ?_
  simp only [nz1, nz2, nz3]
  refine lst rfl (m_call hm12 12 (.int .i64 ((compare_m ([49, 46, 48, 48]) ([49, 46, 48])))) rfl (run_compare rfl rfl rfl) (compare_any ([49, 46, 48, 48]) ([49, 46, 48])  _  ) (fun w15 (hm16 : Mm none (fun _ => True) w w15 []) => ?_))
  have hf17 : -1 ≤ (compare_m ([49, 46, 48, 48]) ([49, 46, 48])) ∧ (compare_m ([49, 46, 48, 48]) ([49, 46, 48])) ≤ 1 := compare_rng ([49, 46, 48, 48]) ([49, 46, 48])
  simp only [nz1, nz2, nz3]
  refine lvb 13 ((compare_m ([49, 46, 48, 48]) ([49, 46, 48])) = 0) rfl rfl (z_eql (compare_m ([49, 46, 48, 48]) ([49, 46, 48])) 0 rfl rfl rfl) (fun hs18 => ?_) (fun hs18 => ?_)
  rotate_left
  · simp only [nz1, nz2, nz3]
    refine lvw 14 (.bool false) rfl rfl (run_pick rfl rfl rfl) ?_
    simp only [nz1, nz2, nz3]
    refine lvw 15 (.bool false) rfl rfl (run_mv rfl rfl) ?_
    simp only [nz1, nz2, nz3]
    refine lst_skip 16 rfl rfl ?_
    simp only [nz1, nz2, nz3]
    refine lst_skip 17 rfl rfl ?_
    simp only [nz1, nz2, nz3]
    refine lvw 18 (.bool false) rfl rfl (run_pickf rfl rfl rfl) ?_
    simp only [nz1, nz2, nz3]
    refine lvw 19 (.bool false) rfl rfl (run_mv rfl rfl) ?_
    simp only [nz1, nz2, nz3]
    refine lst_skip 20 rfl rfl ?_
    simp only [nz1, nz2, nz3]
    refine lst_skip 21 rfl rfl ?_
    simp only [nz1, nz2, nz3]
    refine lvw 22 (.bool false) rfl rfl (run_pickf rfl rfl rfl) ?_
    simp only [nz1, nz2, nz3]
    refine lvw 23 (.bool false) rfl rfl (run_mv rfl rfl) ?_
    simp only [nz1, nz2, nz3]
    refine lst_skip 24 rfl rfl ?_
    simp only [nz1, nz2, nz3]
    refine lvw 25 (.bool false) rfl rfl (run_pickf rfl rfl rfl) ?_
    simp only [nz1, nz2, nz3]
    refine lvw 0 (.bool false) rfl rfl (run_as rfl rfl) ?_
    simp only [nz1, nz2]
    refine wpList_nil ?_
    refine then_n (hK2 _ _ ?_)
    refine wp_ret ?_
    have he30 : vawake_m = false := (show vawake_m = false from by unfold vawake_m; rw [if_pos hs6, if_pos hs10, if_pos hs14, if_neg hs18] <;> rfl)
    exact ⟨rfl, .bool false, res_t rfl rfl, ⟨by rw [he30], hm16.below⟩⟩
  simp only [nz1, nz2, nz3]
  refine lvw 14 (.bool true) rfl rfl (run_pick rfl rfl rfl) ?_
  simp only [nz1, nz2, nz3]
  refine lvw 15 (.bool true) rfl rfl (run_mv rfl rfl) ?_
  simp only [nz1, nz2, nz3]
  refine lvw 16 (.agg #[.string (tx ([])), .int .i64 5, .string (tx ([50]))]) rfl rfl (by unfold execOp; go_simp; try (first | rfl | (repeat' (first | rfl | apply And.intro)))) ?_
  simp only [nz1, nz2, nz3]
  refine lst rfl (m_call hm16 17 (.bool ((holds_m (Rul.mk ([]) 5 ([50])) ([50, 46, 49])))) rfl (run_holds rfl rfl rfl) (holds_any (Rul.mk ([]) 5 ([50])) ([50, 46, 49])  _  ) (fun w19 (hm20 : Mm none (fun _ => True) w w19 []) => ?_))
  simp only [nz1, nz2, nz3]
  by_cases hs21 : (holds_m (Rul.mk ([]) 5 ([50])) ([50, 46, 49])) = true
  rotate_left
  · rw [(Bool.eq_false_iff.2 hs21 : (holds_m (Rul.mk ([]) 5 ([50])) ([50, 46, 49])) = false)]
    refine lvw 18 (.bool false) rfl rfl (run_pick rfl rfl rfl) ?_
    simp only [nz1, nz2, nz3]
    refine lvw 19 (.bool false) rfl rfl (run_mv rfl rfl) ?_
    simp only [nz1, nz2, nz3]
    refine lst_skip 20 rfl rfl ?_
    simp only [nz1, nz2, nz3]
    refine lst_skip 21 rfl rfl ?_
    simp only [nz1, nz2, nz3]
    refine lvw 22 (.bool false) rfl rfl (run_pickf rfl rfl rfl) ?_
    simp only [nz1, nz2, nz3]
    refine lvw 23 (.bool false) rfl rfl (run_mv rfl rfl) ?_
    simp only [nz1, nz2, nz3]
    refine lst_skip 24 rfl rfl ?_
    simp only [nz1, nz2, nz3]
    refine lvw 25 (.bool false) rfl rfl (run_pickf rfl rfl rfl) ?_
    simp only [nz1, nz2, nz3]
    refine lvw 0 (.bool false) rfl rfl (run_as rfl rfl) ?_
    simp only [nz1, nz2]
    refine wpList_nil ?_
    refine then_n (hK2 _ _ ?_)
    refine wp_ret ?_
    have he29 : vawake_m = false := (show vawake_m = false from by unfold vawake_m; rw [if_pos hs6, if_pos hs10, if_pos hs14, if_pos hs18, if_neg hs21] <;> rfl)
    exact ⟨rfl, .bool false, res_t rfl rfl, ⟨by rw [he29], hm20.below⟩⟩
  rw [(hs21 : (holds_m (Rul.mk ([]) 5 ([50])) ([50, 46, 49])) = true)]
  refine lvw 18 (.bool true) rfl rfl (run_pick rfl rfl rfl) ?_
  simp only [nz1, nz2, nz3]
  refine lvw 19 (.bool true) rfl rfl (run_mv rfl rfl) ?_
  simp only [nz1, nz2, nz3]
  refine lst rfl (m_call hm20 20 (.bool ((check_m ([45, 49])))) rfl (run_check rfl rfl) (check_any ([45, 49])  _  ) (fun w22 (hm23 : Mm none (fun _ => True) w w22 []) => ?_))
  simp only [nz1, nz2, nz3]
  refine lvB 21 (!(check_m ([45, 49]))) rfl rfl (r_not (check_m ([45, 49])) rfl rfl) (fun hs24 => ?_) (fun hs24 => ?_)
  · simp only [nz1, nz2, nz3]
    refine lvw 22 (.bool true) rfl rfl (run_pick rfl rfl rfl) ?_
    simp only [nz1, nz2, nz3]
    refine lvw 23 (.bool true) rfl rfl (run_mv rfl rfl) ?_
    simp only [nz1, nz2, nz3]
    refine lst rfl (m_call hm23 24 (.bool ((check_m ([50, 46, 49, 45, 98, 101, 116, 97])))) rfl (run_check rfl rfl) (check_any ([50, 46, 49, 45, 98, 101, 116, 97])  _  ) (fun w25 (hm26 : Mm none (fun _ => True) w w25 []) => ?_))
    simp only [nz1, nz2, nz3]
    refine lvw 25 (.bool ((check_m ([50, 46, 49, 45, 98, 101, 116, 97])))) rfl rfl (run_pick rfl rfl rfl) ?_
    simp only [nz1, nz2, nz3]
    refine lvw 0 (.bool ((check_m ([50, 46, 49, 45, 98, 101, 116, 97])))) rfl rfl (run_as rfl rfl) ?_
    simp only [nz1, nz2]
    refine wpList_nil ?_
    refine then_n (hK2 _ _ ?_)
    refine wp_ret ?_
    have he27 : vawake_m = (check_m ([50, 46, 49, 45, 98, 101, 116, 97])) := (show vawake_m = (check_m ([50, 46, 49, 45, 98, 101, 116, 97])) from by unfold vawake_m; rw [if_pos hs6, if_pos hs10, if_pos hs14, if_pos hs18, if_pos hs21, if_pos hs24] <;> rfl)
    exact ⟨rfl, .bool ((check_m ([50, 46, 49, 45, 98, 101, 116, 97]))), res_t rfl rfl, ⟨by rw [he27], hm26.below⟩⟩
  simp only [nz1, nz2, nz3]
  refine lvw 22 (.bool false) rfl rfl (run_pick rfl rfl rfl) ?_
  simp only [nz1, nz2, nz3]
  refine lvw 23 (.bool false) rfl rfl (run_mv rfl rfl) ?_
  simp only [nz1, nz2, nz3]
  refine lst_skip 24 rfl rfl ?_
  simp only [nz1, nz2, nz3]
  refine lvw 25 (.bool false) rfl rfl (run_pickf rfl rfl rfl) ?_
  simp only [nz1, nz2, nz3]
  refine lvw 0 (.bool false) rfl rfl (run_as rfl rfl) ?_
  simp only [nz1, nz2]
  refine wpList_nil ?_
  refine then_n (hK2 _ _ ?_)
  refine wp_ret ?_
  have he28 : vawake_m = false := (show vawake_m = false from by unfold vawake_m; rw [if_pos hs6, if_pos hs10, if_pos hs14, if_pos hs18, if_pos hs21, if_neg hs24] <;> rfl)
  exact ⟨rfl, .bool false, res_t rfl rfl, ⟨by rw [he28], hm23.below⟩⟩
theorem run_vawake {o : Oper} {a : Act} {w : World} (ho : o.op = .call { callee := .value (.func 31), args := #[], argTypes := #[] })  :
    (execOp a.eval o).run Tryd.prog w = .ok (.enter 31 #[]) w := by
  unfold execOp
  simp only [ho]
  have hf : a.eval (.func 31) = .func (.func 31) #[] #[] := rfl
  generalize a.eval = f at *
  go_simp
def vtells_m (a : List UInt8) (b : List UInt8) (op : Int) : Bool :=
  if vawake_m = true then
    if ((check_m a) == (rcheck_m a)) = true then
      if (compare_m a b) = (rcompare_m a b) then
        ((holds_m (Rul.mk ([120]) op b) a) == (rholds_m (Rul.mk ([120]) op b) a))
      else
        false
    else
      false
  else
    false

set_option maxHeartbeats 4000000 in
set_option maxRecDepth 100000 in
theorem vtells_any (a : List UInt8) (b : List UInt8) (op : Int) (w : World)   : Calls Tryd.prog 10 #[.string (tx a), .string (tx b), .int .i64 (op)] w (fun e w' => e = .returned (.bool ((vtells_m a b op))) ∧ Below w.heap.size w w') := by
  go_enter Tryd.func10, Tryd.ntmps10
  have hm00 := Mm.nil none (fun _ => True) w
  have hm0 := hm00
  refine wp_seq_k (fun K1 hK1 => ?_)
  refine wp_region_lit ?_
  refine lvw 6 (.bool false) rfl rfl (run_as rfl rfl) ?_
  simp only [nz1, nz2, nz3]
  refine wpList_nil ?_
  refine then_n (hK1 _ _ ?_)
  refine wp_seq_k (fun K2 hK2 => ?_)
  refine wp_region_lit ?_
  refine lvw 8 (.int .i64 (op)) rfl rfl (run_mv rfl rfl) ?_
  simp only [nz1, nz2, nz3]
  refine lvw 9 (.string (tx b)) rfl rfl (run_mv rfl rfl) ?_
  simp only [nz1, nz2, nz3]
  refine lvw 10 (.agg #[.string (tx ([120])), .int .i64 (op), .string (tx b)]) rfl rfl (by unfold execOp; go_simp; try (first | rfl | (repeat' (first | rfl | apply And.intro)))) ?_
  simp only [nz1, nz2, nz3]
  refine lst rfl (m_alloc (c := #[.string (tx ([])), .int .i64 0, .string (tx ([]))]) (T := 36) hm0 7 rfl (by unfold execOp; go_simp; try rfl) (fun g5 w3 (hm4 : Mm none (fun _ => True) w w3 [.blk g5 #[.string (tx ([])), .int .i64 0, .string (tx ([]))] 36]) => ?_))
  simp only [nz1, nz2, nz3]
  refine lst rfl (m_store 0 36 _ _ 0 (.agg #[.string (tx ([120])), .int .i64 (op), .string (tx b)]) (old := #[.string (tx ([])), .int .i64 0, .string (tx ([]))]) (new := #[.string (tx ([120])), .int .i64 (op), .string (tx b)]) hm4 rfl rfl rfl rfl rfl (by exact sz_36) (show 0 + 3 ≤ 3 from by decide) (by simp [Value.cells, Value.oneCell']) rfl (fun w6 (hm7 : Mm none (fun _ => True) w w6 [.blk g5 #[.string (tx ([120])), .int .i64 (op), .string (tx b)] 36]) => ?_))
  refine wpList_nil ?_
  refine then_n (hK2 _ _ ?_)
  refine wp_seq_k (fun K8 hK8 => ?_)
  have hm9 := hm7.drew
  refine wp_region_held_drew (S := fun w' => Mem.Blk w' g5 (#[.string (tx ([120])), .int .i64 (op), .string (tx b)]) 36) (by kernel_rfl) (hm9.at 0 rfl) (fun _ => ?_)
  generalize w6.drew = w10 at *
  refine one_ready 0 (by kernel_rfl) ?_
  refine opd rfl (wanted_none rfl) (m_call hm9 11 (.bool (vawake_m)) rfl (run_vawake rfl) (vawake_any   _  ) (fun w11 (hm12 : Mm none (fun _ => True) w w11 [.blk g5 #[.string (tx ([120])), .int .i64 (op), .string (tx b)] 36]) => ?_))
  refine ⟨hm12.at 0 rfl, ?_⟩
  simp only [nz1, nz2, nz3]
  by_cases hs13 : vawake_m = true
  rotate_left
  · rw [(Bool.eq_false_iff.2 hs13 : vawake_m = false)]
    refine tk 1 12 (.bool false) rfl rfl (fun _ hw => run_mv rfl rfl) (hm12.at 0 rfl) ?_
    simp only [nz1, nz2, nz3]
    refine skx 2 13 rfl rfl rfl (hm12.at 0 rfl) ?_
    simp only [nz1, nz2, nz3]
    refine skx 3 14 rfl rfl rfl (hm12.at 0 rfl) ?_
    simp only [nz1, nz2, nz3]
    refine skx 4 15 rfl rfl rfl (hm12.at 0 rfl) ?_
    simp only [nz1, nz2, nz3]
    refine skx 5 16 rfl rfl rfl (hm12.at 0 rfl) ?_
    simp only [nz1, nz2, nz3]
    refine skx 6 17 rfl rfl rfl (hm12.at 0 rfl) ?_
    simp only [nz1, nz2, nz3]
    refine tk 7 18 (.bool false) rfl rfl (fun _ hw => run_pickf rfl rfl rfl) (hm12.at 0 rfl) ?_
    simp only [nz1, nz2, nz3]
    refine tk 8 19 (.bool false) rfl rfl (fun _ hw => run_mv rfl rfl) (hm12.at 0 rfl) ?_
    simp only [nz1, nz2, nz3]
    refine skx 9 20 rfl rfl rfl (hm12.at 0 rfl) ?_
    simp only [nz1, nz2, nz3]
    refine skx 10 21 rfl rfl rfl (hm12.at 0 rfl) ?_
    simp only [nz1, nz2, nz3]
    refine skx 11 22 rfl rfl rfl (hm12.at 0 rfl) ?_
    simp only [nz1, nz2, nz3]
    refine skx 12 23 rfl rfl rfl (hm12.at 0 rfl) ?_
    simp only [nz1, nz2, nz3]
    refine skx 13 24 rfl rfl rfl (hm12.at 0 rfl) ?_
    simp only [nz1, nz2, nz3]
    refine skx 14 25 rfl rfl rfl (hm12.at 0 rfl) ?_
    simp only [nz1, nz2, nz3]
    refine skx 15 26 rfl rfl rfl (hm12.at 0 rfl) ?_
    simp only [nz1, nz2, nz3]
    refine tk 16 27 (.bool false) rfl rfl (fun _ hw => run_pickf rfl rfl rfl) (hm12.at 0 rfl) ?_
    simp only [nz1, nz2, nz3]
    refine tk 17 28 (.bool false) rfl rfl (fun _ hw => run_mv rfl rfl) (hm12.at 0 rfl) ?_
    simp only [nz1, nz2, nz3]
    refine skx 18 29 rfl rfl rfl (hm12.at 0 rfl) ?_
    simp only [nz1, nz2, nz3]
    refine skx 19 30 rfl rfl rfl (hm12.at 0 rfl) ?_
    simp only [nz1, nz2, nz3]
    refine skx 20 31 rfl rfl rfl (hm12.at 0 rfl) ?_
    simp only [nz1, nz2, nz3]
    refine skx 21 32 rfl rfl rfl (hm12.at 0 rfl) ?_
    simp only [nz1, nz2, nz3]
    refine skx 22 33 rfl rfl rfl (hm12.at 0 rfl) ?_
    simp only [nz1, nz2, nz3]
    refine skx 23 34 rfl rfl rfl (hm12.at 0 rfl) ?_
    simp only [nz1, nz2, nz3]
    refine skx 24 35 rfl rfl rfl (hm12.at 0 rfl) ?_
    simp only [nz1, nz2, nz3]
    refine tk 25 36 (.bool false) rfl rfl (fun _ hw => run_pickf rfl rfl rfl) (hm12.at 0 rfl) ?_
    simp only [nz1, nz2, nz3]
    refine one_ready 26 (by kernel_rfl) ?_
    refine opd rfl (wanted_none rfl) (w_value 6 (.bool false) rfl (run_as rfl rfl) ⟨hm12.at 0 rfl, ?_⟩)
    simp only [nz1, nz2, nz3]
    refine wpAnyH_done (by kernel_rfl) ?_ _
    refine then_n (hK8 _ _ ?_)
    refine wp_ret ?_
    have he32 : vtells_m a b op = false := (show vtells_m a b op = false from by unfold vtells_m; rw [if_neg hs13] <;> rfl)
    exact ⟨rfl, .bool false, res_t rfl rfl, ⟨by rw [he32], hm12.below⟩⟩
  rw [(hs13 : vawake_m = true)]
  refine tk 1 12 (.bool true) rfl rfl (fun _ hw => run_mv rfl rfl) (hm12.at 0 rfl) ?_
  simp only [nz1, nz2, nz3]
  refine Sym.take_at 2 13 (.string (tx a)) rfl rfl (by kernel_rfl) (by kernel_rfl) (by kernel_rfl) (fun _ _ _ h => h) rfl (fun _ hw => run_mv rfl rfl) (hm12.at 0 rfl) ?_
  simp only [nz1, nz2, nz3]
  refine Sym.take_at 4 15 (.string (tx a)) rfl rfl (by kernel_rfl) (by kernel_rfl) (by kernel_rfl) (fun _ _ _ h => h) rfl (fun _ hw => run_mv rfl rfl) (hm12.at 0 rfl) ?_
  simp only [nz1, nz2, nz3]
  refine one_ready 3 (by kernel_rfl) ?_
  refine opd rfl rfl (m_call hm12 14 (.bool ((check_m a))) rfl (run_check rfl rfl) (check_any a  _  ) (fun w14 (hm15 : Mm none (fun _ => True) w w14 [.blk g5 #[.string (tx ([120])), .int .i64 (op), .string (tx b)] 36]) => ?_))
  refine ⟨hm15.at 0 rfl, ?_⟩
  simp only [nz1, nz2, nz3]
  refine one_ready 5 (by kernel_rfl) ?_
  refine opd rfl rfl (m_call hm15 16 (.bool ((rcheck_m a))) rfl (run_rcheck rfl rfl) (rcheck_any a  _  ) (fun w16 (hm17 : Mm none (fun _ => True) w w16 [.blk g5 #[.string (tx ([120])), .int .i64 (op), .string (tx b)] 36]) => ?_))
  refine ⟨hm17.at 0 rfl, ?_⟩
  simp only [nz1, nz2, nz3]
  refine tkb 6 17 (((check_m a) == (rcheck_m a)) = true) rfl rfl rfl (fun _ hw => (by rw [show decide (((check_m a) == (rcheck_m a)) = true) = ((check_m a) == (rcheck_m a)) from Bool.decide_eq_true]; exact b_eql (check_m a) (rcheck_m a) rfl rfl rfl)) (hm17.at 0 rfl) (fun hs18 => ?_) (fun hs18 => ?_)
  rotate_left
  · simp only [nz1, nz2, nz3]
    refine tk 7 18 (.bool false) rfl rfl (fun _ hw => run_pick rfl rfl rfl) (hm17.at 0 rfl) ?_
    simp only [nz1, nz2, nz3]
    refine tk 8 19 (.bool false) rfl rfl (fun _ hw => run_mv rfl rfl) (hm17.at 0 rfl) ?_
    simp only [nz1, nz2, nz3]
    refine skx 9 20 rfl rfl rfl (hm17.at 0 rfl) ?_
    simp only [nz1, nz2, nz3]
    refine skx 10 21 rfl rfl rfl (hm17.at 0 rfl) ?_
    simp only [nz1, nz2, nz3]
    refine skx 11 22 rfl rfl rfl (hm17.at 0 rfl) ?_
    simp only [nz1, nz2, nz3]
    refine skx 12 23 rfl rfl rfl (hm17.at 0 rfl) ?_
    simp only [nz1, nz2, nz3]
    refine skx 13 24 rfl rfl rfl (hm17.at 0 rfl) ?_
    simp only [nz1, nz2, nz3]
    refine skx 14 25 rfl rfl rfl (hm17.at 0 rfl) ?_
    simp only [nz1, nz2, nz3]
    refine skx 15 26 rfl rfl rfl (hm17.at 0 rfl) ?_
    simp only [nz1, nz2, nz3]
    refine tk 16 27 (.bool false) rfl rfl (fun _ hw => run_pickf rfl rfl rfl) (hm17.at 0 rfl) ?_
    simp only [nz1, nz2, nz3]
    refine tk 17 28 (.bool false) rfl rfl (fun _ hw => run_mv rfl rfl) (hm17.at 0 rfl) ?_
    simp only [nz1, nz2, nz3]
    refine skx 18 29 rfl rfl rfl (hm17.at 0 rfl) ?_
    simp only [nz1, nz2, nz3]
    refine skx 19 30 rfl rfl rfl (hm17.at 0 rfl) ?_
    simp only [nz1, nz2, nz3]
    refine skx 20 31 rfl rfl rfl (hm17.at 0 rfl) ?_
    simp only [nz1, nz2, nz3]
    refine skx 21 32 rfl rfl rfl (hm17.at 0 rfl) ?_
    simp only [nz1, nz2, nz3]
    refine skx 22 33 rfl rfl rfl (hm17.at 0 rfl) ?_
    simp only [nz1, nz2, nz3]
    refine skx 23 34 rfl rfl rfl (hm17.at 0 rfl) ?_
    simp only [nz1, nz2, nz3]
    refine skx 24 35 rfl rfl rfl (hm17.at 0 rfl) ?_
    simp only [nz1, nz2, nz3]
    refine tk 25 36 (.bool false) rfl rfl (fun _ hw => run_pickf rfl rfl rfl) (hm17.at 0 rfl) ?_
    simp only [nz1, nz2, nz3]
    refine one_ready 26 (by kernel_rfl) ?_
    refine opd rfl (wanted_none rfl) (w_value 6 (.bool false) rfl (run_as rfl rfl) ⟨hm17.at 0 rfl, ?_⟩)
    simp only [nz1, nz2, nz3]
    refine wpAnyH_done (by kernel_rfl) ?_ _
    refine then_n (hK8 _ _ ?_)
    refine wp_ret ?_
    have he31 : vtells_m a b op = false := (show vtells_m a b op = false from by unfold vtells_m; rw [if_pos hs13, if_neg hs18] <;> rfl)
    exact ⟨rfl, .bool false, res_t rfl rfl, ⟨by rw [he31], hm17.below⟩⟩
  simp only [nz1, nz2, nz3]
  refine tk 7 18 (.bool true) rfl rfl (fun _ hw => run_pick rfl rfl rfl) (hm17.at 0 rfl) ?_
  simp only [nz1, nz2, nz3]
  refine tk 8 19 (.bool true) rfl rfl (fun _ hw => run_mv rfl rfl) (hm17.at 0 rfl) ?_
  simp only [nz1, nz2, nz3]
  refine Sym.take_at 9 20 (.string (tx a)) rfl rfl (by kernel_rfl) (by kernel_rfl) (by kernel_rfl) (fun _ _ _ h => h) rfl (fun _ hw => run_mv rfl rfl) (hm17.at 0 rfl) ?_
  simp only [nz1, nz2, nz3]
  refine Sym.take_at 10 21 (.string (tx b)) rfl rfl (by kernel_rfl) (by kernel_rfl) (by kernel_rfl) (fun _ _ _ h => h) rfl (fun _ hw => run_mv rfl rfl) (hm17.at 0 rfl) ?_
  simp only [nz1, nz2, nz3]
  refine Sym.take_at 12 23 (.string (tx a)) rfl rfl (by kernel_rfl) (by kernel_rfl) (by kernel_rfl) (fun _ _ _ h => h) rfl (fun _ hw => run_mv rfl rfl) (hm17.at 0 rfl) ?_
  simp only [nz1, nz2, nz3]
  refine Sym.take_at 13 24 (.string (tx b)) rfl rfl (by kernel_rfl) (by kernel_rfl) (by kernel_rfl) (fun _ _ _ h => h) rfl (fun _ hw => run_mv rfl rfl) (hm17.at 0 rfl) ?_
  simp only [nz1, nz2, nz3]
  refine one_ready 11 (by kernel_rfl) ?_
  refine opd rfl rfl (m_call hm17 22 (.int .i64 ((compare_m a b))) rfl (run_compare rfl rfl rfl) (compare_any a b  _  ) (fun w19 (hm20 : Mm none (fun _ => True) w w19 [.blk g5 #[.string (tx ([120])), .int .i64 (op), .string (tx b)] 36]) => ?_))
  have hf21 : -1 ≤ (compare_m a b) ∧ (compare_m a b) ≤ 1 := compare_rng a b
  refine ⟨hm20.at 0 rfl, ?_⟩
  simp only [nz1, nz2, nz3]
  refine one_ready 14 (by kernel_rfl) ?_
  refine opd rfl rfl (m_call hm20 25 (.int .i64 ((rcompare_m a b))) rfl (run_rcompare rfl rfl rfl) (rcompare_any a b  _  ) (fun w22 (hm23 : Mm none (fun _ => True) w w22 [.blk g5 #[.string (tx ([120])), .int .i64 (op), .string (tx b)] 36]) => ?_))
  refine ⟨hm23.at 0 rfl, ?_⟩
  simp only [nz1, nz2, nz3]
  refine tkb 15 26 ((compare_m a b) = (rcompare_m a b)) rfl rfl rfl (fun _ hw => z_eql (compare_m a b) (rcompare_m a b) rfl rfl rfl) (hm23.at 0 rfl) (fun hs24 => ?_) (fun hs24 => ?_)
  rotate_left
  · simp only [nz1, nz2, nz3]
    refine tk 16 27 (.bool false) rfl rfl (fun _ hw => run_pick rfl rfl rfl) (hm23.at 0 rfl) ?_
    simp only [nz1, nz2, nz3]
    refine tk 17 28 (.bool false) rfl rfl (fun _ hw => run_mv rfl rfl) (hm23.at 0 rfl) ?_
    simp only [nz1, nz2, nz3]
    refine skx 18 29 rfl rfl rfl (hm23.at 0 rfl) ?_
    simp only [nz1, nz2, nz3]
    refine skx 19 30 rfl rfl rfl (hm23.at 0 rfl) ?_
    simp only [nz1, nz2, nz3]
    refine skx 20 31 rfl rfl rfl (hm23.at 0 rfl) ?_
    simp only [nz1, nz2, nz3]
    refine skx 21 32 rfl rfl rfl (hm23.at 0 rfl) ?_
    simp only [nz1, nz2, nz3]
    refine skx 22 33 rfl rfl rfl (hm23.at 0 rfl) ?_
    simp only [nz1, nz2, nz3]
    refine skx 23 34 rfl rfl rfl (hm23.at 0 rfl) ?_
    simp only [nz1, nz2, nz3]
    refine skx 24 35 rfl rfl rfl (hm23.at 0 rfl) ?_
    simp only [nz1, nz2, nz3]
    refine tk 25 36 (.bool false) rfl rfl (fun _ hw => run_pickf rfl rfl rfl) (hm23.at 0 rfl) ?_
    simp only [nz1, nz2, nz3]
    refine one_ready 26 (by kernel_rfl) ?_
    refine opd rfl (wanted_none rfl) (w_value 6 (.bool false) rfl (run_as rfl rfl) ⟨hm23.at 0 rfl, ?_⟩)
    simp only [nz1, nz2, nz3]
    refine wpAnyH_done (by kernel_rfl) ?_ _
    refine then_n (hK8 _ _ ?_)
    refine wp_ret ?_
    have he30 : vtells_m a b op = false := (show vtells_m a b op = false from by unfold vtells_m; rw [if_pos hs13, if_pos hs18, if_neg hs24] <;> rfl)
    exact ⟨rfl, .bool false, res_t rfl rfl, ⟨by rw [he30], hm23.below⟩⟩
  simp only [nz1, nz2, nz3]
  refine tk 16 27 (.bool true) rfl rfl (fun _ hw => run_pick rfl rfl rfl) (hm23.at 0 rfl) ?_
  simp only [nz1, nz2, nz3]
  refine tk 17 28 (.bool true) rfl rfl (fun _ hw => run_mv rfl rfl) (hm23.at 0 rfl) ?_
  simp only [nz1, nz2, nz3]
  refine Sym.take_at 18 29 (.agg #[.string (tx ([120])), .int .i64 (op), .string (tx b)]) rfl rfl (by kernel_rfl) (by kernel_rfl) (by kernel_rfl) (fun _ _ _ h => h) rfl (fun _ hw => r_whole hw Tryd.underlying36 rfl (by exact sz_36) rfl rfl) (hm23.at 0 rfl) ?_
  simp only [nz1, nz2, nz3]
  refine Sym.take_at 19 30 (.string (tx a)) rfl rfl (by kernel_rfl) (by kernel_rfl) (by kernel_rfl) (fun _ _ _ h => h) rfl (fun _ hw => run_mv rfl rfl) (hm23.at 0 rfl) ?_
  simp only [nz1, nz2, nz3]
  refine Sym.take_at 21 32 (.agg #[.string (tx ([120])), .int .i64 (op), .string (tx b)]) rfl rfl (by kernel_rfl) (by kernel_rfl) (by kernel_rfl) (fun _ _ _ h => h) rfl (fun _ hw => r_whole hw Tryd.underlying36 rfl (by exact sz_36) rfl rfl) (hm23.at 0 rfl) ?_
  simp only [nz1, nz2, nz3]
  refine Sym.take_at 22 33 (.string (tx a)) rfl rfl (by kernel_rfl) (by kernel_rfl) (by kernel_rfl) (fun _ _ _ h => h) rfl (fun _ hw => run_mv rfl rfl) (hm23.at 0 rfl) ?_
  simp only [nz1, nz2, nz3]
  refine one_ready 20 (by kernel_rfl) ?_
  refine opd rfl rfl (m_call hm23 31 (.bool ((holds_m (Rul.mk ([120]) op b) a))) rfl (run_holds rfl rfl rfl) (holds_any (Rul.mk ([120]) op b) a  _  ) (fun w25 (hm26 : Mm none (fun _ => True) w w25 [.blk g5 #[.string (tx ([120])), .int .i64 (op), .string (tx b)] 36]) => ?_))
  refine ⟨hm26.at 0 rfl, ?_⟩
  simp only [nz1, nz2, nz3]
  refine one_ready 23 (by kernel_rfl) ?_
  refine opd rfl rfl (m_call hm26 34 (.bool ((rholds_m (Rul.mk ([120]) op b) a))) rfl (run_rholds rfl rfl rfl) (rholds_any (Rul.mk ([120]) op b) a  _  ) (fun w27 (hm28 : Mm none (fun _ => True) w w27 [.blk g5 #[.string (tx ([120])), .int .i64 (op), .string (tx b)] 36]) => ?_))
  refine ⟨hm28.at 0 rfl, ?_⟩
  simp only [nz1, nz2, nz3]
  refine Sym.take_at 24 35 (.bool ((holds_m (Rul.mk ([120]) op b) a) == (rholds_m (Rul.mk ([120]) op b) a))) rfl rfl (by kernel_rfl) (by kernel_rfl) (by kernel_rfl) (fun _ _ _ h => h) rfl (fun _ hw => b_eql (holds_m (Rul.mk ([120]) op b) a) (rholds_m (Rul.mk ([120]) op b) a) rfl rfl rfl) (hm28.at 0 rfl) ?_
  simp only [nz1, nz2, nz3]
  refine tk 25 36 (.bool ((holds_m (Rul.mk ([120]) op b) a) == (rholds_m (Rul.mk ([120]) op b) a))) rfl rfl (fun _ hw => run_pick rfl rfl rfl) (hm28.at 0 rfl) ?_
  simp only [nz1, nz2, nz3]
  refine one_ready 26 (by kernel_rfl) ?_
  refine opd rfl (wanted_none rfl) (w_value 6 (.bool ((holds_m (Rul.mk ([120]) op b) a) == (rholds_m (Rul.mk ([120]) op b) a))) rfl (run_as rfl rfl) ⟨hm28.at 0 rfl, ?_⟩)
  simp only [nz1, nz2, nz3]
  refine wpAnyH_done (by kernel_rfl) ?_ _
  refine then_n (hK8 _ _ ?_)
  refine wp_ret ?_
  have he29 : vtells_m a b op = ((holds_m (Rul.mk ([120]) op b) a) == (rholds_m (Rul.mk ([120]) op b) a)) := (show vtells_m a b op = ((holds_m (Rul.mk ([120]) op b) a) == (rholds_m (Rul.mk ([120]) op b) a)) from by unfold vtells_m; rw [if_pos hs13, if_pos hs18, if_pos hs24] <;> rfl)
  exact ⟨rfl, .bool ((holds_m (Rul.mk ([120]) op b) a) == (rholds_m (Rul.mk ([120]) op b) a)), res_t rfl rfl, ⟨by rw [he29], hm28.below⟩⟩
theorem run_vtells {o : Oper} {a : Act} {w : World} {x0 x1 x2 : Operand} {v0 v1 v2 : Value} (ho : o.op = .call { callee := .value (.func 10), args := #[x0, x1, x2], argTypes := #[9, 9, 3] }) (h0 : a.eval x0 = v0) (h1 : a.eval x1 = v1) (h2 : a.eval x2 = v2) :
    (execOp a.eval o).run Tryd.prog w = .ok (.enter 10 #[v0, v1, v2]) w := by
  unfold execOp
  simp only [ho]
  have hf : a.eval (.func 10) = .func (.func 10) #[] #[] := rfl
  generalize a.eval = f at *
  go_simp
def vorders_m (a : List UInt8) (b : List UInt8) (c : List UInt8) : Bool :=
  if (!(check_m a)) = true then
    vawake_m
  else
    if (!(check_m b)) = true then
      vawake_m
    else
      if (!(check_m c)) = true then
        vawake_m
      else
        if vawake_m = true then
          if (compare_m a b) = (-(compare_m b a)) then
            if (compare_m a a) = 0 then
              if 0 < (compare_m a b) then
                if ¬ (compare_m a b) = 0 then
                  if 0 ≤ (compare_m a b) then
                    true
                  else
                    if 0 < (compare_m b c) then
                      true
                    else
                      (decide ((compare_m a c) < 0))
                else
                  if ¬ (compare_m b c) = 0 then
                    if 0 ≤ (compare_m a b) then
                      true
                    else
                      if 0 < (compare_m b c) then
                        true
                      else
                        (decide ((compare_m a c) < 0))
                  else
                    if (compare_m a c) = 0 then
                      if 0 ≤ (compare_m a b) then
                        true
                      else
                        if 0 < (compare_m b c) then
                          true
                        else
                          (decide ((compare_m a c) < 0))
                    else
                      false
              else
                if 0 < (compare_m b c) then
                  if ¬ (compare_m a b) = 0 then
                    if 0 ≤ (compare_m a b) then
                      true
                    else
                      if 0 < (compare_m b c) then
                        true
                      else
                        (decide ((compare_m a c) < 0))
                  else
                    if ¬ (compare_m b c) = 0 then
                      if 0 ≤ (compare_m a b) then
                        true
                      else
                        if 0 < (compare_m b c) then
                          true
                        else
                          (decide ((compare_m a c) < 0))
                    else
                      if (compare_m a c) = 0 then
                        if 0 ≤ (compare_m a b) then
                          true
                        else
                          if 0 < (compare_m b c) then
                            true
                          else
                            (decide ((compare_m a c) < 0))
                      else
                        false
                else
                  if (compare_m a c) ≤ 0 then
                    if ¬ (compare_m a b) = 0 then
                      if 0 ≤ (compare_m a b) then
                        true
                      else
                        if 0 < (compare_m b c) then
                          true
                        else
                          (decide ((compare_m a c) < 0))
                    else
                      if ¬ (compare_m b c) = 0 then
                        if 0 ≤ (compare_m a b) then
                          true
                        else
                          if 0 < (compare_m b c) then
                            true
                          else
                            (decide ((compare_m a c) < 0))
                      else
                        if (compare_m a c) = 0 then
                          if 0 ≤ (compare_m a b) then
                            true
                          else
                            if 0 < (compare_m b c) then
                              true
                            else
                              (decide ((compare_m a c) < 0))
                        else
                          false
                  else
                    false
            else
              false
          else
            false
        else
          false

set_option maxHeartbeats 4000000 in
set_option maxRecDepth 100000 in
theorem vorders_any (a : List UInt8) (b : List UInt8) (c : List UInt8) (w : World)   : Calls Tryd.prog 11 #[.string (tx a), .string (tx b), .string (tx c)] w (fun e w' => e = .returned (.bool ((vorders_m a b c))) ∧ Below w.heap.size w w') := by
  go_enter Tryd.func11, Tryd.ntmps11
  have hm00 := Mm.nil none (fun _ => True) w
  have hm0 := hm00
  refine wp_seq_k (fun K1 hK1 => ?_)
  refine wp_region_lit ?_
  refine lvw 6 (.bool false) rfl rfl (run_as rfl rfl) ?_
  simp only [nz1, nz2, nz3]
  refine wpList_nil ?_
  refine then_n (hK1 _ _ ?_)
  refine wp_seq_k (fun K2 hK2 => ?_)
  refine wp_seq_k (fun K3 hK3 => ?_)
  refine wp_region_lit ?_
  refine lvw 10 (.string (tx a)) rfl rfl (run_mv rfl rfl) ?_
  simp only [nz1, nz2, nz3]
  refine lst rfl (m_call hm0 11 (.bool ((check_m a))) rfl (run_check rfl rfl) (check_any a  _  ) (fun w4 (hm5 : Mm none (fun _ => True) w w4 []) => ?_))
  simp only [nz1, nz2, nz3]
  refine lvB 12 (!(check_m a)) rfl rfl (r_not (check_m a) rfl rfl) (fun hs6 => ?_) (fun hs6 => ?_)
  · simp only [nz1, nz2, nz3]
    refine lvw 13 (.bool true) rfl rfl (run_mv rfl rfl) ?_
    simp only [nz1, nz2, nz3]
    refine lst_skip 14 rfl rfl ?_
    simp only [nz1, nz2, nz3]
    refine lst_skip 15 rfl rfl ?_
    simp only [nz1, nz2, nz3]
    refine lst_skip 16 rfl rfl ?_
    simp only [nz1, nz2, nz3]
    refine lvw 17 (.bool true) rfl rfl (run_pick rfl rfl rfl) ?_
    simp only [nz1, nz2, nz3]
    refine lvw 18 (.bool true) rfl rfl (run_mv rfl rfl) ?_
    simp only [nz1, nz2, nz3]
    refine lst_skip 19 rfl rfl ?_
    simp only [nz1, nz2, nz3]
    refine lst_skip 20 rfl rfl ?_
    simp only [nz1, nz2, nz3]
    refine lst_skip 21 rfl rfl ?_
    simp only [nz1, nz2, nz3]
    refine lvw 22 (.bool true) rfl rfl (run_pick rfl rfl rfl) ?_
    simp only [nz1, nz2, nz3]
    refine wpList_nil ?_
    refine then_n (hK3 _ _ ?_)
    refine cond_t rfl ?_
    refine wp_seq_k (fun K7 hK7 => ?_)
    refine wp_region_lit ?_
    refine lst rfl (m_call hm5 23 (.bool (vawake_m)) rfl (run_vawake rfl) (vawake_any   _  ) (fun w8 (hm9 : Mm none (fun _ => True) w w8 []) => ?_))
    simp only [nz1, nz2, nz3]
    refine lvw 6 (.bool (vawake_m)) rfl rfl (run_as rfl rfl) ?_
    simp only [nz1, nz2, nz3]
    refine wpList_nil ?_
    refine then_n (hK7 _ _ ?_)
    refine wp_ret ?_
    refine then_r ?_
    have he10 : vorders_m a b c = vawake_m := (show vorders_m a b c = vawake_m from by unfold vorders_m; rw [if_pos hs6] <;> rfl)
    exact ⟨rfl, .bool (vawake_m), res_t rfl rfl, ⟨by rw [he10], hm9.below⟩⟩
  simp only [nz1, nz2, nz3]
  refine lvw 13 (.bool false) rfl rfl (run_mv rfl rfl) ?_
  simp only [nz1, nz2, nz3]
  refine lvw 14 (.string (tx b)) rfl rfl (run_mv rfl rfl) ?_
  simp only [nz1, nz2, nz3]
  refine lst rfl (m_call hm5 15 (.bool ((check_m b))) rfl (run_check rfl rfl) (check_any b  _  ) (fun w11 (hm12 : Mm none (fun _ => True) w w11 []) => ?_))
  simp only [nz1, nz2, nz3]
  refine lvB 16 (!(check_m b)) rfl rfl (r_not (check_m b) rfl rfl) (fun hs13 => ?_) (fun hs13 => ?_)
  · simp only [nz1, nz2, nz3]
    refine lvw 17 (.bool true) rfl rfl (run_pickf rfl rfl rfl) ?_
    simp only [nz1, nz2, nz3]
    refine lvw 18 (.bool true) rfl rfl (run_mv rfl rfl) ?_
    simp only [nz1, nz2, nz3]
    refine lst_skip 19 rfl rfl ?_
    simp only [nz1, nz2, nz3]
    refine lst_skip 20 rfl rfl ?_
    simp only [nz1, nz2, nz3]
    refine lst_skip 21 rfl rfl ?_
    simp only [nz1, nz2, nz3]
    refine lvw 22 (.bool true) rfl rfl (run_pick rfl rfl rfl) ?_
    simp only [nz1, nz2, nz3]
    refine wpList_nil ?_
    refine then_n (hK3 _ _ ?_)
    refine cond_t rfl ?_
    refine wp_seq_k (fun K14 hK14 => ?_)
    refine wp_region_lit ?_
    refine lst rfl (m_call hm12 23 (.bool (vawake_m)) rfl (run_vawake rfl) (vawake_any   _  ) (fun w15 (hm16 : Mm none (fun _ => True) w w15 []) => ?_))
    simp only [nz1, nz2, nz3]
    refine lvw 6 (.bool (vawake_m)) rfl rfl (run_as rfl rfl) ?_
    simp only [nz1, nz2, nz3]
    refine wpList_nil ?_
    refine then_n (hK14 _ _ ?_)
    refine wp_ret ?_
    refine then_r ?_
    have he17 : vorders_m a b c = vawake_m := (show vorders_m a b c = vawake_m from by unfold vorders_m; rw [if_neg hs6, if_pos hs13] <;> rfl)
    exact ⟨rfl, .bool (vawake_m), res_t rfl rfl, ⟨by rw [he17], hm16.below⟩⟩
  simp only [nz1, nz2, nz3]
  refine lvw 17 (.bool false) rfl rfl (run_pickf rfl rfl rfl) ?_
  simp only [nz1, nz2, nz3]
  refine lvw 18 (.bool false) rfl rfl (run_mv rfl rfl) ?_
  simp only [nz1, nz2, nz3]
  refine lvw 19 (.string (tx c)) rfl rfl (run_mv rfl rfl) ?_
  simp only [nz1, nz2, nz3]
  refine lst rfl (m_call hm12 20 (.bool ((check_m c))) rfl (run_check rfl rfl) (check_any c  _  ) (fun w18 (hm19 : Mm none (fun _ => True) w w18 []) => ?_))
  simp only [nz1, nz2, nz3]
  refine lvw 21 (.bool (!(check_m c))) rfl rfl (r_not (check_m c) rfl rfl) ?_
  simp only [nz1, nz2, nz3]
  refine lvw 22 (.bool (!(check_m c))) rfl rfl (run_pickf rfl rfl rfl) ?_
  simp only [nz1, nz2, nz3]
  refine wpList_nil ?_
  refine then_n (hK3 _ _ ?_)
  refine cond_B (!(check_m c)) rfl (fun hc20 => ?_) (fun hc20 => ?_)
  · refine wp_seq_k (fun K21 hK21 => ?_)
    refine wp_region_lit ?_
    refine lst rfl (m_call hm19 23 (.bool (vawake_m)) rfl (run_vawake rfl) (vawake_any   _  ) (fun w22 (hm23 : Mm none (fun _ => True) w w22 []) => ?_))
    simp only [nz1, nz2, nz3]
    refine lvw 6 (.bool (vawake_m)) rfl rfl (run_as rfl rfl) ?_
    simp only [nz1, nz2, nz3]
    refine wpList_nil ?_
    refine then_n (hK21 _ _ ?_)
    refine wp_ret ?_
    refine then_r ?_
    have he24 : vorders_m a b c = vawake_m := (show vorders_m a b c = vawake_m from by unfold vorders_m; rw [if_neg hs6, if_neg hs13, if_pos hc20] <;> rfl)
    exact ⟨rfl, .bool (vawake_m), res_t rfl rfl, ⟨by rw [he24], hm23.below⟩⟩
  refine wp_skip ?_
  refine then_n (hK2 _ _ ?_)
  refine wp_seq_k (fun K25 hK25 => ?_)
  refine wp_region_lit ?_
  refine lvw 24 (.string (tx a)) rfl rfl (run_mv rfl rfl) ?_
  simp only [nz1, nz2, nz3]
  refine lvw 25 (.string (tx b)) rfl rfl (run_mv rfl rfl) ?_
  simp only [nz1, nz2, nz3]
  refine lst rfl (m_call hm19 26 (.int .i64 ((compare_m a b))) rfl (run_compare rfl rfl rfl) (compare_any a b  _  ) (fun w26 (hm27 : Mm none (fun _ => True) w w26 []) => ?_))
  have hf28 : -1 ≤ (compare_m a b) ∧ (compare_m a b) ≤ 1 := compare_rng a b
  simp only [nz1, nz2, nz3]
  refine lvw 27 (.string (tx b)) rfl rfl (run_mv rfl rfl) ?_
  simp only [nz1, nz2, nz3]
  refine lvw 28 (.string (tx c)) rfl rfl (run_mv rfl rfl) ?_
  simp only [nz1, nz2, nz3]
  refine lst rfl (m_call hm27 29 (.int .i64 ((compare_m b c))) rfl (run_compare rfl rfl rfl) (compare_any b c  _  ) (fun w29 (hm30 : Mm none (fun _ => True) w w29 []) => ?_))
  have hf31 : -1 ≤ (compare_m b c) ∧ (compare_m b c) ≤ 1 := compare_rng b c
  simp only [nz1, nz2, nz3]
  refine lvw 30 (.string (tx a)) rfl rfl (run_mv rfl rfl) ?_
  simp only [nz1, nz2, nz3]
  refine lvw 31 (.string (tx c)) rfl rfl (run_mv rfl rfl) ?_
  simp only [nz1, nz2, nz3]
  refine lst rfl (m_call hm30 32 (.int .i64 ((compare_m a c))) rfl (run_compare rfl rfl rfl) (compare_any a c  _  ) (fun w32 (hm33 : Mm none (fun _ => True) w w32 []) => ?_))
  have hf34 : -1 ≤ (compare_m a c) ∧ (compare_m a c) ≤ 1 := compare_rng a c
  simp only [nz1, nz2, nz3]
  refine lvw 7 (.int .i64 ((compare_m a b))) rfl rfl (run_as rfl rfl) ?_
  simp only [nz1, nz2, nz3]
  refine lvw 8 (.int .i64 ((compare_m b c))) rfl rfl (run_as rfl rfl) ?_
  simp only [nz1, nz2, nz3]
  refine lvw 9 (.int .i64 ((compare_m a c))) rfl rfl (run_as rfl rfl) ?_
  simp only [nz1, nz2, nz3]
  refine wpList_nil ?_
  refine then_n (hK25 _ _ ?_)
  refine wp_seq_k (fun K35 hK35 => ?_)
  refine wp_region_lit ?_
  refine lst rfl (m_call hm33 33 (.bool (vawake_m)) rfl (run_vawake rfl) (vawake_any   _  ) (fun w36 (hm37 : Mm none (fun _ => True) w w36 []) => ?_))
  simp only [nz1, nz2, nz3]
  by_cases hs38 : vawake_m = true
  rotate_left
  · rw [(Bool.eq_false_iff.2 hs38 : vawake_m = false)]
    refine lvw 34 (.bool false) rfl rfl (run_mv rfl rfl) ?_
    simp only [nz1, nz2, nz3]
    refine lst_skip 35 rfl rfl ?_
    simp only [nz1, nz2, nz3]
    refine lst_skip 36 rfl rfl ?_
    simp only [nz1, nz2, nz3]
    refine lst_skip 37 rfl rfl ?_
    simp only [nz1, nz2, nz3]
    refine lst_skip 38 rfl rfl ?_
    simp only [nz1, nz2, nz3]
    refine lst_skip 39 rfl rfl ?_
    simp only [nz1, nz2, nz3]
    refine lst_skip 40 rfl rfl ?_
    simp only [nz1, nz2, nz3]
    refine lvw 41 (.bool false) rfl rfl (run_pickf rfl rfl rfl) ?_
    simp only [nz1, nz2, nz3]
    refine lvw 42 (.bool false) rfl rfl (run_mv rfl rfl) ?_
    simp only [nz1, nz2, nz3]
    refine lst_skip 43 rfl rfl ?_
    simp only [nz1, nz2, nz3]
    refine lst_skip 44 rfl rfl ?_
    simp only [nz1, nz2, nz3]
    refine lst_skip 45 rfl rfl ?_
    simp only [nz1, nz2, nz3]
    refine lst_skip 46 rfl rfl ?_
    simp only [nz1, nz2, nz3]
    refine lvw 47 (.bool false) rfl rfl (run_pickf rfl rfl rfl) ?_
    simp only [nz1, nz2, nz3]
    refine lvw 48 (.bool false) rfl rfl (run_mv rfl rfl) ?_
    simp only [nz1, nz2, nz3]
    refine lst_skip 49 rfl rfl ?_
    simp only [nz1, nz2, nz3]
    refine lst_skip 50 rfl rfl ?_
    simp only [nz1, nz2, nz3]
    refine lst_skip 51 rfl rfl ?_
    simp only [nz1, nz2, nz3]
    refine lst_skip 52 rfl rfl ?_
    simp only [nz1, nz2, nz3]
    refine lst_skip 53 rfl rfl ?_
    simp only [nz1, nz2, nz3]
    refine lst_skip 54 rfl rfl ?_
    simp only [nz1, nz2, nz3]
    refine lst_skip 55 rfl rfl ?_
    simp only [nz1, nz2, nz3]
    refine lst_skip 56 rfl rfl ?_
    simp only [nz1, nz2, nz3]
    refine lst_skip 57 rfl rfl ?_
    simp only [nz1, nz2, nz3]
    refine lst_skip 58 rfl rfl ?_
    simp only [nz1, nz2, nz3]
    refine lvw 59 (.bool false) rfl rfl (run_pickf rfl rfl rfl) ?_
    simp only [nz1, nz2, nz3]
    refine lvw 60 (.bool false) rfl rfl (run_mv rfl rfl) ?_
    simp only [nz1, nz2, nz3]
    refine lst_skip 61 rfl rfl ?_
    simp only [nz1, nz2, nz3]
    refine lst_skip 62 rfl rfl ?_
    simp only [nz1, nz2, nz3]
    refine lst_skip 63 rfl rfl ?_
    simp only [nz1, nz2, nz3]
    refine lst_skip 64 rfl rfl ?_
    simp only [nz1, nz2, nz3]
    refine lst_skip 65 rfl rfl ?_
    simp only [nz1, nz2, nz3]
    refine lst_skip 66 rfl rfl ?_
    simp only [nz1, nz2, nz3]
    refine lst_skip 67 rfl rfl ?_
    simp only [nz1, nz2, nz3]
    refine lst_skip 68 rfl rfl ?_
    simp only [nz1, nz2, nz3]
    refine lst_skip 69 rfl rfl ?_
    simp only [nz1, nz2, nz3]
    refine lst_skip 70 rfl rfl ?_
    simp only [nz1, nz2, nz3]
    refine lvw 71 (.bool false) rfl rfl (run_pickf rfl rfl rfl) ?_
    simp only [nz1, nz2, nz3]
    refine lvw 72 (.bool false) rfl rfl (run_mv rfl rfl) ?_
    simp only [nz1, nz2, nz3]
    refine lst_skip 73 rfl rfl ?_
    simp only [nz1, nz2, nz3]
    refine lst_skip 74 rfl rfl ?_
    simp only [nz1, nz2, nz3]
    refine lst_skip 75 rfl rfl ?_
    simp only [nz1, nz2, nz3]
    refine lst_skip 76 rfl rfl ?_
    simp only [nz1, nz2, nz3]
    refine lst_skip 77 rfl rfl ?_
    simp only [nz1, nz2, nz3]
    refine lst_skip 78 rfl rfl ?_
    simp only [nz1, nz2, nz3]
    refine lst_skip 79 rfl rfl ?_
    simp only [nz1, nz2, nz3]
    refine lst_skip 80 rfl rfl ?_
    simp only [nz1, nz2, nz3]
    refine lst_skip 81 rfl rfl ?_
    simp only [nz1, nz2, nz3]
    refine lst_skip 82 rfl rfl ?_
    simp only [nz1, nz2, nz3]
    refine lvw 83 (.bool false) rfl rfl (run_pickf rfl rfl rfl) ?_
    simp only [nz1, nz2, nz3]
    refine lvw 6 (.bool false) rfl rfl (run_as rfl rfl) ?_
    simp only [nz1, nz2, nz3]
    refine wpList_nil ?_
    refine then_n (hK35 _ _ ?_)
    refine wp_ret ?_
    have he110 : vorders_m a b c = false := (show vorders_m a b c = false from by unfold vorders_m; rw [if_neg hs6, if_neg hs13, if_neg hc20, if_neg hs38] <;> rfl)
    exact ⟨rfl, .bool false, res_t rfl rfl, ⟨by rw [he110], hm37.below⟩⟩
  rw [(hs38 : vawake_m = true)]
  refine lvw 34 (.bool true) rfl rfl (run_mv rfl rfl) ?_
  simp only [nz1, nz2, nz3]
  refine lvw 35 (.int .i64 ((compare_m a b))) rfl rfl (run_mv rfl rfl) ?_
  simp only [nz1, nz2, nz3]
  refine lvw 36 (.string (tx b)) rfl rfl (run_mv rfl rfl) ?_
  simp only [nz1, nz2, nz3]
  refine lvw 37 (.string (tx a)) rfl rfl (run_mv rfl rfl) ?_
  simp only [nz1, nz2, nz3]
  refine lst rfl (m_call hm37 38 (.int .i64 ((compare_m b a))) rfl (run_compare rfl rfl rfl) (compare_any b a  _  ) (fun w39 (hm40 : Mm none (fun _ => True) w w39 []) => ?_))
  have hf41 : -1 ≤ (compare_m b a) ∧ (compare_m b a) ≤ 1 := compare_rng b a
  simp only [nz1, nz2, nz3]
  refine lvw 39 (.int .i64 ((-(compare_m b a)))) rfl rfl (z_neg (compare_m b a) _ (by rw [IntKind.wrap_i64]; omega) Tryd.underlying3 rfl rfl) ?_
  simp only [nz1, nz2, nz3]
  refine lvb 40 ((compare_m a b) = (-(compare_m b a))) rfl rfl (z_eql (compare_m a b) (-(compare_m b a)) rfl rfl rfl) (fun hs42 => ?_) (fun hs42 => ?_)
  rotate_left
  · simp only [nz1, nz2, nz3]
    refine lvw 41 (.bool false) rfl rfl (run_pick rfl rfl rfl) ?_
    simp only [nz1, nz2, nz3]
    refine lvw 42 (.bool false) rfl rfl (run_mv rfl rfl) ?_
    simp only [nz1, nz2, nz3]
    refine lst_skip 43 rfl rfl ?_
    simp only [nz1, nz2, nz3]
    refine lst_skip 44 rfl rfl ?_
    simp only [nz1, nz2, nz3]
    refine lst_skip 45 rfl rfl ?_
    simp only [nz1, nz2, nz3]
    refine lst_skip 46 rfl rfl ?_
    simp only [nz1, nz2, nz3]
    refine lvw 47 (.bool false) rfl rfl (run_pickf rfl rfl rfl) ?_
    simp only [nz1, nz2, nz3]
    refine lvw 48 (.bool false) rfl rfl (run_mv rfl rfl) ?_
    simp only [nz1, nz2, nz3]
    refine lst_skip 49 rfl rfl ?_
    simp only [nz1, nz2, nz3]
    refine lst_skip 50 rfl rfl ?_
    simp only [nz1, nz2, nz3]
    refine lst_skip 51 rfl rfl ?_
    simp only [nz1, nz2, nz3]
    refine lst_skip 52 rfl rfl ?_
    simp only [nz1, nz2, nz3]
    refine lst_skip 53 rfl rfl ?_
    simp only [nz1, nz2, nz3]
    refine lst_skip 54 rfl rfl ?_
    simp only [nz1, nz2, nz3]
    refine lst_skip 55 rfl rfl ?_
    simp only [nz1, nz2, nz3]
    refine lst_skip 56 rfl rfl ?_
    simp only [nz1, nz2, nz3]
    refine lst_skip 57 rfl rfl ?_
    simp only [nz1, nz2, nz3]
    refine lst_skip 58 rfl rfl ?_
    simp only [nz1, nz2, nz3]
    refine lvw 59 (.bool false) rfl rfl (run_pickf rfl rfl rfl) ?_
    simp only [nz1, nz2, nz3]
    refine lvw 60 (.bool false) rfl rfl (run_mv rfl rfl) ?_
    simp only [nz1, nz2, nz3]
    refine lst_skip 61 rfl rfl ?_
    simp only [nz1, nz2, nz3]
    refine lst_skip 62 rfl rfl ?_
    simp only [nz1, nz2, nz3]
    refine lst_skip 63 rfl rfl ?_
    simp only [nz1, nz2, nz3]
    refine lst_skip 64 rfl rfl ?_
    simp only [nz1, nz2, nz3]
    refine lst_skip 65 rfl rfl ?_
    simp only [nz1, nz2, nz3]
    refine lst_skip 66 rfl rfl ?_
    simp only [nz1, nz2, nz3]
    refine lst_skip 67 rfl rfl ?_
    simp only [nz1, nz2, nz3]
    refine lst_skip 68 rfl rfl ?_
    simp only [nz1, nz2, nz3]
    refine lst_skip 69 rfl rfl ?_
    simp only [nz1, nz2, nz3]
    refine lst_skip 70 rfl rfl ?_
    simp only [nz1, nz2, nz3]
    refine lvw 71 (.bool false) rfl rfl (run_pickf rfl rfl rfl) ?_
    simp only [nz1, nz2, nz3]
    refine lvw 72 (.bool false) rfl rfl (run_mv rfl rfl) ?_
    simp only [nz1, nz2, nz3]
    refine lst_skip 73 rfl rfl ?_
    simp only [nz1, nz2, nz3]
    refine lst_skip 74 rfl rfl ?_
    simp only [nz1, nz2, nz3]
    refine lst_skip 75 rfl rfl ?_
    simp only [nz1, nz2, nz3]
    refine lst_skip 76 rfl rfl ?_
    simp only [nz1, nz2, nz3]
    refine lst_skip 77 rfl rfl ?_
    simp only [nz1, nz2, nz3]
    refine lst_skip 78 rfl rfl ?_
    simp only [nz1, nz2, nz3]
    refine lst_skip 79 rfl rfl ?_
    simp only [nz1, nz2, nz3]
    refine lst_skip 80 rfl rfl ?_
    simp only [nz1, nz2, nz3]
    refine lst_skip 81 rfl rfl ?_
    simp only [nz1, nz2, nz3]
    refine lst_skip 82 rfl rfl ?_
    simp only [nz1, nz2, nz3]
    refine lvw 83 (.bool false) rfl rfl (run_pickf rfl rfl rfl) ?_
    simp only [nz1, nz2, nz3]
    refine lvw 6 (.bool false) rfl rfl (run_as rfl rfl) ?_
    simp only [nz1, nz2, nz3]
    refine wpList_nil ?_
    refine then_n (hK35 _ _ ?_)
    refine wp_ret ?_
    have he109 : vorders_m a b c = false := (show vorders_m a b c = false from by unfold vorders_m; rw [if_neg hs6, if_neg hs13, if_neg hc20, if_pos hs38, if_neg hs42] <;> rfl)
    exact ⟨rfl, .bool false, res_t rfl rfl, ⟨by rw [he109], hm40.below⟩⟩
  simp only [nz1, nz2, nz3]
  refine lvw 41 (.bool true) rfl rfl (run_pick rfl rfl rfl) ?_
  simp only [nz1, nz2, nz3]
  refine lvw 42 (.bool true) rfl rfl (run_mv rfl rfl) ?_
  simp only [nz1, nz2, nz3]
  refine lvw 43 (.string (tx a)) rfl rfl (run_mv rfl rfl) ?_
  simp only [nz1, nz2, nz3]
  refine lvw 44 (.string (tx a)) rfl rfl (run_mv rfl rfl) ?_
  simp only [nz1, nz2, nz3]
  refine lst rfl (m_call hm40 45 (.int .i64 ((compare_m a a))) rfl (run_compare rfl rfl rfl) (compare_any a a  _  ) (fun w43 (hm44 : Mm none (fun _ => True) w w43 []) => ?_))
  have hf45 : -1 ≤ (compare_m a a) ∧ (compare_m a a) ≤ 1 := compare_rng a a
  simp only [nz1, nz2, nz3]
  refine lvb 46 ((compare_m a a) = 0) rfl rfl (z_eql (compare_m a a) 0 rfl rfl rfl) (fun hs46 => ?_) (fun hs46 => ?_)
  rotate_left
  · simp only [nz1, nz2, nz3]
    refine lvw 47 (.bool false) rfl rfl (run_pick rfl rfl rfl) ?_
    simp only [nz1, nz2, nz3]
    refine lvw 48 (.bool false) rfl rfl (run_mv rfl rfl) ?_
    simp only [nz1, nz2, nz3]
    refine lst_skip 49 rfl rfl ?_
    simp only [nz1, nz2, nz3]
    refine lst_skip 50 rfl rfl ?_
    simp only [nz1, nz2, nz3]
    refine lst_skip 51 rfl rfl ?_
    simp only [nz1, nz2, nz3]
    refine lst_skip 52 rfl rfl ?_
    simp only [nz1, nz2, nz3]
    refine lst_skip 53 rfl rfl ?_
    simp only [nz1, nz2, nz3]
    refine lst_skip 54 rfl rfl ?_
    simp only [nz1, nz2, nz3]
    refine lst_skip 55 rfl rfl ?_
    simp only [nz1, nz2, nz3]
    refine lst_skip 56 rfl rfl ?_
    simp only [nz1, nz2, nz3]
    refine lst_skip 57 rfl rfl ?_
    simp only [nz1, nz2, nz3]
    refine lst_skip 58 rfl rfl ?_
    simp only [nz1, nz2, nz3]
    refine lvw 59 (.bool false) rfl rfl (run_pickf rfl rfl rfl) ?_
    simp only [nz1, nz2, nz3]
    refine lvw 60 (.bool false) rfl rfl (run_mv rfl rfl) ?_
    simp only [nz1, nz2, nz3]
    refine lst_skip 61 rfl rfl ?_
    simp only [nz1, nz2, nz3]
    refine lst_skip 62 rfl rfl ?_
    simp only [nz1, nz2, nz3]
    refine lst_skip 63 rfl rfl ?_
    simp only [nz1, nz2, nz3]
    refine lst_skip 64 rfl rfl ?_
    simp only [nz1, nz2, nz3]
    refine lst_skip 65 rfl rfl ?_
    simp only [nz1, nz2, nz3]
    refine lst_skip 66 rfl rfl ?_
    simp only [nz1, nz2, nz3]
    refine lst_skip 67 rfl rfl ?_
    simp only [nz1, nz2, nz3]
    refine lst_skip 68 rfl rfl ?_
    simp only [nz1, nz2, nz3]
    refine lst_skip 69 rfl rfl ?_
    simp only [nz1, nz2, nz3]
    refine lst_skip 70 rfl rfl ?_
    simp only [nz1, nz2, nz3]
    refine lvw 71 (.bool false) rfl rfl (run_pickf rfl rfl rfl) ?_
    simp only [nz1, nz2, nz3]
    refine lvw 72 (.bool false) rfl rfl (run_mv rfl rfl) ?_
    simp only [nz1, nz2, nz3]
    refine lst_skip 73 rfl rfl ?_
    simp only [nz1, nz2, nz3]
    refine lst_skip 74 rfl rfl ?_
    simp only [nz1, nz2, nz3]
    refine lst_skip 75 rfl rfl ?_
    simp only [nz1, nz2, nz3]
    refine lst_skip 76 rfl rfl ?_
    simp only [nz1, nz2, nz3]
    refine lst_skip 77 rfl rfl ?_
    simp only [nz1, nz2, nz3]
    refine lst_skip 78 rfl rfl ?_
    simp only [nz1, nz2, nz3]
    refine lst_skip 79 rfl rfl ?_
    simp only [nz1, nz2, nz3]
    refine lst_skip 80 rfl rfl ?_
    simp only [nz1, nz2, nz3]
    refine lst_skip 81 rfl rfl ?_
    simp only [nz1, nz2, nz3]
    refine lst_skip 82 rfl rfl ?_
    simp only [nz1, nz2, nz3]
    refine lvw 83 (.bool false) rfl rfl (run_pickf rfl rfl rfl) ?_
    simp only [nz1, nz2, nz3]
    refine lvw 6 (.bool false) rfl rfl (run_as rfl rfl) ?_
    simp only [nz1, nz2, nz3]
    refine wpList_nil ?_
    refine then_n (hK35 _ _ ?_)
    refine wp_ret ?_
    have he108 : vorders_m a b c = false := (show vorders_m a b c = false from by unfold vorders_m; rw [if_neg hs6, if_neg hs13, if_neg hc20, if_pos hs38, if_pos hs42, if_neg hs46] <;> rfl)
    exact ⟨rfl, .bool false, res_t rfl rfl, ⟨by rw [he108], hm44.below⟩⟩
  simp only [nz1, nz2, nz3]
  refine lvw 47 (.bool true) rfl rfl (run_pick rfl rfl rfl) ?_
  simp only [nz1, nz2, nz3]
  refine lvw 48 (.bool true) rfl rfl (run_mv rfl rfl) ?_
  simp only [nz1, nz2, nz3]
  refine lvw 49 (.int .i64 ((compare_m a b))) rfl rfl (run_mv rfl rfl) ?_
  simp only [nz1, nz2, nz3]
  refine lvb 50 (0 < (compare_m a b)) rfl rfl (z_gtr (compare_m a b) 0 rfl rfl rfl) (fun hs47 => ?_) (fun hs47 => ?_)
  · simp only [nz1, nz2, nz3]
    refine lvw 51 (.bool true) rfl rfl (run_mv rfl rfl) ?_
    simp only [nz1, nz2, nz3]
    refine lst_skip 52 rfl rfl ?_
    simp only [nz1, nz2, nz3]
    refine lst_skip 53 rfl rfl ?_
    simp only [nz1, nz2, nz3]
    refine lvw 54 (.bool true) rfl rfl (run_pick rfl rfl rfl) ?_
    simp only [nz1, nz2, nz3]
    refine lvw 55 (.bool true) rfl rfl (run_mv rfl rfl) ?_
    simp only [nz1, nz2, nz3]
    refine lst_skip 56 rfl rfl ?_
    simp only [nz1, nz2, nz3]
    refine lst_skip 57 rfl rfl ?_
    simp only [nz1, nz2, nz3]
    refine lvw 58 (.bool true) rfl rfl (run_pick rfl rfl rfl) ?_
    simp only [nz1, nz2, nz3]
    refine lvw 59 (.bool true) rfl rfl (run_pick rfl rfl rfl) ?_
    simp only [nz1, nz2, nz3]
    refine lvw 60 (.bool true) rfl rfl (run_mv rfl rfl) ?_
    simp only [nz1, nz2, nz3]
    refine lvw 61 (.int .i64 ((compare_m a b))) rfl rfl (run_mv rfl rfl) ?_
    simp only [nz1, nz2, nz3]
    refine lvb 62 (¬ (compare_m a b) = 0) rfl rfl (z_neq (compare_m a b) 0 rfl rfl rfl) (fun hs48 => ?_) (fun hs48 => ?_)
    · simp only [nz1, nz2, nz3]
      refine lvw 63 (.bool true) rfl rfl (run_mv rfl rfl) ?_
      simp only [nz1, nz2, nz3]
      refine lst_skip 64 rfl rfl ?_
      simp only [nz1, nz2, nz3]
      refine lst_skip 65 rfl rfl ?_
      simp only [nz1, nz2, nz3]
      refine lvw 66 (.bool true) rfl rfl (run_pick rfl rfl rfl) ?_
      simp only [nz1, nz2, nz3]
      refine lvw 67 (.bool true) rfl rfl (run_mv rfl rfl) ?_
      simp only [nz1, nz2, nz3]
      refine lst_skip 68 rfl rfl ?_
      simp only [nz1, nz2, nz3]
      refine lst_skip 69 rfl rfl ?_
      simp only [nz1, nz2, nz3]
      refine lvw 70 (.bool true) rfl rfl (run_pick rfl rfl rfl) ?_
      simp only [nz1, nz2, nz3]
      refine lvw 71 (.bool true) rfl rfl (run_pick rfl rfl rfl) ?_
      simp only [nz1, nz2, nz3]
      refine lvw 72 (.bool true) rfl rfl (run_mv rfl rfl) ?_
      simp only [nz1, nz2, nz3]
      refine lvw 73 (.int .i64 ((compare_m a b))) rfl rfl (run_mv rfl rfl) ?_
      simp only [nz1, nz2, nz3]
      refine lvb 74 (0 ≤ (compare_m a b)) rfl rfl (z_geq (compare_m a b) 0 rfl rfl rfl) (fun hs49 => ?_) (fun hs49 => ?_)
      · simp only [nz1, nz2, nz3]
        refine lvw 75 (.bool true) rfl rfl (run_mv rfl rfl) ?_
        simp only [nz1, nz2, nz3]
        refine lst_skip 76 rfl rfl ?_
        simp only [nz1, nz2, nz3]
        refine lst_skip 77 rfl rfl ?_
        simp only [nz1, nz2, nz3]
        refine lvw 78 (.bool true) rfl rfl (run_pick rfl rfl rfl) ?_
        simp only [nz1, nz2, nz3]
        refine lvw 79 (.bool true) rfl rfl (run_mv rfl rfl) ?_
        simp only [nz1, nz2, nz3]
        refine lst_skip 80 rfl rfl ?_
        simp only [nz1, nz2, nz3]
        refine lst_skip 81 rfl rfl ?_
        simp only [nz1, nz2, nz3]
        refine lvw 82 (.bool true) rfl rfl (run_pick rfl rfl rfl) ?_
        simp only [nz1, nz2, nz3]
        refine lvw 83 (.bool true) rfl rfl (run_pick rfl rfl rfl) ?_
        simp only [nz1, nz2, nz3]
        refine lvw 6 (.bool true) rfl rfl (run_as rfl rfl) ?_
        simp only [nz1, nz2, nz3]
        refine wpList_nil ?_
        refine then_n (hK35 _ _ ?_)
        refine wp_ret ?_
        have he50 : vorders_m a b c = true := (show vorders_m a b c = true from by unfold vorders_m; rw [if_neg hs6, if_neg hs13, if_neg hc20, if_pos hs38, if_pos hs42, if_pos hs46, if_pos hs47, if_pos hs48, if_pos hs49] <;> rfl)
        exact ⟨rfl, .bool true, res_t rfl rfl, ⟨by rw [he50], hm44.below⟩⟩
      simp only [nz1, nz2, nz3]
      refine lvw 75 (.bool false) rfl rfl (run_mv rfl rfl) ?_
      simp only [nz1, nz2, nz3]
      refine lvw 76 (.int .i64 ((compare_m b c))) rfl rfl (run_mv rfl rfl) ?_
      simp only [nz1, nz2, nz3]
      refine lvb 77 (0 < (compare_m b c)) rfl rfl (z_gtr (compare_m b c) 0 rfl rfl rfl) (fun hs51 => ?_) (fun hs51 => ?_)
      · simp only [nz1, nz2, nz3]
        refine lvw 78 (.bool true) rfl rfl (run_pickf rfl rfl rfl) ?_
        simp only [nz1, nz2, nz3]
        refine lvw 79 (.bool true) rfl rfl (run_mv rfl rfl) ?_
        simp only [nz1, nz2, nz3]
        refine lst_skip 80 rfl rfl ?_
        simp only [nz1, nz2, nz3]
        refine lst_skip 81 rfl rfl ?_
        simp only [nz1, nz2, nz3]
        refine lvw 82 (.bool true) rfl rfl (run_pick rfl rfl rfl) ?_
        simp only [nz1, nz2, nz3]
        refine lvw 83 (.bool true) rfl rfl (run_pick rfl rfl rfl) ?_
        simp only [nz1, nz2, nz3]
        refine lvw 6 (.bool true) rfl rfl (run_as rfl rfl) ?_
        simp only [nz1, nz2, nz3]
        refine wpList_nil ?_
        refine then_n (hK35 _ _ ?_)
        refine wp_ret ?_
        have he52 : vorders_m a b c = true := (show vorders_m a b c = true from by unfold vorders_m; rw [if_neg hs6, if_neg hs13, if_neg hc20, if_pos hs38, if_pos hs42, if_pos hs46, if_pos hs47, if_pos hs48, if_neg hs49, if_pos hs51] <;> rfl)
        exact ⟨rfl, .bool true, res_t rfl rfl, ⟨by rw [he52], hm44.below⟩⟩
      simp only [nz1, nz2, nz3]
      refine lvw 78 (.bool false) rfl rfl (run_pickf rfl rfl rfl) ?_
      simp only [nz1, nz2, nz3]
      refine lvw 79 (.bool false) rfl rfl (run_mv rfl rfl) ?_
      simp only [nz1, nz2, nz3]
      refine lvw 80 (.int .i64 ((compare_m a c))) rfl rfl (run_mv rfl rfl) ?_
      simp only [nz1, nz2, nz3]
      refine lvw 81 (.bool (decide ((compare_m a c) < 0))) rfl rfl (z_lss (compare_m a c) 0 rfl rfl rfl) ?_
      simp only [nz1, nz2, nz3]
      refine lvw 82 (.bool (decide ((compare_m a c) < 0))) rfl rfl (run_pickf rfl rfl rfl) ?_
      simp only [nz1, nz2, nz3]
      refine lvw 83 (.bool (decide ((compare_m a c) < 0))) rfl rfl (run_pick rfl rfl rfl) ?_
      simp only [nz1, nz2, nz3]
      refine lvw 6 (.bool (decide ((compare_m a c) < 0))) rfl rfl (run_as rfl rfl) ?_
      simp only [nz1, nz2, nz3]
      refine wpList_nil ?_
      refine then_n (hK35 _ _ ?_)
      refine wp_ret ?_
      have he53 : vorders_m a b c = (decide ((compare_m a c) < 0)) := (show vorders_m a b c = (decide ((compare_m a c) < 0)) from by unfold vorders_m; rw [if_neg hs6, if_neg hs13, if_neg hc20, if_pos hs38, if_pos hs42, if_pos hs46, if_pos hs47, if_pos hs48, if_neg hs49, if_neg hs51] <;> rfl)
      exact ⟨rfl, .bool (decide ((compare_m a c) < 0)), res_t rfl rfl, ⟨by rw [he53], hm44.below⟩⟩
    simp only [nz1, nz2, nz3]
    refine lvw 63 (.bool false) rfl rfl (run_mv rfl rfl) ?_
    simp only [nz1, nz2, nz3]
    refine lvw 64 (.int .i64 ((compare_m b c))) rfl rfl (run_mv rfl rfl) ?_
    simp only [nz1, nz2, nz3]
    refine lvb 65 (¬ (compare_m b c) = 0) rfl rfl (z_neq (compare_m b c) 0 rfl rfl rfl) (fun hs54 => ?_) (fun hs54 => ?_)
    · simp only [nz1, nz2, nz3]
      refine lvw 66 (.bool true) rfl rfl (run_pickf rfl rfl rfl) ?_
      simp only [nz1, nz2, nz3]
      refine lvw 67 (.bool true) rfl rfl (run_mv rfl rfl) ?_
      simp only [nz1, nz2, nz3]
      refine lst_skip 68 rfl rfl ?_
      simp only [nz1, nz2, nz3]
      refine lst_skip 69 rfl rfl ?_
      simp only [nz1, nz2, nz3]
      refine lvw 70 (.bool true) rfl rfl (run_pick rfl rfl rfl) ?_
      simp only [nz1, nz2, nz3]
      refine lvw 71 (.bool true) rfl rfl (run_pick rfl rfl rfl) ?_
      simp only [nz1, nz2, nz3]
      refine lvw 72 (.bool true) rfl rfl (run_mv rfl rfl) ?_
      simp only [nz1, nz2, nz3]
      refine lvw 73 (.int .i64 ((compare_m a b))) rfl rfl (run_mv rfl rfl) ?_
      simp only [nz1, nz2, nz3]
      refine lvb 74 (0 ≤ (compare_m a b)) rfl rfl (z_geq (compare_m a b) 0 rfl rfl rfl) (fun hs55 => ?_) (fun hs55 => ?_)
      · simp only [nz1, nz2, nz3]
        refine lvw 75 (.bool true) rfl rfl (run_mv rfl rfl) ?_
        simp only [nz1, nz2, nz3]
        refine lst_skip 76 rfl rfl ?_
        simp only [nz1, nz2, nz3]
        refine lst_skip 77 rfl rfl ?_
        simp only [nz1, nz2, nz3]
        refine lvw 78 (.bool true) rfl rfl (run_pick rfl rfl rfl) ?_
        simp only [nz1, nz2, nz3]
        refine lvw 79 (.bool true) rfl rfl (run_mv rfl rfl) ?_
        simp only [nz1, nz2, nz3]
        refine lst_skip 80 rfl rfl ?_
        simp only [nz1, nz2, nz3]
        refine lst_skip 81 rfl rfl ?_
        simp only [nz1, nz2, nz3]
        refine lvw 82 (.bool true) rfl rfl (run_pick rfl rfl rfl) ?_
        simp only [nz1, nz2, nz3]
        refine lvw 83 (.bool true) rfl rfl (run_pick rfl rfl rfl) ?_
        simp only [nz1, nz2, nz3]
        refine lvw 6 (.bool true) rfl rfl (run_as rfl rfl) ?_
        simp only [nz1, nz2, nz3]
        refine wpList_nil ?_
        refine then_n (hK35 _ _ ?_)
        refine wp_ret ?_
        have he56 : vorders_m a b c = true := (show vorders_m a b c = true from by unfold vorders_m; rw [if_neg hs6, if_neg hs13, if_neg hc20, if_pos hs38, if_pos hs42, if_pos hs46, if_pos hs47, if_neg hs48, if_pos hs54, if_pos hs55] <;> rfl)
        exact ⟨rfl, .bool true, res_t rfl rfl, ⟨by rw [he56], hm44.below⟩⟩
      simp only [nz1, nz2, nz3]
      refine lvw 75 (.bool false) rfl rfl (run_mv rfl rfl) ?_
      simp only [nz1, nz2, nz3]
      refine lvw 76 (.int .i64 ((compare_m b c))) rfl rfl (run_mv rfl rfl) ?_
      simp only [nz1, nz2, nz3]
      refine lvb 77 (0 < (compare_m b c)) rfl rfl (z_gtr (compare_m b c) 0 rfl rfl rfl) (fun hs57 => ?_) (fun hs57 => ?_)
      · simp only [nz1, nz2, nz3]
        refine lvw 78 (.bool true) rfl rfl (run_pickf rfl rfl rfl) ?_
        simp only [nz1, nz2, nz3]
        refine lvw 79 (.bool true) rfl rfl (run_mv rfl rfl) ?_
        simp only [nz1, nz2, nz3]
        refine lst_skip 80 rfl rfl ?_
        simp only [nz1, nz2, nz3]
        refine lst_skip 81 rfl rfl ?_
        simp only [nz1, nz2, nz3]
        refine lvw 82 (.bool true) rfl rfl (run_pick rfl rfl rfl) ?_
        simp only [nz1, nz2, nz3]
        refine lvw 83 (.bool true) rfl rfl (run_pick rfl rfl rfl) ?_
        simp only [nz1, nz2, nz3]
        refine lvw 6 (.bool true) rfl rfl (run_as rfl rfl) ?_
        simp only [nz1, nz2, nz3]
        refine wpList_nil ?_
        refine then_n (hK35 _ _ ?_)
        refine wp_ret ?_
        have he58 : vorders_m a b c = true := (show vorders_m a b c = true from by unfold vorders_m; rw [if_neg hs6, if_neg hs13, if_neg hc20, if_pos hs38, if_pos hs42, if_pos hs46, if_pos hs47, if_neg hs48, if_pos hs54, if_neg hs55, if_pos hs57] <;> rfl)
        exact ⟨rfl, .bool true, res_t rfl rfl, ⟨by rw [he58], hm44.below⟩⟩
      simp only [nz1, nz2, nz3]
      refine lvw 78 (.bool false) rfl rfl (run_pickf rfl rfl rfl) ?_
      simp only [nz1, nz2, nz3]
      refine lvw 79 (.bool false) rfl rfl (run_mv rfl rfl) ?_
      simp only [nz1, nz2, nz3]
      refine lvw 80 (.int .i64 ((compare_m a c))) rfl rfl (run_mv rfl rfl) ?_
      simp only [nz1, nz2, nz3]
      refine lvw 81 (.bool (decide ((compare_m a c) < 0))) rfl rfl (z_lss (compare_m a c) 0 rfl rfl rfl) ?_
      simp only [nz1, nz2, nz3]
      refine lvw 82 (.bool (decide ((compare_m a c) < 0))) rfl rfl (run_pickf rfl rfl rfl) ?_
      simp only [nz1, nz2, nz3]
      refine lvw 83 (.bool (decide ((compare_m a c) < 0))) rfl rfl (run_pick rfl rfl rfl) ?_
      simp only [nz1, nz2, nz3]
      refine lvw 6 (.bool (decide ((compare_m a c) < 0))) rfl rfl (run_as rfl rfl) ?_
      simp only [nz1, nz2, nz3]
      refine wpList_nil ?_
      refine then_n (hK35 _ _ ?_)
      refine wp_ret ?_
      have he59 : vorders_m a b c = (decide ((compare_m a c) < 0)) := (show vorders_m a b c = (decide ((compare_m a c) < 0)) from by unfold vorders_m; rw [if_neg hs6, if_neg hs13, if_neg hc20, if_pos hs38, if_pos hs42, if_pos hs46, if_pos hs47, if_neg hs48, if_pos hs54, if_neg hs55, if_neg hs57] <;> rfl)
      exact ⟨rfl, .bool (decide ((compare_m a c) < 0)), res_t rfl rfl, ⟨by rw [he59], hm44.below⟩⟩
    simp only [nz1, nz2, nz3]
    refine lvw 66 (.bool false) rfl rfl (run_pickf rfl rfl rfl) ?_
    simp only [nz1, nz2, nz3]
    refine lvw 67 (.bool false) rfl rfl (run_mv rfl rfl) ?_
    simp only [nz1, nz2, nz3]
    refine lvw 68 (.int .i64 ((compare_m a c))) rfl rfl (run_mv rfl rfl) ?_
    simp only [nz1, nz2, nz3]
    refine lvb 69 ((compare_m a c) = 0) rfl rfl (z_eql (compare_m a c) 0 rfl rfl rfl) (fun hs60 => ?_) (fun hs60 => ?_)
    rotate_left
    · simp only [nz1, nz2, nz3]
      refine lvw 70 (.bool false) rfl rfl (run_pickf rfl rfl rfl) ?_
      simp only [nz1, nz2, nz3]
      refine lvw 71 (.bool false) rfl rfl (run_pick rfl rfl rfl) ?_
      simp only [nz1, nz2, nz3]
      refine lvw 72 (.bool false) rfl rfl (run_mv rfl rfl) ?_
      simp only [nz1, nz2, nz3]
      refine lst_skip 73 rfl rfl ?_
      simp only [nz1, nz2, nz3]
      refine lst_skip 74 rfl rfl ?_
      simp only [nz1, nz2, nz3]
      refine lst_skip 75 rfl rfl ?_
      simp only [nz1, nz2, nz3]
      refine lst_skip 76 rfl rfl ?_
      simp only [nz1, nz2, nz3]
      refine lst_skip 77 rfl rfl ?_
      simp only [nz1, nz2, nz3]
      refine lst_skip 78 rfl rfl ?_
      simp only [nz1, nz2, nz3]
      refine lst_skip 79 rfl rfl ?_
      simp only [nz1, nz2, nz3]
      refine lst_skip 80 rfl rfl ?_
      simp only [nz1, nz2, nz3]
      refine lst_skip 81 rfl rfl ?_
      simp only [nz1, nz2, nz3]
      refine lst_skip 82 rfl rfl ?_
      simp only [nz1, nz2, nz3]
      refine lvw 83 (.bool false) rfl rfl (run_pickf rfl rfl rfl) ?_
      simp only [nz1, nz2, nz3]
      refine lvw 6 (.bool false) rfl rfl (run_as rfl rfl) ?_
      simp only [nz1, nz2, nz3]
      refine wpList_nil ?_
      refine then_n (hK35 _ _ ?_)
      refine wp_ret ?_
      have he66 : vorders_m a b c = false := (show vorders_m a b c = false from by unfold vorders_m; rw [if_neg hs6, if_neg hs13, if_neg hc20, if_pos hs38, if_pos hs42, if_pos hs46, if_pos hs47, if_neg hs48, if_neg hs54, if_neg hs60] <;> rfl)
      exact ⟨rfl, .bool false, res_t rfl rfl, ⟨by rw [he66], hm44.below⟩⟩
    simp only [nz1, nz2, nz3]
    refine lvw 70 (.bool true) rfl rfl (run_pickf rfl rfl rfl) ?_
    simp only [nz1, nz2, nz3]
    refine lvw 71 (.bool true) rfl rfl (run_pick rfl rfl rfl) ?_
    simp only [nz1, nz2, nz3]
    refine lvw 72 (.bool true) rfl rfl (run_mv rfl rfl) ?_
    simp only [nz1, nz2, nz3]
    refine lvw 73 (.int .i64 ((compare_m a b))) rfl rfl (run_mv rfl rfl) ?_
    simp only [nz1, nz2, nz3]
    refine lvb 74 (0 ≤ (compare_m a b)) rfl rfl (z_geq (compare_m a b) 0 rfl rfl rfl) (fun hs61 => ?_) (fun hs61 => ?_)
    · simp only [nz1, nz2, nz3]
      refine lvw 75 (.bool true) rfl rfl (run_mv rfl rfl) ?_
      simp only [nz1, nz2, nz3]
      refine lst_skip 76 rfl rfl ?_
      simp only [nz1, nz2, nz3]
      refine lst_skip 77 rfl rfl ?_
      simp only [nz1, nz2, nz3]
      refine lvw 78 (.bool true) rfl rfl (run_pick rfl rfl rfl) ?_
      simp only [nz1, nz2, nz3]
      refine lvw 79 (.bool true) rfl rfl (run_mv rfl rfl) ?_
      simp only [nz1, nz2, nz3]
      refine lst_skip 80 rfl rfl ?_
      simp only [nz1, nz2, nz3]
      refine lst_skip 81 rfl rfl ?_
      simp only [nz1, nz2, nz3]
      refine lvw 82 (.bool true) rfl rfl (run_pick rfl rfl rfl) ?_
      simp only [nz1, nz2, nz3]
      refine lvw 83 (.bool true) rfl rfl (run_pick rfl rfl rfl) ?_
      simp only [nz1, nz2, nz3]
      refine lvw 6 (.bool true) rfl rfl (run_as rfl rfl) ?_
      simp only [nz1, nz2, nz3]
      refine wpList_nil ?_
      refine then_n (hK35 _ _ ?_)
      refine wp_ret ?_
      have he62 : vorders_m a b c = true := (show vorders_m a b c = true from by unfold vorders_m; rw [if_neg hs6, if_neg hs13, if_neg hc20, if_pos hs38, if_pos hs42, if_pos hs46, if_pos hs47, if_neg hs48, if_neg hs54, if_pos hs60, if_pos hs61] <;> rfl)
      exact ⟨rfl, .bool true, res_t rfl rfl, ⟨by rw [he62], hm44.below⟩⟩
    simp only [nz1, nz2, nz3]
    refine lvw 75 (.bool false) rfl rfl (run_mv rfl rfl) ?_
    simp only [nz1, nz2, nz3]
    refine lvw 76 (.int .i64 ((compare_m b c))) rfl rfl (run_mv rfl rfl) ?_
    simp only [nz1, nz2, nz3]
    refine lvb 77 (0 < (compare_m b c)) rfl rfl (z_gtr (compare_m b c) 0 rfl rfl rfl) (fun hs63 => ?_) (fun hs63 => ?_)
    · simp only [nz1, nz2, nz3]
      refine lvw 78 (.bool true) rfl rfl (run_pickf rfl rfl rfl) ?_
      simp only [nz1, nz2, nz3]
      refine lvw 79 (.bool true) rfl rfl (run_mv rfl rfl) ?_
      simp only [nz1, nz2, nz3]
      refine lst_skip 80 rfl rfl ?_
      simp only [nz1, nz2, nz3]
      refine lst_skip 81 rfl rfl ?_
      simp only [nz1, nz2, nz3]
      refine lvw 82 (.bool true) rfl rfl (run_pick rfl rfl rfl) ?_
      simp only [nz1, nz2, nz3]
      refine lvw 83 (.bool true) rfl rfl (run_pick rfl rfl rfl) ?_
      simp only [nz1, nz2, nz3]
      refine lvw 6 (.bool true) rfl rfl (run_as rfl rfl) ?_
      simp only [nz1, nz2, nz3]
      refine wpList_nil ?_
      refine then_n (hK35 _ _ ?_)
      refine wp_ret ?_
      have he64 : vorders_m a b c = true := (show vorders_m a b c = true from by unfold vorders_m; rw [if_neg hs6, if_neg hs13, if_neg hc20, if_pos hs38, if_pos hs42, if_pos hs46, if_pos hs47, if_neg hs48, if_neg hs54, if_pos hs60, if_neg hs61, if_pos hs63] <;> rfl)
      exact ⟨rfl, .bool true, res_t rfl rfl, ⟨by rw [he64], hm44.below⟩⟩
    simp only [nz1, nz2, nz3]
    refine lvw 78 (.bool false) rfl rfl (run_pickf rfl rfl rfl) ?_
    simp only [nz1, nz2, nz3]
    refine lvw 79 (.bool false) rfl rfl (run_mv rfl rfl) ?_
    simp only [nz1, nz2, nz3]
    refine lvw 80 (.int .i64 ((compare_m a c))) rfl rfl (run_mv rfl rfl) ?_
    simp only [nz1, nz2, nz3]
    refine lvw 81 (.bool (decide ((compare_m a c) < 0))) rfl rfl (z_lss (compare_m a c) 0 rfl rfl rfl) ?_
    simp only [nz1, nz2, nz3]
    refine lvw 82 (.bool (decide ((compare_m a c) < 0))) rfl rfl (run_pickf rfl rfl rfl) ?_
    simp only [nz1, nz2, nz3]
    refine lvw 83 (.bool (decide ((compare_m a c) < 0))) rfl rfl (run_pick rfl rfl rfl) ?_
    simp only [nz1, nz2, nz3]
    refine lvw 6 (.bool (decide ((compare_m a c) < 0))) rfl rfl (run_as rfl rfl) ?_
    simp only [nz1, nz2, nz3]
    refine wpList_nil ?_
    refine then_n (hK35 _ _ ?_)
    refine wp_ret ?_
    have he65 : vorders_m a b c = (decide ((compare_m a c) < 0)) := (show vorders_m a b c = (decide ((compare_m a c) < 0)) from by unfold vorders_m; rw [if_neg hs6, if_neg hs13, if_neg hc20, if_pos hs38, if_pos hs42, if_pos hs46, if_pos hs47, if_neg hs48, if_neg hs54, if_pos hs60, if_neg hs61, if_neg hs63] <;> rfl)
    exact ⟨rfl, .bool (decide ((compare_m a c) < 0)), res_t rfl rfl, ⟨by rw [he65], hm44.below⟩⟩
  simp only [nz1, nz2, nz3]
  refine lvw 51 (.bool false) rfl rfl (run_mv rfl rfl) ?_
  simp only [nz1, nz2, nz3]
  refine lvw 52 (.int .i64 ((compare_m b c))) rfl rfl (run_mv rfl rfl) ?_
  simp only [nz1, nz2, nz3]
  refine lvb 53 (0 < (compare_m b c)) rfl rfl (z_gtr (compare_m b c) 0 rfl rfl rfl) (fun hs67 => ?_) (fun hs67 => ?_)
  · simp only [nz1, nz2, nz3]
    refine lvw 54 (.bool true) rfl rfl (run_pickf rfl rfl rfl) ?_
    simp only [nz1, nz2, nz3]
    refine lvw 55 (.bool true) rfl rfl (run_mv rfl rfl) ?_
    simp only [nz1, nz2, nz3]
    refine lst_skip 56 rfl rfl ?_
    simp only [nz1, nz2, nz3]
    refine lst_skip 57 rfl rfl ?_
    simp only [nz1, nz2, nz3]
    refine lvw 58 (.bool true) rfl rfl (run_pick rfl rfl rfl) ?_
    simp only [nz1, nz2, nz3]
    refine lvw 59 (.bool true) rfl rfl (run_pick rfl rfl rfl) ?_
    simp only [nz1, nz2, nz3]
    refine lvw 60 (.bool true) rfl rfl (run_mv rfl rfl) ?_
    simp only [nz1, nz2, nz3]
    refine lvw 61 (.int .i64 ((compare_m a b))) rfl rfl (run_mv rfl rfl) ?_
    simp only [nz1, nz2, nz3]
    refine lvb 62 (¬ (compare_m a b) = 0) rfl rfl (z_neq (compare_m a b) 0 rfl rfl rfl) (fun hs68 => ?_) (fun hs68 => ?_)
    · simp only [nz1, nz2, nz3]
      refine lvw 63 (.bool true) rfl rfl (run_mv rfl rfl) ?_
      simp only [nz1, nz2, nz3]
      refine lst_skip 64 rfl rfl ?_
      simp only [nz1, nz2, nz3]
      refine lst_skip 65 rfl rfl ?_
      simp only [nz1, nz2, nz3]
      refine lvw 66 (.bool true) rfl rfl (run_pick rfl rfl rfl) ?_
      simp only [nz1, nz2, nz3]
      refine lvw 67 (.bool true) rfl rfl (run_mv rfl rfl) ?_
      simp only [nz1, nz2, nz3]
      refine lst_skip 68 rfl rfl ?_
      simp only [nz1, nz2, nz3]
      refine lst_skip 69 rfl rfl ?_
      simp only [nz1, nz2, nz3]
      refine lvw 70 (.bool true) rfl rfl (run_pick rfl rfl rfl) ?_
      simp only [nz1, nz2, nz3]
      refine lvw 71 (.bool true) rfl rfl (run_pick rfl rfl rfl) ?_
      simp only [nz1, nz2, nz3]
      refine lvw 72 (.bool true) rfl rfl (run_mv rfl rfl) ?_
      simp only [nz1, nz2, nz3]
      refine lvw 73 (.int .i64 ((compare_m a b))) rfl rfl (run_mv rfl rfl) ?_
      simp only [nz1, nz2, nz3]
      refine lvb 74 (0 ≤ (compare_m a b)) rfl rfl (z_geq (compare_m a b) 0 rfl rfl rfl) (fun hs69 => ?_) (fun hs69 => ?_)
      · simp only [nz1, nz2, nz3]
        refine lvw 75 (.bool true) rfl rfl (run_mv rfl rfl) ?_
        simp only [nz1, nz2, nz3]
        refine lst_skip 76 rfl rfl ?_
        simp only [nz1, nz2, nz3]
        refine lst_skip 77 rfl rfl ?_
        simp only [nz1, nz2, nz3]
        refine lvw 78 (.bool true) rfl rfl (run_pick rfl rfl rfl) ?_
        simp only [nz1, nz2, nz3]
        refine lvw 79 (.bool true) rfl rfl (run_mv rfl rfl) ?_
        simp only [nz1, nz2, nz3]
        refine lst_skip 80 rfl rfl ?_
        simp only [nz1, nz2, nz3]
        refine lst_skip 81 rfl rfl ?_
        simp only [nz1, nz2, nz3]
        refine lvw 82 (.bool true) rfl rfl (run_pick rfl rfl rfl) ?_
        simp only [nz1, nz2, nz3]
        refine lvw 83 (.bool true) rfl rfl (run_pick rfl rfl rfl) ?_
        simp only [nz1, nz2, nz3]
        refine lvw 6 (.bool true) rfl rfl (run_as rfl rfl) ?_
        simp only [nz1, nz2, nz3]
        refine wpList_nil ?_
        refine then_n (hK35 _ _ ?_)
        refine wp_ret ?_
        have he70 : vorders_m a b c = true := (show vorders_m a b c = true from by unfold vorders_m; rw [if_neg hs6, if_neg hs13, if_neg hc20, if_pos hs38, if_pos hs42, if_pos hs46, if_neg hs47, if_pos hs67, if_pos hs68, if_pos hs69] <;> rfl)
        exact ⟨rfl, .bool true, res_t rfl rfl, ⟨by rw [he70], hm44.below⟩⟩
      simp only [nz1, nz2, nz3]
      refine lvw 75 (.bool false) rfl rfl (run_mv rfl rfl) ?_
      simp only [nz1, nz2, nz3]
      refine lvw 76 (.int .i64 ((compare_m b c))) rfl rfl (run_mv rfl rfl) ?_
      simp only [nz1, nz2, nz3]
      refine lvb 77 (0 < (compare_m b c)) rfl rfl (z_gtr (compare_m b c) 0 rfl rfl rfl) (fun hs71 => ?_) (fun hs71 => ?_)
      · simp only [nz1, nz2, nz3]
        refine lvw 78 (.bool true) rfl rfl (run_pickf rfl rfl rfl) ?_
        simp only [nz1, nz2, nz3]
        refine lvw 79 (.bool true) rfl rfl (run_mv rfl rfl) ?_
        simp only [nz1, nz2, nz3]
        refine lst_skip 80 rfl rfl ?_
        simp only [nz1, nz2, nz3]
        refine lst_skip 81 rfl rfl ?_
        simp only [nz1, nz2, nz3]
        refine lvw 82 (.bool true) rfl rfl (run_pick rfl rfl rfl) ?_
        simp only [nz1, nz2, nz3]
        refine lvw 83 (.bool true) rfl rfl (run_pick rfl rfl rfl) ?_
        simp only [nz1, nz2, nz3]
        refine lvw 6 (.bool true) rfl rfl (run_as rfl rfl) ?_
        simp only [nz1, nz2, nz3]
        refine wpList_nil ?_
        refine then_n (hK35 _ _ ?_)
        refine wp_ret ?_
        have he72 : vorders_m a b c = true := (show vorders_m a b c = true from by unfold vorders_m; rw [if_neg hs6, if_neg hs13, if_neg hc20, if_pos hs38, if_pos hs42, if_pos hs46, if_neg hs47, if_pos hs67, if_pos hs68, if_neg hs69, if_pos hs71] <;> rfl)
        exact ⟨rfl, .bool true, res_t rfl rfl, ⟨by rw [he72], hm44.below⟩⟩
      simp only [nz1, nz2, nz3]
      refine lvw 78 (.bool false) rfl rfl (run_pickf rfl rfl rfl) ?_
      simp only [nz1, nz2, nz3]
      refine lvw 79 (.bool false) rfl rfl (run_mv rfl rfl) ?_
      simp only [nz1, nz2, nz3]
      refine lvw 80 (.int .i64 ((compare_m a c))) rfl rfl (run_mv rfl rfl) ?_
      simp only [nz1, nz2, nz3]
      refine lvw 81 (.bool (decide ((compare_m a c) < 0))) rfl rfl (z_lss (compare_m a c) 0 rfl rfl rfl) ?_
      simp only [nz1, nz2, nz3]
      refine lvw 82 (.bool (decide ((compare_m a c) < 0))) rfl rfl (run_pickf rfl rfl rfl) ?_
      simp only [nz1, nz2, nz3]
      refine lvw 83 (.bool (decide ((compare_m a c) < 0))) rfl rfl (run_pick rfl rfl rfl) ?_
      simp only [nz1, nz2, nz3]
      refine lvw 6 (.bool (decide ((compare_m a c) < 0))) rfl rfl (run_as rfl rfl) ?_
      simp only [nz1, nz2, nz3]
      refine wpList_nil ?_
      refine then_n (hK35 _ _ ?_)
      refine wp_ret ?_
      have he73 : vorders_m a b c = (decide ((compare_m a c) < 0)) := (show vorders_m a b c = (decide ((compare_m a c) < 0)) from by unfold vorders_m; rw [if_neg hs6, if_neg hs13, if_neg hc20, if_pos hs38, if_pos hs42, if_pos hs46, if_neg hs47, if_pos hs67, if_pos hs68, if_neg hs69, if_neg hs71] <;> rfl)
      exact ⟨rfl, .bool (decide ((compare_m a c) < 0)), res_t rfl rfl, ⟨by rw [he73], hm44.below⟩⟩
    simp only [nz1, nz2, nz3]
    refine lvw 63 (.bool false) rfl rfl (run_mv rfl rfl) ?_
    simp only [nz1, nz2, nz3]
    refine lvw 64 (.int .i64 ((compare_m b c))) rfl rfl (run_mv rfl rfl) ?_
    simp only [nz1, nz2, nz3]
    refine lvb 65 (¬ (compare_m b c) = 0) rfl rfl (z_neq (compare_m b c) 0 rfl rfl rfl) (fun hs74 => ?_) (fun hs74 => ?_)
    · simp only [nz1, nz2, nz3]
      refine lvw 66 (.bool true) rfl rfl (run_pickf rfl rfl rfl) ?_
      simp only [nz1, nz2, nz3]
      refine lvw 67 (.bool true) rfl rfl (run_mv rfl rfl) ?_
      simp only [nz1, nz2, nz3]
      refine lst_skip 68 rfl rfl ?_
      simp only [nz1, nz2, nz3]
      refine lst_skip 69 rfl rfl ?_
      simp only [nz1, nz2, nz3]
      refine lvw 70 (.bool true) rfl rfl (run_pick rfl rfl rfl) ?_
      simp only [nz1, nz2, nz3]
      refine lvw 71 (.bool true) rfl rfl (run_pick rfl rfl rfl) ?_
      simp only [nz1, nz2, nz3]
      refine lvw 72 (.bool true) rfl rfl (run_mv rfl rfl) ?_
      simp only [nz1, nz2, nz3]
      refine lvw 73 (.int .i64 ((compare_m a b))) rfl rfl (run_mv rfl rfl) ?_
      simp only [nz1, nz2, nz3]
      refine lvb 74 (0 ≤ (compare_m a b)) rfl rfl (z_geq (compare_m a b) 0 rfl rfl rfl) (fun hs75 => ?_) (fun hs75 => ?_)
      · simp only [nz1, nz2, nz3]
        refine lvw 75 (.bool true) rfl rfl (run_mv rfl rfl) ?_
        simp only [nz1, nz2, nz3]
        refine lst_skip 76 rfl rfl ?_
        simp only [nz1, nz2, nz3]
        refine lst_skip 77 rfl rfl ?_
        simp only [nz1, nz2, nz3]
        refine lvw 78 (.bool true) rfl rfl (run_pick rfl rfl rfl) ?_
        simp only [nz1, nz2, nz3]
        refine lvw 79 (.bool true) rfl rfl (run_mv rfl rfl) ?_
        simp only [nz1, nz2, nz3]
        refine lst_skip 80 rfl rfl ?_
        simp only [nz1, nz2, nz3]
        refine lst_skip 81 rfl rfl ?_
        simp only [nz1, nz2, nz3]
        refine lvw 82 (.bool true) rfl rfl (run_pick rfl rfl rfl) ?_
        simp only [nz1, nz2, nz3]
        refine lvw 83 (.bool true) rfl rfl (run_pick rfl rfl rfl) ?_
        simp only [nz1, nz2, nz3]
        refine lvw 6 (.bool true) rfl rfl (run_as rfl rfl) ?_
        simp only [nz1, nz2, nz3]
        refine wpList_nil ?_
        refine then_n (hK35 _ _ ?_)
        refine wp_ret ?_
        have he76 : vorders_m a b c = true := (show vorders_m a b c = true from by unfold vorders_m; rw [if_neg hs6, if_neg hs13, if_neg hc20, if_pos hs38, if_pos hs42, if_pos hs46, if_neg hs47, if_pos hs67, if_neg hs68, if_pos hs74, if_pos hs75] <;> rfl)
        exact ⟨rfl, .bool true, res_t rfl rfl, ⟨by rw [he76], hm44.below⟩⟩
      simp only [nz1, nz2, nz3]
      refine lvw 75 (.bool false) rfl rfl (run_mv rfl rfl) ?_
      simp only [nz1, nz2, nz3]
      refine lvw 76 (.int .i64 ((compare_m b c))) rfl rfl (run_mv rfl rfl) ?_
      simp only [nz1, nz2, nz3]
      refine lvb 77 (0 < (compare_m b c)) rfl rfl (z_gtr (compare_m b c) 0 rfl rfl rfl) (fun hs77 => ?_) (fun hs77 => ?_)
      · simp only [nz1, nz2, nz3]
        refine lvw 78 (.bool true) rfl rfl (run_pickf rfl rfl rfl) ?_
        simp only [nz1, nz2, nz3]
        refine lvw 79 (.bool true) rfl rfl (run_mv rfl rfl) ?_
        simp only [nz1, nz2, nz3]
        refine lst_skip 80 rfl rfl ?_
        simp only [nz1, nz2, nz3]
        refine lst_skip 81 rfl rfl ?_
        simp only [nz1, nz2, nz3]
        refine lvw 82 (.bool true) rfl rfl (run_pick rfl rfl rfl) ?_
        simp only [nz1, nz2, nz3]
        refine lvw 83 (.bool true) rfl rfl (run_pick rfl rfl rfl) ?_
        simp only [nz1, nz2, nz3]
        refine lvw 6 (.bool true) rfl rfl (run_as rfl rfl) ?_
        simp only [nz1, nz2, nz3]
        refine wpList_nil ?_
        refine then_n (hK35 _ _ ?_)
        refine wp_ret ?_
        have he78 : vorders_m a b c = true := (show vorders_m a b c = true from by unfold vorders_m; rw [if_neg hs6, if_neg hs13, if_neg hc20, if_pos hs38, if_pos hs42, if_pos hs46, if_neg hs47, if_pos hs67, if_neg hs68, if_pos hs74, if_neg hs75, if_pos hs77] <;> rfl)
        exact ⟨rfl, .bool true, res_t rfl rfl, ⟨by rw [he78], hm44.below⟩⟩
      simp only [nz1, nz2, nz3]
      refine lvw 78 (.bool false) rfl rfl (run_pickf rfl rfl rfl) ?_
      simp only [nz1, nz2, nz3]
      refine lvw 79 (.bool false) rfl rfl (run_mv rfl rfl) ?_
      simp only [nz1, nz2, nz3]
      refine lvw 80 (.int .i64 ((compare_m a c))) rfl rfl (run_mv rfl rfl) ?_
      simp only [nz1, nz2, nz3]
      refine lvw 81 (.bool (decide ((compare_m a c) < 0))) rfl rfl (z_lss (compare_m a c) 0 rfl rfl rfl) ?_
      simp only [nz1, nz2, nz3]
      refine lvw 82 (.bool (decide ((compare_m a c) < 0))) rfl rfl (run_pickf rfl rfl rfl) ?_
      simp only [nz1, nz2, nz3]
      refine lvw 83 (.bool (decide ((compare_m a c) < 0))) rfl rfl (run_pick rfl rfl rfl) ?_
      simp only [nz1, nz2, nz3]
      refine lvw 6 (.bool (decide ((compare_m a c) < 0))) rfl rfl (run_as rfl rfl) ?_
      simp only [nz1, nz2, nz3]
      refine wpList_nil ?_
      refine then_n (hK35 _ _ ?_)
      refine wp_ret ?_
      have he79 : vorders_m a b c = (decide ((compare_m a c) < 0)) := (show vorders_m a b c = (decide ((compare_m a c) < 0)) from by unfold vorders_m; rw [if_neg hs6, if_neg hs13, if_neg hc20, if_pos hs38, if_pos hs42, if_pos hs46, if_neg hs47, if_pos hs67, if_neg hs68, if_pos hs74, if_neg hs75, if_neg hs77] <;> rfl)
      exact ⟨rfl, .bool (decide ((compare_m a c) < 0)), res_t rfl rfl, ⟨by rw [he79], hm44.below⟩⟩
    simp only [nz1, nz2, nz3]
    refine lvw 66 (.bool false) rfl rfl (run_pickf rfl rfl rfl) ?_
    simp only [nz1, nz2, nz3]
    refine lvw 67 (.bool false) rfl rfl (run_mv rfl rfl) ?_
    simp only [nz1, nz2, nz3]
    refine lvw 68 (.int .i64 ((compare_m a c))) rfl rfl (run_mv rfl rfl) ?_
    simp only [nz1, nz2, nz3]
    refine lvb 69 ((compare_m a c) = 0) rfl rfl (z_eql (compare_m a c) 0 rfl rfl rfl) (fun hs80 => ?_) (fun hs80 => ?_)
    rotate_left
    · simp only [nz1, nz2, nz3]
      refine lvw 70 (.bool false) rfl rfl (run_pickf rfl rfl rfl) ?_
      simp only [nz1, nz2, nz3]
      refine lvw 71 (.bool false) rfl rfl (run_pick rfl rfl rfl) ?_
      simp only [nz1, nz2, nz3]
      refine lvw 72 (.bool false) rfl rfl (run_mv rfl rfl) ?_
      simp only [nz1, nz2, nz3]
      refine lst_skip 73 rfl rfl ?_
      simp only [nz1, nz2, nz3]
      refine lst_skip 74 rfl rfl ?_
      simp only [nz1, nz2, nz3]
      refine lst_skip 75 rfl rfl ?_
      simp only [nz1, nz2, nz3]
      refine lst_skip 76 rfl rfl ?_
      simp only [nz1, nz2, nz3]
      refine lst_skip 77 rfl rfl ?_
      simp only [nz1, nz2, nz3]
      refine lst_skip 78 rfl rfl ?_
      simp only [nz1, nz2, nz3]
      refine lst_skip 79 rfl rfl ?_
      simp only [nz1, nz2, nz3]
      refine lst_skip 80 rfl rfl ?_
      simp only [nz1, nz2, nz3]
      refine lst_skip 81 rfl rfl ?_
      simp only [nz1, nz2, nz3]
      refine lst_skip 82 rfl rfl ?_
      simp only [nz1, nz2, nz3]
      refine lvw 83 (.bool false) rfl rfl (run_pickf rfl rfl rfl) ?_
      simp only [nz1, nz2, nz3]
      refine lvw 6 (.bool false) rfl rfl (run_as rfl rfl) ?_
      simp only [nz1, nz2, nz3]
      refine wpList_nil ?_
      refine then_n (hK35 _ _ ?_)
      refine wp_ret ?_
      have he86 : vorders_m a b c = false := (show vorders_m a b c = false from by unfold vorders_m; rw [if_neg hs6, if_neg hs13, if_neg hc20, if_pos hs38, if_pos hs42, if_pos hs46, if_neg hs47, if_pos hs67, if_neg hs68, if_neg hs74, if_neg hs80] <;> rfl)
      exact ⟨rfl, .bool false, res_t rfl rfl, ⟨by rw [he86], hm44.below⟩⟩
    simp only [nz1, nz2, nz3]
    refine lvw 70 (.bool true) rfl rfl (run_pickf rfl rfl rfl) ?_
    simp only [nz1, nz2, nz3]
    refine lvw 71 (.bool true) rfl rfl (run_pick rfl rfl rfl) ?_
    simp only [nz1, nz2, nz3]
    refine lvw 72 (.bool true) rfl rfl (run_mv rfl rfl) ?_
    simp only [nz1, nz2, nz3]
    refine lvw 73 (.int .i64 ((compare_m a b))) rfl rfl (run_mv rfl rfl) ?_
    simp only [nz1, nz2, nz3]
    refine lvb 74 (0 ≤ (compare_m a b)) rfl rfl (z_geq (compare_m a b) 0 rfl rfl rfl) (fun hs81 => ?_) (fun hs81 => ?_)
    · simp only [nz1, nz2, nz3]
      refine lvw 75 (.bool true) rfl rfl (run_mv rfl rfl) ?_
      simp only [nz1, nz2, nz3]
      refine lst_skip 76 rfl rfl ?_
      simp only [nz1, nz2, nz3]
      refine lst_skip 77 rfl rfl ?_
      simp only [nz1, nz2, nz3]
      refine lvw 78 (.bool true) rfl rfl (run_pick rfl rfl rfl) ?_
      simp only [nz1, nz2, nz3]
      refine lvw 79 (.bool true) rfl rfl (run_mv rfl rfl) ?_
      simp only [nz1, nz2, nz3]
      refine lst_skip 80 rfl rfl ?_
      simp only [nz1, nz2, nz3]
      refine lst_skip 81 rfl rfl ?_
      simp only [nz1, nz2, nz3]
      refine lvw 82 (.bool true) rfl rfl (run_pick rfl rfl rfl) ?_
      simp only [nz1, nz2, nz3]
      refine lvw 83 (.bool true) rfl rfl (run_pick rfl rfl rfl) ?_
      simp only [nz1, nz2, nz3]
      refine lvw 6 (.bool true) rfl rfl (run_as rfl rfl) ?_
      simp only [nz1, nz2, nz3]
      refine wpList_nil ?_
      refine then_n (hK35 _ _ ?_)
      refine wp_ret ?_
      have he82 : vorders_m a b c = true := (show vorders_m a b c = true from by unfold vorders_m; rw [if_neg hs6, if_neg hs13, if_neg hc20, if_pos hs38, if_pos hs42, if_pos hs46, if_neg hs47, if_pos hs67, if_neg hs68, if_neg hs74, if_pos hs80, if_pos hs81] <;> rfl)
      exact ⟨rfl, .bool true, res_t rfl rfl, ⟨by rw [he82], hm44.below⟩⟩
    simp only [nz1, nz2, nz3]
    refine lvw 75 (.bool false) rfl rfl (run_mv rfl rfl) ?_
    simp only [nz1, nz2, nz3]
    refine lvw 76 (.int .i64 ((compare_m b c))) rfl rfl (run_mv rfl rfl) ?_
    simp only [nz1, nz2, nz3]
    refine lvb 77 (0 < (compare_m b c)) rfl rfl (z_gtr (compare_m b c) 0 rfl rfl rfl) (fun hs83 => ?_) (fun hs83 => ?_)
    · simp only [nz1, nz2, nz3]
      refine lvw 78 (.bool true) rfl rfl (run_pickf rfl rfl rfl) ?_
      simp only [nz1, nz2, nz3]
      refine lvw 79 (.bool true) rfl rfl (run_mv rfl rfl) ?_
      simp only [nz1, nz2, nz3]
      refine lst_skip 80 rfl rfl ?_
      simp only [nz1, nz2, nz3]
      refine lst_skip 81 rfl rfl ?_
      simp only [nz1, nz2, nz3]
      refine lvw 82 (.bool true) rfl rfl (run_pick rfl rfl rfl) ?_
      simp only [nz1, nz2, nz3]
      refine lvw 83 (.bool true) rfl rfl (run_pick rfl rfl rfl) ?_
      simp only [nz1, nz2, nz3]
      refine lvw 6 (.bool true) rfl rfl (run_as rfl rfl) ?_
      simp only [nz1, nz2, nz3]
      refine wpList_nil ?_
      refine then_n (hK35 _ _ ?_)
      refine wp_ret ?_
      have he84 : vorders_m a b c = true := (show vorders_m a b c = true from by unfold vorders_m; rw [if_neg hs6, if_neg hs13, if_neg hc20, if_pos hs38, if_pos hs42, if_pos hs46, if_neg hs47, if_pos hs67, if_neg hs68, if_neg hs74, if_pos hs80, if_neg hs81, if_pos hs83] <;> rfl)
      exact ⟨rfl, .bool true, res_t rfl rfl, ⟨by rw [he84], hm44.below⟩⟩
    simp only [nz1, nz2, nz3]
    refine lvw 78 (.bool false) rfl rfl (run_pickf rfl rfl rfl) ?_
    simp only [nz1, nz2, nz3]
    refine lvw 79 (.bool false) rfl rfl (run_mv rfl rfl) ?_
    simp only [nz1, nz2, nz3]
    refine lvw 80 (.int .i64 ((compare_m a c))) rfl rfl (run_mv rfl rfl) ?_
    simp only [nz1, nz2, nz3]
    refine lvw 81 (.bool (decide ((compare_m a c) < 0))) rfl rfl (z_lss (compare_m a c) 0 rfl rfl rfl) ?_
    simp only [nz1, nz2, nz3]
    refine lvw 82 (.bool (decide ((compare_m a c) < 0))) rfl rfl (run_pickf rfl rfl rfl) ?_
    simp only [nz1, nz2, nz3]
    refine lvw 83 (.bool (decide ((compare_m a c) < 0))) rfl rfl (run_pick rfl rfl rfl) ?_
    simp only [nz1, nz2, nz3]
    refine lvw 6 (.bool (decide ((compare_m a c) < 0))) rfl rfl (run_as rfl rfl) ?_
    simp only [nz1, nz2, nz3]
    refine wpList_nil ?_
    refine then_n (hK35 _ _ ?_)
    refine wp_ret ?_
    have he85 : vorders_m a b c = (decide ((compare_m a c) < 0)) := (show vorders_m a b c = (decide ((compare_m a c) < 0)) from by unfold vorders_m; rw [if_neg hs6, if_neg hs13, if_neg hc20, if_pos hs38, if_pos hs42, if_pos hs46, if_neg hs47, if_pos hs67, if_neg hs68, if_neg hs74, if_pos hs80, if_neg hs81, if_neg hs83] <;> rfl)
    exact ⟨rfl, .bool (decide ((compare_m a c) < 0)), res_t rfl rfl, ⟨by rw [he85], hm44.below⟩⟩
  simp only [nz1, nz2, nz3]
  refine lvw 54 (.bool false) rfl rfl (run_pickf rfl rfl rfl) ?_
  simp only [nz1, nz2, nz3]
  refine lvw 55 (.bool false) rfl rfl (run_mv rfl rfl) ?_
  simp only [nz1, nz2, nz3]
  refine lvw 56 (.int .i64 ((compare_m a c))) rfl rfl (run_mv rfl rfl) ?_
  simp only [nz1, nz2, nz3]
  refine lvb 57 ((compare_m a c) ≤ 0) rfl rfl (z_leq (compare_m a c) 0 rfl rfl rfl) (fun hs87 => ?_) (fun hs87 => ?_)
  rotate_left
  · simp only [nz1, nz2, nz3]
    refine lvw 58 (.bool false) rfl rfl (run_pickf rfl rfl rfl) ?_
    simp only [nz1, nz2, nz3]
    refine lvw 59 (.bool false) rfl rfl (run_pick rfl rfl rfl) ?_
    simp only [nz1, nz2, nz3]
    refine lvw 60 (.bool false) rfl rfl (run_mv rfl rfl) ?_
    simp only [nz1, nz2, nz3]
    refine lst_skip 61 rfl rfl ?_
    simp only [nz1, nz2, nz3]
    refine lst_skip 62 rfl rfl ?_
    simp only [nz1, nz2, nz3]
    refine lst_skip 63 rfl rfl ?_
    simp only [nz1, nz2, nz3]
    refine lst_skip 64 rfl rfl ?_
    simp only [nz1, nz2, nz3]
    refine lst_skip 65 rfl rfl ?_
    simp only [nz1, nz2, nz3]
    refine lst_skip 66 rfl rfl ?_
    simp only [nz1, nz2, nz3]
    refine lst_skip 67 rfl rfl ?_
    simp only [nz1, nz2, nz3]
    refine lst_skip 68 rfl rfl ?_
    simp only [nz1, nz2, nz3]
    refine lst_skip 69 rfl rfl ?_
    simp only [nz1, nz2, nz3]
    refine lst_skip 70 rfl rfl ?_
    simp only [nz1, nz2, nz3]
    refine lvw 71 (.bool false) rfl rfl (run_pickf rfl rfl rfl) ?_
    simp only [nz1, nz2, nz3]
    refine lvw 72 (.bool false) rfl rfl (run_mv rfl rfl) ?_
    simp only [nz1, nz2, nz3]
    refine lst_skip 73 rfl rfl ?_
    simp only [nz1, nz2, nz3]
    refine lst_skip 74 rfl rfl ?_
    simp only [nz1, nz2, nz3]
    refine lst_skip 75 rfl rfl ?_
    simp only [nz1, nz2, nz3]
    refine lst_skip 76 rfl rfl ?_
    simp only [nz1, nz2, nz3]
    refine lst_skip 77 rfl rfl ?_
    simp only [nz1, nz2, nz3]
    refine lst_skip 78 rfl rfl ?_
    simp only [nz1, nz2, nz3]
    refine lst_skip 79 rfl rfl ?_
    simp only [nz1, nz2, nz3]
    refine lst_skip 80 rfl rfl ?_
    simp only [nz1, nz2, nz3]
    refine lst_skip 81 rfl rfl ?_
    simp only [nz1, nz2, nz3]
    refine lst_skip 82 rfl rfl ?_
    simp only [nz1, nz2, nz3]
    refine lvw 83 (.bool false) rfl rfl (run_pickf rfl rfl rfl) ?_
    simp only [nz1, nz2, nz3]
    refine lvw 6 (.bool false) rfl rfl (run_as rfl rfl) ?_
    simp only [nz1, nz2, nz3]
    refine wpList_nil ?_
    refine then_n (hK35 _ _ ?_)
    refine wp_ret ?_
    have he107 : vorders_m a b c = false := (show vorders_m a b c = false from by unfold vorders_m; rw [if_neg hs6, if_neg hs13, if_neg hc20, if_pos hs38, if_pos hs42, if_pos hs46, if_neg hs47, if_neg hs67, if_neg hs87] <;> rfl)
    exact ⟨rfl, .bool false, res_t rfl rfl, ⟨by rw [he107], hm44.below⟩⟩
  simp only [nz1, nz2, nz3]
  refine lvw 58 (.bool true) rfl rfl (run_pickf rfl rfl rfl) ?_
  simp only [nz1, nz2, nz3]
  refine lvw 59 (.bool true) rfl rfl (run_pick rfl rfl rfl) ?_
  simp only [nz1, nz2, nz3]
  refine lvw 60 (.bool true) rfl rfl (run_mv rfl rfl) ?_
  simp only [nz1, nz2, nz3]
  refine lvw 61 (.int .i64 ((compare_m a b))) rfl rfl (run_mv rfl rfl) ?_
  simp only [nz1, nz2, nz3]
  refine lvb 62 (¬ (compare_m a b) = 0) rfl rfl (z_neq (compare_m a b) 0 rfl rfl rfl) (fun hs88 => ?_) (fun hs88 => ?_)
  · simp only [nz1, nz2, nz3]
    refine lvw 63 (.bool true) rfl rfl (run_mv rfl rfl) ?_
    simp only [nz1, nz2, nz3]
    refine lst_skip 64 rfl rfl ?_
    simp only [nz1, nz2, nz3]
    refine lst_skip 65 rfl rfl ?_
    simp only [nz1, nz2, nz3]
    refine lvw 66 (.bool true) rfl rfl (run_pick rfl rfl rfl) ?_
    simp only [nz1, nz2, nz3]
    refine lvw 67 (.bool true) rfl rfl (run_mv rfl rfl) ?_
    simp only [nz1, nz2, nz3]
    refine lst_skip 68 rfl rfl ?_
    simp only [nz1, nz2, nz3]
    refine lst_skip 69 rfl rfl ?_
    simp only [nz1, nz2, nz3]
    refine lvw 70 (.bool true) rfl rfl (run_pick rfl rfl rfl) ?_
    simp only [nz1, nz2, nz3]
    refine lvw 71 (.bool true) rfl rfl (run_pick rfl rfl rfl) ?_
    simp only [nz1, nz2, nz3]
    refine lvw 72 (.bool true) rfl rfl (run_mv rfl rfl) ?_
    simp only [nz1, nz2, nz3]
    refine lvw 73 (.int .i64 ((compare_m a b))) rfl rfl (run_mv rfl rfl) ?_
    simp only [nz1, nz2, nz3]
    refine lvb 74 (0 ≤ (compare_m a b)) rfl rfl (z_geq (compare_m a b) 0 rfl rfl rfl) (fun hs89 => ?_) (fun hs89 => ?_)
    · simp only [nz1, nz2, nz3]
      refine lvw 75 (.bool true) rfl rfl (run_mv rfl rfl) ?_
      simp only [nz1, nz2, nz3]
      refine lst_skip 76 rfl rfl ?_
      simp only [nz1, nz2, nz3]
      refine lst_skip 77 rfl rfl ?_
      simp only [nz1, nz2, nz3]
      refine lvw 78 (.bool true) rfl rfl (run_pick rfl rfl rfl) ?_
      simp only [nz1, nz2, nz3]
      refine lvw 79 (.bool true) rfl rfl (run_mv rfl rfl) ?_
      simp only [nz1, nz2, nz3]
      refine lst_skip 80 rfl rfl ?_
      simp only [nz1, nz2, nz3]
      refine lst_skip 81 rfl rfl ?_
      simp only [nz1, nz2, nz3]
      refine lvw 82 (.bool true) rfl rfl (run_pick rfl rfl rfl) ?_
      simp only [nz1, nz2, nz3]
      refine lvw 83 (.bool true) rfl rfl (run_pick rfl rfl rfl) ?_
      simp only [nz1, nz2, nz3]
      refine lvw 6 (.bool true) rfl rfl (run_as rfl rfl) ?_
      simp only [nz1, nz2, nz3]
      refine wpList_nil ?_
      refine then_n (hK35 _ _ ?_)
      refine wp_ret ?_
      have he90 : vorders_m a b c = true := (show vorders_m a b c = true from by unfold vorders_m; rw [if_neg hs6, if_neg hs13, if_neg hc20, if_pos hs38, if_pos hs42, if_pos hs46, if_neg hs47, if_neg hs67, if_pos hs87, if_pos hs88, if_pos hs89] <;> rfl)
      exact ⟨rfl, .bool true, res_t rfl rfl, ⟨by rw [he90], hm44.below⟩⟩
    simp only [nz1, nz2, nz3]
    refine lvw 75 (.bool false) rfl rfl (run_mv rfl rfl) ?_
    simp only [nz1, nz2, nz3]
    refine lvw 76 (.int .i64 ((compare_m b c))) rfl rfl (run_mv rfl rfl) ?_
    simp only [nz1, nz2, nz3]
    refine lvb 77 (0 < (compare_m b c)) rfl rfl (z_gtr (compare_m b c) 0 rfl rfl rfl) (fun hs91 => ?_) (fun hs91 => ?_)
    · simp only [nz1, nz2, nz3]
      refine lvw 78 (.bool true) rfl rfl (run_pickf rfl rfl rfl) ?_
      simp only [nz1, nz2, nz3]
      refine lvw 79 (.bool true) rfl rfl (run_mv rfl rfl) ?_
      simp only [nz1, nz2, nz3]
      refine lst_skip 80 rfl rfl ?_
      simp only [nz1, nz2, nz3]
      refine lst_skip 81 rfl rfl ?_
      simp only [nz1, nz2, nz3]
      refine lvw 82 (.bool true) rfl rfl (run_pick rfl rfl rfl) ?_
      simp only [nz1, nz2, nz3]
      refine lvw 83 (.bool true) rfl rfl (run_pick rfl rfl rfl) ?_
      simp only [nz1, nz2, nz3]
      refine lvw 6 (.bool true) rfl rfl (run_as rfl rfl) ?_
      simp only [nz1, nz2, nz3]
      refine wpList_nil ?_
      refine then_n (hK35 _ _ ?_)
      refine wp_ret ?_
      have he92 : vorders_m a b c = true := (show vorders_m a b c = true from by unfold vorders_m; rw [if_neg hs6, if_neg hs13, if_neg hc20, if_pos hs38, if_pos hs42, if_pos hs46, if_neg hs47, if_neg hs67, if_pos hs87, if_pos hs88, if_neg hs89, if_pos hs91] <;> rfl)
      exact ⟨rfl, .bool true, res_t rfl rfl, ⟨by rw [he92], hm44.below⟩⟩
    simp only [nz1, nz2, nz3]
    refine lvw 78 (.bool false) rfl rfl (run_pickf rfl rfl rfl) ?_
    simp only [nz1, nz2, nz3]
    refine lvw 79 (.bool false) rfl rfl (run_mv rfl rfl) ?_
    simp only [nz1, nz2, nz3]
    refine lvw 80 (.int .i64 ((compare_m a c))) rfl rfl (run_mv rfl rfl) ?_
    simp only [nz1, nz2, nz3]
    refine lvw 81 (.bool (decide ((compare_m a c) < 0))) rfl rfl (z_lss (compare_m a c) 0 rfl rfl rfl) ?_
    simp only [nz1, nz2, nz3]
    refine lvw 82 (.bool (decide ((compare_m a c) < 0))) rfl rfl (run_pickf rfl rfl rfl) ?_
    simp only [nz1, nz2, nz3]
    refine lvw 83 (.bool (decide ((compare_m a c) < 0))) rfl rfl (run_pick rfl rfl rfl) ?_
    simp only [nz1, nz2, nz3]
    refine lvw 6 (.bool (decide ((compare_m a c) < 0))) rfl rfl (run_as rfl rfl) ?_
    simp only [nz1, nz2, nz3]
    refine wpList_nil ?_
    refine then_n (hK35 _ _ ?_)
    refine wp_ret ?_
    have he93 : vorders_m a b c = (decide ((compare_m a c) < 0)) := (show vorders_m a b c = (decide ((compare_m a c) < 0)) from by unfold vorders_m; rw [if_neg hs6, if_neg hs13, if_neg hc20, if_pos hs38, if_pos hs42, if_pos hs46, if_neg hs47, if_neg hs67, if_pos hs87, if_pos hs88, if_neg hs89, if_neg hs91] <;> rfl)
    exact ⟨rfl, .bool (decide ((compare_m a c) < 0)), res_t rfl rfl, ⟨by rw [he93], hm44.below⟩⟩
  simp only [nz1, nz2, nz3]
  refine lvw 63 (.bool false) rfl rfl (run_mv rfl rfl) ?_
  simp only [nz1, nz2, nz3]
  refine lvw 64 (.int .i64 ((compare_m b c))) rfl rfl (run_mv rfl rfl) ?_
  simp only [nz1, nz2, nz3]
  refine lvb 65 (¬ (compare_m b c) = 0) rfl rfl (z_neq (compare_m b c) 0 rfl rfl rfl) (fun hs94 => ?_) (fun hs94 => ?_)
  · simp only [nz1, nz2, nz3]
    refine lvw 66 (.bool true) rfl rfl (run_pickf rfl rfl rfl) ?_
    simp only [nz1, nz2, nz3]
    refine lvw 67 (.bool true) rfl rfl (run_mv rfl rfl) ?_
    simp only [nz1, nz2, nz3]
    refine lst_skip 68 rfl rfl ?_
    simp only [nz1, nz2, nz3]
    refine lst_skip 69 rfl rfl ?_
    simp only [nz1, nz2, nz3]
    refine lvw 70 (.bool true) rfl rfl (run_pick rfl rfl rfl) ?_
    simp only [nz1, nz2, nz3]
    refine lvw 71 (.bool true) rfl rfl (run_pick rfl rfl rfl) ?_
    simp only [nz1, nz2, nz3]
    refine lvw 72 (.bool true) rfl rfl (run_mv rfl rfl) ?_
    simp only [nz1, nz2, nz3]
    refine lvw 73 (.int .i64 ((compare_m a b))) rfl rfl (run_mv rfl rfl) ?_
    simp only [nz1, nz2, nz3]
    refine lvb 74 (0 ≤ (compare_m a b)) rfl rfl (z_geq (compare_m a b) 0 rfl rfl rfl) (fun hs95 => ?_) (fun hs95 => ?_)
    · simp only [nz1, nz2, nz3]
      refine lvw 75 (.bool true) rfl rfl (run_mv rfl rfl) ?_
      simp only [nz1, nz2, nz3]
      refine lst_skip 76 rfl rfl ?_
      simp only [nz1, nz2, nz3]
      refine lst_skip 77 rfl rfl ?_
      simp only [nz1, nz2, nz3]
      refine lvw 78 (.bool true) rfl rfl (run_pick rfl rfl rfl) ?_
      simp only [nz1, nz2, nz3]
      refine lvw 79 (.bool true) rfl rfl (run_mv rfl rfl) ?_
      simp only [nz1, nz2, nz3]
      refine lst_skip 80 rfl rfl ?_
      simp only [nz1, nz2, nz3]
      refine lst_skip 81 rfl rfl ?_
      simp only [nz1, nz2, nz3]
      refine lvw 82 (.bool true) rfl rfl (run_pick rfl rfl rfl) ?_
      simp only [nz1, nz2, nz3]
      refine lvw 83 (.bool true) rfl rfl (run_pick rfl rfl rfl) ?_
      simp only [nz1, nz2, nz3]
      refine lvw 6 (.bool true) rfl rfl (run_as rfl rfl) ?_
      simp only [nz1, nz2, nz3]
      refine wpList_nil ?_
      refine then_n (hK35 _ _ ?_)
      refine wp_ret ?_
      have he96 : vorders_m a b c = true := (show vorders_m a b c = true from by unfold vorders_m; rw [if_neg hs6, if_neg hs13, if_neg hc20, if_pos hs38, if_pos hs42, if_pos hs46, if_neg hs47, if_neg hs67, if_pos hs87, if_neg hs88, if_pos hs94, if_pos hs95] <;> rfl)
      exact ⟨rfl, .bool true, res_t rfl rfl, ⟨by rw [he96], hm44.below⟩⟩
    simp only [nz1, nz2, nz3]
    refine lvw 75 (.bool false) rfl rfl (run_mv rfl rfl) ?_
    simp only [nz1, nz2, nz3]
    refine lvw 76 (.int .i64 ((compare_m b c))) rfl rfl (run_mv rfl rfl) ?_
    simp only [nz1, nz2, nz3]
    refine lvb 77 (0 < (compare_m b c)) rfl rfl (z_gtr (compare_m b c) 0 rfl rfl rfl) (fun hs97 => ?_) (fun hs97 => ?_)
    · simp only [nz1, nz2, nz3]
      refine lvw 78 (.bool true) rfl rfl (run_pickf rfl rfl rfl) ?_
      simp only [nz1, nz2, nz3]
      refine lvw 79 (.bool true) rfl rfl (run_mv rfl rfl) ?_
      simp only [nz1, nz2, nz3]
      refine lst_skip 80 rfl rfl ?_
      simp only [nz1, nz2, nz3]
      refine lst_skip 81 rfl rfl ?_
      simp only [nz1, nz2, nz3]
      refine lvw 82 (.bool true) rfl rfl (run_pick rfl rfl rfl) ?_
      simp only [nz1, nz2, nz3]
      refine lvw 83 (.bool true) rfl rfl (run_pick rfl rfl rfl) ?_
      simp only [nz1, nz2, nz3]
      refine lvw 6 (.bool true) rfl rfl (run_as rfl rfl) ?_
      simp only [nz1, nz2, nz3]
      refine wpList_nil ?_
      refine then_n (hK35 _ _ ?_)
      refine wp_ret ?_
      have he98 : vorders_m a b c = true := (show vorders_m a b c = true from by unfold vorders_m; rw [if_neg hs6, if_neg hs13, if_neg hc20, if_pos hs38, if_pos hs42, if_pos hs46, if_neg hs47, if_neg hs67, if_pos hs87, if_neg hs88, if_pos hs94, if_neg hs95, if_pos hs97] <;> rfl)
      exact ⟨rfl, .bool true, res_t rfl rfl, ⟨by rw [he98], hm44.below⟩⟩
    simp only [nz1, nz2, nz3]
    refine lvw 78 (.bool false) rfl rfl (run_pickf rfl rfl rfl) ?_
    simp only [nz1, nz2, nz3]
    refine lvw 79 (.bool false) rfl rfl (run_mv rfl rfl) ?_
    simp only [nz1, nz2, nz3]
    refine lvw 80 (.int .i64 ((compare_m a c))) rfl rfl (run_mv rfl rfl) ?_
    simp only [nz1, nz2, nz3]
    refine lvw 81 (.bool (decide ((compare_m a c) < 0))) rfl rfl (z_lss (compare_m a c) 0 rfl rfl rfl) ?_
    simp only [nz1, nz2, nz3]
    refine lvw 82 (.bool (decide ((compare_m a c) < 0))) rfl rfl (run_pickf rfl rfl rfl) ?_
    simp only [nz1, nz2, nz3]
    refine lvw 83 (.bool (decide ((compare_m a c) < 0))) rfl rfl (run_pick rfl rfl rfl) ?_
    simp only [nz1, nz2, nz3]
    refine lvw 6 (.bool (decide ((compare_m a c) < 0))) rfl rfl (run_as rfl rfl) ?_
    simp only [nz1, nz2, nz3]
    refine wpList_nil ?_
    refine then_n (hK35 _ _ ?_)
    refine wp_ret ?_
    have he99 : vorders_m a b c = (decide ((compare_m a c) < 0)) := (show vorders_m a b c = (decide ((compare_m a c) < 0)) from by unfold vorders_m; rw [if_neg hs6, if_neg hs13, if_neg hc20, if_pos hs38, if_pos hs42, if_pos hs46, if_neg hs47, if_neg hs67, if_pos hs87, if_neg hs88, if_pos hs94, if_neg hs95, if_neg hs97] <;> rfl)
    exact ⟨rfl, .bool (decide ((compare_m a c) < 0)), res_t rfl rfl, ⟨by rw [he99], hm44.below⟩⟩
  simp only [nz1, nz2, nz3]
  refine lvw 66 (.bool false) rfl rfl (run_pickf rfl rfl rfl) ?_
  simp only [nz1, nz2, nz3]
  refine lvw 67 (.bool false) rfl rfl (run_mv rfl rfl) ?_
  simp only [nz1, nz2, nz3]
  refine lvw 68 (.int .i64 ((compare_m a c))) rfl rfl (run_mv rfl rfl) ?_
  simp only [nz1, nz2, nz3]
  refine lvb 69 ((compare_m a c) = 0) rfl rfl (z_eql (compare_m a c) 0 rfl rfl rfl) (fun hs100 => ?_) (fun hs100 => ?_)
  rotate_left
  · simp only [nz1, nz2, nz3]
    refine lvw 70 (.bool false) rfl rfl (run_pickf rfl rfl rfl) ?_
    simp only [nz1, nz2, nz3]
    refine lvw 71 (.bool false) rfl rfl (run_pick rfl rfl rfl) ?_
    simp only [nz1, nz2, nz3]
    refine lvw 72 (.bool false) rfl rfl (run_mv rfl rfl) ?_
    simp only [nz1, nz2, nz3]
    refine lst_skip 73 rfl rfl ?_
    simp only [nz1, nz2, nz3]
    refine lst_skip 74 rfl rfl ?_
    simp only [nz1, nz2, nz3]
    refine lst_skip 75 rfl rfl ?_
    simp only [nz1, nz2, nz3]
    refine lst_skip 76 rfl rfl ?_
    simp only [nz1, nz2, nz3]
    refine lst_skip 77 rfl rfl ?_
    simp only [nz1, nz2, nz3]
    refine lst_skip 78 rfl rfl ?_
    simp only [nz1, nz2, nz3]
    refine lst_skip 79 rfl rfl ?_
    simp only [nz1, nz2, nz3]
    refine lst_skip 80 rfl rfl ?_
    simp only [nz1, nz2, nz3]
    refine lst_skip 81 rfl rfl ?_
    simp only [nz1, nz2, nz3]
    refine lst_skip 82 rfl rfl ?_
    simp only [nz1, nz2, nz3]
    refine lvw 83 (.bool false) rfl rfl (run_pickf rfl rfl rfl) ?_
    simp only [nz1, nz2, nz3]
    refine lvw 6 (.bool false) rfl rfl (run_as rfl rfl) ?_
    simp only [nz1, nz2, nz3]
    refine wpList_nil ?_
    refine then_n (hK35 _ _ ?_)
    refine wp_ret ?_
    have he106 : vorders_m a b c = false := (show vorders_m a b c = false from by unfold vorders_m; rw [if_neg hs6, if_neg hs13, if_neg hc20, if_pos hs38, if_pos hs42, if_pos hs46, if_neg hs47, if_neg hs67, if_pos hs87, if_neg hs88, if_neg hs94, if_neg hs100] <;> rfl)
    exact ⟨rfl, .bool false, res_t rfl rfl, ⟨by rw [he106], hm44.below⟩⟩
  simp only [nz1, nz2, nz3]
  refine lvw 70 (.bool true) rfl rfl (run_pickf rfl rfl rfl) ?_
  simp only [nz1, nz2, nz3]
  refine lvw 71 (.bool true) rfl rfl (run_pick rfl rfl rfl) ?_
  simp only [nz1, nz2, nz3]
  refine lvw 72 (.bool true) rfl rfl (run_mv rfl rfl) ?_
  simp only [nz1, nz2, nz3]
  refine lvw 73 (.int .i64 ((compare_m a b))) rfl rfl (run_mv rfl rfl) ?_
  simp only [nz1, nz2, nz3]
  refine lvb 74 (0 ≤ (compare_m a b)) rfl rfl (z_geq (compare_m a b) 0 rfl rfl rfl) (fun hs101 => ?_) (fun hs101 => ?_)
  · simp only [nz1, nz2, nz3]
    refine lvw 75 (.bool true) rfl rfl (run_mv rfl rfl) ?_
    simp only [nz1, nz2, nz3]
    refine lst_skip 76 rfl rfl ?_
    simp only [nz1, nz2, nz3]
    refine lst_skip 77 rfl rfl ?_
    simp only [nz1, nz2, nz3]
    refine lvw 78 (.bool true) rfl rfl (run_pick rfl rfl rfl) ?_
    simp only [nz1, nz2, nz3]
    refine lvw 79 (.bool true) rfl rfl (run_mv rfl rfl) ?_
    simp only [nz1, nz2, nz3]
    refine lst_skip 80 rfl rfl ?_
    simp only [nz1, nz2, nz3]
    refine lst_skip 81 rfl rfl ?_
    simp only [nz1, nz2, nz3]
    refine lvw 82 (.bool true) rfl rfl (run_pick rfl rfl rfl) ?_
    simp only [nz1, nz2, nz3]
    refine lvw 83 (.bool true) rfl rfl (run_pick rfl rfl rfl) ?_
    simp only [nz1, nz2, nz3]
    refine lvw 6 (.bool true) rfl rfl (run_as rfl rfl) ?_
    simp only [nz1, nz2, nz3]
    refine wpList_nil ?_
    refine then_n (hK35 _ _ ?_)
    refine wp_ret ?_
    have he102 : vorders_m a b c = true := (show vorders_m a b c = true from by unfold vorders_m; rw [if_neg hs6, if_neg hs13, if_neg hc20, if_pos hs38, if_pos hs42, if_pos hs46, if_neg hs47, if_neg hs67, if_pos hs87, if_neg hs88, if_neg hs94, if_pos hs100, if_pos hs101] <;> rfl)
    exact ⟨rfl, .bool true, res_t rfl rfl, ⟨by rw [he102], hm44.below⟩⟩
  simp only [nz1, nz2, nz3]
  refine lvw 75 (.bool false) rfl rfl (run_mv rfl rfl) ?_
  simp only [nz1, nz2, nz3]
  refine lvw 76 (.int .i64 ((compare_m b c))) rfl rfl (run_mv rfl rfl) ?_
  simp only [nz1, nz2, nz3]
  refine lvb 77 (0 < (compare_m b c)) rfl rfl (z_gtr (compare_m b c) 0 rfl rfl rfl) (fun hs103 => ?_) (fun hs103 => ?_)
  · simp only [nz1, nz2, nz3]
    refine lvw 78 (.bool true) rfl rfl (run_pickf rfl rfl rfl) ?_
    simp only [nz1, nz2, nz3]
    refine lvw 79 (.bool true) rfl rfl (run_mv rfl rfl) ?_
    simp only [nz1, nz2, nz3]
    refine lst_skip 80 rfl rfl ?_
    simp only [nz1, nz2, nz3]
    refine lst_skip 81 rfl rfl ?_
    simp only [nz1, nz2, nz3]
    refine lvw 82 (.bool true) rfl rfl (run_pick rfl rfl rfl) ?_
    simp only [nz1, nz2, nz3]
    refine lvw 83 (.bool true) rfl rfl (run_pick rfl rfl rfl) ?_
    simp only [nz1, nz2, nz3]
    refine lvw 6 (.bool true) rfl rfl (run_as rfl rfl) ?_
    simp only [nz1, nz2, nz3]
    refine wpList_nil ?_
    refine then_n (hK35 _ _ ?_)
    refine wp_ret ?_
    have he104 : vorders_m a b c = true := (show vorders_m a b c = true from by unfold vorders_m; rw [if_neg hs6, if_neg hs13, if_neg hc20, if_pos hs38, if_pos hs42, if_pos hs46, if_neg hs47, if_neg hs67, if_pos hs87, if_neg hs88, if_neg hs94, if_pos hs100, if_neg hs101, if_pos hs103] <;> rfl)
    exact ⟨rfl, .bool true, res_t rfl rfl, ⟨by rw [he104], hm44.below⟩⟩
  simp only [nz1, nz2, nz3]
  refine lvw 78 (.bool false) rfl rfl (run_pickf rfl rfl rfl) ?_
  simp only [nz1, nz2, nz3]
  refine lvw 79 (.bool false) rfl rfl (run_mv rfl rfl) ?_
  simp only [nz1, nz2, nz3]
  refine lvw 80 (.int .i64 ((compare_m a c))) rfl rfl (run_mv rfl rfl) ?_
  simp only [nz1, nz2, nz3]
  refine lvw 81 (.bool (decide ((compare_m a c) < 0))) rfl rfl (z_lss (compare_m a c) 0 rfl rfl rfl) ?_
  simp only [nz1, nz2, nz3]
  refine lvw 82 (.bool (decide ((compare_m a c) < 0))) rfl rfl (run_pickf rfl rfl rfl) ?_
  simp only [nz1, nz2, nz3]
  refine lvw 83 (.bool (decide ((compare_m a c) < 0))) rfl rfl (run_pick rfl rfl rfl) ?_
  simp only [nz1, nz2, nz3]
  refine lvw 6 (.bool (decide ((compare_m a c) < 0))) rfl rfl (run_as rfl rfl) ?_
  simp only [nz1, nz2, nz3]
  refine wpList_nil ?_
  refine then_n (hK35 _ _ ?_)
  refine wp_ret ?_
  have he105 : vorders_m a b c = (decide ((compare_m a c) < 0)) := (show vorders_m a b c = (decide ((compare_m a c) < 0)) from by unfold vorders_m; rw [if_neg hs6, if_neg hs13, if_neg hc20, if_pos hs38, if_pos hs42, if_pos hs46, if_neg hs47, if_neg hs67, if_pos hs87, if_neg hs88, if_neg hs94, if_pos hs100, if_neg hs101, if_neg hs103] <;> rfl)
  exact ⟨rfl, .bool (decide ((compare_m a c) < 0)), res_t rfl rfl, ⟨by rw [he105], hm44.below⟩⟩
theorem run_vorders {o : Oper} {a : Act} {w : World} {x0 x1 x2 : Operand} {v0 v1 v2 : Value} (ho : o.op = .call { callee := .value (.func 11), args := #[x0, x1, x2], argTypes := #[9, 9, 9] }) (h0 : a.eval x0 = v0) (h1 : a.eval x1 = v1) (h2 : a.eval x2 = v2) :
    (execOp a.eval o).run Tryd.prog w = .ok (.enter 11 #[v0, v1, v2]) w := by
  unfold execOp
  simp only [ho]
  have hf : a.eval (.func 11) = .func (.func 11) #[] #[] := rfl
  generalize a.eval = f at *
  go_simp
end Go.Proofs.YtdohmmdfenafnaaDoor.Ve
