/- Layer 12: rules. -/
import Derived.Test.YtpbenhfnebgbiaaDoorVeO
namespace Go.Proofs.YtpbenhfnebgbiaaDoor.Ve
open Go.RowKit
open Go.Proofs.YtpbenhfnebgbiaaDoor.Sym Go.Proofs.YtpbenhfnebgbiaaDoor.Mem
open Go.Proofs.YtpbenhfnebgbiaaDoor.Sx hiding Mm m_alloc m_store m_put m_call m_callx m_make m_append r_string r_ixS
set_option linter.unusedVariables false
open Go.Proofs.YtpbenhfnebgbiaaDoor.Pa
attribute [local irreducible] wpList Oper.wp

def holds_m (r : Rul) (version : List UInt8) : Bool :=
  if r.op = 0 then
    true
  else
    if r.op = 1 then
      (decide ((compare_m version r.version) = 0))
    else
      if r.op = 2 then
        (decide ((compare_m version r.version) < 0))
      else
        if r.op = 3 then
          (decide ((compare_m version r.version) ≤ 0))
        else
          if r.op = 4 then
            (decide (0 < (compare_m version r.version)))
          else
            if r.op = 5 then
              (decide (0 ≤ (compare_m version r.version)))
            else
              false

set_option maxHeartbeats 4000000 in
set_option maxRecDepth 100000 in
theorem holds_any (r : Rul) (version : List UInt8) (w : World)   : Calls Tryd.prog 20 #[.agg #[.string (tx r.name), .int .i64 (r.op), .string (tx r.version)], .string (tx version)] w (fun e w' => e = .returned (.bool ((holds_m r version))) ∧ Below w.heap.size w w') := by
  go_enter Tryd.func20, Tryd.ntmps20
  have hm00 := Mm.nil none (fun _ => True) w
  have hm0 := hm00
  refine wp_seq_k (fun K1 hK1 => ?_)
  refine wp_region_lit ?_
  refine lst rfl (m_alloc (c := #[.string (tx r.name), .int .i64 (r.op), .string (tx r.version)]) (T := 24) hm0 2 rfl (run_box rfl rfl) (fun g4 w2 (hm3 : Mm none (fun _ => True) w w2 [.blk g4 #[.string (tx r.name), .int .i64 (r.op), .string (tx r.version)] 24]) => ?_))
  simp only [nz1, nz2, nz3]
  refine lvw 4 (.bool false) rfl rfl (run_as rfl rfl) ?_
  simp only [nz1, nz2, nz3]
  refine wpList_nil ?_
  refine then_n (hK1 _ _ ?_)
  refine wp_seq_k (fun K5 hK5 => ?_)
  refine wp_region_lit ?_
  refine lvw 6 (.string (tx version)) rfl rfl (run_mv rfl rfl) ?_
  simp only [nz1, nz2, nz3]
  refine lvw 7 (.pointer (some ⟨g4, 2, none⟩)) rfl rfl (r_fa24_2 g4 0 rfl rfl) ?_
  simp only [nz1, nz2, nz3]
  refine lvw 8 (.string (tx r.version)) rfl rfl (r_load (hm3.at 0 rfl) rfl Tryd.underlying9 rfl rfl rfl) ?_
  simp only [nz1, nz2, nz3]
  refine lst rfl (m_call hm3 9 (.int .i64 ((compare_m version r.version))) rfl (run_compare rfl rfl rfl) (compare_any version r.version  _  ) (fun w6 (hm7 : Mm none (fun _ => True) w w6 [.blk g4 #[.string (tx r.name), .int .i64 (r.op), .string (tx r.version)] 24]) => ?_))
  have hf8 : -1 ≤ (compare_m version r.version) ∧ (compare_m version r.version) ≤ 1 := compare_rng version r.version
  simp only [nz1, nz2, nz3]
  refine lvw 5 (.int .i64 ((compare_m version r.version))) rfl rfl (run_as rfl rfl) ?_
  simp only [nz1, nz2, nz3]
  refine wpList_nil ?_
  refine then_n (hK5 _ _ ?_)
  refine wp_seq_k (fun K9 hK9 => ?_)
  refine wp_seq_k (fun K10 hK10 => ?_)
  refine wp_region_lit ?_
  refine lvw 10 (.pointer (some ⟨g4, 1, none⟩)) rfl rfl (r_fa24_1 g4 0 rfl rfl) ?_
  simp only [nz1, nz2, nz3]
  refine lvw 11 (.int .i64 (r.op)) rfl rfl (r_load (hm7.at 0 rfl) rfl Tryd.underlying3 rfl rfl rfl) ?_
  simp only [nz1, nz2, nz3]
  refine wpList_nil ?_
  refine then_n (hK10 _ _ ?_)
  refine wp_block ?_
  refine wp_seq_k (fun K11 hK11 => ?_)
  refine wp_region_lit ?_
  refine lvw 13 (.bool (decide (r.op = 0))) rfl rfl (z_eql r.op 0 rfl rfl rfl) ?_
  simp only [nz1, nz2, nz3]
  refine lvw 12 (.bool (decide (r.op = 0))) rfl rfl (run_as rfl rfl) ?_
  simp only [nz1, nz2, nz3]
  refine wpList_nil ?_
  refine then_n (hK11 _ _ ?_)
  refine cond_d (r.op = 0) rfl (fun hc12 => ?_) (fun hc12 => ?_)
  · refine wp_seq_k (fun K13 hK13 => ?_)
    refine wp_region_lit ?_
    refine lvw 4 (.bool true) rfl rfl (run_as rfl rfl) ?_
    simp only [nz1, nz2, nz3]
    refine wpList_nil ?_
    refine then_n (hK13 _ _ ?_)
    refine wp_ret ?_
    refine blk_r ?_
    refine then_r ?_
    have he14 : holds_m r version = true := (show holds_m r version = true from by unfold holds_m; rw [if_pos hc12] <;> rfl)
    exact ⟨rfl, .bool true, res_t rfl rfl, ⟨by (rw [he14]; try rfl), hm7.below⟩⟩
  refine wp_seq_k (fun K15 hK15 => ?_)
  refine wp_region_lit ?_
  refine lvw 15 (.bool (decide (r.op = 1))) rfl rfl (z_eql r.op 1 rfl rfl rfl) ?_
  simp only [nz1, nz2, nz3]
  refine lvw 14 (.bool (decide (r.op = 1))) rfl rfl (run_as rfl rfl) ?_
  simp only [nz1, nz2, nz3]
  refine wpList_nil ?_
  refine then_n (hK15 _ _ ?_)
  refine cond_d (r.op = 1) rfl (fun hc16 => ?_) (fun hc16 => ?_)
  · refine wp_seq_k (fun K17 hK17 => ?_)
    refine wp_region_lit ?_
    refine lvw 16 (.int .i64 ((compare_m version r.version))) rfl rfl (run_mv rfl rfl) ?_
    simp only [nz1, nz2, nz3]
    refine lvw 17 (.bool (decide ((compare_m version r.version) = 0))) rfl rfl (z_eql (compare_m version r.version) 0 rfl rfl rfl) ?_
    simp only [nz1, nz2, nz3]
    refine lvw 4 (.bool (decide ((compare_m version r.version) = 0))) rfl rfl (run_as rfl rfl) ?_
    simp only [nz1, nz2, nz3]
    refine wpList_nil ?_
    refine then_n (hK17 _ _ ?_)
    refine wp_ret ?_
    refine blk_r ?_
    refine then_r ?_
    have he18 : holds_m r version = (decide ((compare_m version r.version) = 0)) := (show holds_m r version = (decide ((compare_m version r.version) = 0)) from by unfold holds_m; rw [if_neg hc12, if_pos hc16] <;> rfl)
    exact ⟨rfl, .bool (decide ((compare_m version r.version) = 0)), res_t rfl rfl, ⟨by (rw [he18]; try rfl), hm7.below⟩⟩
  refine wp_seq_k (fun K19 hK19 => ?_)
  refine wp_region_lit ?_
  refine lvw 19 (.bool (decide (r.op = 2))) rfl rfl (z_eql r.op 2 rfl rfl rfl) ?_
  simp only [nz1, nz2, nz3]
  refine lvw 18 (.bool (decide (r.op = 2))) rfl rfl (run_as rfl rfl) ?_
  simp only [nz1, nz2, nz3]
  refine wpList_nil ?_
  refine then_n (hK19 _ _ ?_)
  refine cond_d (r.op = 2) rfl (fun hc20 => ?_) (fun hc20 => ?_)
  · refine wp_seq_k (fun K21 hK21 => ?_)
    refine wp_region_lit ?_
    refine lvw 20 (.int .i64 ((compare_m version r.version))) rfl rfl (run_mv rfl rfl) ?_
    simp only [nz1, nz2, nz3]
    refine lvw 21 (.bool (decide ((compare_m version r.version) < 0))) rfl rfl (z_lss (compare_m version r.version) 0 rfl rfl rfl) ?_
    simp only [nz1, nz2, nz3]
    refine lvw 4 (.bool (decide ((compare_m version r.version) < 0))) rfl rfl (run_as rfl rfl) ?_
    simp only [nz1, nz2, nz3]
    refine wpList_nil ?_
    refine then_n (hK21 _ _ ?_)
    refine wp_ret ?_
    refine blk_r ?_
    refine then_r ?_
    have he22 : holds_m r version = (decide ((compare_m version r.version) < 0)) := (show holds_m r version = (decide ((compare_m version r.version) < 0)) from by unfold holds_m; rw [if_neg hc12, if_neg hc16, if_pos hc20] <;> rfl)
    exact ⟨rfl, .bool (decide ((compare_m version r.version) < 0)), res_t rfl rfl, ⟨by (rw [he22]; try rfl), hm7.below⟩⟩
  refine wp_seq_k (fun K23 hK23 => ?_)
  refine wp_region_lit ?_
  refine lvw 23 (.bool (decide (r.op = 3))) rfl rfl (z_eql r.op 3 rfl rfl rfl) ?_
  simp only [nz1, nz2, nz3]
  refine lvw 22 (.bool (decide (r.op = 3))) rfl rfl (run_as rfl rfl) ?_
  simp only [nz1, nz2, nz3]
  refine wpList_nil ?_
  refine then_n (hK23 _ _ ?_)
  refine cond_d (r.op = 3) rfl (fun hc24 => ?_) (fun hc24 => ?_)
  · refine wp_seq_k (fun K25 hK25 => ?_)
    refine wp_region_lit ?_
    refine lvw 24 (.int .i64 ((compare_m version r.version))) rfl rfl (run_mv rfl rfl) ?_
    simp only [nz1, nz2, nz3]
    refine lvw 25 (.bool (decide ((compare_m version r.version) ≤ 0))) rfl rfl (z_leq (compare_m version r.version) 0 rfl rfl rfl) ?_
    simp only [nz1, nz2, nz3]
    refine lvw 4 (.bool (decide ((compare_m version r.version) ≤ 0))) rfl rfl (run_as rfl rfl) ?_
    simp only [nz1, nz2, nz3]
    refine wpList_nil ?_
    refine then_n (hK25 _ _ ?_)
    refine wp_ret ?_
    refine blk_r ?_
    refine then_r ?_
    have he26 : holds_m r version = (decide ((compare_m version r.version) ≤ 0)) := (show holds_m r version = (decide ((compare_m version r.version) ≤ 0)) from by unfold holds_m; rw [if_neg hc12, if_neg hc16, if_neg hc20, if_pos hc24] <;> rfl)
    exact ⟨rfl, .bool (decide ((compare_m version r.version) ≤ 0)), res_t rfl rfl, ⟨by (rw [he26]; try rfl), hm7.below⟩⟩
  refine wp_seq_k (fun K27 hK27 => ?_)
  refine wp_region_lit ?_
  refine lvw 27 (.bool (decide (r.op = 4))) rfl rfl (z_eql r.op 4 rfl rfl rfl) ?_
  simp only [nz1, nz2, nz3]
  refine lvw 26 (.bool (decide (r.op = 4))) rfl rfl (run_as rfl rfl) ?_
  simp only [nz1, nz2, nz3]
  refine wpList_nil ?_
  refine then_n (hK27 _ _ ?_)
  refine cond_d (r.op = 4) rfl (fun hc28 => ?_) (fun hc28 => ?_)
  · refine wp_seq_k (fun K29 hK29 => ?_)
    refine wp_region_lit ?_
    refine lvw 28 (.int .i64 ((compare_m version r.version))) rfl rfl (run_mv rfl rfl) ?_
    simp only [nz1, nz2, nz3]
    refine lvw 29 (.bool (decide (0 < (compare_m version r.version)))) rfl rfl (z_gtr (compare_m version r.version) 0 rfl rfl rfl) ?_
    simp only [nz1, nz2, nz3]
    refine lvw 4 (.bool (decide (0 < (compare_m version r.version)))) rfl rfl (run_as rfl rfl) ?_
    simp only [nz1, nz2, nz3]
    refine wpList_nil ?_
    refine then_n (hK29 _ _ ?_)
    refine wp_ret ?_
    refine blk_r ?_
    refine then_r ?_
    have he30 : holds_m r version = (decide (0 < (compare_m version r.version))) := (show holds_m r version = (decide (0 < (compare_m version r.version))) from by unfold holds_m; rw [if_neg hc12, if_neg hc16, if_neg hc20, if_neg hc24, if_pos hc28] <;> rfl)
    exact ⟨rfl, .bool (decide (0 < (compare_m version r.version))), res_t rfl rfl, ⟨by (rw [he30]; try rfl), hm7.below⟩⟩
  refine wp_seq_k (fun K31 hK31 => ?_)
  refine wp_region_lit ?_
  refine lvw 31 (.bool (decide (r.op = 5))) rfl rfl (z_eql r.op 5 rfl rfl rfl) ?_
  simp only [nz1, nz2, nz3]
  refine lvw 30 (.bool (decide (r.op = 5))) rfl rfl (run_as rfl rfl) ?_
  simp only [nz1, nz2, nz3]
  refine wpList_nil ?_
  refine then_n (hK31 _ _ ?_)
  refine cond_d (r.op = 5) rfl (fun hc32 => ?_) (fun hc32 => ?_)
  rotate_left
  · refine wp_skip ?_
    refine blk_n ?_
    refine then_n (hK9 _ _ ?_)
    refine wp_seq_k (fun K35 hK35 => ?_)
    refine wp_region_lit ?_
    refine lvw 4 (.bool false) rfl rfl (run_as rfl rfl) ?_
    simp only [nz1, nz2, nz3]
    refine wpList_nil ?_
    refine then_n (hK35 _ _ ?_)
    refine wp_ret ?_
    have he36 : holds_m r version = false := (show holds_m r version = false from by unfold holds_m; rw [if_neg hc12, if_neg hc16, if_neg hc20, if_neg hc24, if_neg hc28, if_neg hc32] <;> rfl)
    exact ⟨rfl, .bool false, res_t rfl rfl, ⟨by (rw [he36]; try rfl), hm7.below⟩⟩
  refine wp_seq_k (fun K33 hK33 => ?_)
  refine wp_region_lit ?_
  refine lvw 32 (.int .i64 ((compare_m version r.version))) rfl rfl (run_mv rfl rfl) ?_
  simp only [nz1, nz2, nz3]
  refine lvw 33 (.bool (decide (0 ≤ (compare_m version r.version)))) rfl rfl (z_geq (compare_m version r.version) 0 rfl rfl rfl) ?_
  simp only [nz1, nz2, nz3]
  refine lvw 4 (.bool (decide (0 ≤ (compare_m version r.version)))) rfl rfl (run_as rfl rfl) ?_
  simp only [nz1, nz2, nz3]
  refine wpList_nil ?_
  refine then_n (hK33 _ _ ?_)
  refine wp_ret ?_
  refine blk_r ?_
  refine then_r ?_
  have he34 : holds_m r version = (decide (0 ≤ (compare_m version r.version))) := (show holds_m r version = (decide (0 ≤ (compare_m version r.version))) from by unfold holds_m; rw [if_neg hc12, if_neg hc16, if_neg hc20, if_neg hc24, if_neg hc28, if_pos hc32] <;> rfl)
  exact ⟨rfl, .bool (decide (0 ≤ (compare_m version r.version))), res_t rfl rfl, ⟨by (rw [he34]; try rfl), hm7.below⟩⟩
theorem run_holds {o : Oper} {a : Act} {w : World} {x0 x1 : Operand} {v0 v1 : Value} (ho : o.op = .call { callee := .value (.func 20), args := #[x0, x1], argTypes := #[24, 9] }) (h0 : a.eval x0 = v0) (h1 : a.eval x1 = v1) :
    (execOp a.eval o).run Tryd.prog w = .ok (.enter 20 #[v0, v1]) w := by
  unfold execOp
  simp only [ho]
  have hf : a.eval (.func 20) = .func (.func 20) #[] #[] := rfl
  generalize a.eval = f at *
  go_simp
def rholds_m (r : Rul) (version : List UInt8) : Bool :=
  if r.op = 0 then
    true
  else
    if r.op = 1 then
      (decide ((rcompare_m version r.version) = 0))
    else
      if r.op = 2 then
        (decide ((rcompare_m version r.version) < 0))
      else
        if r.op = 3 then
          (decide ((rcompare_m version r.version) ≤ 0))
        else
          if r.op = 4 then
            (decide (0 < (rcompare_m version r.version)))
          else
            if r.op = 5 then
              (decide (0 ≤ (rcompare_m version r.version)))
            else
              false

set_option maxHeartbeats 4000000 in
set_option maxRecDepth 100000 in
theorem rholds_any (r : Rul) (version : List UInt8) (w : World)   : Calls Tryd.prog 21 #[.agg #[.string (tx r.name), .int .i64 (r.op), .string (tx r.version)], .string (tx version)] w (fun e w' => e = .returned (.bool ((rholds_m r version))) ∧ Below w.heap.size w w') := by
  go_enter Tryd.func21, Tryd.ntmps21
  have hm00 := Mm.nil none (fun _ => True) w
  have hm0 := hm00
  refine wp_seq_k (fun K1 hK1 => ?_)
  refine wp_region_lit ?_
  refine lst rfl (m_alloc (c := #[.string (tx r.name), .int .i64 (r.op), .string (tx r.version)]) (T := 24) hm0 2 rfl (run_box rfl rfl) (fun g4 w2 (hm3 : Mm none (fun _ => True) w w2 [.blk g4 #[.string (tx r.name), .int .i64 (r.op), .string (tx r.version)] 24]) => ?_))
  simp only [nz1, nz2, nz3]
  refine lvw 4 (.bool false) rfl rfl (run_as rfl rfl) ?_
  simp only [nz1, nz2, nz3]
  refine wpList_nil ?_
  refine then_n (hK1 _ _ ?_)
  refine wp_seq_k (fun K5 hK5 => ?_)
  refine wp_region_lit ?_
  refine lvw 6 (.string (tx version)) rfl rfl (run_mv rfl rfl) ?_
  simp only [nz1, nz2, nz3]
  refine lvw 7 (.pointer (some ⟨g4, 2, none⟩)) rfl rfl (r_fa24_2 g4 0 rfl rfl) ?_
  simp only [nz1, nz2, nz3]
  refine lvw 8 (.string (tx r.version)) rfl rfl (r_load (hm3.at 0 rfl) rfl Tryd.underlying9 rfl rfl rfl) ?_
  simp only [nz1, nz2, nz3]
  refine lst rfl (m_call hm3 9 (.int .i64 ((rcompare_m version r.version))) rfl (run_rcompare rfl rfl rfl) (rcompare_any version r.version  _  ) (fun w6 (hm7 : Mm none (fun _ => True) w w6 [.blk g4 #[.string (tx r.name), .int .i64 (r.op), .string (tx r.version)] 24]) => ?_))
  simp only [nz1, nz2, nz3]
  refine lvw 5 (.int .i64 ((rcompare_m version r.version))) rfl rfl (run_as rfl rfl) ?_
  simp only [nz1, nz2, nz3]
  refine wpList_nil ?_
  refine then_n (hK5 _ _ ?_)
  refine wp_seq_k (fun K8 hK8 => ?_)
  refine wp_seq_k (fun K9 hK9 => ?_)
  refine wp_region_lit ?_
  refine lvw 10 (.pointer (some ⟨g4, 1, none⟩)) rfl rfl (r_fa24_1 g4 0 rfl rfl) ?_
  simp only [nz1, nz2, nz3]
  refine lvw 11 (.int .i64 (r.op)) rfl rfl (r_load (hm7.at 0 rfl) rfl Tryd.underlying3 rfl rfl rfl) ?_
  simp only [nz1, nz2, nz3]
  refine wpList_nil ?_
  refine then_n (hK9 _ _ ?_)
  refine wp_block ?_
  refine wp_seq_k (fun K10 hK10 => ?_)
  refine wp_region_lit ?_
  refine lvw 13 (.bool (decide (r.op = 0))) rfl rfl (z_eql r.op 0 rfl rfl rfl) ?_
  simp only [nz1, nz2, nz3]
  refine lvw 12 (.bool (decide (r.op = 0))) rfl rfl (run_as rfl rfl) ?_
  simp only [nz1, nz2, nz3]
  refine wpList_nil ?_
  refine then_n (hK10 _ _ ?_)
  refine cond_d (r.op = 0) rfl (fun hc11 => ?_) (fun hc11 => ?_)
  · refine wp_seq_k (fun K12 hK12 => ?_)
    refine wp_region_lit ?_
    refine lvw 4 (.bool true) rfl rfl (run_as rfl rfl) ?_
    simp only [nz1, nz2, nz3]
    refine wpList_nil ?_
    refine then_n (hK12 _ _ ?_)
    refine wp_ret ?_
    refine blk_r ?_
    refine then_r ?_
    have he13 : rholds_m r version = true := (show rholds_m r version = true from by unfold rholds_m; rw [if_pos hc11] <;> rfl)
    exact ⟨rfl, .bool true, res_t rfl rfl, ⟨by (rw [he13]; try rfl), hm7.below⟩⟩
  refine wp_seq_k (fun K14 hK14 => ?_)
  refine wp_region_lit ?_
  refine lvw 15 (.bool (decide (r.op = 1))) rfl rfl (z_eql r.op 1 rfl rfl rfl) ?_
  simp only [nz1, nz2, nz3]
  refine lvw 14 (.bool (decide (r.op = 1))) rfl rfl (run_as rfl rfl) ?_
  simp only [nz1, nz2, nz3]
  refine wpList_nil ?_
  refine then_n (hK14 _ _ ?_)
  refine cond_d (r.op = 1) rfl (fun hc15 => ?_) (fun hc15 => ?_)
  · refine wp_seq_k (fun K16 hK16 => ?_)
    refine wp_region_lit ?_
    refine lvw 16 (.int .i64 ((rcompare_m version r.version))) rfl rfl (run_mv rfl rfl) ?_
    simp only [nz1, nz2, nz3]
    refine lvw 17 (.bool (decide ((rcompare_m version r.version) = 0))) rfl rfl (z_eql (rcompare_m version r.version) 0 rfl rfl rfl) ?_
    simp only [nz1, nz2, nz3]
    refine lvw 4 (.bool (decide ((rcompare_m version r.version) = 0))) rfl rfl (run_as rfl rfl) ?_
    simp only [nz1, nz2, nz3]
    refine wpList_nil ?_
    refine then_n (hK16 _ _ ?_)
    refine wp_ret ?_
    refine blk_r ?_
    refine then_r ?_
    have he17 : rholds_m r version = (decide ((rcompare_m version r.version) = 0)) := (show rholds_m r version = (decide ((rcompare_m version r.version) = 0)) from by unfold rholds_m; rw [if_neg hc11, if_pos hc15] <;> rfl)
    exact ⟨rfl, .bool (decide ((rcompare_m version r.version) = 0)), res_t rfl rfl, ⟨by (rw [he17]; try rfl), hm7.below⟩⟩
  refine wp_seq_k (fun K18 hK18 => ?_)
  refine wp_region_lit ?_
  refine lvw 19 (.bool (decide (r.op = 2))) rfl rfl (z_eql r.op 2 rfl rfl rfl) ?_
  simp only [nz1, nz2, nz3]
  refine lvw 18 (.bool (decide (r.op = 2))) rfl rfl (run_as rfl rfl) ?_
  simp only [nz1, nz2, nz3]
  refine wpList_nil ?_
  refine then_n (hK18 _ _ ?_)
  refine cond_d (r.op = 2) rfl (fun hc19 => ?_) (fun hc19 => ?_)
  · refine wp_seq_k (fun K20 hK20 => ?_)
    refine wp_region_lit ?_
    refine lvw 20 (.int .i64 ((rcompare_m version r.version))) rfl rfl (run_mv rfl rfl) ?_
    simp only [nz1, nz2, nz3]
    refine lvw 21 (.bool (decide ((rcompare_m version r.version) < 0))) rfl rfl (z_lss (rcompare_m version r.version) 0 rfl rfl rfl) ?_
    simp only [nz1, nz2, nz3]
    refine lvw 4 (.bool (decide ((rcompare_m version r.version) < 0))) rfl rfl (run_as rfl rfl) ?_
    simp only [nz1, nz2, nz3]
    refine wpList_nil ?_
    refine then_n (hK20 _ _ ?_)
    refine wp_ret ?_
    refine blk_r ?_
    refine then_r ?_
    have he21 : rholds_m r version = (decide ((rcompare_m version r.version) < 0)) := (show rholds_m r version = (decide ((rcompare_m version r.version) < 0)) from by unfold rholds_m; rw [if_neg hc11, if_neg hc15, if_pos hc19] <;> rfl)
    exact ⟨rfl, .bool (decide ((rcompare_m version r.version) < 0)), res_t rfl rfl, ⟨by (rw [he21]; try rfl), hm7.below⟩⟩
  refine wp_seq_k (fun K22 hK22 => ?_)
  refine wp_region_lit ?_
  refine lvw 23 (.bool (decide (r.op = 3))) rfl rfl (z_eql r.op 3 rfl rfl rfl) ?_
  simp only [nz1, nz2, nz3]
  refine lvw 22 (.bool (decide (r.op = 3))) rfl rfl (run_as rfl rfl) ?_
  simp only [nz1, nz2, nz3]
  refine wpList_nil ?_
  refine then_n (hK22 _ _ ?_)
  refine cond_d (r.op = 3) rfl (fun hc23 => ?_) (fun hc23 => ?_)
  · refine wp_seq_k (fun K24 hK24 => ?_)
    refine wp_region_lit ?_
    refine lvw 24 (.int .i64 ((rcompare_m version r.version))) rfl rfl (run_mv rfl rfl) ?_
    simp only [nz1, nz2, nz3]
    refine lvw 25 (.bool (decide ((rcompare_m version r.version) ≤ 0))) rfl rfl (z_leq (rcompare_m version r.version) 0 rfl rfl rfl) ?_
    simp only [nz1, nz2, nz3]
    refine lvw 4 (.bool (decide ((rcompare_m version r.version) ≤ 0))) rfl rfl (run_as rfl rfl) ?_
    simp only [nz1, nz2, nz3]
    refine wpList_nil ?_
    refine then_n (hK24 _ _ ?_)
    refine wp_ret ?_
    refine blk_r ?_
    refine then_r ?_
    have he25 : rholds_m r version = (decide ((rcompare_m version r.version) ≤ 0)) := (show rholds_m r version = (decide ((rcompare_m version r.version) ≤ 0)) from by unfold rholds_m; rw [if_neg hc11, if_neg hc15, if_neg hc19, if_pos hc23] <;> rfl)
    exact ⟨rfl, .bool (decide ((rcompare_m version r.version) ≤ 0)), res_t rfl rfl, ⟨by (rw [he25]; try rfl), hm7.below⟩⟩
  refine wp_seq_k (fun K26 hK26 => ?_)
  refine wp_region_lit ?_
  refine lvw 27 (.bool (decide (r.op = 4))) rfl rfl (z_eql r.op 4 rfl rfl rfl) ?_
  simp only [nz1, nz2, nz3]
  refine lvw 26 (.bool (decide (r.op = 4))) rfl rfl (run_as rfl rfl) ?_
  simp only [nz1, nz2, nz3]
  refine wpList_nil ?_
  refine then_n (hK26 _ _ ?_)
  refine cond_d (r.op = 4) rfl (fun hc27 => ?_) (fun hc27 => ?_)
  · refine wp_seq_k (fun K28 hK28 => ?_)
    refine wp_region_lit ?_
    refine lvw 28 (.int .i64 ((rcompare_m version r.version))) rfl rfl (run_mv rfl rfl) ?_
    simp only [nz1, nz2, nz3]
    refine lvw 29 (.bool (decide (0 < (rcompare_m version r.version)))) rfl rfl (z_gtr (rcompare_m version r.version) 0 rfl rfl rfl) ?_
    simp only [nz1, nz2, nz3]
    refine lvw 4 (.bool (decide (0 < (rcompare_m version r.version)))) rfl rfl (run_as rfl rfl) ?_
    simp only [nz1, nz2, nz3]
    refine wpList_nil ?_
    refine then_n (hK28 _ _ ?_)
    refine wp_ret ?_
    refine blk_r ?_
    refine then_r ?_
    have he29 : rholds_m r version = (decide (0 < (rcompare_m version r.version))) := (show rholds_m r version = (decide (0 < (rcompare_m version r.version))) from by unfold rholds_m; rw [if_neg hc11, if_neg hc15, if_neg hc19, if_neg hc23, if_pos hc27] <;> rfl)
    exact ⟨rfl, .bool (decide (0 < (rcompare_m version r.version))), res_t rfl rfl, ⟨by (rw [he29]; try rfl), hm7.below⟩⟩
  refine wp_seq_k (fun K30 hK30 => ?_)
  refine wp_region_lit ?_
  refine lvw 31 (.bool (decide (r.op = 5))) rfl rfl (z_eql r.op 5 rfl rfl rfl) ?_
  simp only [nz1, nz2, nz3]
  refine lvw 30 (.bool (decide (r.op = 5))) rfl rfl (run_as rfl rfl) ?_
  simp only [nz1, nz2, nz3]
  refine wpList_nil ?_
  refine then_n (hK30 _ _ ?_)
  refine cond_d (r.op = 5) rfl (fun hc31 => ?_) (fun hc31 => ?_)
  rotate_left
  · refine wp_skip ?_
    refine blk_n ?_
    refine then_n (hK8 _ _ ?_)
    refine wp_seq_k (fun K34 hK34 => ?_)
    refine wp_region_lit ?_
    refine lvw 4 (.bool false) rfl rfl (run_as rfl rfl) ?_
    simp only [nz1, nz2, nz3]
    refine wpList_nil ?_
    refine then_n (hK34 _ _ ?_)
    refine wp_ret ?_
    have he35 : rholds_m r version = false := (show rholds_m r version = false from by unfold rholds_m; rw [if_neg hc11, if_neg hc15, if_neg hc19, if_neg hc23, if_neg hc27, if_neg hc31] <;> rfl)
    exact ⟨rfl, .bool false, res_t rfl rfl, ⟨by (rw [he35]; try rfl), hm7.below⟩⟩
  refine wp_seq_k (fun K32 hK32 => ?_)
  refine wp_region_lit ?_
  refine lvw 32 (.int .i64 ((rcompare_m version r.version))) rfl rfl (run_mv rfl rfl) ?_
  simp only [nz1, nz2, nz3]
  refine lvw 33 (.bool (decide (0 ≤ (rcompare_m version r.version)))) rfl rfl (z_geq (rcompare_m version r.version) 0 rfl rfl rfl) ?_
  simp only [nz1, nz2, nz3]
  refine lvw 4 (.bool (decide (0 ≤ (rcompare_m version r.version)))) rfl rfl (run_as rfl rfl) ?_
  simp only [nz1, nz2, nz3]
  refine wpList_nil ?_
  refine then_n (hK32 _ _ ?_)
  refine wp_ret ?_
  refine blk_r ?_
  refine then_r ?_
  have he33 : rholds_m r version = (decide (0 ≤ (rcompare_m version r.version))) := (show rholds_m r version = (decide (0 ≤ (rcompare_m version r.version))) from by unfold rholds_m; rw [if_neg hc11, if_neg hc15, if_neg hc19, if_neg hc23, if_neg hc27, if_pos hc31] <;> rfl)
  exact ⟨rfl, .bool (decide (0 ≤ (rcompare_m version r.version))), res_t rfl rfl, ⟨by (rw [he33]; try rfl), hm7.below⟩⟩
theorem run_rholds {o : Oper} {a : Act} {w : World} {x0 x1 : Operand} {v0 v1 : Value} (ho : o.op = .call { callee := .value (.func 21), args := #[x0, x1], argTypes := #[24, 9] }) (h0 : a.eval x0 = v0) (h1 : a.eval x1 = v1) :
    (execOp a.eval o).run Tryd.prog w = .ok (.enter 21 #[v0, v1]) w := by
  unfold execOp
  simp only [ho]
  have hf : a.eval (.func 21) = .func (.func 21) #[] #[] := rfl
  generalize a.eval = f at *
  go_simp
end Go.Proofs.YtpbenhfnebgbiaaDoor.Ve
