/- Layer 7: the document's parts. -/
import Derived.Test.YtdohmmdfenafnaaDoorPaL
namespace Go.Proofs.YtdohmmdfenafnaaDoor.Pa
open Go.RowKit
open Go.Proofs.YtdohmmdfenafnaaDoor.Sym Go.Proofs.YtdohmmdfenafnaaDoor.Mem
open Go.Proofs.YtdohmmdfenafnaaDoor.Sx hiding Mm m_alloc m_store m_put m_call m_callx m_make m_append r_string r_ixS
set_option linter.unusedVariables false
attribute [local irreducible] wpList Oper.wp

def rsize_m (r : Int) : Int :=
  (((rune1 r).length : Nat) : Int)

set_option maxHeartbeats 4000000 in
set_option maxRecDepth 100000 in
theorem rsize_any (r : Int) (w : World)   : Calls Tryd.prog 42 #[.int .i32 (r)] w (fun e w' => e = .returned (.int .i64 ((rsize_m r))) ∧ Below w.heap.size w w') := by
  go_enter Tryd.func42, Tryd.ntmps42
  have hm00 := Mm.nil none (fun _ => True) w
  have hm0 := hm00
  refine wp_seq_k (fun K1 hK1 => ?_)
  refine wp_region_lit ?_
  refine lvw 2 (.int .i64 0) rfl rfl (run_as rfl rfl) ?_
  simp only [nz1, nz2, nz3]
  refine wpList_nil ?_
  refine then_n (hK1 _ _ ?_)
  refine wp_seq_k (fun K2 hK2 => ?_)
  refine wp_region_lit ?_
  refine lvw 3 (.int .i32 (r)) rfl rfl (run_mv rfl rfl) ?_
  simp only [nz1, nz2, nz3]
  refine lst rfl (m_make (c := #[.int .i32 (r)]) (T := 21) (fun g => .slice (some ⟨g, 0, none⟩) 1 1) hm0 4 rfl (by unfold execOp; go_simp; try rfl) (fun g5 w3 (hm4 : Mm none (fun _ => True) w w3 [.blk g5 #[.int .i32 (r)] 21]) => ?_))
  simp only [nz1, nz2, nz3]
  refine lvw 5 (.string (tx (rune1 r))) rfl rfl (r_rune1 r (hm4.at 0 rfl) Tryd.underlying63 Tryd.underlying21 Tryd.underlying9 rfl rfl) ?_
  simp only [nz1, nz2, nz3]
  refine lvw 6 (.int .i64 (((rune1 r).length : Nat) : Int)) rfl rfl (t_len rfl Tryd.underlying9 rfl) ?_
  simp only [nz1, nz2, nz3]
  refine lvw 2 (.int .i64 (((rune1 r).length : Nat) : Int)) rfl rfl (run_as rfl rfl) ?_
  simp only [nz1, nz2, nz3]
  refine wpList_nil ?_
  refine then_n (hK2 _ _ ?_)
  refine wp_ret ?_
  have he6 : rsize_m r = (((rune1 r).length : Nat) : Int) := (show rsize_m r = (((rune1 r).length : Nat) : Int) from by unfold rsize_m; rfl)
  exact ⟨rfl, .int .i64 (((rune1 r).length : Nat) : Int), res_t rfl rfl, ⟨by rw [he6], hm4.below⟩⟩
theorem run_rsize {o : Oper} {a : Act} {w : World} {x0 : Operand} {v0 : Value} (ho : o.op = .call { callee := .value (.func 42), args := #[x0], argTypes := #[21] }) (h0 : a.eval x0 = v0) :
    (execOp a.eval o).run Tryd.prog w = .ok (.enter 42 #[v0]) w := by
  unfold execOp
  simp only [ho]
  have hf : a.eval (.func 42) = .func (.func 42) #[] #[] := rfl
  generalize a.eval = f at *
  go_simp
theorem rsize_rng (r : Int) : 1 ≤ rsize_m r ∧ rsize_m r ≤ 4 := by
  have h := rune1_len r
  unfold rsize_m
  split at h
  · split at h
    · omega
    split at h
    · omega
    split at h <;> omega
  · omega
def rsign_m (r : Int) (size : Int) : Bool :=
  if 32 < r then
    if ¬ r = 127 then
      if ¬ r = 47 then
        if r = 65533 then
          if ¬ (¬ size = 3) then
            if 128 ≤ r then
              (decide (¬ (r < 160)))
            else
              true
          else
            false
        else
          if 128 ≤ r then
            (decide (¬ (r < 160)))
          else
            true
      else
        false
    else
      false
  else
    false

set_option maxHeartbeats 4000000 in
set_option maxRecDepth 100000 in
theorem rsign_any (r : Int) (size : Int) (w : World)   : Calls Tryd.prog 43 #[.int .i32 (r), .int .i64 (size)] w (fun e w' => e = .returned (.bool ((rsign_m r size))) ∧ Below w.heap.size w w') := by
  go_enter Tryd.func43, Tryd.ntmps43
  have hm00 := Mm.nil none (fun _ => True) w
  have hm0 := hm00
  refine wp_seq_k (fun K1 hK1 => ?_)
  refine wp_region_lit ?_
  refine lvw 4 (.bool false) rfl rfl (run_as rfl rfl) ?_
  simp only [nz1, nz2, nz3]
  refine wpList_nil ?_
  refine then_n (hK1 _ _ ?_)
  refine wp_seq_k (fun K2 hK2 => ?_)
  refine wp_region_lit ?_
  refine lvw 5 (.int .i32 (r)) rfl rfl (run_mv rfl rfl) ?_
  simp only [nz1, nz2, nz3]
  refine lvb 6 (32 < r) rfl rfl (z_gtr r 32 rfl rfl rfl) (fun hs3 => ?_) (fun hs3 => ?_)
  rotate_left
  · simp only [nz1, nz2, nz3]
    refine lvw 7 (.bool false) rfl rfl (run_mv rfl rfl) ?_
    simp only [nz1, nz2, nz3]
    refine lst_skip 8 rfl rfl ?_
    simp only [nz1, nz2, nz3]
    refine lst_skip 9 rfl rfl ?_
    simp only [nz1, nz2, nz3]
    refine lvw 10 (.bool false) rfl rfl (run_pickf rfl rfl rfl) ?_
    simp only [nz1, nz2, nz3]
    refine lvw 11 (.bool false) rfl rfl (run_mv rfl rfl) ?_
    simp only [nz1, nz2, nz3]
    refine lst_skip 12 rfl rfl ?_
    simp only [nz1, nz2, nz3]
    refine lst_skip 13 rfl rfl ?_
    simp only [nz1, nz2, nz3]
    refine lvw 14 (.bool false) rfl rfl (run_pickf rfl rfl rfl) ?_
    simp only [nz1, nz2, nz3]
    refine lvw 15 (.bool false) rfl rfl (run_mv rfl rfl) ?_
    simp only [nz1, nz2, nz3]
    refine lst_skip 16 rfl rfl ?_
    simp only [nz1, nz2, nz3]
    refine lst_skip 17 rfl rfl ?_
    simp only [nz1, nz2, nz3]
    refine lst_skip 18 rfl rfl ?_
    simp only [nz1, nz2, nz3]
    refine lst_skip 19 rfl rfl ?_
    simp only [nz1, nz2, nz3]
    refine lst_skip 20 rfl rfl ?_
    simp only [nz1, nz2, nz3]
    refine lst_skip 21 rfl rfl ?_
    simp only [nz1, nz2, nz3]
    refine lst_skip 22 rfl rfl ?_
    simp only [nz1, nz2, nz3]
    refine lvw 23 (.bool false) rfl rfl (run_pickf rfl rfl rfl) ?_
    simp only [nz1, nz2, nz3]
    refine lvw 24 (.bool false) rfl rfl (run_mv rfl rfl) ?_
    simp only [nz1, nz2, nz3]
    refine lst_skip 25 rfl rfl ?_
    simp only [nz1, nz2, nz3]
    refine lst_skip 26 rfl rfl ?_
    simp only [nz1, nz2, nz3]
    refine lst_skip 27 rfl rfl ?_
    simp only [nz1, nz2, nz3]
    refine lst_skip 28 rfl rfl ?_
    simp only [nz1, nz2, nz3]
    refine lst_skip 29 rfl rfl ?_
    simp only [nz1, nz2, nz3]
    refine lst_skip 30 rfl rfl ?_
    simp only [nz1, nz2, nz3]
    refine lst_skip 31 rfl rfl ?_
    simp only [nz1, nz2, nz3]
    refine lvw 32 (.bool false) rfl rfl (run_pickf rfl rfl rfl) ?_
    simp only [nz1, nz2, nz3]
    refine lvw 4 (.bool false) rfl rfl (run_as rfl rfl) ?_
    simp only [nz1, nz2, nz3]
    refine wpList_nil ?_
    refine then_n (hK2 _ _ ?_)
    refine wp_ret ?_
    have he17 : rsign_m r size = false := (show rsign_m r size = false from by unfold rsign_m; rw [if_neg hs3] <;> rfl)
    exact ⟨rfl, .bool false, res_t rfl rfl, ⟨by rw [he17], hm0.below⟩⟩
  simp only [nz1, nz2, nz3]
  refine lvw 7 (.bool true) rfl rfl (run_mv rfl rfl) ?_
  simp only [nz1, nz2, nz3]
  refine lvw 8 (.int .i32 (r)) rfl rfl (run_mv rfl rfl) ?_
  simp only [nz1, nz2, nz3]
  refine lvb 9 (¬ r = 127) rfl rfl (z_neq r 127 rfl rfl rfl) (fun hs4 => ?_) (fun hs4 => ?_)
  rotate_left
  · simp only [nz1, nz2, nz3]
    refine lvw 10 (.bool false) rfl rfl (run_pick rfl rfl rfl) ?_
    simp only [nz1, nz2, nz3]
    refine lvw 11 (.bool false) rfl rfl (run_mv rfl rfl) ?_
    simp only [nz1, nz2, nz3]
    refine lst_skip 12 rfl rfl ?_
    simp only [nz1, nz2, nz3]
    refine lst_skip 13 rfl rfl ?_
    simp only [nz1, nz2, nz3]
    refine lvw 14 (.bool false) rfl rfl (run_pickf rfl rfl rfl) ?_
    simp only [nz1, nz2, nz3]
    refine lvw 15 (.bool false) rfl rfl (run_mv rfl rfl) ?_
    simp only [nz1, nz2, nz3]
    refine lst_skip 16 rfl rfl ?_
    simp only [nz1, nz2, nz3]
    refine lst_skip 17 rfl rfl ?_
    simp only [nz1, nz2, nz3]
    refine lst_skip 18 rfl rfl ?_
    simp only [nz1, nz2, nz3]
    refine lst_skip 19 rfl rfl ?_
    simp only [nz1, nz2, nz3]
    refine lst_skip 20 rfl rfl ?_
    simp only [nz1, nz2, nz3]
    refine lst_skip 21 rfl rfl ?_
    simp only [nz1, nz2, nz3]
    refine lst_skip 22 rfl rfl ?_
    simp only [nz1, nz2, nz3]
    refine lvw 23 (.bool false) rfl rfl (run_pickf rfl rfl rfl) ?_
    simp only [nz1, nz2, nz3]
    refine lvw 24 (.bool false) rfl rfl (run_mv rfl rfl) ?_
    simp only [nz1, nz2, nz3]
    refine lst_skip 25 rfl rfl ?_
    simp only [nz1, nz2, nz3]
    refine lst_skip 26 rfl rfl ?_
    simp only [nz1, nz2, nz3]
    refine lst_skip 27 rfl rfl ?_
    simp only [nz1, nz2, nz3]
    refine lst_skip 28 rfl rfl ?_
    simp only [nz1, nz2, nz3]
    refine lst_skip 29 rfl rfl ?_
    simp only [nz1, nz2, nz3]
    refine lst_skip 30 rfl rfl ?_
    simp only [nz1, nz2, nz3]
    refine lst_skip 31 rfl rfl ?_
    simp only [nz1, nz2, nz3]
    refine lvw 32 (.bool false) rfl rfl (run_pickf rfl rfl rfl) ?_
    simp only [nz1, nz2, nz3]
    refine lvw 4 (.bool false) rfl rfl (run_as rfl rfl) ?_
    simp only [nz1, nz2, nz3]
    refine wpList_nil ?_
    refine then_n (hK2 _ _ ?_)
    refine wp_ret ?_
    have he16 : rsign_m r size = false := (show rsign_m r size = false from by unfold rsign_m; rw [if_pos hs3, if_neg hs4] <;> rfl)
    exact ⟨rfl, .bool false, res_t rfl rfl, ⟨by rw [he16], hm0.below⟩⟩
  simp only [nz1, nz2, nz3]
  refine lvw 10 (.bool true) rfl rfl (run_pick rfl rfl rfl) ?_
  simp only [nz1, nz2, nz3]
  refine lvw 11 (.bool true) rfl rfl (run_mv rfl rfl) ?_
  simp only [nz1, nz2, nz3]
  refine lvw 12 (.int .i32 (r)) rfl rfl (run_mv rfl rfl) ?_
  simp only [nz1, nz2, nz3]
  refine lvb 13 (¬ r = 47) rfl rfl (z_neq r 47 rfl rfl rfl) (fun hs5 => ?_) (fun hs5 => ?_)
  rotate_left
  · simp only [nz1, nz2, nz3]
    refine lvw 14 (.bool false) rfl rfl (run_pick rfl rfl rfl) ?_
    simp only [nz1, nz2, nz3]
    refine lvw 15 (.bool false) rfl rfl (run_mv rfl rfl) ?_
    simp only [nz1, nz2, nz3]
    refine lst_skip 16 rfl rfl ?_
    simp only [nz1, nz2, nz3]
    refine lst_skip 17 rfl rfl ?_
    simp only [nz1, nz2, nz3]
    refine lst_skip 18 rfl rfl ?_
    simp only [nz1, nz2, nz3]
    refine lst_skip 19 rfl rfl ?_
    simp only [nz1, nz2, nz3]
    refine lst_skip 20 rfl rfl ?_
    simp only [nz1, nz2, nz3]
    refine lst_skip 21 rfl rfl ?_
    simp only [nz1, nz2, nz3]
    refine lst_skip 22 rfl rfl ?_
    simp only [nz1, nz2, nz3]
    refine lvw 23 (.bool false) rfl rfl (run_pickf rfl rfl rfl) ?_
    simp only [nz1, nz2, nz3]
    refine lvw 24 (.bool false) rfl rfl (run_mv rfl rfl) ?_
    simp only [nz1, nz2, nz3]
    refine lst_skip 25 rfl rfl ?_
    simp only [nz1, nz2, nz3]
    refine lst_skip 26 rfl rfl ?_
    simp only [nz1, nz2, nz3]
    refine lst_skip 27 rfl rfl ?_
    simp only [nz1, nz2, nz3]
    refine lst_skip 28 rfl rfl ?_
    simp only [nz1, nz2, nz3]
    refine lst_skip 29 rfl rfl ?_
    simp only [nz1, nz2, nz3]
    refine lst_skip 30 rfl rfl ?_
    simp only [nz1, nz2, nz3]
    refine lst_skip 31 rfl rfl ?_
    simp only [nz1, nz2, nz3]
    refine lvw 32 (.bool false) rfl rfl (run_pickf rfl rfl rfl) ?_
    simp only [nz1, nz2, nz3]
    refine lvw 4 (.bool false) rfl rfl (run_as rfl rfl) ?_
    simp only [nz1, nz2, nz3]
    refine wpList_nil ?_
    refine then_n (hK2 _ _ ?_)
    refine wp_ret ?_
    have he15 : rsign_m r size = false := (show rsign_m r size = false from by unfold rsign_m; rw [if_pos hs3, if_pos hs4, if_neg hs5] <;> rfl)
    exact ⟨rfl, .bool false, res_t rfl rfl, ⟨by rw [he15], hm0.below⟩⟩
  simp only [nz1, nz2, nz3]
  refine lvw 14 (.bool true) rfl rfl (run_pick rfl rfl rfl) ?_
  simp only [nz1, nz2, nz3]
  refine lvw 15 (.bool true) rfl rfl (run_mv rfl rfl) ?_
  simp only [nz1, nz2, nz3]
  refine lvw 16 (.int .i32 (r)) rfl rfl (run_mv rfl rfl) ?_
  simp only [nz1, nz2, nz3]
  refine lvb 17 (r = 65533) rfl rfl (z_eql r 65533 rfl rfl rfl) (fun hs6 => ?_) (fun hs6 => ?_)
  rotate_left
  · simp only [nz1, nz2, nz3]
    refine lvw 18 (.bool false) rfl rfl (run_mv rfl rfl) ?_
    simp only [nz1, nz2, nz3]
    refine lst_skip 19 rfl rfl ?_
    simp only [nz1, nz2, nz3]
    refine lst_skip 20 rfl rfl ?_
    simp only [nz1, nz2, nz3]
    refine lvw 21 (.bool false) rfl rfl (run_pickf rfl rfl rfl) ?_
    simp only [nz1, nz2, nz3]
    refine lvw 22 (.bool true) rfl rfl (r_not false rfl rfl) ?_
    simp only [nz1, nz2, nz3]
    refine lvw 23 (.bool true) rfl rfl (run_pick rfl rfl rfl) ?_
    simp only [nz1, nz2, nz3]
    refine lvw 24 (.bool true) rfl rfl (run_mv rfl rfl) ?_
    simp only [nz1, nz2, nz3]
    refine lvw 25 (.int .i32 (r)) rfl rfl (run_mv rfl rfl) ?_
    simp only [nz1, nz2, nz3]
    refine lvb 26 (128 ≤ r) rfl rfl (z_geq r 128 rfl rfl rfl) (fun hs12 => ?_) (fun hs12 => ?_)
    · simp only [nz1, nz2, nz3]
      refine lvw 27 (.bool true) rfl rfl (run_mv rfl rfl) ?_
      simp only [nz1, nz2, nz3]
      refine lvw 28 (.int .i32 (r)) rfl rfl (run_mv rfl rfl) ?_
      simp only [nz1, nz2, nz3]
      refine lvw 29 (.bool (decide (r < 160))) rfl rfl (z_lss r 160 rfl rfl rfl) ?_
      simp only [nz1, nz2, nz3]
      refine lvw 30 (.bool (decide (r < 160))) rfl rfl (run_pick rfl rfl rfl) ?_
      simp only [nz1, nz2, nz3]
      refine lvw 31 (.bool (decide (¬ (r < 160)))) rfl rfl (r_notD (r < 160) rfl rfl) ?_
      simp only [nz1, nz2, nz3]
      refine lvw 32 (.bool (decide (¬ (r < 160)))) rfl rfl (run_pick rfl rfl rfl) ?_
      simp only [nz1, nz2, nz3]
      refine lvw 4 (.bool (decide (¬ (r < 160)))) rfl rfl (run_as rfl rfl) ?_
      simp only [nz1, nz2, nz3]
      refine wpList_nil ?_
      refine then_n (hK2 _ _ ?_)
      refine wp_ret ?_
      have he13 : rsign_m r size = (decide (¬ (r < 160))) := (show rsign_m r size = (decide (¬ (r < 160))) from by unfold rsign_m; rw [if_pos hs3, if_pos hs4, if_pos hs5, if_neg hs6, if_pos hs12] <;> rfl)
      exact ⟨rfl, .bool (decide (¬ (r < 160))), res_t rfl rfl, ⟨by rw [he13], hm0.below⟩⟩
    simp only [nz1, nz2, nz3]
    refine lvw 27 (.bool false) rfl rfl (run_mv rfl rfl) ?_
    simp only [nz1, nz2, nz3]
    refine lst_skip 28 rfl rfl ?_
    simp only [nz1, nz2, nz3]
    refine lst_skip 29 rfl rfl ?_
    simp only [nz1, nz2, nz3]
    refine lvw 30 (.bool false) rfl rfl (run_pickf rfl rfl rfl) ?_
    simp only [nz1, nz2, nz3]
    refine lvw 31 (.bool true) rfl rfl (r_not false rfl rfl) ?_
    simp only [nz1, nz2, nz3]
    refine lvw 32 (.bool true) rfl rfl (run_pick rfl rfl rfl) ?_
    simp only [nz1, nz2, nz3]
    refine lvw 4 (.bool true) rfl rfl (run_as rfl rfl) ?_
    simp only [nz1, nz2, nz3]
    refine wpList_nil ?_
    refine then_n (hK2 _ _ ?_)
    refine wp_ret ?_
    have he14 : rsign_m r size = true := (show rsign_m r size = true from by unfold rsign_m; rw [if_pos hs3, if_pos hs4, if_pos hs5, if_neg hs6, if_neg hs12] <;> rfl)
    exact ⟨rfl, .bool true, res_t rfl rfl, ⟨by rw [he14], hm0.below⟩⟩
  simp only [nz1, nz2, nz3]
  refine lvw 18 (.bool true) rfl rfl (run_mv rfl rfl) ?_
  simp only [nz1, nz2, nz3]
  refine lvw 19 (.int .i64 (size)) rfl rfl (run_mv rfl rfl) ?_
  simp only [nz1, nz2, nz3]
  refine lvw 20 (.bool (decide (¬ size = 3))) rfl rfl (z_neq size 3 rfl rfl rfl) ?_
  simp only [nz1, nz2, nz3]
  refine lvw 21 (.bool (decide (¬ size = 3))) rfl rfl (run_pick rfl rfl rfl) ?_
  simp only [nz1, nz2, nz3]
  refine lvb 22 (¬ (¬ size = 3)) rfl rfl (r_notD (¬ size = 3) rfl rfl) (fun hs7 => ?_) (fun hs7 => ?_)
  rotate_left
  · simp only [nz1, nz2, nz3]
    refine lvw 23 (.bool false) rfl rfl (run_pick rfl rfl rfl) ?_
    simp only [nz1, nz2, nz3]
    refine lvw 24 (.bool false) rfl rfl (run_mv rfl rfl) ?_
    simp only [nz1, nz2, nz3]
    refine lst_skip 25 rfl rfl ?_
    simp only [nz1, nz2, nz3]
    refine lst_skip 26 rfl rfl ?_
    simp only [nz1, nz2, nz3]
    refine lst_skip 27 rfl rfl ?_
    simp only [nz1, nz2, nz3]
    refine lst_skip 28 rfl rfl ?_
    simp only [nz1, nz2, nz3]
    refine lst_skip 29 rfl rfl ?_
    simp only [nz1, nz2, nz3]
    refine lst_skip 30 rfl rfl ?_
    simp only [nz1, nz2, nz3]
    refine lst_skip 31 rfl rfl ?_
    simp only [nz1, nz2, nz3]
    refine lvw 32 (.bool false) rfl rfl (run_pickf rfl rfl rfl) ?_
    simp only [nz1, nz2, nz3]
    refine lvw 4 (.bool false) rfl rfl (run_as rfl rfl) ?_
    simp only [nz1, nz2, nz3]
    refine wpList_nil ?_
    refine then_n (hK2 _ _ ?_)
    refine wp_ret ?_
    have he11 : rsign_m r size = false := (show rsign_m r size = false from by unfold rsign_m; rw [if_pos hs3, if_pos hs4, if_pos hs5, if_pos hs6, if_neg hs7] <;> rfl)
    exact ⟨rfl, .bool false, res_t rfl rfl, ⟨by rw [he11], hm0.below⟩⟩
  simp only [nz1, nz2, nz3]
  refine lvw 23 (.bool true) rfl rfl (run_pick rfl rfl rfl) ?_
  simp only [nz1, nz2, nz3]
  refine lvw 24 (.bool true) rfl rfl (run_mv rfl rfl) ?_
  simp only [nz1, nz2, nz3]
  refine lvw 25 (.int .i32 (r)) rfl rfl (run_mv rfl rfl) ?_
  simp only [nz1, nz2, nz3]
  refine lvb 26 (128 ≤ r) rfl rfl (z_geq r 128 rfl rfl rfl) (fun hs8 => ?_) (fun hs8 => ?_)
  · simp only [nz1, nz2, nz3]
    refine lvw 27 (.bool true) rfl rfl (run_mv rfl rfl) ?_
    simp only [nz1, nz2, nz3]
    refine lvw 28 (.int .i32 (r)) rfl rfl (run_mv rfl rfl) ?_
    simp only [nz1, nz2, nz3]
    refine lvw 29 (.bool (decide (r < 160))) rfl rfl (z_lss r 160 rfl rfl rfl) ?_
    simp only [nz1, nz2, nz3]
    refine lvw 30 (.bool (decide (r < 160))) rfl rfl (run_pick rfl rfl rfl) ?_
    simp only [nz1, nz2, nz3]
    refine lvw 31 (.bool (decide (¬ (r < 160)))) rfl rfl (r_notD (r < 160) rfl rfl) ?_
    simp only [nz1, nz2, nz3]
    refine lvw 32 (.bool (decide (¬ (r < 160)))) rfl rfl (run_pick rfl rfl rfl) ?_
    simp only [nz1, nz2, nz3]
    refine lvw 4 (.bool (decide (¬ (r < 160)))) rfl rfl (run_as rfl rfl) ?_
    simp only [nz1, nz2, nz3]
    refine wpList_nil ?_
    refine then_n (hK2 _ _ ?_)
    refine wp_ret ?_
    have he9 : rsign_m r size = (decide (¬ (r < 160))) := (show rsign_m r size = (decide (¬ (r < 160))) from by unfold rsign_m; rw [if_pos hs3, if_pos hs4, if_pos hs5, if_pos hs6, if_pos hs7, if_pos hs8] <;> rfl)
    exact ⟨rfl, .bool (decide (¬ (r < 160))), res_t rfl rfl, ⟨by rw [he9], hm0.below⟩⟩
  simp only [nz1, nz2, nz3]
  refine lvw 27 (.bool false) rfl rfl (run_mv rfl rfl) ?_
  simp only [nz1, nz2, nz3]
  refine lst_skip 28 rfl rfl ?_
  simp only [nz1, nz2, nz3]
  refine lst_skip 29 rfl rfl ?_
  simp only [nz1, nz2, nz3]
  refine lvw 30 (.bool false) rfl rfl (run_pickf rfl rfl rfl) ?_
  simp only [nz1, nz2, nz3]
  refine lvw 31 (.bool true) rfl rfl (r_not false rfl rfl) ?_
  simp only [nz1, nz2, nz3]
  refine lvw 32 (.bool true) rfl rfl (run_pick rfl rfl rfl) ?_
  simp only [nz1, nz2, nz3]
  refine lvw 4 (.bool true) rfl rfl (run_as rfl rfl) ?_
  simp only [nz1, nz2, nz3]
  refine wpList_nil ?_
  refine then_n (hK2 _ _ ?_)
  refine wp_ret ?_
  have he10 : rsign_m r size = true := (show rsign_m r size = true from by unfold rsign_m; rw [if_pos hs3, if_pos hs4, if_pos hs5, if_pos hs6, if_pos hs7, if_neg hs8] <;> rfl)
  exact ⟨rfl, .bool true, res_t rfl rfl, ⟨by rw [he10], hm0.below⟩⟩
theorem run_rsign {o : Oper} {a : Act} {w : World} {x0 x1 : Operand} {v0 v1 : Value} (ho : o.op = .call { callee := .value (.func 43), args := #[x0, x1], argTypes := #[21, 3] }) (h0 : a.eval x0 = v0) (h1 : a.eval x1 = v1) :
    (execOp a.eval o).run Tryd.prog w = .ok (.enter 43 #[v0, v1]) w := by
  unfold execOp
  simp only [ho]
  have hf : a.eval (.func 43) = .func (.func 43) #[] #[] := rfl
  generalize a.eval = f at *
  go_simp
def rpart_m_b0 (s : List UInt8) (rec : Nat × Int → Sum (Nat × Int) (Bool)) (p22 : Nat) (x23 : Int) : Sum (Nat × Int) (Bool) :=
  if p22 < s.length then
    if (dec s p22).1 = 65533 then
      if (((s.length : Nat) : Int) - x23) < 3 then
        if (!(rsign_m (((dec s p22).1 : Nat) : Int) 1)) = true then
          .inr false
        else
          rec ((nxp s p22), (x23 + (1 : Int)))
      else
        if ¬ ((s.take ((x23 + (3 : Int)).toNat)).drop x23.toNat) = [239, 191, 189] then
          if (!(rsign_m (((dec s p22).1 : Nat) : Int) 1)) = true then
            .inr false
          else
            rec ((nxp s p22), (x23 + (1 : Int)))
        else
          if (!(rsign_m (((dec s p22).1 : Nat) : Int) (rsize_m (((dec s p22).1 : Nat) : Int)))) = true then
            .inr false
          else
            rec ((nxp s p22), (x23 + (rsize_m (((dec s p22).1 : Nat) : Int))))
    else
      if (!(rsign_m (((dec s p22).1 : Nat) : Int) (rsize_m (((dec s p22).1 : Nat) : Int)))) = true then
        .inr false
      else
        rec ((nxp s p22), (x23 + (rsize_m (((dec s p22).1 : Nat) : Int))))
  else
    .inl ((nxp s p22), x23)
def rpart_m_l0 (s : List UInt8) : Nat → Nat × Int → Sum (Nat × Int) (Bool)
  | 0, zz => .inl zz
  | nq + 1, zz => rpart_m_b0 s (rpart_m_l0 s nq) zz.1 zz.2

def rpart_m_k0 (s : List UInt8) (y27 : Nat) (y28 : Int) : Bool :=
  true

def rpart_m (s : List UInt8) : Bool :=
  if s = [] then
    false
  else
    if 64 < s.length then
      false
    else
      if s = [46] then
        false
      else
        if s = [46, 46] then
          false
        else
          fin (rpart_m_l0 s ((s.length - 0) + 1) (0, 0)) (fun r => r) (fun zz => rpart_m_k0 s zz.1 zz.2)

set_option maxHeartbeats 4000000 in
set_option maxRecDepth 100000 in
theorem rpart_any (s : List UInt8) (w : World)   : Calls Tryd.prog 19 #[.string (tx s)] w (fun e w' => e = .returned (.bool ((rpart_m s))) ∧ Below w.heap.size w w') := by
  go_enter Tryd.func19, Tryd.ntmps19
  have hm00 := Mm.nil none (fun _ => True) w
  have hm0 := hm00
  refine wp_seq_k (fun K1 hK1 => ?_)
  refine wp_region_lit ?_
  refine lvw 2 (.bool false) rfl rfl (run_as rfl rfl) ?_
  simp only [nz1, nz2, nz3]
  refine wpList_nil ?_
  refine then_n (hK1 _ _ ?_)
  refine wp_seq_k (fun K2 hK2 => ?_)
  refine wp_seq_k (fun K3 hK3 => ?_)
  refine wp_region_lit ?_
  refine lvw 7 (.string (tx s)) rfl rfl (run_mv rfl rfl) ?_
  simp only [nz1, nz2, nz3]
  refine lvb 8 (s = []) rfl rfl (t_eql s ([]) rfl rfl rfl) (fun hs4 => ?_) (fun hs4 => ?_)
  · simp only [nz1, nz2, nz3]
    refine lvw 9 (.bool true) rfl rfl (run_mv rfl rfl) ?_
    simp only [nz1, nz2, nz3]
    refine lst_skip 10 rfl rfl ?_
    simp only [nz1, nz2, nz3]
    refine lst_skip 11 rfl rfl ?_
    simp only [nz1, nz2, nz3]
    refine lst_skip 12 rfl rfl ?_
    simp only [nz1, nz2, nz3]
    refine lvw 13 (.bool true) rfl rfl (run_pick rfl rfl rfl) ?_
    simp only [nz1, nz2, nz3]
    refine lvw 14 (.bool true) rfl rfl (run_mv rfl rfl) ?_
    simp only [nz1, nz2, nz3]
    refine lst_skip 15 rfl rfl ?_
    simp only [nz1, nz2, nz3]
    refine lst_skip 16 rfl rfl ?_
    simp only [nz1, nz2, nz3]
    refine lvw 17 (.bool true) rfl rfl (run_pick rfl rfl rfl) ?_
    simp only [nz1, nz2, nz3]
    refine lvw 18 (.bool true) rfl rfl (run_mv rfl rfl) ?_
    simp only [nz1, nz2, nz3]
    refine lst_skip 19 rfl rfl ?_
    simp only [nz1, nz2, nz3]
    refine lst_skip 20 rfl rfl ?_
    simp only [nz1, nz2, nz3]
    refine lvw 21 (.bool true) rfl rfl (run_pick rfl rfl rfl) ?_
    simp only [nz1, nz2, nz3]
    refine wpList_nil ?_
    refine then_n (hK3 _ _ ?_)
    refine cond_t rfl ?_
    refine wp_seq_k (fun K5 hK5 => ?_)
    refine wp_region_lit ?_
    refine lvw 2 (.bool false) rfl rfl (run_as rfl rfl) ?_
    simp only [nz1, nz2, nz3]
    refine wpList_nil ?_
    refine then_n (hK5 _ _ ?_)
    refine wp_ret ?_
    refine then_r ?_
    have he6 : rpart_m s = false := (show rpart_m s = false from by unfold rpart_m; rw [if_pos hs4] <;> rfl)
    exact ⟨rfl, .bool false, res_t rfl rfl, ⟨by rw [he6], hm0.below⟩⟩
  simp only [nz1, nz2, nz3]
  refine lvw 9 (.bool false) rfl rfl (run_mv rfl rfl) ?_
  simp only [nz1, nz2, nz3]
  refine lvw 10 (.string (tx s)) rfl rfl (run_mv rfl rfl) ?_
  simp only [nz1, nz2, nz3]
  refine lvw 11 (.int .i64 ((s.length : Nat) : Int)) rfl rfl (t_len rfl Tryd.underlying9 rfl) ?_
  simp only [nz1, nz2, nz3]
  refine lvb 12 (64 < s.length) rfl rfl (r_gtr s.length 64 rfl rfl rfl) (fun hs7 => ?_) (fun hs7 => ?_)
  · simp only [nz1, nz2, nz3]
    refine lvw 13 (.bool true) rfl rfl (run_pickf rfl rfl rfl) ?_
    simp only [nz1, nz2, nz3]
    refine lvw 14 (.bool true) rfl rfl (run_mv rfl rfl) ?_
    simp only [nz1, nz2, nz3]
    refine lst_skip 15 rfl rfl ?_
    simp only [nz1, nz2, nz3]
    refine lst_skip 16 rfl rfl ?_
    simp only [nz1, nz2, nz3]
    refine lvw 17 (.bool true) rfl rfl (run_pick rfl rfl rfl) ?_
    simp only [nz1, nz2, nz3]
    refine lvw 18 (.bool true) rfl rfl (run_mv rfl rfl) ?_
    simp only [nz1, nz2, nz3]
    refine lst_skip 19 rfl rfl ?_
    simp only [nz1, nz2, nz3]
    refine lst_skip 20 rfl rfl ?_
    simp only [nz1, nz2, nz3]
    refine lvw 21 (.bool true) rfl rfl (run_pick rfl rfl rfl) ?_
    simp only [nz1, nz2, nz3]
    refine wpList_nil ?_
    refine then_n (hK3 _ _ ?_)
    refine cond_t rfl ?_
    refine wp_seq_k (fun K8 hK8 => ?_)
    refine wp_region_lit ?_
    refine lvw 2 (.bool false) rfl rfl (run_as rfl rfl) ?_
    simp only [nz1, nz2, nz3]
    refine wpList_nil ?_
    refine then_n (hK8 _ _ ?_)
    refine wp_ret ?_
    refine then_r ?_
    have he9 : rpart_m s = false := (show rpart_m s = false from by unfold rpart_m; rw [if_neg hs4, if_pos hs7] <;> rfl)
    exact ⟨rfl, .bool false, res_t rfl rfl, ⟨by rw [he9], hm0.below⟩⟩
  simp only [nz1, nz2, nz3]
  refine lvw 13 (.bool false) rfl rfl (run_pickf rfl rfl rfl) ?_
  simp only [nz1, nz2, nz3]
  refine lvw 14 (.bool false) rfl rfl (run_mv rfl rfl) ?_
  simp only [nz1, nz2, nz3]
  refine lvw 15 (.string (tx s)) rfl rfl (run_mv rfl rfl) ?_
  simp only [nz1, nz2, nz3]
  refine lvb 16 (s = [46]) rfl rfl (t_eql s ([46]) rfl rfl rfl) (fun hs10 => ?_) (fun hs10 => ?_)
  · simp only [nz1, nz2, nz3]
    refine lvw 17 (.bool true) rfl rfl (run_pickf rfl rfl rfl) ?_
    simp only [nz1, nz2, nz3]
    refine lvw 18 (.bool true) rfl rfl (run_mv rfl rfl) ?_
    simp only [nz1, nz2, nz3]
    refine lst_skip 19 rfl rfl ?_
    simp only [nz1, nz2, nz3]
    refine lst_skip 20 rfl rfl ?_
    simp only [nz1, nz2, nz3]
    refine lvw 21 (.bool true) rfl rfl (run_pick rfl rfl rfl) ?_
    simp only [nz1, nz2, nz3]
    refine wpList_nil ?_
    refine then_n (hK3 _ _ ?_)
    refine cond_t rfl ?_
    refine wp_seq_k (fun K11 hK11 => ?_)
    refine wp_region_lit ?_
    refine lvw 2 (.bool false) rfl rfl (run_as rfl rfl) ?_
    simp only [nz1, nz2, nz3]
    refine wpList_nil ?_
    refine then_n (hK11 _ _ ?_)
    refine wp_ret ?_
    refine then_r ?_
    have he12 : rpart_m s = false := (show rpart_m s = false from by unfold rpart_m; rw [if_neg hs4, if_neg hs7, if_pos hs10] <;> rfl)
    exact ⟨rfl, .bool false, res_t rfl rfl, ⟨by rw [he12], hm0.below⟩⟩
  simp only [nz1, nz2, nz3]
  refine lvw 17 (.bool false) rfl rfl (run_pickf rfl rfl rfl) ?_
  simp only [nz1, nz2, nz3]
  refine lvw 18 (.bool false) rfl rfl (run_mv rfl rfl) ?_
  simp only [nz1, nz2, nz3]
  refine lvw 19 (.string (tx s)) rfl rfl (run_mv rfl rfl) ?_
  simp only [nz1, nz2, nz3]
  refine lvw 20 (.bool (decide (s = [46, 46]))) rfl rfl (t_eql s ([46, 46]) rfl rfl rfl) ?_
  simp only [nz1, nz2, nz3]
  refine lvw 21 (.bool (decide (s = [46, 46]))) rfl rfl (run_pickf rfl rfl rfl) ?_
  simp only [nz1, nz2, nz3]
  refine wpList_nil ?_
  refine then_n (hK3 _ _ ?_)
  refine cond_d (s = [46, 46]) rfl (fun hc13 => ?_) (fun hc13 => ?_)
  · refine wp_seq_k (fun K14 hK14 => ?_)
    refine wp_region_lit ?_
    refine lvw 2 (.bool false) rfl rfl (run_as rfl rfl) ?_
    simp only [nz1, nz2, nz3]
    refine wpList_nil ?_
    refine then_n (hK14 _ _ ?_)
    refine wp_ret ?_
    refine then_r ?_
    have he15 : rpart_m s = false := (show rpart_m s = false from by unfold rpart_m; rw [if_neg hs4, if_neg hs7, if_neg hs10, if_pos hc13] <;> rfl)
    exact ⟨rfl, .bool false, res_t rfl rfl, ⟨by rw [he15], hm0.below⟩⟩
  refine wp_skip ?_
  refine then_n (hK2 _ _ ?_)
  refine wp_seq_k (fun K16 hK16 => ?_)
  refine wp_region_lit ?_
  refine lvw 3 (.int .i64 0) rfl rfl (run_as rfl rfl) ?_
  simp only [nz1, nz2, nz3]
  refine wpList_nil ?_
  refine then_n (hK16 _ _ ?_)
  refine wp_seq_k (fun K17 hK17 => ?_)
  refine wp_seq_k (fun K18 hK18 => ?_)
  refine wp_region_lit ?_
  refine lvw 22 (.string (tx s)) rfl rfl (run_mv rfl rfl) ?_
  simp only [nz1, nz2, nz3]
  refine lst rfl (m_range s hm0 23 rfl rfl Tryd.underlying9 rfl (fun g21 w19 (hm20 : Mm none (fun _ => True) w w19 [.itr g21 (tx s) 0]) => ?_))
  simp only [nz1, nz2, nz3]
  refine wpList_nil ?_
  refine then_n (hK18 _ _ ?_)
  refine wp_cutK (fun a' w' => ∃ (y27 : Nat) (y28 : Int) (yu0 : Nat → Value), rpart_m_l0 s ((s.length - 0) + 1) (0, 0) = .inl (y27, y28) ∧ (0 ≤ y28 ∧ y28 ≤ 4 * (y27 : Int)) ∧ a' = ⟨#[.string (tx s), undef, yu0 0, .int .i64 (y28), undef, yu0 1, yu0 2, .string (tx s), .bool false, .bool false, .string (tx s), .int .i64 ((s.length : Nat) : Int), .bool false, .bool false, .bool false, .string (tx s), .bool false, .bool false, .bool false, .string (tx s), .bool (decide (s = [46, 46])), .bool (decide (s = [46, 46])), .string (tx s), .pointer (some ⟨g21, 0, none⟩), yu0 3, yu0 4, yu0 5, yu0 6, yu0 7, yu0 8, yu0 9, yu0 10, yu0 11, yu0 12, yu0 13, yu0 14, yu0 15, yu0 16, yu0 17, yu0 18, yu0 19, yu0 20, yu0 21, yu0 22, yu0 23, yu0 24, yu0 25, yu0 26, yu0 27, yu0 28, yu0 29, yu0 30, yu0 31], []⟩ ∧ Mm none (fun _ => True) w w' [.itr g21 (tx s) y27]) ?_ ?_
  · refine wp_block ?_
    refine wp_loop_n (fun n' a' w' => ∃ (n24 : Nat) (p22 : Nat) (x23 : Int) (u0 : Nat → Value), n' = n24 ∧ (s.length - p22) < n24 ∧ rpart_m_l0 s ((s.length - 0) + 1) (0, 0) = rpart_m_l0 s n24 (p22, x23) ∧ (0 ≤ x23 ∧ x23 ≤ 4 * (p22 : Int)) ∧ a' = ⟨#[.string (tx s), undef, u0 0, .int .i64 (x23), undef, u0 1, u0 2, .string (tx s), .bool false, .bool false, .string (tx s), .int .i64 ((s.length : Nat) : Int), .bool false, .bool false, .bool false, .string (tx s), .bool false, .bool false, .bool false, .string (tx s), .bool (decide (s = [46, 46])), .bool (decide (s = [46, 46])), .string (tx s), .pointer (some ⟨g21, 0, none⟩), u0 3, u0 4, u0 5, u0 6, u0 7, u0 8, u0 9, u0 10, u0 11, u0 12, u0 13, u0 14, u0 15, u0 16, u0 17, u0 18, u0 19, u0 20, u0 21, u0 22, u0 23, u0 24, u0 25, u0 26, u0 27, u0 28, u0 29, u0 30, u0 31], []⟩ ∧ Mm none (fun _ => True) w w' [.itr g21 (tx s) p22]) ⟨((s.length - 0) + 1), 0, 0, (fun qq => bif Nat.blt qq 24 then List.getD [.bool false, undef, undef, undef, undef, undef, undef, undef, undef, undef, undef, undef, undef, undef, undef, undef, undef, undef, undef, undef, undef, undef, undef, undef] qq undef else List.getD [undef, undef, undef, undef, undef, undef, undef, undef] (qq - 24) undef), rfl, Nat.lt_succ_self _, rfl, (by first | omega | (simp; done) | (simp; omega) | (simp at *; omega)), rfl, hm20⟩ ?_
    rintro n24 _ w30 ⟨_, p22, x23, u0, rfl, hl34, hi26, hat, rfl, hm31⟩ R32 hR32
    obtain ⟨k25, rfl⟩ : ∃ k, n24 = k + 1 := ⟨n24 - 1, by omega⟩
    refine wp_seq_k (fun K35 hK35 => ?_)
    refine wp_region_lit ?_
    have hf38 : (p22 < s.length ∧ p22 < nxp s p22 ∧ nxp s p22 ≤ p22 + 4 ∧ nxp s p22 ≤ s.length) ∨ (s.length ≤ p22 ∧ nxp s p22 = p22) := nxp_or s p22
    have hf39 : (dec s p22).1 ≤ 1114111 := dec_max s p22
    refine lst rfl (m_next s 0 hm31 rfl 24 rfl rfl rfl (fun w36 (hm37 : Mm none (fun _ => True) w w36 [.itr g21 (tx s) (nxp s p22)]) => ?_))
    simp only [nz1, nz2, nz3]
    refine lvw 25 (.bool (decide (p22 < s.length))) rfl rfl (r_ext0 s p22 rfl rfl) ?_
    simp only [nz1, nz2, nz3]
    refine wpList_nil ?_
    refine then_n (hK35 _ _ ?_)
    refine wp_seq_k (fun K40 hK40 => ?_)
    refine cond_d (p22 < s.length) rfl (fun hc41 => ?_) (fun hc41 => ?_)
    rotate_left
    · refine wp_exit ?_
      refine then_x ?_
      refine then_x ?_
      refine blk_x ?_
      refine then_n ?_
      exact ⟨(nxp s p22), x23, (fun qq => bif Nat.blt qq 24 then List.getD [u0 0, u0 1, u0 2, nxv s p22, .bool (decide (p22 < s.length)), u0 5, u0 6, u0 7, u0 8, u0 9, u0 10, u0 11, u0 12, u0 13, u0 14, u0 15, u0 16, u0 17, u0 18, u0 19, u0 20, u0 21, u0 22, u0 23] qq undef else List.getD [u0 24, u0 25, u0 26, u0 27, u0 28, u0 29, u0 30, u0 31] (qq - 24) undef), (hi26.trans (show rpart_m_b0 s (rpart_m_l0 s k25) p22 x23 = .inl ((nxp s p22), x23) from by unfold rpart_m_b0; rw [if_neg hc41] <;> rfl)), (by first | omega | (simp; done) | (simp; omega) | (simp at *; omega)), rfl, hm37⟩
    refine wp_skip ?_
    refine then_n (hK40 _ _ ?_)
    refine wp_block ?_
    refine wp_seq_k (fun K42 hK42 => ?_)
    refine wp_region_lit ?_
    refine lvw 26 (.int .i32 (((dec s p22).1 : Nat) : Int)) rfl rfl (r_ext2 (s := s) (i := p22) (by first | assumption | omega) rfl rfl) ?_
    simp only [nz1, nz2, nz3]
    refine lvw 5 (.int .i32 (((dec s p22).1 : Nat) : Int)) rfl rfl (run_as rfl rfl) ?_
    simp only [nz1, nz2, nz3]
    refine wpList_nil ?_
    refine then_n (hK42 _ _ ?_)
    refine wp_seq_k (fun K43 hK43 => ?_)
    refine wp_region_lit ?_
    refine lvw 27 (.int .i32 (((dec s p22).1 : Nat) : Int)) rfl rfl (run_mv rfl rfl) ?_
    simp only [nz1, nz2, nz3]
    refine lst rfl (m_call hm37 28 (.int .i64 ((rsize_m (((dec s p22).1 : Nat) : Int)))) rfl (run_rsize rfl rfl) (rsize_any (((dec s p22).1 : Nat) : Int)  _  ) (fun w44 (hm45 : Mm none (fun _ => True) w w44 [.itr g21 (tx s) (nxp s p22)]) => ?_))
    have hf46 : 1 ≤ (rsize_m (((dec s p22).1 : Nat) : Int)) ∧ (rsize_m (((dec s p22).1 : Nat) : Int)) ≤ 4 := rsize_rng (((dec s p22).1 : Nat) : Int)
    simp only [nz1, nz2, nz3]
    refine lvw 6 (.int .i64 ((rsize_m (((dec s p22).1 : Nat) : Int)))) rfl rfl (run_as rfl rfl) ?_
    simp only [nz1, nz2, nz3]
    refine wpList_nil ?_
    refine then_n (hK43 _ _ ?_)
    refine wp_seq_k (fun K47 hK47 => ?_)
    refine wp_seq_k (fun K48 hK48 => ?_)
    refine wp_region_lit ?_
    refine lvw 29 (.int .i32 (((dec s p22).1 : Nat) : Int)) rfl rfl (run_mv rfl rfl) ?_
    simp only [nz1, nz2, nz3]
    refine lvb 30 ((dec s p22).1 = 65533) rfl rfl (r_eql ((dec s p22).1) 65533 rfl rfl rfl) (fun hs49 => ?_) (fun hs49 => ?_)
    rotate_left
    · simp only [nz1, nz2, nz3]
      refine lvw 31 (.bool false) rfl rfl (run_mv rfl rfl) ?_
      simp only [nz1, nz2, nz3]
      refine lst_skip 32 rfl rfl ?_
      simp only [nz1, nz2, nz3]
      refine lst_skip 33 rfl rfl ?_
      simp only [nz1, nz2, nz3]
      refine lst_skip 34 rfl rfl ?_
      simp only [nz1, nz2, nz3]
      refine lst_skip 35 rfl rfl ?_
      simp only [nz1, nz2, nz3]
      refine lst_skip 36 rfl rfl ?_
      simp only [nz1, nz2, nz3]
      refine lst_skip 37 rfl rfl ?_
      simp only [nz1, nz2, nz3]
      refine lst_skip 38 rfl rfl ?_
      simp only [nz1, nz2, nz3]
      refine lst_skip 39 rfl rfl ?_
      simp only [nz1, nz2, nz3]
      refine lst_skip 40 rfl rfl ?_
      simp only [nz1, nz2, nz3]
      refine lst_skip 41 rfl rfl ?_
      simp only [nz1, nz2, nz3]
      refine lst_skip 42 rfl rfl ?_
      simp only [nz1, nz2, nz3]
      refine lst_skip 43 rfl rfl ?_
      simp only [nz1, nz2, nz3]
      refine lst_skip 44 rfl rfl ?_
      simp only [nz1, nz2, nz3]
      refine lvw 45 (.bool false) rfl rfl (run_pickf rfl rfl rfl) ?_
      simp only [nz1, nz2, nz3]
      refine wpList_nil ?_
      refine then_n (hK48 _ _ ?_)
      refine cond_f rfl ?_
      refine wp_skip ?_
      refine then_n (hK47 _ _ ?_)
      refine wp_seq_k (fun K76 hK76 => ?_)
      refine wp_seq_k (fun K77 hK77 => ?_)
      refine wp_region_lit ?_
      refine lvw 46 (.int .i32 (((dec s p22).1 : Nat) : Int)) rfl rfl (run_mv rfl rfl) ?_
      simp only [nz1, nz2, nz3]
      refine lvw 47 (.int .i64 ((rsize_m (((dec s p22).1 : Nat) : Int)))) rfl rfl (run_mv rfl rfl) ?_
      simp only [nz1, nz2, nz3]
      refine lst rfl (m_call hm45 48 (.bool ((rsign_m (((dec s p22).1 : Nat) : Int) (rsize_m (((dec s p22).1 : Nat) : Int))))) rfl (run_rsign rfl rfl rfl) (rsign_any (((dec s p22).1 : Nat) : Int) (rsize_m (((dec s p22).1 : Nat) : Int))  _  ) (fun w78 (hm79 : Mm none (fun _ => True) w w78 [.itr g21 (tx s) (nxp s p22)]) => ?_))
      simp only [nz1, nz2, nz3]
      refine lvw 49 (.bool (!(rsign_m (((dec s p22).1 : Nat) : Int) (rsize_m (((dec s p22).1 : Nat) : Int))))) rfl rfl (r_not (rsign_m (((dec s p22).1 : Nat) : Int) (rsize_m (((dec s p22).1 : Nat) : Int))) rfl rfl) ?_
      simp only [nz1, nz2, nz3]
      refine wpList_nil ?_
      refine then_n (hK77 _ _ ?_)
      refine cond_B (!(rsign_m (((dec s p22).1 : Nat) : Int) (rsize_m (((dec s p22).1 : Nat) : Int)))) rfl (fun hc80 => ?_) (fun hc80 => ?_)
      rotate_left
      · refine wp_skip ?_
        refine then_n (hK76 _ _ ?_)
        refine wp_region_lit ?_
        refine lvw 50 (.int .i64 (x23)) rfl rfl (run_mv rfl rfl) ?_
        simp only [nz1, nz2, nz3]
        refine lvw 51 (.int .i64 ((rsize_m (((dec s p22).1 : Nat) : Int)))) rfl rfl (run_mv rfl rfl) ?_
        simp only [nz1, nz2, nz3]
        refine lvw 52 (.int .i64 ((x23 + (rsize_m (((dec s p22).1 : Nat) : Int))))) rfl rfl (z_add x23 (rsize_m (((dec s p22).1 : Nat) : Int)) _ (by rw [IntKind.wrap_i64]; omega) rfl rfl rfl) ?_
        simp only [nz1, nz2, nz3]
        refine lvw 3 (.int .i64 ((x23 + (rsize_m (((dec s p22).1 : Nat) : Int))))) rfl rfl (run_as rfl rfl) ?_
        simp only [nz1, nz2, nz3]
        refine wpList_nil ?_
        refine blk_n ?_
        refine then_n (hR32 _ _ _ ⟨k25, (nxp s p22), (x23 + (rsize_m (((dec s p22).1 : Nat) : Int))), (fun qq => bif Nat.blt qq 24 then List.getD [u0 0, .int .i32 (((dec s p22).1 : Nat) : Int), .int .i64 ((rsize_m (((dec s p22).1 : Nat) : Int))), nxv s p22, .bool (decide (p22 < s.length)), .int .i32 (((dec s p22).1 : Nat) : Int), .int .i32 (((dec s p22).1 : Nat) : Int), .int .i64 ((rsize_m (((dec s p22).1 : Nat) : Int))), .int .i32 (((dec s p22).1 : Nat) : Int), .bool false, .bool false, undef, undef, undef, undef, undef, undef, undef, undef, undef, undef, undef, undef, undef] qq undef else List.getD [.bool false, .int .i32 (((dec s p22).1 : Nat) : Int), .int .i64 ((rsize_m (((dec s p22).1 : Nat) : Int))), .bool ((rsign_m (((dec s p22).1 : Nat) : Int) (rsize_m (((dec s p22).1 : Nat) : Int)))), .bool (!(rsign_m (((dec s p22).1 : Nat) : Int) (rsize_m (((dec s p22).1 : Nat) : Int)))), .int .i64 (x23), .int .i64 ((rsize_m (((dec s p22).1 : Nat) : Int))), .int .i64 ((x23 + (rsize_m (((dec s p22).1 : Nat) : Int))))] (qq - 24) undef), rfl, (by first | omega | (simp; omega) | (simp at *; omega)), (hi26.trans (show rpart_m_b0 s (rpart_m_l0 s k25) p22 x23 = rpart_m_l0 s k25 ((nxp s p22), (x23 + (rsize_m (((dec s p22).1 : Nat) : Int)))) from by unfold rpart_m_b0; rw [if_pos hc41, if_neg hs49, if_neg hc80] <;> rfl)), (by first | omega | (simp; done) | (simp; omega) | (simp at *; omega)), rfl, hm79⟩ ?_)
        omega
      refine wp_seq_k (fun K81 hK81 => ?_)
      refine wp_region_lit ?_
      refine lvw 2 (.bool false) rfl rfl (run_as rfl rfl) ?_
      simp only [nz1, nz2, nz3]
      refine wpList_nil ?_
      refine then_n (hK81 _ _ ?_)
      refine wp_ret ?_
      refine then_r ?_
      refine blk_r ?_
      refine then_r ?_
      refine blk_r ?_
      refine then_r ?_
      refine then_r ?_
      have he82 : rpart_m_l0 s ((s.length - 0) + 1) (0, 0) = .inr false := (hi26.trans (show rpart_m_b0 s (rpart_m_l0 s k25) p22 x23 = .inr false from by unfold rpart_m_b0; rw [if_pos hc41, if_neg hs49, if_pos hc80] <;> rfl))
      have he83 : rpart_m s = false := (show rpart_m s = false from by unfold rpart_m; rw [if_neg hs4, if_neg hs7, if_neg hs10, if_neg hc13, he82] <;> rfl)
      exact ⟨rfl, .bool false, res_t rfl rfl, ⟨by rw [he83], hm79.below⟩⟩
    simp only [nz1, nz2, nz3]
    refine lvw 31 (.bool true) rfl rfl (run_mv rfl rfl) ?_
    simp only [nz1, nz2, nz3]
    refine lvw 32 (.string (tx s)) rfl rfl (run_mv rfl rfl) ?_
    simp only [nz1, nz2, nz3]
    refine lvw 33 (.int .i64 ((s.length : Nat) : Int)) rfl rfl (t_len rfl Tryd.underlying9 rfl) ?_
    simp only [nz1, nz2, nz3]
    refine lvw 34 (.int .i64 (x23)) rfl rfl (run_mv rfl rfl) ?_
    simp only [nz1, nz2, nz3]
    refine lvw 35 (.int .i64 ((((s.length : Nat) : Int) - x23))) rfl rfl (z_sub ((s.length : Nat) : Int) x23 _ (by rw [IntKind.wrap_i64]; omega) rfl rfl rfl) ?_
    simp only [nz1, nz2, nz3]
    refine lvb 36 ((((s.length : Nat) : Int) - x23) < 3) rfl rfl (z_lss (((s.length : Nat) : Int) - x23) 3 rfl rfl rfl) (fun hs50 => ?_) (fun hs50 => ?_)
    · simp only [nz1, nz2, nz3]
      refine lvw 37 (.bool true) rfl rfl (run_mv rfl rfl) ?_
      simp only [nz1, nz2, nz3]
      refine lst_skip 38 rfl rfl ?_
      simp only [nz1, nz2, nz3]
      refine lst_skip 39 rfl rfl ?_
      simp only [nz1, nz2, nz3]
      refine lst_skip 40 rfl rfl ?_
      simp only [nz1, nz2, nz3]
      refine lst_skip 41 rfl rfl ?_
      simp only [nz1, nz2, nz3]
      refine lst_skip 42 rfl rfl ?_
      simp only [nz1, nz2, nz3]
      refine lst_skip 43 rfl rfl ?_
      simp only [nz1, nz2, nz3]
      refine lvw 44 (.bool true) rfl rfl (run_pick rfl rfl rfl) ?_
      simp only [nz1, nz2, nz3]
      refine lvw 45 (.bool true) rfl rfl (run_pick rfl rfl rfl) ?_
      simp only [nz1, nz2, nz3]
      refine wpList_nil ?_
      refine then_n (hK48 _ _ ?_)
      refine cond_t rfl ?_
      refine wp_region_lit ?_
      refine lvw 6 (.int .i64 1) rfl rfl (run_as rfl rfl) ?_
      simp only [nz1, nz2, nz3]
      refine wpList_nil ?_
      refine then_n (hK47 _ _ ?_)
      refine wp_seq_k (fun K51 hK51 => ?_)
      refine wp_seq_k (fun K52 hK52 => ?_)
      refine wp_region_lit ?_
      refine lvw 46 (.int .i32 (((dec s p22).1 : Nat) : Int)) rfl rfl (run_mv rfl rfl) ?_
      simp only [nz1, nz2, nz3]
      refine lvw 47 (.int .i64 1) rfl rfl (run_mv rfl rfl) ?_
      simp only [nz1, nz2, nz3]
      refine lst rfl (m_call hm45 48 (.bool ((rsign_m (((dec s p22).1 : Nat) : Int) 1))) rfl (run_rsign rfl rfl rfl) (rsign_any (((dec s p22).1 : Nat) : Int) 1  _  ) (fun w53 (hm54 : Mm none (fun _ => True) w w53 [.itr g21 (tx s) (nxp s p22)]) => ?_))
      simp only [nz1, nz2, nz3]
      refine lvw 49 (.bool (!(rsign_m (((dec s p22).1 : Nat) : Int) 1))) rfl rfl (r_not (rsign_m (((dec s p22).1 : Nat) : Int) 1) rfl rfl) ?_
      simp only [nz1, nz2, nz3]
      refine wpList_nil ?_
      refine then_n (hK52 _ _ ?_)
      refine cond_B (!(rsign_m (((dec s p22).1 : Nat) : Int) 1)) rfl (fun hc55 => ?_) (fun hc55 => ?_)
      rotate_left
      · refine wp_skip ?_
        refine then_n (hK51 _ _ ?_)
        refine wp_region_lit ?_
        refine lvw 50 (.int .i64 (x23)) rfl rfl (run_mv rfl rfl) ?_
        simp only [nz1, nz2, nz3]
        refine lvw 51 (.int .i64 1) rfl rfl (run_mv rfl rfl) ?_
        simp only [nz1, nz2, nz3]
        refine lvw 52 (.int .i64 ((x23 + (1 : Int)))) rfl rfl (z_add x23 (1 : Int) _ (by rw [IntKind.wrap_i64]; omega) rfl rfl rfl) ?_
        simp only [nz1, nz2, nz3]
        refine lvw 3 (.int .i64 ((x23 + (1 : Int)))) rfl rfl (run_as rfl rfl) ?_
        simp only [nz1, nz2, nz3]
        refine wpList_nil ?_
        refine blk_n ?_
        refine then_n (hR32 _ _ _ ⟨k25, (nxp s p22), (x23 + (1 : Int)), (fun qq => bif Nat.blt qq 24 then List.getD [u0 0, .int .i32 (((dec s p22).1 : Nat) : Int), .int .i64 1, nxv s p22, .bool (decide (p22 < s.length)), .int .i32 (((dec s p22).1 : Nat) : Int), .int .i32 (((dec s p22).1 : Nat) : Int), .int .i64 ((rsize_m (((dec s p22).1 : Nat) : Int))), .int .i32 (((dec s p22).1 : Nat) : Int), .bool true, .bool true, .string (tx s), .int .i64 ((s.length : Nat) : Int), .int .i64 (x23), .int .i64 ((((s.length : Nat) : Int) - x23)), .bool true, .bool true, undef, undef, undef, undef, undef, undef, .bool true] qq undef else List.getD [.bool true, .int .i32 (((dec s p22).1 : Nat) : Int), .int .i64 1, .bool ((rsign_m (((dec s p22).1 : Nat) : Int) 1)), .bool (!(rsign_m (((dec s p22).1 : Nat) : Int) 1)), .int .i64 (x23), .int .i64 1, .int .i64 ((x23 + (1 : Int)))] (qq - 24) undef), rfl, (by first | omega | (simp; omega) | (simp at *; omega)), (hi26.trans (show rpart_m_b0 s (rpart_m_l0 s k25) p22 x23 = rpart_m_l0 s k25 ((nxp s p22), (x23 + (1 : Int))) from by unfold rpart_m_b0; rw [if_pos hc41, if_pos hs49, if_pos hs50, if_neg hc55] <;> rfl)), (by first | omega | (simp; done) | (simp; omega) | (simp at *; omega)), rfl, hm54⟩ ?_)
        omega
      refine wp_seq_k (fun K56 hK56 => ?_)
      refine wp_region_lit ?_
      refine lvw 2 (.bool false) rfl rfl (run_as rfl rfl) ?_
      simp only [nz1, nz2, nz3]
      refine wpList_nil ?_
      refine then_n (hK56 _ _ ?_)
      refine wp_ret ?_
      refine then_r ?_
      refine blk_r ?_
      refine then_r ?_
      refine blk_r ?_
      refine then_r ?_
      refine then_r ?_
      have he57 : rpart_m_l0 s ((s.length - 0) + 1) (0, 0) = .inr false := (hi26.trans (show rpart_m_b0 s (rpart_m_l0 s k25) p22 x23 = .inr false from by unfold rpart_m_b0; rw [if_pos hc41, if_pos hs49, if_pos hs50, if_pos hc55] <;> rfl))
      have he58 : rpart_m s = false := (show rpart_m s = false from by unfold rpart_m; rw [if_neg hs4, if_neg hs7, if_neg hs10, if_neg hc13, he57] <;> rfl)
      exact ⟨rfl, .bool false, res_t rfl rfl, ⟨by rw [he58], hm54.below⟩⟩
    simp only [nz1, nz2, nz3]
    refine lvw 37 (.bool false) rfl rfl (run_mv rfl rfl) ?_
    simp only [nz1, nz2, nz3]
    refine lvw 38 (.string (tx s)) rfl rfl (run_mv rfl rfl) ?_
    simp only [nz1, nz2, nz3]
    refine lvw 39 (.int .i64 (x23)) rfl rfl (run_mv rfl rfl) ?_
    simp only [nz1, nz2, nz3]
    refine lvw 40 (.int .i64 (x23)) rfl rfl (run_mv rfl rfl) ?_
    simp only [nz1, nz2, nz3]
    refine lvw 41 (.int .i64 ((x23 + (3 : Int)))) rfl rfl (z_add x23 (3 : Int) _ (by rw [IntKind.wrap_i64]; omega) rfl rfl rfl) ?_
    simp only [nz1, nz2, nz3]
    refine lvw 42 (.string (tx ((s.take ((x23 + (3 : Int)).toNat)).drop x23.toNat))) rfl rfl (t_cut s x23.toNat ((x23 + (3 : Int)).toNat) (by omega) (by omega) Tryd.underlying9 rfl rfl (show (Value.int .i64 x23) = .int .i64 ((x23.toNat : Nat) : Int) from by congr 1; omega) (show (Value.int .i64 (x23 + (3 : Int))) = .int .i64 (((x23 + (3 : Int)).toNat : Nat) : Int) from by congr 1; omega)) ?_
    simp only [nz1, nz2, nz3]
    refine lvw 43 (.bool (decide (¬ ((s.take ((x23 + (3 : Int)).toNat)).drop x23.toNat) = [239, 191, 189]))) rfl rfl (t_neq ((s.take ((x23 + (3 : Int)).toNat)).drop x23.toNat) ([239, 191, 189]) rfl rfl rfl) ?_
    simp only [nz1, nz2, nz3]
    refine lvw 44 (.bool (decide (¬ ((s.take ((x23 + (3 : Int)).toNat)).drop x23.toNat) = [239, 191, 189]))) rfl rfl (run_pickf rfl rfl rfl) ?_
    simp only [nz1, nz2, nz3]
    refine lvw 45 (.bool (decide (¬ ((s.take ((x23 + (3 : Int)).toNat)).drop x23.toNat) = [239, 191, 189]))) rfl rfl (run_pick rfl rfl rfl) ?_
    simp only [nz1, nz2, nz3]
    refine wpList_nil ?_
    refine then_n (hK48 _ _ ?_)
    refine cond_d (¬ ((s.take ((x23 + (3 : Int)).toNat)).drop x23.toNat) = [239, 191, 189]) rfl (fun hc59 => ?_) (fun hc59 => ?_)
    rotate_left
    · refine wp_skip ?_
      refine then_n (hK47 _ _ ?_)
      refine wp_seq_k (fun K68 hK68 => ?_)
      refine wp_seq_k (fun K69 hK69 => ?_)
      refine wp_region_lit ?_
      refine lvw 46 (.int .i32 (((dec s p22).1 : Nat) : Int)) rfl rfl (run_mv rfl rfl) ?_
      simp only [nz1, nz2, nz3]
      refine lvw 47 (.int .i64 ((rsize_m (((dec s p22).1 : Nat) : Int)))) rfl rfl (run_mv rfl rfl) ?_
      simp only [nz1, nz2, nz3]
      refine lst rfl (m_call hm45 48 (.bool ((rsign_m (((dec s p22).1 : Nat) : Int) (rsize_m (((dec s p22).1 : Nat) : Int))))) rfl (run_rsign rfl rfl rfl) (rsign_any (((dec s p22).1 : Nat) : Int) (rsize_m (((dec s p22).1 : Nat) : Int))  _  ) (fun w70 (hm71 : Mm none (fun _ => True) w w70 [.itr g21 (tx s) (nxp s p22)]) => ?_))
      simp only [nz1, nz2, nz3]
      refine lvw 49 (.bool (!(rsign_m (((dec s p22).1 : Nat) : Int) (rsize_m (((dec s p22).1 : Nat) : Int))))) rfl rfl (r_not (rsign_m (((dec s p22).1 : Nat) : Int) (rsize_m (((dec s p22).1 : Nat) : Int))) rfl rfl) ?_
      simp only [nz1, nz2, nz3]
      refine wpList_nil ?_
      refine then_n (hK69 _ _ ?_)
      refine cond_B (!(rsign_m (((dec s p22).1 : Nat) : Int) (rsize_m (((dec s p22).1 : Nat) : Int)))) rfl (fun hc72 => ?_) (fun hc72 => ?_)
      rotate_left
      · refine wp_skip ?_
        refine then_n (hK68 _ _ ?_)
        refine wp_region_lit ?_
        refine lvw 50 (.int .i64 (x23)) rfl rfl (run_mv rfl rfl) ?_
        simp only [nz1, nz2, nz3]
        refine lvw 51 (.int .i64 ((rsize_m (((dec s p22).1 : Nat) : Int)))) rfl rfl (run_mv rfl rfl) ?_
        simp only [nz1, nz2, nz3]
        refine lvw 52 (.int .i64 ((x23 + (rsize_m (((dec s p22).1 : Nat) : Int))))) rfl rfl (z_add x23 (rsize_m (((dec s p22).1 : Nat) : Int)) _ (by rw [IntKind.wrap_i64]; omega) rfl rfl rfl) ?_
        simp only [nz1, nz2, nz3]
        refine lvw 3 (.int .i64 ((x23 + (rsize_m (((dec s p22).1 : Nat) : Int))))) rfl rfl (run_as rfl rfl) ?_
        simp only [nz1, nz2, nz3]
        refine wpList_nil ?_
        refine blk_n ?_
        refine then_n (hR32 _ _ _ ⟨k25, (nxp s p22), (x23 + (rsize_m (((dec s p22).1 : Nat) : Int))), (fun qq => bif Nat.blt qq 24 then List.getD [u0 0, .int .i32 (((dec s p22).1 : Nat) : Int), .int .i64 ((rsize_m (((dec s p22).1 : Nat) : Int))), nxv s p22, .bool (decide (p22 < s.length)), .int .i32 (((dec s p22).1 : Nat) : Int), .int .i32 (((dec s p22).1 : Nat) : Int), .int .i64 ((rsize_m (((dec s p22).1 : Nat) : Int))), .int .i32 (((dec s p22).1 : Nat) : Int), .bool true, .bool true, .string (tx s), .int .i64 ((s.length : Nat) : Int), .int .i64 (x23), .int .i64 ((((s.length : Nat) : Int) - x23)), .bool false, .bool false, .string (tx s), .int .i64 (x23), .int .i64 (x23), .int .i64 ((x23 + (3 : Int))), .string (tx ((s.take ((x23 + (3 : Int)).toNat)).drop x23.toNat)), .bool (decide (¬ ((s.take ((x23 + (3 : Int)).toNat)).drop x23.toNat) = [239, 191, 189])), .bool (decide (¬ ((s.take ((x23 + (3 : Int)).toNat)).drop x23.toNat) = [239, 191, 189]))] qq undef else List.getD [.bool (decide (¬ ((s.take ((x23 + (3 : Int)).toNat)).drop x23.toNat) = [239, 191, 189])), .int .i32 (((dec s p22).1 : Nat) : Int), .int .i64 ((rsize_m (((dec s p22).1 : Nat) : Int))), .bool ((rsign_m (((dec s p22).1 : Nat) : Int) (rsize_m (((dec s p22).1 : Nat) : Int)))), .bool (!(rsign_m (((dec s p22).1 : Nat) : Int) (rsize_m (((dec s p22).1 : Nat) : Int)))), .int .i64 (x23), .int .i64 ((rsize_m (((dec s p22).1 : Nat) : Int))), .int .i64 ((x23 + (rsize_m (((dec s p22).1 : Nat) : Int))))] (qq - 24) undef), rfl, (by first | omega | (simp; omega) | (simp at *; omega)), (hi26.trans (show rpart_m_b0 s (rpart_m_l0 s k25) p22 x23 = rpart_m_l0 s k25 ((nxp s p22), (x23 + (rsize_m (((dec s p22).1 : Nat) : Int)))) from by unfold rpart_m_b0; rw [if_pos hc41, if_pos hs49, if_neg hs50, if_neg hc59, if_neg hc72] <;> rfl)), (by first | omega | (simp; done) | (simp; omega) | (simp at *; omega)), rfl, hm71⟩ ?_)
        omega
      refine wp_seq_k (fun K73 hK73 => ?_)
      refine wp_region_lit ?_
      refine lvw 2 (.bool false) rfl rfl (run_as rfl rfl) ?_
      simp only [nz1, nz2, nz3]
      refine wpList_nil ?_
      refine then_n (hK73 _ _ ?_)
      refine wp_ret ?_
      refine then_r ?_
      refine blk_r ?_
      refine then_r ?_
      refine blk_r ?_
      refine then_r ?_
      refine then_r ?_
      have he74 : rpart_m_l0 s ((s.length - 0) + 1) (0, 0) = .inr false := (hi26.trans (show rpart_m_b0 s (rpart_m_l0 s k25) p22 x23 = .inr false from by unfold rpart_m_b0; rw [if_pos hc41, if_pos hs49, if_neg hs50, if_neg hc59, if_pos hc72] <;> rfl))
      have he75 : rpart_m s = false := (show rpart_m s = false from by unfold rpart_m; rw [if_neg hs4, if_neg hs7, if_neg hs10, if_neg hc13, he74] <;> rfl)
      exact ⟨rfl, .bool false, res_t rfl rfl, ⟨by rw [he75], hm71.below⟩⟩
    refine wp_region_lit ?_
    refine lvw 6 (.int .i64 1) rfl rfl (run_as rfl rfl) ?_
    simp only [nz1, nz2, nz3]
    refine wpList_nil ?_
    refine then_n (hK47 _ _ ?_)
    refine wp_seq_k (fun K60 hK60 => ?_)
    refine wp_seq_k (fun K61 hK61 => ?_)
    refine wp_region_lit ?_
    refine lvw 46 (.int .i32 (((dec s p22).1 : Nat) : Int)) rfl rfl (run_mv rfl rfl) ?_
    simp only [nz1, nz2, nz3]
    refine lvw 47 (.int .i64 1) rfl rfl (run_mv rfl rfl) ?_
    simp only [nz1, nz2, nz3]
    refine lst rfl (m_call hm45 48 (.bool ((rsign_m (((dec s p22).1 : Nat) : Int) 1))) rfl (run_rsign rfl rfl rfl) (rsign_any (((dec s p22).1 : Nat) : Int) 1  _  ) (fun w62 (hm63 : Mm none (fun _ => True) w w62 [.itr g21 (tx s) (nxp s p22)]) => ?_))
    simp only [nz1, nz2, nz3]
    refine lvw 49 (.bool (!(rsign_m (((dec s p22).1 : Nat) : Int) 1))) rfl rfl (r_not (rsign_m (((dec s p22).1 : Nat) : Int) 1) rfl rfl) ?_
    simp only [nz1, nz2, nz3]
    refine wpList_nil ?_
    refine then_n (hK61 _ _ ?_)
    refine cond_B (!(rsign_m (((dec s p22).1 : Nat) : Int) 1)) rfl (fun hc64 => ?_) (fun hc64 => ?_)
    rotate_left
    · refine wp_skip ?_
      refine then_n (hK60 _ _ ?_)
      refine wp_region_lit ?_
      refine lvw 50 (.int .i64 (x23)) rfl rfl (run_mv rfl rfl) ?_
      simp only [nz1, nz2, nz3]
      refine lvw 51 (.int .i64 1) rfl rfl (run_mv rfl rfl) ?_
      simp only [nz1, nz2, nz3]
      refine lvw 52 (.int .i64 ((x23 + (1 : Int)))) rfl rfl (z_add x23 (1 : Int) _ (by rw [IntKind.wrap_i64]; omega) rfl rfl rfl) ?_
      simp only [nz1, nz2, nz3]
      refine lvw 3 (.int .i64 ((x23 + (1 : Int)))) rfl rfl (run_as rfl rfl) ?_
      simp only [nz1, nz2, nz3]
      refine wpList_nil ?_
      refine blk_n ?_
      refine then_n (hR32 _ _ _ ⟨k25, (nxp s p22), (x23 + (1 : Int)), (fun qq => bif Nat.blt qq 24 then List.getD [u0 0, .int .i32 (((dec s p22).1 : Nat) : Int), .int .i64 1, nxv s p22, .bool (decide (p22 < s.length)), .int .i32 (((dec s p22).1 : Nat) : Int), .int .i32 (((dec s p22).1 : Nat) : Int), .int .i64 ((rsize_m (((dec s p22).1 : Nat) : Int))), .int .i32 (((dec s p22).1 : Nat) : Int), .bool true, .bool true, .string (tx s), .int .i64 ((s.length : Nat) : Int), .int .i64 (x23), .int .i64 ((((s.length : Nat) : Int) - x23)), .bool false, .bool false, .string (tx s), .int .i64 (x23), .int .i64 (x23), .int .i64 ((x23 + (3 : Int))), .string (tx ((s.take ((x23 + (3 : Int)).toNat)).drop x23.toNat)), .bool (decide (¬ ((s.take ((x23 + (3 : Int)).toNat)).drop x23.toNat) = [239, 191, 189])), .bool (decide (¬ ((s.take ((x23 + (3 : Int)).toNat)).drop x23.toNat) = [239, 191, 189]))] qq undef else List.getD [.bool (decide (¬ ((s.take ((x23 + (3 : Int)).toNat)).drop x23.toNat) = [239, 191, 189])), .int .i32 (((dec s p22).1 : Nat) : Int), .int .i64 1, .bool ((rsign_m (((dec s p22).1 : Nat) : Int) 1)), .bool (!(rsign_m (((dec s p22).1 : Nat) : Int) 1)), .int .i64 (x23), .int .i64 1, .int .i64 ((x23 + (1 : Int)))] (qq - 24) undef), rfl, (by first | omega | (simp; omega) | (simp at *; omega)), (hi26.trans (show rpart_m_b0 s (rpart_m_l0 s k25) p22 x23 = rpart_m_l0 s k25 ((nxp s p22), (x23 + (1 : Int))) from by unfold rpart_m_b0; rw [if_pos hc41, if_pos hs49, if_neg hs50, if_pos hc59, if_neg hc64] <;> rfl)), (by first | omega | (simp; done) | (simp; omega) | (simp at *; omega)), rfl, hm63⟩ ?_)
      omega
    refine wp_seq_k (fun K65 hK65 => ?_)
    refine wp_region_lit ?_
    refine lvw 2 (.bool false) rfl rfl (run_as rfl rfl) ?_
    simp only [nz1, nz2, nz3]
    refine wpList_nil ?_
    refine then_n (hK65 _ _ ?_)
    refine wp_ret ?_
    refine then_r ?_
    refine blk_r ?_
    refine then_r ?_
    refine blk_r ?_
    refine then_r ?_
    refine then_r ?_
    have he66 : rpart_m_l0 s ((s.length - 0) + 1) (0, 0) = .inr false := (hi26.trans (show rpart_m_b0 s (rpart_m_l0 s k25) p22 x23 = .inr false from by unfold rpart_m_b0; rw [if_pos hc41, if_pos hs49, if_neg hs50, if_pos hc59, if_pos hc64] <;> rfl))
    have he67 : rpart_m s = false := (show rpart_m s = false from by unfold rpart_m; rw [if_neg hs4, if_neg hs7, if_neg hs10, if_neg hc13, he66] <;> rfl)
    exact ⟨rfl, .bool false, res_t rfl rfl, ⟨by rw [he67], hm63.below⟩⟩
  rintro _ w84 ⟨y27, y28, yu0, hx29, hat, rfl, hm85⟩
  have hq86 : rpart_m s = rpart_m_k0 s y27 y28 := (show rpart_m s = rpart_m_k0 s y27 y28 from by unfold rpart_m; rw [if_neg hs4, if_neg hs7, if_neg hs10, if_neg hc13, hx29] <;> rfl)
  refine then_n (hK17 _ _ ?_)
  refine wp_seq_k (fun K87 hK87 => ?_)
  refine wp_region_lit ?_
  refine lvw 2 (.bool true) rfl rfl (run_as rfl rfl) ?_
  simp only [nz1, nz2, nz3]
  refine wpList_nil ?_
  refine then_n (hK87 _ _ ?_)
  refine wp_ret ?_
  have he88 : rpart_m s = true := (hq86.trans (show rpart_m_k0 s y27 y28 = true from by unfold rpart_m_k0; rfl))
  exact ⟨rfl, .bool true, res_t rfl rfl, ⟨by rw [he88], hm85.below⟩⟩
theorem run_rpart {o : Oper} {a : Act} {w : World} {x0 : Operand} {v0 : Value} (ho : o.op = .call { callee := .value (.func 19), args := #[x0], argTypes := #[9] }) (h0 : a.eval x0 = v0) :
    (execOp a.eval o).run Tryd.prog w = .ok (.enter 19 #[v0]) w := by
  unfold execOp
  simp only [ho]
  have hf : a.eval (.func 19) = .func (.func 19) #[] #[] := rfl
  generalize a.eval = f at *
  go_simp
def rtarget_m_b0 (s : List UInt8) (rec : Nat × Int → Sum (Nat × Int) (Bool)) (p16 : Nat) (x17 : Int) : Sum (Nat × Int) (Bool) :=
  if p16 < s.length then
    if (dec s p16).1 = 65533 then
      if (((s.length : Nat) : Int) - x17) < 3 then
        if ¬ (dec s p16).1 = 47 then
          if (!(rsign_m (((dec s p16).1 : Nat) : Int) 1)) = true then
            .inr false
          else
            rec ((nxp s p16), (x17 + (1 : Int)))
        else
          rec ((nxp s p16), (x17 + (1 : Int)))
      else
        if ¬ ((s.take ((x17 + (3 : Int)).toNat)).drop x17.toNat) = [239, 191, 189] then
          if ¬ (dec s p16).1 = 47 then
            if (!(rsign_m (((dec s p16).1 : Nat) : Int) 1)) = true then
              .inr false
            else
              rec ((nxp s p16), (x17 + (1 : Int)))
          else
            rec ((nxp s p16), (x17 + (1 : Int)))
        else
          if ¬ (dec s p16).1 = 47 then
            if (!(rsign_m (((dec s p16).1 : Nat) : Int) (rsize_m (((dec s p16).1 : Nat) : Int)))) = true then
              .inr false
            else
              rec ((nxp s p16), (x17 + (rsize_m (((dec s p16).1 : Nat) : Int))))
          else
            rec ((nxp s p16), (x17 + (rsize_m (((dec s p16).1 : Nat) : Int))))
    else
      if ¬ (dec s p16).1 = 47 then
        if (!(rsign_m (((dec s p16).1 : Nat) : Int) (rsize_m (((dec s p16).1 : Nat) : Int)))) = true then
          .inr false
        else
          rec ((nxp s p16), (x17 + (rsize_m (((dec s p16).1 : Nat) : Int))))
      else
        rec ((nxp s p16), (x17 + (rsize_m (((dec s p16).1 : Nat) : Int))))
  else
    .inl ((nxp s p16), x17)
def rtarget_m_l0 (s : List UInt8) : Nat → Nat × Int → Sum (Nat × Int) (Bool)
  | 0, zz => .inl zz
  | nq + 1, zz => rtarget_m_b0 s (rtarget_m_l0 s nq) zz.1 zz.2

def rtarget_m_k0 (s : List UInt8) (y21 : Nat) (y22 : Int) : Bool :=
  true

def rtarget_m (s : List UInt8) : Bool :=
  if s = [] then
    false
  else
    if 200 < s.length then
      false
    else
      fin (rtarget_m_l0 s ((s.length - 0) + 1) (0, 0)) (fun r => r) (fun zz => rtarget_m_k0 s zz.1 zz.2)

set_option maxHeartbeats 4000000 in
set_option maxRecDepth 100000 in
theorem rtarget_any (s : List UInt8) (w : World)   : Calls Tryd.prog 21 #[.string (tx s)] w (fun e w' => e = .returned (.bool ((rtarget_m s))) ∧ Below w.heap.size w w') := by
  go_enter Tryd.func21, Tryd.ntmps21
  have hm00 := Mm.nil none (fun _ => True) w
  have hm0 := hm00
  refine wp_seq_k (fun K1 hK1 => ?_)
  refine wp_region_lit ?_
  refine lvw 2 (.bool false) rfl rfl (run_as rfl rfl) ?_
  simp only [nz1, nz2, nz3]
  refine wpList_nil ?_
  refine then_n (hK1 _ _ ?_)
  refine wp_seq_k (fun K2 hK2 => ?_)
  refine wp_seq_k (fun K3 hK3 => ?_)
  refine wp_region_lit ?_
  refine lvw 7 (.string (tx s)) rfl rfl (run_mv rfl rfl) ?_
  simp only [nz1, nz2, nz3]
  refine lvb 8 (s = []) rfl rfl (t_eql s ([]) rfl rfl rfl) (fun hs4 => ?_) (fun hs4 => ?_)
  · simp only [nz1, nz2, nz3]
    refine lvw 9 (.bool true) rfl rfl (run_mv rfl rfl) ?_
    simp only [nz1, nz2, nz3]
    refine lst_skip 10 rfl rfl ?_
    simp only [nz1, nz2, nz3]
    refine lst_skip 11 rfl rfl ?_
    simp only [nz1, nz2, nz3]
    refine lst_skip 12 rfl rfl ?_
    simp only [nz1, nz2, nz3]
    refine lvw 13 (.bool true) rfl rfl (run_pick rfl rfl rfl) ?_
    simp only [nz1, nz2, nz3]
    refine wpList_nil ?_
    refine then_n (hK3 _ _ ?_)
    refine cond_t rfl ?_
    refine wp_seq_k (fun K5 hK5 => ?_)
    refine wp_region_lit ?_
    refine lvw 2 (.bool false) rfl rfl (run_as rfl rfl) ?_
    simp only [nz1, nz2, nz3]
    refine wpList_nil ?_
    refine then_n (hK5 _ _ ?_)
    refine wp_ret ?_
    refine then_r ?_
    have he6 : rtarget_m s = false := (show rtarget_m s = false from by unfold rtarget_m; rw [if_pos hs4] <;> rfl)
    exact ⟨rfl, .bool false, res_t rfl rfl, ⟨by rw [he6], hm0.below⟩⟩
  simp only [nz1, nz2, nz3]
  refine lvw 9 (.bool false) rfl rfl (run_mv rfl rfl) ?_
  simp only [nz1, nz2, nz3]
  refine lvw 10 (.string (tx s)) rfl rfl (run_mv rfl rfl) ?_
  simp only [nz1, nz2, nz3]
  refine lvw 11 (.int .i64 ((s.length : Nat) : Int)) rfl rfl (t_len rfl Tryd.underlying9 rfl) ?_
  simp only [nz1, nz2, nz3]
  refine lvw 12 (.bool (decide (200 < s.length))) rfl rfl (r_gtr s.length 200 rfl rfl rfl) ?_
  simp only [nz1, nz2, nz3]
  refine lvw 13 (.bool (decide (200 < s.length))) rfl rfl (run_pickf rfl rfl rfl) ?_
  simp only [nz1, nz2, nz3]
  refine wpList_nil ?_
  refine then_n (hK3 _ _ ?_)
  refine cond_d (200 < s.length) rfl (fun hc7 => ?_) (fun hc7 => ?_)
  · refine wp_seq_k (fun K8 hK8 => ?_)
    refine wp_region_lit ?_
    refine lvw 2 (.bool false) rfl rfl (run_as rfl rfl) ?_
    simp only [nz1, nz2, nz3]
    refine wpList_nil ?_
    refine then_n (hK8 _ _ ?_)
    refine wp_ret ?_
    refine then_r ?_
    have he9 : rtarget_m s = false := (show rtarget_m s = false from by unfold rtarget_m; rw [if_neg hs4, if_pos hc7] <;> rfl)
    exact ⟨rfl, .bool false, res_t rfl rfl, ⟨by rw [he9], hm0.below⟩⟩
  refine wp_skip ?_
  refine then_n (hK2 _ _ ?_)
  refine wp_seq_k (fun K10 hK10 => ?_)
  refine wp_region_lit ?_
  refine lvw 3 (.int .i64 0) rfl rfl (run_as rfl rfl) ?_
  simp only [nz1, nz2, nz3]
  refine wpList_nil ?_
  refine then_n (hK10 _ _ ?_)
  refine wp_seq_k (fun K11 hK11 => ?_)
  refine wp_seq_k (fun K12 hK12 => ?_)
  refine wp_region_lit ?_
  refine lvw 14 (.string (tx s)) rfl rfl (run_mv rfl rfl) ?_
  simp only [nz1, nz2, nz3]
  refine lst rfl (m_range s hm0 15 rfl rfl Tryd.underlying9 rfl (fun g15 w13 (hm14 : Mm none (fun _ => True) w w13 [.itr g15 (tx s) 0]) => ?_))
  simp only [nz1, nz2, nz3]
  refine wpList_nil ?_
  refine then_n (hK12 _ _ ?_)
  refine wp_cutK (fun a' w' => ∃ (y21 : Nat) (y22 : Int) (yu0 : Nat → Value), rtarget_m_l0 s ((s.length - 0) + 1) (0, 0) = .inl (y21, y22) ∧ (0 ≤ y22 ∧ y22 ≤ 4 * (y21 : Int)) ∧ a' = ⟨#[.string (tx s), undef, yu0 0, .int .i64 (y22), undef, yu0 1, yu0 2, .string (tx s), .bool false, .bool false, .string (tx s), .int .i64 ((s.length : Nat) : Int), .bool (decide (200 < s.length)), .bool (decide (200 < s.length)), .string (tx s), .pointer (some ⟨g15, 0, none⟩), yu0 3, yu0 4, yu0 5, yu0 6, yu0 7, yu0 8, yu0 9, yu0 10, yu0 11, yu0 12, yu0 13, yu0 14, yu0 15, yu0 16, yu0 17, yu0 18, yu0 19, yu0 20, yu0 21, yu0 22, yu0 23, yu0 24, yu0 25, yu0 26, yu0 27, yu0 28, yu0 29, yu0 30, yu0 31, yu0 32, yu0 33, yu0 34, yu0 35], []⟩ ∧ Mm none (fun _ => True) w w' [.itr g15 (tx s) y21]) ?_ ?_
  · refine wp_block ?_
    refine wp_loop_n (fun n' a' w' => ∃ (n18 : Nat) (p16 : Nat) (x17 : Int) (u0 : Nat → Value), n' = n18 ∧ (s.length - p16) < n18 ∧ rtarget_m_l0 s ((s.length - 0) + 1) (0, 0) = rtarget_m_l0 s n18 (p16, x17) ∧ (0 ≤ x17 ∧ x17 ≤ 4 * (p16 : Int)) ∧ a' = ⟨#[.string (tx s), undef, u0 0, .int .i64 (x17), undef, u0 1, u0 2, .string (tx s), .bool false, .bool false, .string (tx s), .int .i64 ((s.length : Nat) : Int), .bool (decide (200 < s.length)), .bool (decide (200 < s.length)), .string (tx s), .pointer (some ⟨g15, 0, none⟩), u0 3, u0 4, u0 5, u0 6, u0 7, u0 8, u0 9, u0 10, u0 11, u0 12, u0 13, u0 14, u0 15, u0 16, u0 17, u0 18, u0 19, u0 20, u0 21, u0 22, u0 23, u0 24, u0 25, u0 26, u0 27, u0 28, u0 29, u0 30, u0 31, u0 32, u0 33, u0 34, u0 35], []⟩ ∧ Mm none (fun _ => True) w w' [.itr g15 (tx s) p16]) ⟨((s.length - 0) + 1), 0, 0, (fun qq => bif Nat.blt qq 24 then List.getD [.bool false, undef, undef, undef, undef, undef, undef, undef, undef, undef, undef, undef, undef, undef, undef, undef, undef, undef, undef, undef, undef, undef, undef, undef] qq undef else List.getD [undef, undef, undef, undef, undef, undef, undef, undef, undef, undef, undef, undef] (qq - 24) undef), rfl, Nat.lt_succ_self _, rfl, (by first | omega | (simp; done) | (simp; omega) | (simp at *; omega)), rfl, hm14⟩ ?_
    rintro n18 _ w24 ⟨_, p16, x17, u0, rfl, hl28, hi20, hat, rfl, hm25⟩ R26 hR26
    obtain ⟨k19, rfl⟩ : ∃ k, n18 = k + 1 := ⟨n18 - 1, by omega⟩
    refine wp_seq_k (fun K29 hK29 => ?_)
    refine wp_region_lit ?_
    have hf32 : (p16 < s.length ∧ p16 < nxp s p16 ∧ nxp s p16 ≤ p16 + 4 ∧ nxp s p16 ≤ s.length) ∨ (s.length ≤ p16 ∧ nxp s p16 = p16) := nxp_or s p16
    have hf33 : (dec s p16).1 ≤ 1114111 := dec_max s p16
    refine lst rfl (m_next s 0 hm25 rfl 16 rfl rfl rfl (fun w30 (hm31 : Mm none (fun _ => True) w w30 [.itr g15 (tx s) (nxp s p16)]) => ?_))
    simp only [nz1, nz2, nz3]
    refine lvw 17 (.bool (decide (p16 < s.length))) rfl rfl (r_ext0 s p16 rfl rfl) ?_
    simp only [nz1, nz2, nz3]
    refine wpList_nil ?_
    refine then_n (hK29 _ _ ?_)
    refine wp_seq_k (fun K34 hK34 => ?_)
    refine cond_d (p16 < s.length) rfl (fun hc35 => ?_) (fun hc35 => ?_)
    rotate_left
    · refine wp_exit ?_
      refine then_x ?_
      refine then_x ?_
      refine blk_x ?_
      refine then_n ?_
      exact ⟨(nxp s p16), x17, (fun qq => bif Nat.blt qq 24 then List.getD [u0 0, u0 1, u0 2, nxv s p16, .bool (decide (p16 < s.length)), u0 5, u0 6, u0 7, u0 8, u0 9, u0 10, u0 11, u0 12, u0 13, u0 14, u0 15, u0 16, u0 17, u0 18, u0 19, u0 20, u0 21, u0 22, u0 23] qq undef else List.getD [u0 24, u0 25, u0 26, u0 27, u0 28, u0 29, u0 30, u0 31, u0 32, u0 33, u0 34, u0 35] (qq - 24) undef), (hi20.trans (show rtarget_m_b0 s (rtarget_m_l0 s k19) p16 x17 = .inl ((nxp s p16), x17) from by unfold rtarget_m_b0; rw [if_neg hc35] <;> rfl)), (by first | omega | (simp; done) | (simp; omega) | (simp at *; omega)), rfl, hm31⟩
    refine wp_skip ?_
    refine then_n (hK34 _ _ ?_)
    refine wp_block ?_
    refine wp_seq_k (fun K36 hK36 => ?_)
    refine wp_region_lit ?_
    refine lvw 18 (.int .i32 (((dec s p16).1 : Nat) : Int)) rfl rfl (r_ext2 (s := s) (i := p16) (by first | assumption | omega) rfl rfl) ?_
    simp only [nz1, nz2, nz3]
    refine lvw 5 (.int .i32 (((dec s p16).1 : Nat) : Int)) rfl rfl (run_as rfl rfl) ?_
    simp only [nz1, nz2, nz3]
    refine wpList_nil ?_
    refine then_n (hK36 _ _ ?_)
    refine wp_seq_k (fun K37 hK37 => ?_)
    refine wp_region_lit ?_
    refine lvw 19 (.int .i32 (((dec s p16).1 : Nat) : Int)) rfl rfl (run_mv rfl rfl) ?_
    simp only [nz1, nz2, nz3]
    refine lst rfl (m_call hm31 20 (.int .i64 ((rsize_m (((dec s p16).1 : Nat) : Int)))) rfl (run_rsize rfl rfl) (rsize_any (((dec s p16).1 : Nat) : Int)  _  ) (fun w38 (hm39 : Mm none (fun _ => True) w w38 [.itr g15 (tx s) (nxp s p16)]) => ?_))
    have hf40 : 1 ≤ (rsize_m (((dec s p16).1 : Nat) : Int)) ∧ (rsize_m (((dec s p16).1 : Nat) : Int)) ≤ 4 := rsize_rng (((dec s p16).1 : Nat) : Int)
    simp only [nz1, nz2, nz3]
    refine lvw 6 (.int .i64 ((rsize_m (((dec s p16).1 : Nat) : Int)))) rfl rfl (run_as rfl rfl) ?_
    simp only [nz1, nz2, nz3]
    refine wpList_nil ?_
    refine then_n (hK37 _ _ ?_)
    refine wp_seq_k (fun K41 hK41 => ?_)
    refine wp_seq_k (fun K42 hK42 => ?_)
    refine wp_region_lit ?_
    refine lvw 21 (.int .i32 (((dec s p16).1 : Nat) : Int)) rfl rfl (run_mv rfl rfl) ?_
    simp only [nz1, nz2, nz3]
    refine lvb 22 ((dec s p16).1 = 65533) rfl rfl (r_eql ((dec s p16).1) 65533 rfl rfl rfl) (fun hs43 => ?_) (fun hs43 => ?_)
    rotate_left
    · simp only [nz1, nz2, nz3]
      refine lvw 23 (.bool false) rfl rfl (run_mv rfl rfl) ?_
      simp only [nz1, nz2, nz3]
      refine lst_skip 24 rfl rfl ?_
      simp only [nz1, nz2, nz3]
      refine lst_skip 25 rfl rfl ?_
      simp only [nz1, nz2, nz3]
      refine lst_skip 26 rfl rfl ?_
      simp only [nz1, nz2, nz3]
      refine lst_skip 27 rfl rfl ?_
      simp only [nz1, nz2, nz3]
      refine lst_skip 28 rfl rfl ?_
      simp only [nz1, nz2, nz3]
      refine lst_skip 29 rfl rfl ?_
      simp only [nz1, nz2, nz3]
      refine lst_skip 30 rfl rfl ?_
      simp only [nz1, nz2, nz3]
      refine lst_skip 31 rfl rfl ?_
      simp only [nz1, nz2, nz3]
      refine lst_skip 32 rfl rfl ?_
      simp only [nz1, nz2, nz3]
      refine lst_skip 33 rfl rfl ?_
      simp only [nz1, nz2, nz3]
      refine lst_skip 34 rfl rfl ?_
      simp only [nz1, nz2, nz3]
      refine lst_skip 35 rfl rfl ?_
      simp only [nz1, nz2, nz3]
      refine lst_skip 36 rfl rfl ?_
      simp only [nz1, nz2, nz3]
      refine lvw 37 (.bool false) rfl rfl (run_pickf rfl rfl rfl) ?_
      simp only [nz1, nz2, nz3]
      refine wpList_nil ?_
      refine then_n (hK42 _ _ ?_)
      refine cond_f rfl ?_
      refine wp_skip ?_
      refine then_n (hK41 _ _ ?_)
      refine wp_seq_k (fun K73 hK73 => ?_)
      refine wp_seq_k (fun K74 hK74 => ?_)
      refine wp_region_lit ?_
      refine lvw 38 (.int .i32 (((dec s p16).1 : Nat) : Int)) rfl rfl (run_mv rfl rfl) ?_
      simp only [nz1, nz2, nz3]
      refine lvb 39 (¬ (dec s p16).1 = 47) rfl rfl (r_neq ((dec s p16).1) 47 rfl rfl rfl) (fun hs75 => ?_) (fun hs75 => ?_)
      rotate_left
      · simp only [nz1, nz2, nz3]
        refine lvw 40 (.bool false) rfl rfl (run_mv rfl rfl) ?_
        simp only [nz1, nz2, nz3]
        refine lst_skip 41 rfl rfl ?_
        simp only [nz1, nz2, nz3]
        refine lst_skip 42 rfl rfl ?_
        simp only [nz1, nz2, nz3]
        refine lst_skip 43 rfl rfl ?_
        simp only [nz1, nz2, nz3]
        refine lst_skip 44 rfl rfl ?_
        simp only [nz1, nz2, nz3]
        refine lvw 45 (.bool false) rfl rfl (run_pickf rfl rfl rfl) ?_
        simp only [nz1, nz2, nz3]
        refine wpList_nil ?_
        refine then_n (hK74 _ _ ?_)
        refine cond_f rfl ?_
        refine wp_skip ?_
        refine then_n (hK73 _ _ ?_)
        refine wp_region_lit ?_
        refine lvw 46 (.int .i64 (x17)) rfl rfl (run_mv rfl rfl) ?_
        simp only [nz1, nz2, nz3]
        refine lvw 47 (.int .i64 ((rsize_m (((dec s p16).1 : Nat) : Int)))) rfl rfl (run_mv rfl rfl) ?_
        simp only [nz1, nz2, nz3]
        refine lvw 48 (.int .i64 ((x17 + (rsize_m (((dec s p16).1 : Nat) : Int))))) rfl rfl (z_add x17 (rsize_m (((dec s p16).1 : Nat) : Int)) _ (by rw [IntKind.wrap_i64]; omega) rfl rfl rfl) ?_
        simp only [nz1, nz2, nz3]
        refine lvw 3 (.int .i64 ((x17 + (rsize_m (((dec s p16).1 : Nat) : Int))))) rfl rfl (run_as rfl rfl) ?_
        simp only [nz1, nz2, nz3]
        refine wpList_nil ?_
        refine blk_n ?_
        refine then_n (hR26 _ _ _ ⟨k19, (nxp s p16), (x17 + (rsize_m (((dec s p16).1 : Nat) : Int))), (fun qq => bif Nat.blt qq 24 then List.getD [u0 0, .int .i32 (((dec s p16).1 : Nat) : Int), .int .i64 ((rsize_m (((dec s p16).1 : Nat) : Int))), nxv s p16, .bool (decide (p16 < s.length)), .int .i32 (((dec s p16).1 : Nat) : Int), .int .i32 (((dec s p16).1 : Nat) : Int), .int .i64 ((rsize_m (((dec s p16).1 : Nat) : Int))), .int .i32 (((dec s p16).1 : Nat) : Int), .bool false, .bool false, undef, undef, undef, undef, undef, undef, undef, undef, undef, undef, undef, undef, undef] qq undef else List.getD [.bool false, .int .i32 (((dec s p16).1 : Nat) : Int), .bool false, .bool false, undef, undef, undef, undef, .bool false, .int .i64 (x17), .int .i64 ((rsize_m (((dec s p16).1 : Nat) : Int))), .int .i64 ((x17 + (rsize_m (((dec s p16).1 : Nat) : Int))))] (qq - 24) undef), rfl, (by first | omega | (simp; omega) | (simp at *; omega)), (hi20.trans (show rtarget_m_b0 s (rtarget_m_l0 s k19) p16 x17 = rtarget_m_l0 s k19 ((nxp s p16), (x17 + (rsize_m (((dec s p16).1 : Nat) : Int)))) from by unfold rtarget_m_b0; rw [if_pos hc35, if_neg hs43, if_neg hs75] <;> rfl)), (by first | omega | (simp; done) | (simp; omega) | (simp at *; omega)), rfl, hm39⟩ ?_)
        omega
      simp only [nz1, nz2, nz3]
      refine lvw 40 (.bool true) rfl rfl (run_mv rfl rfl) ?_
      simp only [nz1, nz2, nz3]
      refine lvw 41 (.int .i32 (((dec s p16).1 : Nat) : Int)) rfl rfl (run_mv rfl rfl) ?_
      simp only [nz1, nz2, nz3]
      refine lvw 42 (.int .i64 ((rsize_m (((dec s p16).1 : Nat) : Int)))) rfl rfl (run_mv rfl rfl) ?_
      simp only [nz1, nz2, nz3]
      refine lst rfl (m_call hm39 43 (.bool ((rsign_m (((dec s p16).1 : Nat) : Int) (rsize_m (((dec s p16).1 : Nat) : Int))))) rfl (run_rsign rfl rfl rfl) (rsign_any (((dec s p16).1 : Nat) : Int) (rsize_m (((dec s p16).1 : Nat) : Int))  _  ) (fun w76 (hm77 : Mm none (fun _ => True) w w76 [.itr g15 (tx s) (nxp s p16)]) => ?_))
      simp only [nz1, nz2, nz3]
      refine lvw 44 (.bool (!(rsign_m (((dec s p16).1 : Nat) : Int) (rsize_m (((dec s p16).1 : Nat) : Int))))) rfl rfl (r_not (rsign_m (((dec s p16).1 : Nat) : Int) (rsize_m (((dec s p16).1 : Nat) : Int))) rfl rfl) ?_
      simp only [nz1, nz2, nz3]
      refine lvw 45 (.bool (!(rsign_m (((dec s p16).1 : Nat) : Int) (rsize_m (((dec s p16).1 : Nat) : Int))))) rfl rfl (run_pick rfl rfl rfl) ?_
      simp only [nz1, nz2, nz3]
      refine wpList_nil ?_
      refine then_n (hK74 _ _ ?_)
      refine cond_B (!(rsign_m (((dec s p16).1 : Nat) : Int) (rsize_m (((dec s p16).1 : Nat) : Int)))) rfl (fun hc78 => ?_) (fun hc78 => ?_)
      rotate_left
      · refine wp_skip ?_
        refine then_n (hK73 _ _ ?_)
        refine wp_region_lit ?_
        refine lvw 46 (.int .i64 (x17)) rfl rfl (run_mv rfl rfl) ?_
        simp only [nz1, nz2, nz3]
        refine lvw 47 (.int .i64 ((rsize_m (((dec s p16).1 : Nat) : Int)))) rfl rfl (run_mv rfl rfl) ?_
        simp only [nz1, nz2, nz3]
        refine lvw 48 (.int .i64 ((x17 + (rsize_m (((dec s p16).1 : Nat) : Int))))) rfl rfl (z_add x17 (rsize_m (((dec s p16).1 : Nat) : Int)) _ (by rw [IntKind.wrap_i64]; omega) rfl rfl rfl) ?_
        simp only [nz1, nz2, nz3]
        refine lvw 3 (.int .i64 ((x17 + (rsize_m (((dec s p16).1 : Nat) : Int))))) rfl rfl (run_as rfl rfl) ?_
        simp only [nz1, nz2, nz3]
        refine wpList_nil ?_
        refine blk_n ?_
        refine then_n (hR26 _ _ _ ⟨k19, (nxp s p16), (x17 + (rsize_m (((dec s p16).1 : Nat) : Int))), (fun qq => bif Nat.blt qq 24 then List.getD [u0 0, .int .i32 (((dec s p16).1 : Nat) : Int), .int .i64 ((rsize_m (((dec s p16).1 : Nat) : Int))), nxv s p16, .bool (decide (p16 < s.length)), .int .i32 (((dec s p16).1 : Nat) : Int), .int .i32 (((dec s p16).1 : Nat) : Int), .int .i64 ((rsize_m (((dec s p16).1 : Nat) : Int))), .int .i32 (((dec s p16).1 : Nat) : Int), .bool false, .bool false, undef, undef, undef, undef, undef, undef, undef, undef, undef, undef, undef, undef, undef] qq undef else List.getD [.bool false, .int .i32 (((dec s p16).1 : Nat) : Int), .bool true, .bool true, .int .i32 (((dec s p16).1 : Nat) : Int), .int .i64 ((rsize_m (((dec s p16).1 : Nat) : Int))), .bool ((rsign_m (((dec s p16).1 : Nat) : Int) (rsize_m (((dec s p16).1 : Nat) : Int)))), .bool (!(rsign_m (((dec s p16).1 : Nat) : Int) (rsize_m (((dec s p16).1 : Nat) : Int)))), .bool (!(rsign_m (((dec s p16).1 : Nat) : Int) (rsize_m (((dec s p16).1 : Nat) : Int)))), .int .i64 (x17), .int .i64 ((rsize_m (((dec s p16).1 : Nat) : Int))), .int .i64 ((x17 + (rsize_m (((dec s p16).1 : Nat) : Int))))] (qq - 24) undef), rfl, (by first | omega | (simp; omega) | (simp at *; omega)), (hi20.trans (show rtarget_m_b0 s (rtarget_m_l0 s k19) p16 x17 = rtarget_m_l0 s k19 ((nxp s p16), (x17 + (rsize_m (((dec s p16).1 : Nat) : Int)))) from by unfold rtarget_m_b0; rw [if_pos hc35, if_neg hs43, if_pos hs75, if_neg hc78] <;> rfl)), (by first | omega | (simp; done) | (simp; omega) | (simp at *; omega)), rfl, hm77⟩ ?_)
        omega
      refine wp_seq_k (fun K79 hK79 => ?_)
      refine wp_region_lit ?_
      refine lvw 2 (.bool false) rfl rfl (run_as rfl rfl) ?_
      simp only [nz1, nz2, nz3]
      refine wpList_nil ?_
      refine then_n (hK79 _ _ ?_)
      refine wp_ret ?_
      refine then_r ?_
      refine blk_r ?_
      refine then_r ?_
      refine blk_r ?_
      refine then_r ?_
      refine then_r ?_
      have he80 : rtarget_m_l0 s ((s.length - 0) + 1) (0, 0) = .inr false := (hi20.trans (show rtarget_m_b0 s (rtarget_m_l0 s k19) p16 x17 = .inr false from by unfold rtarget_m_b0; rw [if_pos hc35, if_neg hs43, if_pos hs75, if_pos hc78] <;> rfl))
      have he81 : rtarget_m s = false := (show rtarget_m s = false from by unfold rtarget_m; rw [if_neg hs4, if_neg hc7, he80] <;> rfl)
      exact ⟨rfl, .bool false, res_t rfl rfl, ⟨by rw [he81], hm77.below⟩⟩
    simp only [nz1, nz2, nz3]
    refine lvw 23 (.bool true) rfl rfl (run_mv rfl rfl) ?_
    simp only [nz1, nz2, nz3]
    refine lvw 24 (.string (tx s)) rfl rfl (run_mv rfl rfl) ?_
    simp only [nz1, nz2, nz3]
    refine lvw 25 (.int .i64 ((s.length : Nat) : Int)) rfl rfl (t_len rfl Tryd.underlying9 rfl) ?_
    simp only [nz1, nz2, nz3]
    refine lvw 26 (.int .i64 (x17)) rfl rfl (run_mv rfl rfl) ?_
    simp only [nz1, nz2, nz3]
    refine lvw 27 (.int .i64 ((((s.length : Nat) : Int) - x17))) rfl rfl (z_sub ((s.length : Nat) : Int) x17 _ (by rw [IntKind.wrap_i64]; omega) rfl rfl rfl) ?_
    simp only [nz1, nz2, nz3]
    refine lvb 28 ((((s.length : Nat) : Int) - x17) < 3) rfl rfl (z_lss (((s.length : Nat) : Int) - x17) 3 rfl rfl rfl) (fun hs44 => ?_) (fun hs44 => ?_)
    · simp only [nz1, nz2, nz3]
      refine lvw 29 (.bool true) rfl rfl (run_mv rfl rfl) ?_
      simp only [nz1, nz2, nz3]
      refine lst_skip 30 rfl rfl ?_
      simp only [nz1, nz2, nz3]
      refine lst_skip 31 rfl rfl ?_
      simp only [nz1, nz2, nz3]
      refine lst_skip 32 rfl rfl ?_
      simp only [nz1, nz2, nz3]
      refine lst_skip 33 rfl rfl ?_
      simp only [nz1, nz2, nz3]
      refine lst_skip 34 rfl rfl ?_
      simp only [nz1, nz2, nz3]
      refine lst_skip 35 rfl rfl ?_
      simp only [nz1, nz2, nz3]
      refine lvw 36 (.bool true) rfl rfl (run_pick rfl rfl rfl) ?_
      simp only [nz1, nz2, nz3]
      refine lvw 37 (.bool true) rfl rfl (run_pick rfl rfl rfl) ?_
      simp only [nz1, nz2, nz3]
      refine wpList_nil ?_
      refine then_n (hK42 _ _ ?_)
      refine cond_t rfl ?_
      refine wp_region_lit ?_
      refine lvw 6 (.int .i64 1) rfl rfl (run_as rfl rfl) ?_
      simp only [nz1, nz2, nz3]
      refine wpList_nil ?_
      refine then_n (hK41 _ _ ?_)
      refine wp_seq_k (fun K45 hK45 => ?_)
      refine wp_seq_k (fun K46 hK46 => ?_)
      refine wp_region_lit ?_
      refine lvw 38 (.int .i32 (((dec s p16).1 : Nat) : Int)) rfl rfl (run_mv rfl rfl) ?_
      simp only [nz1, nz2, nz3]
      refine lvb 39 (¬ (dec s p16).1 = 47) rfl rfl (r_neq ((dec s p16).1) 47 rfl rfl rfl) (fun hs47 => ?_) (fun hs47 => ?_)
      rotate_left
      · simp only [nz1, nz2, nz3]
        refine lvw 40 (.bool false) rfl rfl (run_mv rfl rfl) ?_
        simp only [nz1, nz2, nz3]
        refine lst_skip 41 rfl rfl ?_
        simp only [nz1, nz2, nz3]
        refine lst_skip 42 rfl rfl ?_
        simp only [nz1, nz2, nz3]
        refine lst_skip 43 rfl rfl ?_
        simp only [nz1, nz2, nz3]
        refine lst_skip 44 rfl rfl ?_
        simp only [nz1, nz2, nz3]
        refine lvw 45 (.bool false) rfl rfl (run_pickf rfl rfl rfl) ?_
        simp only [nz1, nz2, nz3]
        refine wpList_nil ?_
        refine then_n (hK46 _ _ ?_)
        refine cond_f rfl ?_
        refine wp_skip ?_
        refine then_n (hK45 _ _ ?_)
        refine wp_region_lit ?_
        refine lvw 46 (.int .i64 (x17)) rfl rfl (run_mv rfl rfl) ?_
        simp only [nz1, nz2, nz3]
        refine lvw 47 (.int .i64 1) rfl rfl (run_mv rfl rfl) ?_
        simp only [nz1, nz2, nz3]
        refine lvw 48 (.int .i64 ((x17 + (1 : Int)))) rfl rfl (z_add x17 (1 : Int) _ (by rw [IntKind.wrap_i64]; omega) rfl rfl rfl) ?_
        simp only [nz1, nz2, nz3]
        refine lvw 3 (.int .i64 ((x17 + (1 : Int)))) rfl rfl (run_as rfl rfl) ?_
        simp only [nz1, nz2, nz3]
        refine wpList_nil ?_
        refine blk_n ?_
        refine then_n (hR26 _ _ _ ⟨k19, (nxp s p16), (x17 + (1 : Int)), (fun qq => bif Nat.blt qq 24 then List.getD [u0 0, .int .i32 (((dec s p16).1 : Nat) : Int), .int .i64 1, nxv s p16, .bool (decide (p16 < s.length)), .int .i32 (((dec s p16).1 : Nat) : Int), .int .i32 (((dec s p16).1 : Nat) : Int), .int .i64 ((rsize_m (((dec s p16).1 : Nat) : Int))), .int .i32 (((dec s p16).1 : Nat) : Int), .bool true, .bool true, .string (tx s), .int .i64 ((s.length : Nat) : Int), .int .i64 (x17), .int .i64 ((((s.length : Nat) : Int) - x17)), .bool true, .bool true, undef, undef, undef, undef, undef, undef, .bool true] qq undef else List.getD [.bool true, .int .i32 (((dec s p16).1 : Nat) : Int), .bool false, .bool false, undef, undef, undef, undef, .bool false, .int .i64 (x17), .int .i64 1, .int .i64 ((x17 + (1 : Int)))] (qq - 24) undef), rfl, (by first | omega | (simp; omega) | (simp at *; omega)), (hi20.trans (show rtarget_m_b0 s (rtarget_m_l0 s k19) p16 x17 = rtarget_m_l0 s k19 ((nxp s p16), (x17 + (1 : Int))) from by unfold rtarget_m_b0; rw [if_pos hc35, if_pos hs43, if_pos hs44, if_neg hs47] <;> rfl)), (by first | omega | (simp; done) | (simp; omega) | (simp at *; omega)), rfl, hm39⟩ ?_)
        omega
      simp only [nz1, nz2, nz3]
      refine lvw 40 (.bool true) rfl rfl (run_mv rfl rfl) ?_
      simp only [nz1, nz2, nz3]
      refine lvw 41 (.int .i32 (((dec s p16).1 : Nat) : Int)) rfl rfl (run_mv rfl rfl) ?_
      simp only [nz1, nz2, nz3]
      refine lvw 42 (.int .i64 1) rfl rfl (run_mv rfl rfl) ?_
      simp only [nz1, nz2, nz3]
      refine lst rfl (m_call hm39 43 (.bool ((rsign_m (((dec s p16).1 : Nat) : Int) 1))) rfl (run_rsign rfl rfl rfl) (rsign_any (((dec s p16).1 : Nat) : Int) 1  _  ) (fun w48 (hm49 : Mm none (fun _ => True) w w48 [.itr g15 (tx s) (nxp s p16)]) => ?_))
      simp only [nz1, nz2, nz3]
      refine lvw 44 (.bool (!(rsign_m (((dec s p16).1 : Nat) : Int) 1))) rfl rfl (r_not (rsign_m (((dec s p16).1 : Nat) : Int) 1) rfl rfl) ?_
      simp only [nz1, nz2, nz3]
      refine lvw 45 (.bool (!(rsign_m (((dec s p16).1 : Nat) : Int) 1))) rfl rfl (run_pick rfl rfl rfl) ?_
      simp only [nz1, nz2, nz3]
      refine wpList_nil ?_
      refine then_n (hK46 _ _ ?_)
      refine cond_B (!(rsign_m (((dec s p16).1 : Nat) : Int) 1)) rfl (fun hc50 => ?_) (fun hc50 => ?_)
      rotate_left
      · refine wp_skip ?_
        refine then_n (hK45 _ _ ?_)
        refine wp_region_lit ?_
        refine lvw 46 (.int .i64 (x17)) rfl rfl (run_mv rfl rfl) ?_
        simp only [nz1, nz2, nz3]
        refine lvw 47 (.int .i64 1) rfl rfl (run_mv rfl rfl) ?_
        simp only [nz1, nz2, nz3]
        refine lvw 48 (.int .i64 ((x17 + (1 : Int)))) rfl rfl (z_add x17 (1 : Int) _ (by rw [IntKind.wrap_i64]; omega) rfl rfl rfl) ?_
        simp only [nz1, nz2, nz3]
        refine lvw 3 (.int .i64 ((x17 + (1 : Int)))) rfl rfl (run_as rfl rfl) ?_
        simp only [nz1, nz2, nz3]
        refine wpList_nil ?_
        refine blk_n ?_
        refine then_n (hR26 _ _ _ ⟨k19, (nxp s p16), (x17 + (1 : Int)), (fun qq => bif Nat.blt qq 24 then List.getD [u0 0, .int .i32 (((dec s p16).1 : Nat) : Int), .int .i64 1, nxv s p16, .bool (decide (p16 < s.length)), .int .i32 (((dec s p16).1 : Nat) : Int), .int .i32 (((dec s p16).1 : Nat) : Int), .int .i64 ((rsize_m (((dec s p16).1 : Nat) : Int))), .int .i32 (((dec s p16).1 : Nat) : Int), .bool true, .bool true, .string (tx s), .int .i64 ((s.length : Nat) : Int), .int .i64 (x17), .int .i64 ((((s.length : Nat) : Int) - x17)), .bool true, .bool true, undef, undef, undef, undef, undef, undef, .bool true] qq undef else List.getD [.bool true, .int .i32 (((dec s p16).1 : Nat) : Int), .bool true, .bool true, .int .i32 (((dec s p16).1 : Nat) : Int), .int .i64 1, .bool ((rsign_m (((dec s p16).1 : Nat) : Int) 1)), .bool (!(rsign_m (((dec s p16).1 : Nat) : Int) 1)), .bool (!(rsign_m (((dec s p16).1 : Nat) : Int) 1)), .int .i64 (x17), .int .i64 1, .int .i64 ((x17 + (1 : Int)))] (qq - 24) undef), rfl, (by first | omega | (simp; omega) | (simp at *; omega)), (hi20.trans (show rtarget_m_b0 s (rtarget_m_l0 s k19) p16 x17 = rtarget_m_l0 s k19 ((nxp s p16), (x17 + (1 : Int))) from by unfold rtarget_m_b0; rw [if_pos hc35, if_pos hs43, if_pos hs44, if_pos hs47, if_neg hc50] <;> rfl)), (by first | omega | (simp; done) | (simp; omega) | (simp at *; omega)), rfl, hm49⟩ ?_)
        omega
      refine wp_seq_k (fun K51 hK51 => ?_)
      refine wp_region_lit ?_
      refine lvw 2 (.bool false) rfl rfl (run_as rfl rfl) ?_
      simp only [nz1, nz2, nz3]
      refine wpList_nil ?_
      refine then_n (hK51 _ _ ?_)
      refine wp_ret ?_
      refine then_r ?_
      refine blk_r ?_
      refine then_r ?_
      refine blk_r ?_
      refine then_r ?_
      refine then_r ?_
      have he52 : rtarget_m_l0 s ((s.length - 0) + 1) (0, 0) = .inr false := (hi20.trans (show rtarget_m_b0 s (rtarget_m_l0 s k19) p16 x17 = .inr false from by unfold rtarget_m_b0; rw [if_pos hc35, if_pos hs43, if_pos hs44, if_pos hs47, if_pos hc50] <;> rfl))
      have he53 : rtarget_m s = false := (show rtarget_m s = false from by unfold rtarget_m; rw [if_neg hs4, if_neg hc7, he52] <;> rfl)
      exact ⟨rfl, .bool false, res_t rfl rfl, ⟨by rw [he53], hm49.below⟩⟩
    simp only [nz1, nz2, nz3]
    refine lvw 29 (.bool false) rfl rfl (run_mv rfl rfl) ?_
    simp only [nz1, nz2, nz3]
    refine lvw 30 (.string (tx s)) rfl rfl (run_mv rfl rfl) ?_
    simp only [nz1, nz2, nz3]
    refine lvw 31 (.int .i64 (x17)) rfl rfl (run_mv rfl rfl) ?_
    simp only [nz1, nz2, nz3]
    refine lvw 32 (.int .i64 (x17)) rfl rfl (run_mv rfl rfl) ?_
    simp only [nz1, nz2, nz3]
    refine lvw 33 (.int .i64 ((x17 + (3 : Int)))) rfl rfl (z_add x17 (3 : Int) _ (by rw [IntKind.wrap_i64]; omega) rfl rfl rfl) ?_
    simp only [nz1, nz2, nz3]
    refine lvw 34 (.string (tx ((s.take ((x17 + (3 : Int)).toNat)).drop x17.toNat))) rfl rfl (t_cut s x17.toNat ((x17 + (3 : Int)).toNat) (by omega) (by omega) Tryd.underlying9 rfl rfl (show (Value.int .i64 x17) = .int .i64 ((x17.toNat : Nat) : Int) from by congr 1; omega) (show (Value.int .i64 (x17 + (3 : Int))) = .int .i64 (((x17 + (3 : Int)).toNat : Nat) : Int) from by congr 1; omega)) ?_
    simp only [nz1, nz2, nz3]
    refine lvw 35 (.bool (decide (¬ ((s.take ((x17 + (3 : Int)).toNat)).drop x17.toNat) = [239, 191, 189]))) rfl rfl (t_neq ((s.take ((x17 + (3 : Int)).toNat)).drop x17.toNat) ([239, 191, 189]) rfl rfl rfl) ?_
    simp only [nz1, nz2, nz3]
    refine lvw 36 (.bool (decide (¬ ((s.take ((x17 + (3 : Int)).toNat)).drop x17.toNat) = [239, 191, 189]))) rfl rfl (run_pickf rfl rfl rfl) ?_
    simp only [nz1, nz2, nz3]
    refine lvw 37 (.bool (decide (¬ ((s.take ((x17 + (3 : Int)).toNat)).drop x17.toNat) = [239, 191, 189]))) rfl rfl (run_pick rfl rfl rfl) ?_
    simp only [nz1, nz2, nz3]
    refine wpList_nil ?_
    refine then_n (hK42 _ _ ?_)
    refine cond_d (¬ ((s.take ((x17 + (3 : Int)).toNat)).drop x17.toNat) = [239, 191, 189]) rfl (fun hc54 => ?_) (fun hc54 => ?_)
    rotate_left
    · refine wp_skip ?_
      refine then_n (hK41 _ _ ?_)
      refine wp_seq_k (fun K64 hK64 => ?_)
      refine wp_seq_k (fun K65 hK65 => ?_)
      refine wp_region_lit ?_
      refine lvw 38 (.int .i32 (((dec s p16).1 : Nat) : Int)) rfl rfl (run_mv rfl rfl) ?_
      simp only [nz1, nz2, nz3]
      refine lvb 39 (¬ (dec s p16).1 = 47) rfl rfl (r_neq ((dec s p16).1) 47 rfl rfl rfl) (fun hs66 => ?_) (fun hs66 => ?_)
      rotate_left
      · simp only [nz1, nz2, nz3]
        refine lvw 40 (.bool false) rfl rfl (run_mv rfl rfl) ?_
        simp only [nz1, nz2, nz3]
        refine lst_skip 41 rfl rfl ?_
        simp only [nz1, nz2, nz3]
        refine lst_skip 42 rfl rfl ?_
        simp only [nz1, nz2, nz3]
        refine lst_skip 43 rfl rfl ?_
        simp only [nz1, nz2, nz3]
        refine lst_skip 44 rfl rfl ?_
        simp only [nz1, nz2, nz3]
        refine lvw 45 (.bool false) rfl rfl (run_pickf rfl rfl rfl) ?_
        simp only [nz1, nz2, nz3]
        refine wpList_nil ?_
        refine then_n (hK65 _ _ ?_)
        refine cond_f rfl ?_
        refine wp_skip ?_
        refine then_n (hK64 _ _ ?_)
        refine wp_region_lit ?_
        refine lvw 46 (.int .i64 (x17)) rfl rfl (run_mv rfl rfl) ?_
        simp only [nz1, nz2, nz3]
        refine lvw 47 (.int .i64 ((rsize_m (((dec s p16).1 : Nat) : Int)))) rfl rfl (run_mv rfl rfl) ?_
        simp only [nz1, nz2, nz3]
        refine lvw 48 (.int .i64 ((x17 + (rsize_m (((dec s p16).1 : Nat) : Int))))) rfl rfl (z_add x17 (rsize_m (((dec s p16).1 : Nat) : Int)) _ (by rw [IntKind.wrap_i64]; omega) rfl rfl rfl) ?_
        simp only [nz1, nz2, nz3]
        refine lvw 3 (.int .i64 ((x17 + (rsize_m (((dec s p16).1 : Nat) : Int))))) rfl rfl (run_as rfl rfl) ?_
        simp only [nz1, nz2, nz3]
        refine wpList_nil ?_
        refine blk_n ?_
        refine then_n (hR26 _ _ _ ⟨k19, (nxp s p16), (x17 + (rsize_m (((dec s p16).1 : Nat) : Int))), (fun qq => bif Nat.blt qq 24 then List.getD [u0 0, .int .i32 (((dec s p16).1 : Nat) : Int), .int .i64 ((rsize_m (((dec s p16).1 : Nat) : Int))), nxv s p16, .bool (decide (p16 < s.length)), .int .i32 (((dec s p16).1 : Nat) : Int), .int .i32 (((dec s p16).1 : Nat) : Int), .int .i64 ((rsize_m (((dec s p16).1 : Nat) : Int))), .int .i32 (((dec s p16).1 : Nat) : Int), .bool true, .bool true, .string (tx s), .int .i64 ((s.length : Nat) : Int), .int .i64 (x17), .int .i64 ((((s.length : Nat) : Int) - x17)), .bool false, .bool false, .string (tx s), .int .i64 (x17), .int .i64 (x17), .int .i64 ((x17 + (3 : Int))), .string (tx ((s.take ((x17 + (3 : Int)).toNat)).drop x17.toNat)), .bool (decide (¬ ((s.take ((x17 + (3 : Int)).toNat)).drop x17.toNat) = [239, 191, 189])), .bool (decide (¬ ((s.take ((x17 + (3 : Int)).toNat)).drop x17.toNat) = [239, 191, 189]))] qq undef else List.getD [.bool (decide (¬ ((s.take ((x17 + (3 : Int)).toNat)).drop x17.toNat) = [239, 191, 189])), .int .i32 (((dec s p16).1 : Nat) : Int), .bool false, .bool false, undef, undef, undef, undef, .bool false, .int .i64 (x17), .int .i64 ((rsize_m (((dec s p16).1 : Nat) : Int))), .int .i64 ((x17 + (rsize_m (((dec s p16).1 : Nat) : Int))))] (qq - 24) undef), rfl, (by first | omega | (simp; omega) | (simp at *; omega)), (hi20.trans (show rtarget_m_b0 s (rtarget_m_l0 s k19) p16 x17 = rtarget_m_l0 s k19 ((nxp s p16), (x17 + (rsize_m (((dec s p16).1 : Nat) : Int)))) from by unfold rtarget_m_b0; rw [if_pos hc35, if_pos hs43, if_neg hs44, if_neg hc54, if_neg hs66] <;> rfl)), (by first | omega | (simp; done) | (simp; omega) | (simp at *; omega)), rfl, hm39⟩ ?_)
        omega
      simp only [nz1, nz2, nz3]
      refine lvw 40 (.bool true) rfl rfl (run_mv rfl rfl) ?_
      simp only [nz1, nz2, nz3]
      refine lvw 41 (.int .i32 (((dec s p16).1 : Nat) : Int)) rfl rfl (run_mv rfl rfl) ?_
      simp only [nz1, nz2, nz3]
      refine lvw 42 (.int .i64 ((rsize_m (((dec s p16).1 : Nat) : Int)))) rfl rfl (run_mv rfl rfl) ?_
      simp only [nz1, nz2, nz3]
      refine lst rfl (m_call hm39 43 (.bool ((rsign_m (((dec s p16).1 : Nat) : Int) (rsize_m (((dec s p16).1 : Nat) : Int))))) rfl (run_rsign rfl rfl rfl) (rsign_any (((dec s p16).1 : Nat) : Int) (rsize_m (((dec s p16).1 : Nat) : Int))  _  ) (fun w67 (hm68 : Mm none (fun _ => True) w w67 [.itr g15 (tx s) (nxp s p16)]) => ?_))
      simp only [nz1, nz2, nz3]
      refine lvw 44 (.bool (!(rsign_m (((dec s p16).1 : Nat) : Int) (rsize_m (((dec s p16).1 : Nat) : Int))))) rfl rfl (r_not (rsign_m (((dec s p16).1 : Nat) : Int) (rsize_m (((dec s p16).1 : Nat) : Int))) rfl rfl) ?_
      simp only [nz1, nz2, nz3]
      refine lvw 45 (.bool (!(rsign_m (((dec s p16).1 : Nat) : Int) (rsize_m (((dec s p16).1 : Nat) : Int))))) rfl rfl (run_pick rfl rfl rfl) ?_
      simp only [nz1, nz2, nz3]
      refine wpList_nil ?_
      refine then_n (hK65 _ _ ?_)
      refine cond_B (!(rsign_m (((dec s p16).1 : Nat) : Int) (rsize_m (((dec s p16).1 : Nat) : Int)))) rfl (fun hc69 => ?_) (fun hc69 => ?_)
      rotate_left
      · refine wp_skip ?_
        refine then_n (hK64 _ _ ?_)
        refine wp_region_lit ?_
        refine lvw 46 (.int .i64 (x17)) rfl rfl (run_mv rfl rfl) ?_
        simp only [nz1, nz2, nz3]
        refine lvw 47 (.int .i64 ((rsize_m (((dec s p16).1 : Nat) : Int)))) rfl rfl (run_mv rfl rfl) ?_
        simp only [nz1, nz2, nz3]
        refine lvw 48 (.int .i64 ((x17 + (rsize_m (((dec s p16).1 : Nat) : Int))))) rfl rfl (z_add x17 (rsize_m (((dec s p16).1 : Nat) : Int)) _ (by rw [IntKind.wrap_i64]; omega) rfl rfl rfl) ?_
        simp only [nz1, nz2, nz3]
        refine lvw 3 (.int .i64 ((x17 + (rsize_m (((dec s p16).1 : Nat) : Int))))) rfl rfl (run_as rfl rfl) ?_
        simp only [nz1, nz2, nz3]
        refine wpList_nil ?_
        refine blk_n ?_
        refine then_n (hR26 _ _ _ ⟨k19, (nxp s p16), (x17 + (rsize_m (((dec s p16).1 : Nat) : Int))), (fun qq => bif Nat.blt qq 24 then List.getD [u0 0, .int .i32 (((dec s p16).1 : Nat) : Int), .int .i64 ((rsize_m (((dec s p16).1 : Nat) : Int))), nxv s p16, .bool (decide (p16 < s.length)), .int .i32 (((dec s p16).1 : Nat) : Int), .int .i32 (((dec s p16).1 : Nat) : Int), .int .i64 ((rsize_m (((dec s p16).1 : Nat) : Int))), .int .i32 (((dec s p16).1 : Nat) : Int), .bool true, .bool true, .string (tx s), .int .i64 ((s.length : Nat) : Int), .int .i64 (x17), .int .i64 ((((s.length : Nat) : Int) - x17)), .bool false, .bool false, .string (tx s), .int .i64 (x17), .int .i64 (x17), .int .i64 ((x17 + (3 : Int))), .string (tx ((s.take ((x17 + (3 : Int)).toNat)).drop x17.toNat)), .bool (decide (¬ ((s.take ((x17 + (3 : Int)).toNat)).drop x17.toNat) = [239, 191, 189])), .bool (decide (¬ ((s.take ((x17 + (3 : Int)).toNat)).drop x17.toNat) = [239, 191, 189]))] qq undef else List.getD [.bool (decide (¬ ((s.take ((x17 + (3 : Int)).toNat)).drop x17.toNat) = [239, 191, 189])), .int .i32 (((dec s p16).1 : Nat) : Int), .bool true, .bool true, .int .i32 (((dec s p16).1 : Nat) : Int), .int .i64 ((rsize_m (((dec s p16).1 : Nat) : Int))), .bool ((rsign_m (((dec s p16).1 : Nat) : Int) (rsize_m (((dec s p16).1 : Nat) : Int)))), .bool (!(rsign_m (((dec s p16).1 : Nat) : Int) (rsize_m (((dec s p16).1 : Nat) : Int)))), .bool (!(rsign_m (((dec s p16).1 : Nat) : Int) (rsize_m (((dec s p16).1 : Nat) : Int)))), .int .i64 (x17), .int .i64 ((rsize_m (((dec s p16).1 : Nat) : Int))), .int .i64 ((x17 + (rsize_m (((dec s p16).1 : Nat) : Int))))] (qq - 24) undef), rfl, (by first | omega | (simp; omega) | (simp at *; omega)), (hi20.trans (show rtarget_m_b0 s (rtarget_m_l0 s k19) p16 x17 = rtarget_m_l0 s k19 ((nxp s p16), (x17 + (rsize_m (((dec s p16).1 : Nat) : Int)))) from by unfold rtarget_m_b0; rw [if_pos hc35, if_pos hs43, if_neg hs44, if_neg hc54, if_pos hs66, if_neg hc69] <;> rfl)), (by first | omega | (simp; done) | (simp; omega) | (simp at *; omega)), rfl, hm68⟩ ?_)
        omega
      refine wp_seq_k (fun K70 hK70 => ?_)
      refine wp_region_lit ?_
      refine lvw 2 (.bool false) rfl rfl (run_as rfl rfl) ?_
      simp only [nz1, nz2, nz3]
      refine wpList_nil ?_
      refine then_n (hK70 _ _ ?_)
      refine wp_ret ?_
      refine then_r ?_
      refine blk_r ?_
      refine then_r ?_
      refine blk_r ?_
      refine then_r ?_
      refine then_r ?_
      have he71 : rtarget_m_l0 s ((s.length - 0) + 1) (0, 0) = .inr false := (hi20.trans (show rtarget_m_b0 s (rtarget_m_l0 s k19) p16 x17 = .inr false from by unfold rtarget_m_b0; rw [if_pos hc35, if_pos hs43, if_neg hs44, if_neg hc54, if_pos hs66, if_pos hc69] <;> rfl))
      have he72 : rtarget_m s = false := (show rtarget_m s = false from by unfold rtarget_m; rw [if_neg hs4, if_neg hc7, he71] <;> rfl)
      exact ⟨rfl, .bool false, res_t rfl rfl, ⟨by rw [he72], hm68.below⟩⟩
    refine wp_region_lit ?_
    refine lvw 6 (.int .i64 1) rfl rfl (run_as rfl rfl) ?_
    simp only [nz1, nz2, nz3]
    refine wpList_nil ?_
    refine then_n (hK41 _ _ ?_)
    refine wp_seq_k (fun K55 hK55 => ?_)
    refine wp_seq_k (fun K56 hK56 => ?_)
    refine wp_region_lit ?_
    refine lvw 38 (.int .i32 (((dec s p16).1 : Nat) : Int)) rfl rfl (run_mv rfl rfl) ?_
    simp only [nz1, nz2, nz3]
    refine lvb 39 (¬ (dec s p16).1 = 47) rfl rfl (r_neq ((dec s p16).1) 47 rfl rfl rfl) (fun hs57 => ?_) (fun hs57 => ?_)
    rotate_left
    · simp only [nz1, nz2, nz3]
      refine lvw 40 (.bool false) rfl rfl (run_mv rfl rfl) ?_
      simp only [nz1, nz2, nz3]
      refine lst_skip 41 rfl rfl ?_
      simp only [nz1, nz2, nz3]
      refine lst_skip 42 rfl rfl ?_
      simp only [nz1, nz2, nz3]
      refine lst_skip 43 rfl rfl ?_
      simp only [nz1, nz2, nz3]
      refine lst_skip 44 rfl rfl ?_
      simp only [nz1, nz2, nz3]
      refine lvw 45 (.bool false) rfl rfl (run_pickf rfl rfl rfl) ?_
      simp only [nz1, nz2, nz3]
      refine wpList_nil ?_
      refine then_n (hK56 _ _ ?_)
      refine cond_f rfl ?_
      refine wp_skip ?_
      refine then_n (hK55 _ _ ?_)
      refine wp_region_lit ?_
      refine lvw 46 (.int .i64 (x17)) rfl rfl (run_mv rfl rfl) ?_
      simp only [nz1, nz2, nz3]
      refine lvw 47 (.int .i64 1) rfl rfl (run_mv rfl rfl) ?_
      simp only [nz1, nz2, nz3]
      refine lvw 48 (.int .i64 ((x17 + (1 : Int)))) rfl rfl (z_add x17 (1 : Int) _ (by rw [IntKind.wrap_i64]; omega) rfl rfl rfl) ?_
      simp only [nz1, nz2, nz3]
      refine lvw 3 (.int .i64 ((x17 + (1 : Int)))) rfl rfl (run_as rfl rfl) ?_
      simp only [nz1, nz2, nz3]
      refine wpList_nil ?_
      refine blk_n ?_
      refine then_n (hR26 _ _ _ ⟨k19, (nxp s p16), (x17 + (1 : Int)), (fun qq => bif Nat.blt qq 24 then List.getD [u0 0, .int .i32 (((dec s p16).1 : Nat) : Int), .int .i64 1, nxv s p16, .bool (decide (p16 < s.length)), .int .i32 (((dec s p16).1 : Nat) : Int), .int .i32 (((dec s p16).1 : Nat) : Int), .int .i64 ((rsize_m (((dec s p16).1 : Nat) : Int))), .int .i32 (((dec s p16).1 : Nat) : Int), .bool true, .bool true, .string (tx s), .int .i64 ((s.length : Nat) : Int), .int .i64 (x17), .int .i64 ((((s.length : Nat) : Int) - x17)), .bool false, .bool false, .string (tx s), .int .i64 (x17), .int .i64 (x17), .int .i64 ((x17 + (3 : Int))), .string (tx ((s.take ((x17 + (3 : Int)).toNat)).drop x17.toNat)), .bool (decide (¬ ((s.take ((x17 + (3 : Int)).toNat)).drop x17.toNat) = [239, 191, 189])), .bool (decide (¬ ((s.take ((x17 + (3 : Int)).toNat)).drop x17.toNat) = [239, 191, 189]))] qq undef else List.getD [.bool (decide (¬ ((s.take ((x17 + (3 : Int)).toNat)).drop x17.toNat) = [239, 191, 189])), .int .i32 (((dec s p16).1 : Nat) : Int), .bool false, .bool false, undef, undef, undef, undef, .bool false, .int .i64 (x17), .int .i64 1, .int .i64 ((x17 + (1 : Int)))] (qq - 24) undef), rfl, (by first | omega | (simp; omega) | (simp at *; omega)), (hi20.trans (show rtarget_m_b0 s (rtarget_m_l0 s k19) p16 x17 = rtarget_m_l0 s k19 ((nxp s p16), (x17 + (1 : Int))) from by unfold rtarget_m_b0; rw [if_pos hc35, if_pos hs43, if_neg hs44, if_pos hc54, if_neg hs57] <;> rfl)), (by first | omega | (simp; done) | (simp; omega) | (simp at *; omega)), rfl, hm39⟩ ?_)
      omega
    simp only [nz1, nz2, nz3]
    refine lvw 40 (.bool true) rfl rfl (run_mv rfl rfl) ?_
    simp only [nz1, nz2, nz3]
    refine lvw 41 (.int .i32 (((dec s p16).1 : Nat) : Int)) rfl rfl (run_mv rfl rfl) ?_
    simp only [nz1, nz2, nz3]
    refine lvw 42 (.int .i64 1) rfl rfl (run_mv rfl rfl) ?_
    simp only [nz1, nz2, nz3]
    refine lst rfl (m_call hm39 43 (.bool ((rsign_m (((dec s p16).1 : Nat) : Int) 1))) rfl (run_rsign rfl rfl rfl) (rsign_any (((dec s p16).1 : Nat) : Int) 1  _  ) (fun w58 (hm59 : Mm none (fun _ => True) w w58 [.itr g15 (tx s) (nxp s p16)]) => ?_))
    simp only [nz1, nz2, nz3]
    refine lvw 44 (.bool (!(rsign_m (((dec s p16).1 : Nat) : Int) 1))) rfl rfl (r_not (rsign_m (((dec s p16).1 : Nat) : Int) 1) rfl rfl) ?_
    simp only [nz1, nz2, nz3]
    refine lvw 45 (.bool (!(rsign_m (((dec s p16).1 : Nat) : Int) 1))) rfl rfl (run_pick rfl rfl rfl) ?_
    simp only [nz1, nz2, nz3]
    refine wpList_nil ?_
    refine then_n (hK56 _ _ ?_)
    refine cond_B (!(rsign_m (((dec s p16).1 : Nat) : Int) 1)) rfl (fun hc60 => ?_) (fun hc60 => ?_)
    rotate_left
    · refine wp_skip ?_
      refine then_n (hK55 _ _ ?_)
      refine wp_region_lit ?_
      refine lvw 46 (.int .i64 (x17)) rfl rfl (run_mv rfl rfl) ?_
      simp only [nz1, nz2, nz3]
      refine lvw 47 (.int .i64 1) rfl rfl (run_mv rfl rfl) ?_
      simp only [nz1, nz2, nz3]
      refine lvw 48 (.int .i64 ((x17 + (1 : Int)))) rfl rfl (z_add x17 (1 : Int) _ (by rw [IntKind.wrap_i64]; omega) rfl rfl rfl) ?_
      simp only [nz1, nz2, nz3]
      refine lvw 3 (.int .i64 ((x17 + (1 : Int)))) rfl rfl (run_as rfl rfl) ?_
      simp only [nz1, nz2, nz3]
      refine wpList_nil ?_
      refine blk_n ?_
      refine then_n (hR26 _ _ _ ⟨k19, (nxp s p16), (x17 + (1 : Int)), (fun qq => bif Nat.blt qq 24 then List.getD [u0 0, .int .i32 (((dec s p16).1 : Nat) : Int), .int .i64 1, nxv s p16, .bool (decide (p16 < s.length)), .int .i32 (((dec s p16).1 : Nat) : Int), .int .i32 (((dec s p16).1 : Nat) : Int), .int .i64 ((rsize_m (((dec s p16).1 : Nat) : Int))), .int .i32 (((dec s p16).1 : Nat) : Int), .bool true, .bool true, .string (tx s), .int .i64 ((s.length : Nat) : Int), .int .i64 (x17), .int .i64 ((((s.length : Nat) : Int) - x17)), .bool false, .bool false, .string (tx s), .int .i64 (x17), .int .i64 (x17), .int .i64 ((x17 + (3 : Int))), .string (tx ((s.take ((x17 + (3 : Int)).toNat)).drop x17.toNat)), .bool (decide (¬ ((s.take ((x17 + (3 : Int)).toNat)).drop x17.toNat) = [239, 191, 189])), .bool (decide (¬ ((s.take ((x17 + (3 : Int)).toNat)).drop x17.toNat) = [239, 191, 189]))] qq undef else List.getD [.bool (decide (¬ ((s.take ((x17 + (3 : Int)).toNat)).drop x17.toNat) = [239, 191, 189])), .int .i32 (((dec s p16).1 : Nat) : Int), .bool true, .bool true, .int .i32 (((dec s p16).1 : Nat) : Int), .int .i64 1, .bool ((rsign_m (((dec s p16).1 : Nat) : Int) 1)), .bool (!(rsign_m (((dec s p16).1 : Nat) : Int) 1)), .bool (!(rsign_m (((dec s p16).1 : Nat) : Int) 1)), .int .i64 (x17), .int .i64 1, .int .i64 ((x17 + (1 : Int)))] (qq - 24) undef), rfl, (by first | omega | (simp; omega) | (simp at *; omega)), (hi20.trans (show rtarget_m_b0 s (rtarget_m_l0 s k19) p16 x17 = rtarget_m_l0 s k19 ((nxp s p16), (x17 + (1 : Int))) from by unfold rtarget_m_b0; rw [if_pos hc35, if_pos hs43, if_neg hs44, if_pos hc54, if_pos hs57, if_neg hc60] <;> rfl)), (by first | omega | (simp; done) | (simp; omega) | (simp at *; omega)), rfl, hm59⟩ ?_)
      omega
    refine wp_seq_k (fun K61 hK61 => ?_)
    refine wp_region_lit ?_
    refine lvw 2 (.bool false) rfl rfl (run_as rfl rfl) ?_
    simp only [nz1, nz2, nz3]
    refine wpList_nil ?_
    refine then_n (hK61 _ _ ?_)
    refine wp_ret ?_
    refine then_r ?_
    refine blk_r ?_
    refine then_r ?_
    refine blk_r ?_
    refine then_r ?_
    refine then_r ?_
    have he62 : rtarget_m_l0 s ((s.length - 0) + 1) (0, 0) = .inr false := (hi20.trans (show rtarget_m_b0 s (rtarget_m_l0 s k19) p16 x17 = .inr false from by unfold rtarget_m_b0; rw [if_pos hc35, if_pos hs43, if_neg hs44, if_pos hc54, if_pos hs57, if_pos hc60] <;> rfl))
    have he63 : rtarget_m s = false := (show rtarget_m s = false from by unfold rtarget_m; rw [if_neg hs4, if_neg hc7, he62] <;> rfl)
    exact ⟨rfl, .bool false, res_t rfl rfl, ⟨by rw [he63], hm59.below⟩⟩
  rintro _ w82 ⟨y21, y22, yu0, hx23, hat, rfl, hm83⟩
  have hq84 : rtarget_m s = rtarget_m_k0 s y21 y22 := (show rtarget_m s = rtarget_m_k0 s y21 y22 from by unfold rtarget_m; rw [if_neg hs4, if_neg hc7, hx23] <;> rfl)
  refine then_n (hK11 _ _ ?_)
  refine wp_seq_k (fun K85 hK85 => ?_)
  refine wp_region_lit ?_
  refine lvw 2 (.bool true) rfl rfl (run_as rfl rfl) ?_
  simp only [nz1, nz2, nz3]
  refine wpList_nil ?_
  refine then_n (hK85 _ _ ?_)
  refine wp_ret ?_
  have he86 : rtarget_m s = true := (hq84.trans (show rtarget_m_k0 s y21 y22 = true from by unfold rtarget_m_k0; rfl))
  exact ⟨rfl, .bool true, res_t rfl rfl, ⟨by rw [he86], hm83.below⟩⟩
theorem run_rtarget {o : Oper} {a : Act} {w : World} {x0 : Operand} {v0 : Value} (ho : o.op = .call { callee := .value (.func 21), args := #[x0], argTypes := #[9] }) (h0 : a.eval x0 = v0) :
    (execOp a.eval o).run Tryd.prog w = .ok (.enter 21 #[v0]) w := by
  unfold execOp
  simp only [ho]
  have hf : a.eval (.func 21) = .func (.func 21) #[] #[] := rfl
  generalize a.eval = f at *
  go_simp
end Go.Proofs.YtdohmmdfenafnaaDoor.Pa
