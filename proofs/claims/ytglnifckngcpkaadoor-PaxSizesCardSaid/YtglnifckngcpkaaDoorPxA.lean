/- Layer 10: keys, lengths. -/
import Derived.Test.YtglnifckngcpkaaDoorPxK
namespace Go.Proofs.YtglnifckngcpkaaDoor.Px
open Go.RowKit
open Go.Proofs.YtglnifckngcpkaaDoor.Sym Go.Proofs.YtglnifckngcpkaaDoor.Mem
open Go.Proofs.YtglnifckngcpkaaDoor.Sx hiding Mm m_alloc m_store m_put m_call m_callx m_make m_append r_string r_ixS
set_option linter.unusedVariables false
attribute [local irreducible] wpList Oper.wp

theorem run_ib {o : Oper} {a : Act} {w : World} {x0 x1 : Operand} {v0 v1 : Value} (ho : o.op = .call { callee := .value (.func 47), args := #[x0, x1], argTypes := #[9, 5] }) (h0 : a.eval x0 = v0) (h1 : a.eval x1 = v1) :
    (execOp a.eval o).run Tryd.prog w = .ok (.enter 47 #[v0, v1]) w := by
  unfold execOp
  simp only [ho]
  have hf : a.eval (.func 47) = .func (.func 47) #[] #[] := rfl
  generalize a.eval = f at *
  go_simp
theorem run_cut {o : Oper} {a : Act} {w : World} {x0 x1 : Operand} {v0 v1 : Value} (ho : o.op = .call { callee := .value (.func 55), args := #[x0, x1], argTypes := #[9, 9] }) (h0 : a.eval x0 = v0) (h1 : a.eval x1 = v1) :
    (execOp a.eval o).run Tryd.prog w = .ok (.enter 55 #[v0, v1]) w := by
  unfold execOp
  simp only [ho]
  have hf : a.eval (.func 55) = .func (.func 55) #[] #[] := rfl
  generalize a.eval = f at *
  go_simp
theorem run_itoa {o : Oper} {a : Act} {w : World} {x0 : Operand} {v0 : Value} (ho : o.op = .call { callee := .value (.func 57), args := #[x0], argTypes := #[3] }) (h0 : a.eval x0 = v0) :
    (execOp a.eval o).run Tryd.prog w = .ok (.enter 57 #[v0]) w := by
  unfold execOp
  simp only [ho]
  have hf : a.eval (.func 57) = .func (.func 57) #[] #[] := rfl
  generalize a.eval = f at *
  go_simp
theorem run_atoi {o : Oper} {a : Act} {w : World} {x0 : Operand} {v0 : Value} (ho : o.op = .call { callee := .value (.func 62), args := #[x0], argTypes := #[9] }) (h0 : a.eval x0 = v0) :
    (execOp a.eval o).run Tryd.prog w = .ok (.enter 62 #[v0]) w := by
  unfold execOp
  simp only [ho]
  have hf : a.eval (.func 62) = .func (.func 62) #[] #[] := rfl
  generalize a.eval = f at *
  go_simp
def key_m (s : List UInt8) : Bool :=
  if ¬ s = [] then
    if (ib_m s 61) < 0 then
      if (ib_m s 0) < 0 then
        if (ib_m s 10) < 0 then
          (decide ((ib_m s 32) < 0))
        else
          false
      else
        false
    else
      false
  else
    false

set_option maxHeartbeats 4000000 in
set_option maxRecDepth 100000 in
theorem key_any (s : List UInt8) (w : World)   : Calls Tryd.prog 29 #[.string (tx s)] w (fun e w' => e = .returned (.bool ((key_m s))) ∧ Below w.heap.size w w') := by
  go_enter Tryd.func29, Tryd.ntmps29
  have hm00 := Mm.nil none (fun _ => True) w
  have hm0 := hm00
  refine wp_seq_k (fun K1 hK1 => ?_)
  refine wp_region_lit ?_
  refine lvw 2 (.bool false) rfl rfl (run_as rfl rfl) ?_
  simp only [nz1, nz2, nz3]
  refine wpList_nil ?_
  refine then_n (hK1 _ _ ?_)
  refine wp_seq_k (fun K2 hK2 => ?_)
  refine wp_region_lit ?_
  refine lvw 3 (.string (tx s)) rfl rfl (run_mv rfl rfl) ?_
  simp only [nz1, nz2, nz3]
  refine lvb 4 (¬ s = []) rfl rfl (t_neq s ([]) rfl rfl rfl) (fun hs3 => ?_) (fun hs3 => ?_)
  rotate_left
  · simp only [nz1, nz2, nz3]
    refine lvw 5 (.bool false) rfl rfl (run_mv rfl rfl) ?_
    simp only [nz1, nz2, nz3]
    refine lst_skip 6 rfl rfl ?_
    simp only [nz1, nz2, nz3]
    refine lst_skip 7 rfl rfl ?_
    simp only [nz1, nz2, nz3]
    refine lst_skip 8 rfl rfl ?_
    simp only [nz1, nz2, nz3]
    refine lvw 9 (.bool false) rfl rfl (run_pickf rfl rfl rfl) ?_
    simp only [nz1, nz2, nz3]
    refine lvw 10 (.bool false) rfl rfl (run_mv rfl rfl) ?_
    simp only [nz1, nz2, nz3]
    refine lst_skip 11 rfl rfl ?_
    simp only [nz1, nz2, nz3]
    refine lst_skip 12 rfl rfl ?_
    simp only [nz1, nz2, nz3]
    refine lst_skip 13 rfl rfl ?_
    simp only [nz1, nz2, nz3]
    refine lvw 14 (.bool false) rfl rfl (run_pickf rfl rfl rfl) ?_
    simp only [nz1, nz2, nz3]
    refine lvw 15 (.bool false) rfl rfl (run_mv rfl rfl) ?_
    simp only [nz1, nz2, nz3]
    refine lst_skip 16 rfl rfl ?_
    simp only [nz1, nz2, nz3]
    refine lst_skip 17 rfl rfl ?_
    simp only [nz1, nz2, nz3]
    refine lst_skip 18 rfl rfl ?_
    simp only [nz1, nz2, nz3]
    refine lvw 19 (.bool false) rfl rfl (run_pickf rfl rfl rfl) ?_
    simp only [nz1, nz2, nz3]
    refine lvw 20 (.bool false) rfl rfl (run_mv rfl rfl) ?_
    simp only [nz1, nz2, nz3]
    refine lst_skip 21 rfl rfl ?_
    simp only [nz1, nz2, nz3]
    refine lst_skip 22 rfl rfl ?_
    simp only [nz1, nz2, nz3]
    refine lst_skip 23 rfl rfl ?_
    simp only [nz1, nz2, nz3]
    refine lvw 24 (.bool false) rfl rfl (run_pickf rfl rfl rfl) ?_
    simp only [nz1, nz2, nz3]
    refine lvw 2 (.bool false) rfl rfl (run_as rfl rfl) ?_
    simp only [nz1, nz2, nz3]
    refine wpList_nil ?_
    refine then_n (hK2 _ _ ?_)
    refine wp_ret ?_
    have he19 : key_m s = false := (show key_m s = false from by unfold key_m; rw [if_neg hs3] <;> rfl)
    exact ⟨rfl, .bool false, res_t rfl rfl, ⟨by rw [he19], hm0.below⟩⟩
  simp only [nz1, nz2, nz3]
  refine lvw 5 (.bool true) rfl rfl (run_mv rfl rfl) ?_
  simp only [nz1, nz2, nz3]
  refine lvw 6 (.string (tx s)) rfl rfl (run_mv rfl rfl) ?_
  simp only [nz1, nz2, nz3]
  refine lst rfl (m_call hm0 7 (.int .i64 ((ib_m s 61))) rfl (run_ib rfl rfl rfl) (ib_any s 61  _  ) (fun w4 (hm5 : Mm none (fun _ => True) w w4 []) => ?_))
  simp only [nz1, nz2, nz3]
  refine lvb 8 ((ib_m s 61) < 0) rfl rfl (z_lss (ib_m s 61) 0 rfl rfl rfl) (fun hs6 => ?_) (fun hs6 => ?_)
  rotate_left
  · simp only [nz1, nz2, nz3]
    refine lvw 9 (.bool false) rfl rfl (run_pick rfl rfl rfl) ?_
    simp only [nz1, nz2, nz3]
    refine lvw 10 (.bool false) rfl rfl (run_mv rfl rfl) ?_
    simp only [nz1, nz2, nz3]
    refine lst_skip 11 rfl rfl ?_
    simp only [nz1, nz2, nz3]
    refine lst_skip 12 rfl rfl ?_
    simp only [nz1, nz2, nz3]
    refine lst_skip 13 rfl rfl ?_
    simp only [nz1, nz2, nz3]
    refine lvw 14 (.bool false) rfl rfl (run_pickf rfl rfl rfl) ?_
    simp only [nz1, nz2, nz3]
    refine lvw 15 (.bool false) rfl rfl (run_mv rfl rfl) ?_
    simp only [nz1, nz2, nz3]
    refine lst_skip 16 rfl rfl ?_
    simp only [nz1, nz2, nz3]
    refine lst_skip 17 rfl rfl ?_
    simp only [nz1, nz2, nz3]
    refine lst_skip 18 rfl rfl ?_
    simp only [nz1, nz2, nz3]
    refine lvw 19 (.bool false) rfl rfl (run_pickf rfl rfl rfl) ?_
    simp only [nz1, nz2, nz3]
    refine lvw 20 (.bool false) rfl rfl (run_mv rfl rfl) ?_
    simp only [nz1, nz2, nz3]
    refine lst_skip 21 rfl rfl ?_
    simp only [nz1, nz2, nz3]
    refine lst_skip 22 rfl rfl ?_
    simp only [nz1, nz2, nz3]
    refine lst_skip 23 rfl rfl ?_
    simp only [nz1, nz2, nz3]
    refine lvw 24 (.bool false) rfl rfl (run_pickf rfl rfl rfl) ?_
    simp only [nz1, nz2, nz3]
    refine lvw 2 (.bool false) rfl rfl (run_as rfl rfl) ?_
    simp only [nz1, nz2, nz3]
    refine wpList_nil ?_
    refine then_n (hK2 _ _ ?_)
    refine wp_ret ?_
    have he18 : key_m s = false := (show key_m s = false from by unfold key_m; rw [if_pos hs3, if_neg hs6] <;> rfl)
    exact ⟨rfl, .bool false, res_t rfl rfl, ⟨by rw [he18], hm5.below⟩⟩
  simp only [nz1, nz2, nz3]
  refine lvw 9 (.bool true) rfl rfl (run_pick rfl rfl rfl) ?_
  simp only [nz1, nz2, nz3]
  refine lvw 10 (.bool true) rfl rfl (run_mv rfl rfl) ?_
  simp only [nz1, nz2, nz3]
  refine lvw 11 (.string (tx s)) rfl rfl (run_mv rfl rfl) ?_
  simp only [nz1, nz2, nz3]
  refine lst rfl (m_call hm5 12 (.int .i64 ((ib_m s 0))) rfl (run_ib rfl rfl rfl) (ib_any s 0  _  ) (fun w7 (hm8 : Mm none (fun _ => True) w w7 []) => ?_))
  simp only [nz1, nz2, nz3]
  refine lvb 13 ((ib_m s 0) < 0) rfl rfl (z_lss (ib_m s 0) 0 rfl rfl rfl) (fun hs9 => ?_) (fun hs9 => ?_)
  rotate_left
  · simp only [nz1, nz2, nz3]
    refine lvw 14 (.bool false) rfl rfl (run_pick rfl rfl rfl) ?_
    simp only [nz1, nz2, nz3]
    refine lvw 15 (.bool false) rfl rfl (run_mv rfl rfl) ?_
    simp only [nz1, nz2, nz3]
    refine lst_skip 16 rfl rfl ?_
    simp only [nz1, nz2, nz3]
    refine lst_skip 17 rfl rfl ?_
    simp only [nz1, nz2, nz3]
    refine lst_skip 18 rfl rfl ?_
    simp only [nz1, nz2, nz3]
    refine lvw 19 (.bool false) rfl rfl (run_pickf rfl rfl rfl) ?_
    simp only [nz1, nz2, nz3]
    refine lvw 20 (.bool false) rfl rfl (run_mv rfl rfl) ?_
    simp only [nz1, nz2, nz3]
    refine lst_skip 21 rfl rfl ?_
    simp only [nz1, nz2, nz3]
    refine lst_skip 22 rfl rfl ?_
    simp only [nz1, nz2, nz3]
    refine lst_skip 23 rfl rfl ?_
    simp only [nz1, nz2, nz3]
    refine lvw 24 (.bool false) rfl rfl (run_pickf rfl rfl rfl) ?_
    simp only [nz1, nz2, nz3]
    refine lvw 2 (.bool false) rfl rfl (run_as rfl rfl) ?_
    simp only [nz1, nz2, nz3]
    refine wpList_nil ?_
    refine then_n (hK2 _ _ ?_)
    refine wp_ret ?_
    have he17 : key_m s = false := (show key_m s = false from by unfold key_m; rw [if_pos hs3, if_pos hs6, if_neg hs9] <;> rfl)
    exact ⟨rfl, .bool false, res_t rfl rfl, ⟨by rw [he17], hm8.below⟩⟩
  simp only [nz1, nz2, nz3]
  refine lvw 14 (.bool true) rfl rfl (run_pick rfl rfl rfl) ?_
  simp only [nz1, nz2, nz3]
  refine lvw 15 (.bool true) rfl rfl (run_mv rfl rfl) ?_
  simp only [nz1, nz2, nz3]
  refine lvw 16 (.string (tx s)) rfl rfl (run_mv rfl rfl) ?_
  simp only [nz1, nz2, nz3]
  refine lst rfl (m_call hm8 17 (.int .i64 ((ib_m s 10))) rfl (run_ib rfl rfl rfl) (ib_any s 10  _  ) (fun w10 (hm11 : Mm none (fun _ => True) w w10 []) => ?_))
  simp only [nz1, nz2, nz3]
  refine lvb 18 ((ib_m s 10) < 0) rfl rfl (z_lss (ib_m s 10) 0 rfl rfl rfl) (fun hs12 => ?_) (fun hs12 => ?_)
  · simp only [nz1, nz2, nz3]
    refine lvw 19 (.bool true) rfl rfl (run_pick rfl rfl rfl) ?_
    simp only [nz1, nz2, nz3]
    refine lvw 20 (.bool true) rfl rfl (run_mv rfl rfl) ?_
    simp only [nz1, nz2, nz3]
    refine lvw 21 (.string (tx s)) rfl rfl (run_mv rfl rfl) ?_
    simp only [nz1, nz2, nz3]
    refine lst rfl (m_call hm11 22 (.int .i64 ((ib_m s 32))) rfl (run_ib rfl rfl rfl) (ib_any s 32  _  ) (fun w13 (hm14 : Mm none (fun _ => True) w w13 []) => ?_))
    simp only [nz1, nz2, nz3]
    refine lvw 23 (.bool (decide ((ib_m s 32) < 0))) rfl rfl (z_lss (ib_m s 32) 0 rfl rfl rfl) ?_
    simp only [nz1, nz2, nz3]
    refine lvw 24 (.bool (decide ((ib_m s 32) < 0))) rfl rfl (run_pick rfl rfl rfl) ?_
    simp only [nz1, nz2, nz3]
    refine lvw 2 (.bool (decide ((ib_m s 32) < 0))) rfl rfl (run_as rfl rfl) ?_
    simp only [nz1, nz2, nz3]
    refine wpList_nil ?_
    refine then_n (hK2 _ _ ?_)
    refine wp_ret ?_
    have he15 : key_m s = (decide ((ib_m s 32) < 0)) := (show key_m s = (decide ((ib_m s 32) < 0)) from by unfold key_m; rw [if_pos hs3, if_pos hs6, if_pos hs9, if_pos hs12] <;> rfl)
    exact ⟨rfl, .bool (decide ((ib_m s 32) < 0)), res_t rfl rfl, ⟨by rw [he15], hm14.below⟩⟩
  simp only [nz1, nz2, nz3]
  refine lvw 19 (.bool false) rfl rfl (run_pick rfl rfl rfl) ?_
  simp only [nz1, nz2, nz3]
  refine lvw 20 (.bool false) rfl rfl (run_mv rfl rfl) ?_
  simp only [nz1, nz2, nz3]
  refine lst_skip 21 rfl rfl ?_
  simp only [nz1, nz2, nz3]
  refine lst_skip 22 rfl rfl ?_
  simp only [nz1, nz2, nz3]
  refine lst_skip 23 rfl rfl ?_
  simp only [nz1, nz2, nz3]
  refine lvw 24 (.bool false) rfl rfl (run_pickf rfl rfl rfl) ?_
  simp only [nz1, nz2, nz3]
  refine lvw 2 (.bool false) rfl rfl (run_as rfl rfl) ?_
  simp only [nz1, nz2, nz3]
  refine wpList_nil ?_
  refine then_n (hK2 _ _ ?_)
  refine wp_ret ?_
  have he16 : key_m s = false := (show key_m s = false from by unfold key_m; rw [if_pos hs3, if_pos hs6, if_pos hs9, if_neg hs12] <;> rfl)
  exact ⟨rfl, .bool false, res_t rfl rfl, ⟨by rw [he16], hm11.below⟩⟩
theorem run_key {o : Oper} {a : Act} {w : World} {x0 : Operand} {v0 : Value} (ho : o.op = .call { callee := .value (.func 29), args := #[x0], argTypes := #[9] }) (h0 : a.eval x0 = v0) :
    (execOp a.eval o).run Tryd.prog w = .ok (.enter 29 #[v0]) w := by
  unfold execOp
  simp only [ho]
  have hf : a.eval (.func 29) = .func (.func 29) #[] #[] := rfl
  generalize a.eval = f at *
  go_simp
def plen_m_b0 (rest : Int) (rec : Int → Sum (Int) (Int)) (x4 : Int) : Sum (Int) (Int) :=
  if ¬ x4 = (rest + (((itoa_m x4).length : Nat) : Int)) then
    rec (x4 + (1 : Int))
  else
    .inl x4
def plen_m_l0 (rest : Int) : Nat → Int → Sum (Int) (Int)
  | 0, zz => .inl zz
  | nq + 1, zz => plen_m_b0 rest (plen_m_l0 rest nq) zz

def plen_m_k0 (rest : Int) (y8 : Int) : Int :=
  y8

def plen_m (rest : Int) : Int :=
  fin (plen_m_l0 rest ((rest + 20 - (rest + (1 : Int))).toNat + 1) (rest + (1 : Int))) (fun r => r) (fun zz => plen_m_k0 rest zz)

set_option maxHeartbeats 4000000 in
set_option maxRecDepth 100000 in
theorem plen_any (rest : Int) (w : World)  (hT : Laid w) (hp0 : 0 ≤ rest) (hp1 : rest ≤ 1099511627776) : Calls Tryd.prog 58 #[.int .i64 (rest)] w (fun e w' => e = .returned (.int .i64 ((plen_m rest))) ∧ Below w.heap.size w w') := by
  go_enter Tryd.func58, Tryd.ntmps58
  have hm00 := Mm.nil none (fun _ => True) w
  have hm0 := hm00
  refine wp_seq_k (fun K1 hK1 => ?_)
  refine wp_region_lit ?_
  refine lvw 2 (.int .i64 0) rfl rfl (run_as rfl rfl) ?_
  simp only [nz1, nz2, nz3]
  refine wpList_nil ?_
  refine then_n (hK1 _ _ ?_)
  refine wp_seq_k (fun K2 hK2 => ?_)
  refine wp_region_lit ?_
  refine lvw 4 (.int .i64 (rest)) rfl rfl (run_mv rfl rfl) ?_
  simp only [nz1, nz2, nz3]
  refine lvw 5 (.int .i64 ((rest + (1 : Int)))) rfl rfl (z_add rest (1 : Int) _ (by rw [IntKind.wrap_i64]; omega) rfl rfl rfl) ?_
  simp only [nz1, nz2, nz3]
  refine lvw 3 (.int .i64 ((rest + (1 : Int)))) rfl rfl (run_as rfl rfl) ?_
  simp only [nz1, nz2, nz3]
  refine wpList_nil ?_
  refine then_n (hK2 _ _ ?_)
  refine wp_seq_k (fun K3 hK3 => ?_)
  refine wp_cutK (fun a' w' => ∃ (y8 : Int) (yu0 : Nat → Value), plen_m_l0 rest ((rest + 20 - (rest + (1 : Int))).toNat + 1) (rest + (1 : Int)) = .inl y8 ∧ (rest + 1 ≤ y8 ∧ y8 ≤ rest + (((itoa_m y8).length : Nat) : Int) ∧ (itoa_m y8).length ≤ 19) ∧ a' = ⟨#[.int .i64 (rest), undef, .int .i64 0, .int .i64 (y8), .int .i64 (rest), .int .i64 ((rest + (1 : Int))), yu0 0, yu0 1, yu0 2, yu0 3, yu0 4, yu0 5, yu0 6, yu0 7, yu0 8, undef], []⟩ ∧ Mm none (fun _ => True) w w' []) ?_ ?_
  · refine wp_block ?_
    refine wp_loop_n (fun n' a' w' => ∃ (n5 : Nat) (x4 : Int) (u0 : Nat → Value), n' = n5 ∧ (rest + 20 - x4).toNat < n5 ∧ plen_m_l0 rest ((rest + 20 - (rest + (1 : Int))).toNat + 1) (rest + (1 : Int)) = plen_m_l0 rest n5 x4 ∧ (rest + 1 ≤ x4 ∧ x4 ≤ rest + (((itoa_m x4).length : Nat) : Int) ∧ (itoa_m x4).length ≤ 19) ∧ a' = ⟨#[.int .i64 (rest), undef, .int .i64 0, .int .i64 (x4), .int .i64 (rest), .int .i64 ((rest + (1 : Int))), u0 0, u0 1, u0 2, u0 3, u0 4, u0 5, u0 6, u0 7, u0 8, undef], []⟩ ∧ Mm none (fun _ => True) w w' []) ⟨((rest + 20 - (rest + (1 : Int))).toNat + 1), (rest + (1 : Int)), (fun qq => List.getD [undef, undef, undef, undef, undef, undef, undef, undef, undef] qq undef), rfl, Nat.lt_succ_self _, rfl, ⟨by omega, by have := itoa_len (rest + 1) (by omega) (by omega); omega, (itoa_len (rest + 1) (by omega) (by omega)).2⟩, rfl, hm0⟩ ?_
    rintro n5 _ w10 ⟨_, x4, u0, rfl, hl14, hi7, hln, rfl, hm11⟩ R12 hR12
    obtain ⟨k6, rfl⟩ : ∃ k, n5 = k + 1 := ⟨n5 - 1, by omega⟩
    refine wp_seq_k (fun K15 hK15 => ?_)
    refine wp_seq_k (fun K16 hK16 => ?_)
    refine wp_region_lit ?_
    refine lvw 6 (.int .i64 (x4)) rfl rfl (run_mv rfl rfl) ?_
    simp only [nz1, nz2, nz3]
    refine lvw 7 (.int .i64 (rest)) rfl rfl (run_mv rfl rfl) ?_
    simp only [nz1, nz2, nz3]
    refine lvw 8 (.int .i64 (x4)) rfl rfl (run_mv rfl rfl) ?_
    simp only [nz1, nz2, nz3]
    refine lst rfl (m_call hm11 9 (.string (tx (itoa_m x4))) rfl (run_itoa rfl rfl) (itoa_any x4  _  (Laid.below hT hm11.below) (by first | omega | assumption | decide | (simp; done) | (simp; omega)) (by first | omega | assumption | decide | (simp; done) | (simp; omega))) (fun w17 (hm18 : Mm none (fun _ => True) w w17 []) => ?_))
    have hf19 : 1 ≤ (itoa_m x4).length ∧ (itoa_m x4).length ≤ 19 := itoa_len x4 (by omega) (by omega)
    simp only [nz1, nz2, nz3]
    refine lvw 10 (.int .i64 (((itoa_m x4).length : Nat) : Int)) rfl rfl (t_len rfl Tryd.underlying9 rfl) ?_
    simp only [nz1, nz2, nz3]
    refine lvw 11 (.int .i64 ((rest + (((itoa_m x4).length : Nat) : Int)))) rfl rfl (z_add rest (((itoa_m x4).length : Nat) : Int) _ (by rw [IntKind.wrap_i64]; omega) rfl rfl rfl) ?_
    simp only [nz1, nz2, nz3]
    refine lvw 12 (.bool (decide (¬ x4 = (rest + (((itoa_m x4).length : Nat) : Int))))) rfl rfl (z_neq x4 (rest + (((itoa_m x4).length : Nat) : Int)) rfl rfl rfl) ?_
    simp only [nz1, nz2, nz3]
    refine wpList_nil ?_
    refine then_n (hK16 _ _ ?_)
    refine cond_d (¬ x4 = (rest + (((itoa_m x4).length : Nat) : Int))) rfl (fun hc20 => ?_) (fun hc20 => ?_)
    rotate_left
    · refine wp_exit ?_
      refine then_x ?_
      refine then_x ?_
      refine blk_x ?_
      refine then_n ?_
      exact ⟨x4, (fun qq => List.getD [.int .i64 (x4), .int .i64 (rest), .int .i64 (x4), .string (tx (itoa_m x4)), .int .i64 (((itoa_m x4).length : Nat) : Int), .int .i64 ((rest + (((itoa_m x4).length : Nat) : Int))), .bool (decide (¬ x4 = (rest + (((itoa_m x4).length : Nat) : Int)))), u0 7, u0 8] qq undef), (hi7.trans (show plen_m_b0 rest (plen_m_l0 rest k6) x4 = .inl x4 from by unfold plen_m_b0; rw [if_neg hc20] <;> rfl)), (by first | omega | (simp; done) | (simp; omega) | (simp at *; omega)), rfl, hm18⟩
    refine wp_skip ?_
    refine then_n (hK15 _ _ ?_)
    refine wp_block ?_
    refine wp_region_lit ?_
    refine lvw 13 (.int .i64 (x4)) rfl rfl (run_mv rfl rfl) ?_
    simp only [nz1, nz2, nz3]
    refine lvw 14 (.int .i64 ((x4 + (1 : Int)))) rfl rfl (z_add x4 (1 : Int) _ (by rw [IntKind.wrap_i64]; omega) rfl rfl rfl) ?_
    simp only [nz1, nz2, nz3]
    refine lvw 3 (.int .i64 ((x4 + (1 : Int)))) rfl rfl (run_as rfl rfl) ?_
    simp only [nz1, nz2, nz3]
    refine wpList_nil ?_
    refine blk_n ?_
    refine then_n (hR12 _ _ _ ⟨k6, (x4 + (1 : Int)), (fun qq => List.getD [.int .i64 (x4), .int .i64 (rest), .int .i64 (x4), .string (tx (itoa_m x4)), .int .i64 (((itoa_m x4).length : Nat) : Int), .int .i64 ((rest + (((itoa_m x4).length : Nat) : Int))), .bool (decide (¬ x4 = (rest + (((itoa_m x4).length : Nat) : Int)))), .int .i64 (x4), .int .i64 ((x4 + (1 : Int)))] qq undef), rfl, (by first | omega | (simp; omega) | (simp at *; omega)), (hi7.trans (show plen_m_b0 rest (plen_m_l0 rest k6) x4 = plen_m_l0 rest k6 (x4 + (1 : Int)) from by unfold plen_m_b0; rw [if_pos hc20] <;> rfl)), (by have h1 := itoa_mono x4 (x4 + 1) (by omega) (by omega); have h2 := itoa_len (x4 + 1) (by omega) (by omega); omega), rfl, hm18⟩ ?_)
    omega
  rintro _ w21 ⟨y8, yu0, hx9, hln, rfl, hm22⟩
  have hq23 : plen_m rest = plen_m_k0 rest y8 := (show plen_m rest = plen_m_k0 rest y8 from by unfold plen_m; rw [hx9] <;> rfl)
  refine then_n (hK3 _ _ ?_)
  refine wp_seq_k (fun K24 hK24 => ?_)
  refine wp_region_lit ?_
  refine lvw 15 (.int .i64 (y8)) rfl rfl (run_mv rfl rfl) ?_
  simp only [nz1, nz2, nz3]
  refine lvw 2 (.int .i64 (y8)) rfl rfl (run_as rfl rfl) ?_
  simp only [nz1, nz2, nz3]
  refine wpList_nil ?_
  refine then_n (hK24 _ _ ?_)
  refine wp_ret ?_
  have he25 : plen_m rest = y8 := (hq23.trans (show plen_m_k0 rest y8 = y8 from by unfold plen_m_k0; rfl))
  exact ⟨rfl, .int .i64 (y8), res_t rfl rfl, ⟨by rw [he25], hm22.below⟩⟩
theorem run_plen {o : Oper} {a : Act} {w : World} {x0 : Operand} {v0 : Value} (ho : o.op = .call { callee := .value (.func 58), args := #[x0], argTypes := #[3] }) (h0 : a.eval x0 = v0) :
    (execOp a.eval o).run Tryd.prog w = .ok (.enter 58 #[v0]) w := by
  unfold execOp
  simp only [ho]
  have hf : a.eval (.func 58) = .func (.func 58) #[] #[] := rfl
  generalize a.eval = f at *
  go_simp
def pdig_m_b0 (s : List UInt8) (rec : Nat → Sum (Nat) (Int)) (x4 : Nat) : Sum (Nat) (Int) :=
  if x4 < s.length then
    if 48 ≤ by' s x4 then
      if by' s x4 ≤ 57 then
        rec (x4 + 1)
      else
        .inl x4
    else
      .inl x4
  else
    .inl x4
def pdig_m_l0 (s : List UInt8) : Nat → Nat → Sum (Nat) (Int)
  | 0, zz => .inl zz
  | nq + 1, zz => pdig_m_b0 s (pdig_m_l0 s nq) zz

def pdig_m_k0 (s : List UInt8) (y8 : Nat) : Int :=
  ((y8 : Nat) : Int)

def pdig_m (s : List UInt8) : Int :=
  fin (pdig_m_l0 s ((s.length - 0) + 1) 0) (fun r => r) (fun zz => pdig_m_k0 s zz)

set_option maxHeartbeats 4000000 in
set_option maxRecDepth 100000 in
theorem pdig_any (s : List UInt8) (w : World)  (hp0 : s.length ≤ 1048576) : Calls Tryd.prog 61 #[.string (tx s)] w (fun e w' => e = .returned (.int .i64 ((pdig_m s))) ∧ Below w.heap.size w w') := by
  go_enter Tryd.func61, Tryd.ntmps61
  have hm00 := Mm.nil none (fun _ => True) w
  have hm0 := hm00
  refine wp_seq_k (fun K1 hK1 => ?_)
  refine wp_region_lit ?_
  refine lvw 2 (.int .i64 0) rfl rfl (run_as rfl rfl) ?_
  simp only [nz1, nz2, nz3]
  refine wpList_nil ?_
  refine then_n (hK1 _ _ ?_)
  refine wp_seq_k (fun K2 hK2 => ?_)
  refine wp_region_lit ?_
  refine lvw 3 (.int .i64 0) rfl rfl (run_as rfl rfl) ?_
  simp only [nz1, nz2, nz3]
  refine wpList_nil ?_
  refine then_n (hK2 _ _ ?_)
  refine wp_seq_k (fun K3 hK3 => ?_)
  refine wp_cutK (fun a' w' => ∃ (y8 : Nat) (yu0 : Nat → Value), pdig_m_l0 s ((s.length - 0) + 1) 0 = .inl y8 ∧ a' = ⟨#[.string (tx s), undef, .int .i64 0, .int .i64 ((y8 : Nat) : Int), yu0 0, yu0 1, yu0 2, yu0 3, yu0 4, yu0 5, yu0 6, yu0 7, yu0 8, yu0 9, yu0 10, yu0 11, yu0 12, yu0 13, yu0 14, yu0 15, yu0 16, yu0 17, undef], []⟩ ∧ Mm none (fun _ => True) w w' []) ?_ ?_
  · refine wp_block ?_
    refine wp_loop_n (fun n' a' w' => ∃ (n5 : Nat) (x4 : Nat) (u0 : Nat → Value), n' = n5 ∧ (s.length - x4) < n5 ∧ pdig_m_l0 s ((s.length - 0) + 1) 0 = pdig_m_l0 s n5 x4 ∧ a' = ⟨#[.string (tx s), undef, .int .i64 0, .int .i64 ((x4 : Nat) : Int), u0 0, u0 1, u0 2, u0 3, u0 4, u0 5, u0 6, u0 7, u0 8, u0 9, u0 10, u0 11, u0 12, u0 13, u0 14, u0 15, u0 16, u0 17, undef], []⟩ ∧ Mm none (fun _ => True) w w' []) ⟨((s.length - 0) + 1), 0, (fun qq => List.getD [undef, undef, undef, undef, undef, undef, undef, undef, undef, undef, undef, undef, undef, undef, undef, undef, undef, undef] qq undef), rfl, Nat.lt_succ_self _, rfl, rfl, hm0⟩ ?_
    rintro n5 _ w10 ⟨_, x4, u0, rfl, hl14, hi7, rfl, hm11⟩ R12 hR12
    obtain ⟨k6, rfl⟩ : ∃ k, n5 = k + 1 := ⟨n5 - 1, by omega⟩
    refine wp_seq_k (fun K15 hK15 => ?_)
    refine wp_seq_k (fun K16 hK16 => ?_)
    refine wp_region_lit ?_
    refine lvw 4 (.int .i64 ((x4 : Nat) : Int)) rfl rfl (run_mv rfl rfl) ?_
    simp only [nz1, nz2, nz3]
    refine lvw 5 (.string (tx s)) rfl rfl (run_mv rfl rfl) ?_
    simp only [nz1, nz2, nz3]
    refine lvw 6 (.int .i64 ((s.length : Nat) : Int)) rfl rfl (t_len rfl Tryd.underlying9 rfl) ?_
    simp only [nz1, nz2, nz3]
    refine lvb 7 (x4 < s.length) rfl rfl (r_lss x4 s.length rfl rfl rfl) (fun hs17 => ?_) (fun hs17 => ?_)
    rotate_left
    · simp only [nz1, nz2, nz3]
      refine lvw 8 (.bool false) rfl rfl (run_mv rfl rfl) ?_
      simp only [nz1, nz2, nz3]
      refine lst_skip 9 rfl rfl ?_
      simp only [nz1, nz2, nz3]
      refine lst_skip 10 rfl rfl ?_
      simp only [nz1, nz2, nz3]
      refine lst_skip 11 rfl rfl ?_
      simp only [nz1, nz2, nz3]
      refine lst_skip 12 rfl rfl ?_
      simp only [nz1, nz2, nz3]
      refine lvw 13 (.bool false) rfl rfl (run_pickf rfl rfl rfl) ?_
      simp only [nz1, nz2, nz3]
      refine lvw 14 (.bool false) rfl rfl (run_mv rfl rfl) ?_
      simp only [nz1, nz2, nz3]
      refine lst_skip 15 rfl rfl ?_
      simp only [nz1, nz2, nz3]
      refine lst_skip 16 rfl rfl ?_
      simp only [nz1, nz2, nz3]
      refine lst_skip 17 rfl rfl ?_
      simp only [nz1, nz2, nz3]
      refine lst_skip 18 rfl rfl ?_
      simp only [nz1, nz2, nz3]
      refine lvw 19 (.bool false) rfl rfl (run_pickf rfl rfl rfl) ?_
      simp only [nz1, nz2, nz3]
      refine wpList_nil ?_
      refine then_n (hK16 _ _ ?_)
      refine cond_f rfl ?_
      refine wp_exit ?_
      refine then_x ?_
      refine then_x ?_
      refine blk_x ?_
      refine then_n ?_
      exact ⟨x4, (fun qq => List.getD [.int .i64 ((x4 : Nat) : Int), .string (tx s), .int .i64 ((s.length : Nat) : Int), .bool false, .bool false, undef, undef, undef, undef, .bool false, .bool false, undef, undef, undef, undef, .bool false, u0 16, u0 17] qq undef), (hi7.trans (show pdig_m_b0 s (pdig_m_l0 s k6) x4 = .inl x4 from by unfold pdig_m_b0; rw [if_neg hs17] <;> rfl)), rfl, hm11⟩
    simp only [nz1, nz2, nz3]
    refine lvw 8 (.bool true) rfl rfl (run_mv rfl rfl) ?_
    simp only [nz1, nz2, nz3]
    refine lvw 9 (.string (tx s)) rfl rfl (run_mv rfl rfl) ?_
    simp only [nz1, nz2, nz3]
    refine lvw 10 (.int .i64 ((x4 : Nat) : Int)) rfl rfl (run_mv rfl rfl) ?_
    simp only [nz1, nz2, nz3]
    refine lvw 11 (.int .u8 ((by' s x4 : Nat) : Int)) rfl rfl (t_char s x4 (by omega) Tryd.underlying9 rfl rfl rfl) ?_
    simp only [nz1, nz2, nz3]
    refine lvb 12 (48 ≤ by' s x4) rfl rfl (r_geq (by' s x4) 48 rfl rfl rfl) (fun hs18 => ?_) (fun hs18 => ?_)
    rotate_left
    · simp only [nz1, nz2, nz3]
      refine lvw 13 (.bool false) rfl rfl (run_pick rfl rfl rfl) ?_
      simp only [nz1, nz2, nz3]
      refine lvw 14 (.bool false) rfl rfl (run_mv rfl rfl) ?_
      simp only [nz1, nz2, nz3]
      refine lst_skip 15 rfl rfl ?_
      simp only [nz1, nz2, nz3]
      refine lst_skip 16 rfl rfl ?_
      simp only [nz1, nz2, nz3]
      refine lst_skip 17 rfl rfl ?_
      simp only [nz1, nz2, nz3]
      refine lst_skip 18 rfl rfl ?_
      simp only [nz1, nz2, nz3]
      refine lvw 19 (.bool false) rfl rfl (run_pickf rfl rfl rfl) ?_
      simp only [nz1, nz2, nz3]
      refine wpList_nil ?_
      refine then_n (hK16 _ _ ?_)
      refine cond_f rfl ?_
      refine wp_exit ?_
      refine then_x ?_
      refine then_x ?_
      refine blk_x ?_
      refine then_n ?_
      exact ⟨x4, (fun qq => List.getD [.int .i64 ((x4 : Nat) : Int), .string (tx s), .int .i64 ((s.length : Nat) : Int), .bool true, .bool true, .string (tx s), .int .i64 ((x4 : Nat) : Int), .int .u8 ((by' s x4 : Nat) : Int), .bool false, .bool false, .bool false, undef, undef, undef, undef, .bool false, u0 16, u0 17] qq undef), (hi7.trans (show pdig_m_b0 s (pdig_m_l0 s k6) x4 = .inl x4 from by unfold pdig_m_b0; rw [if_pos hs17, if_neg hs18] <;> rfl)), rfl, hm11⟩
    simp only [nz1, nz2, nz3]
    refine lvw 13 (.bool true) rfl rfl (run_pick rfl rfl rfl) ?_
    simp only [nz1, nz2, nz3]
    refine lvw 14 (.bool true) rfl rfl (run_mv rfl rfl) ?_
    simp only [nz1, nz2, nz3]
    refine lvw 15 (.string (tx s)) rfl rfl (run_mv rfl rfl) ?_
    simp only [nz1, nz2, nz3]
    refine lvw 16 (.int .i64 ((x4 : Nat) : Int)) rfl rfl (run_mv rfl rfl) ?_
    simp only [nz1, nz2, nz3]
    refine lvw 17 (.int .u8 ((by' s x4 : Nat) : Int)) rfl rfl (t_char s x4 (by omega) Tryd.underlying9 rfl rfl rfl) ?_
    simp only [nz1, nz2, nz3]
    refine lvw 18 (.bool (decide (by' s x4 ≤ 57))) rfl rfl (r_leq (by' s x4) 57 rfl rfl rfl) ?_
    simp only [nz1, nz2, nz3]
    refine lvw 19 (.bool (decide (by' s x4 ≤ 57))) rfl rfl (run_pick rfl rfl rfl) ?_
    simp only [nz1, nz2, nz3]
    refine wpList_nil ?_
    refine then_n (hK16 _ _ ?_)
    refine cond_d (by' s x4 ≤ 57) rfl (fun hc19 => ?_) (fun hc19 => ?_)
    rotate_left
    · refine wp_exit ?_
      refine then_x ?_
      refine then_x ?_
      refine blk_x ?_
      refine then_n ?_
      exact ⟨x4, (fun qq => List.getD [.int .i64 ((x4 : Nat) : Int), .string (tx s), .int .i64 ((s.length : Nat) : Int), .bool true, .bool true, .string (tx s), .int .i64 ((x4 : Nat) : Int), .int .u8 ((by' s x4 : Nat) : Int), .bool true, .bool true, .bool true, .string (tx s), .int .i64 ((x4 : Nat) : Int), .int .u8 ((by' s x4 : Nat) : Int), .bool (decide (by' s x4 ≤ 57)), .bool (decide (by' s x4 ≤ 57)), u0 16, u0 17] qq undef), (hi7.trans (show pdig_m_b0 s (pdig_m_l0 s k6) x4 = .inl x4 from by unfold pdig_m_b0; rw [if_pos hs17, if_pos hs18, if_neg hc19] <;> rfl)), rfl, hm11⟩
    refine wp_skip ?_
    refine then_n (hK15 _ _ ?_)
    refine wp_block ?_
    refine wp_region_lit ?_
    refine lvw 20 (.int .i64 ((x4 : Nat) : Int)) rfl rfl (run_mv rfl rfl) ?_
    simp only [nz1, nz2, nz3]
    refine lvw 21 (.int .i64 (((x4 + 1) : Nat) : Int)) rfl rfl (r_add x4 1 (show (x4 + 1) < 9223372036854775808 from by omega) rfl rfl rfl) ?_
    simp only [nz1, nz2, nz3]
    refine lvw 3 (.int .i64 (((x4 + 1) : Nat) : Int)) rfl rfl (run_as rfl rfl) ?_
    simp only [nz1, nz2, nz3]
    refine wpList_nil ?_
    refine blk_n ?_
    refine then_n (hR12 _ _ _ ⟨k6, (x4 + 1), (fun qq => List.getD [.int .i64 ((x4 : Nat) : Int), .string (tx s), .int .i64 ((s.length : Nat) : Int), .bool true, .bool true, .string (tx s), .int .i64 ((x4 : Nat) : Int), .int .u8 ((by' s x4 : Nat) : Int), .bool true, .bool true, .bool true, .string (tx s), .int .i64 ((x4 : Nat) : Int), .int .u8 ((by' s x4 : Nat) : Int), .bool (decide (by' s x4 ≤ 57)), .bool (decide (by' s x4 ≤ 57)), .int .i64 ((x4 : Nat) : Int), .int .i64 (((x4 + 1) : Nat) : Int)] qq undef), rfl, (by first | omega | (simp; omega) | (simp at *; omega)), (hi7.trans (show pdig_m_b0 s (pdig_m_l0 s k6) x4 = pdig_m_l0 s k6 (x4 + 1) from by unfold pdig_m_b0; rw [if_pos hs17, if_pos hs18, if_pos hc19] <;> rfl)), rfl, hm11⟩ ?_)
    omega
  rintro _ w20 ⟨y8, yu0, hx9, rfl, hm21⟩
  have hq22 : pdig_m s = pdig_m_k0 s y8 := (show pdig_m s = pdig_m_k0 s y8 from by unfold pdig_m; rw [hx9] <;> rfl)
  refine then_n (hK3 _ _ ?_)
  refine wp_seq_k (fun K23 hK23 => ?_)
  refine wp_region_lit ?_
  refine lvw 22 (.int .i64 ((y8 : Nat) : Int)) rfl rfl (run_mv rfl rfl) ?_
  simp only [nz1, nz2, nz3]
  refine lvw 2 (.int .i64 ((y8 : Nat) : Int)) rfl rfl (run_as rfl rfl) ?_
  simp only [nz1, nz2, nz3]
  refine wpList_nil ?_
  refine then_n (hK23 _ _ ?_)
  refine wp_ret ?_
  have he24 : pdig_m s = ((y8 : Nat) : Int) := (hq22.trans (show pdig_m_k0 s y8 = ((y8 : Nat) : Int) from by unfold pdig_m_k0; rfl))
  exact ⟨rfl, .int .i64 ((y8 : Nat) : Int), res_t rfl rfl, ⟨by rw [he24], hm21.below⟩⟩
theorem run_pdig {o : Oper} {a : Act} {w : World} {x0 : Operand} {v0 : Value} (ho : o.op = .call { callee := .value (.func 61), args := #[x0], argTypes := #[9] }) (h0 : a.eval x0 = v0) :
    (execOp a.eval o).run Tryd.prog w = .ok (.enter 61 #[v0]) w := by
  unfold execOp
  simp only [ho]
  have hf : a.eval (.func 61) = .func (.func 61) #[] #[] := rfl
  generalize a.eval = f at *
  go_simp
end Go.Proofs.YtglnifckngcpkaaDoor.Px
