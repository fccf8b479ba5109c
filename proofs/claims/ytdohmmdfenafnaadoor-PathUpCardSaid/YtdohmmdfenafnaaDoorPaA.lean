/- Layer 7: parts. -/
import Derived.Test.YtdohmmdfenafnaaDoorPaL
namespace Go.Proofs.YtdohmmdfenafnaaDoor.Pa
open Go.RowKit
open Go.Proofs.YtdohmmdfenafnaaDoor.Sym Go.Proofs.YtdohmmdfenafnaaDoor.Mem
open Go.Proofs.YtdohmmdfenafnaaDoor.Sx hiding Mm m_alloc m_store m_put m_call m_callx m_make m_append r_string r_ixS
set_option linter.unusedVariables false
attribute [local irreducible] wpList Oper.wp

theorem run_valid {o : Oper} {a : Act} {w : World} {x0 : Operand} {v0 : Value} (ho : o.op = .call { callee := .value (.func 63), args := #[x0], argTypes := #[9] }) (h0 : a.eval x0 = v0) :
    (execOp a.eval o).run Tryd.prog w = .ok (.enter 63 #[v0]) w := by
  unfold execOp
  simp only [ho]
  have hf : a.eval (.func 63) = .func (.func 63) #[] #[] := rfl
  generalize a.eval = f at *
  go_simp
theorem run_split {o : Oper} {a : Act} {w : World} {x0 x1 : Operand} {v0 v1 : Value} (ho : o.op = .call { callee := .value (.func 39), args := #[x0, x1], argTypes := #[9, 9] }) (h0 : a.eval x0 = v0) (h1 : a.eval x1 = v1) :
    (execOp a.eval o).run Tryd.prog w = .ok (.enter 39 #[v0, v1]) w := by
  unfold execOp
  simp only [ho]
  have hf : a.eval (.func 39) = .func (.func 39) #[] #[] := rfl
  generalize a.eval = f at *
  go_simp
theorem run_join {o : Oper} {a : Act} {w : World} {x0 x1 : Operand} {v0 v1 : Value} (ho : o.op = .call { callee := .value (.func 46), args := #[x0, x1], argTypes := #[22, 9] }) (h0 : a.eval x0 = v0) (h1 : a.eval x1 = v1) :
    (execOp a.eval o).run Tryd.prog w = .ok (.enter 46 #[v0, v1]) w := by
  unfold execOp
  simp only [ho]
  have hf : a.eval (.func 46) = .func (.func 46) #[] #[] := rfl
  generalize a.eval = f at *
  go_simp
theorem run_lix {o : Oper} {a : Act} {w : World} {x0 x1 : Operand} {v0 v1 : Value} (ho : o.op = .call { callee := .value (.func 44), args := #[x0, x1], argTypes := #[9, 5] }) (h0 : a.eval x0 = v0) (h1 : a.eval x1 = v1) :
    (execOp a.eval o).run Tryd.prog w = .ok (.enter 44 #[v0, v1]) w := by
  unfold execOp
  simp only [ho]
  have hf : a.eval (.func 44) = .func (.func 44) #[] #[] := rfl
  generalize a.eval = f at *
  go_simp
theorem run_cut {o : Oper} {a : Act} {w : World} {x0 x1 : Operand} {v0 v1 : Value} (ho : o.op = .call { callee := .value (.func 45), args := #[x0, x1], argTypes := #[9, 9] }) (h0 : a.eval x0 = v0) (h1 : a.eval x1 = v1) :
    (execOp a.eval o).run Tryd.prog w = .ok (.enter 45 #[v0, v1]) w := by
  unfold execOp
  simp only [ho]
  have hf : a.eval (.func 45) = .func (.func 45) #[] #[] := rfl
  generalize a.eval = f at *
  go_simp
def sign_m (r : Int) : Bool :=
  if 32 < r then
    if ¬ r = 47 then
      if ¬ r = 127 then
        if r < 128 then
          true
        else
          (decide (159 < r))
      else
        false
    else
      false
  else
    false

set_option maxHeartbeats 4000000 in
set_option maxRecDepth 100000 in
theorem sign_any (r : Int) (w : World)   : Calls Tryd.prog 64 #[.int .i32 (r)] w (fun e w' => e = .returned (.bool ((sign_m r))) ∧ Below w.heap.size w w') := by
  go_enter Tryd.func64, Tryd.ntmps64
  have hm00 := Mm.nil none (fun _ => True) w
  have hm0 := hm00
  refine wp_seq_k (fun K1 hK1 => ?_)
  refine wp_region_lit ?_
  refine lvw 2 (.bool false) rfl rfl (run_as rfl rfl) ?_
  simp only [nz1, nz2, nz3]
  refine wpList_nil ?_
  refine then_n (hK1 _ _ ?_)
  refine wp_seq_k (fun K2 hK2 => ?_)
  refine wp_region_lit ?_
  refine lvw 3 (.int .i32 (r)) rfl rfl (run_mv rfl rfl) ?_
  simp only [nz1, nz2, nz3]
  refine lvb 4 (32 < r) rfl rfl (z_gtr r 32 rfl rfl rfl) (fun hs3 => ?_) (fun hs3 => ?_)
  rotate_left
  · simp only [nz1, nz2, nz3]
    refine lvw 5 (.bool false) rfl rfl (run_mv rfl rfl) ?_
    simp only [nz1, nz2, nz3]
    refine lst_skip 6 rfl rfl ?_
    simp only [nz1, nz2, nz3]
    refine lst_skip 7 rfl rfl ?_
    simp only [nz1, nz2, nz3]
    refine lvw 8 (.bool false) rfl rfl (run_pickf rfl rfl rfl) ?_
    simp only [nz1, nz2, nz3]
    refine lvw 9 (.bool false) rfl rfl (run_mv rfl rfl) ?_
    simp only [nz1, nz2, nz3]
    refine lst_skip 10 rfl rfl ?_
    simp only [nz1, nz2, nz3]
    refine lst_skip 11 rfl rfl ?_
    simp only [nz1, nz2, nz3]
    refine lvw 12 (.bool false) rfl rfl (run_pickf rfl rfl rfl) ?_
    simp only [nz1, nz2, nz3]
    refine lvw 13 (.bool false) rfl rfl (run_mv rfl rfl) ?_
    simp only [nz1, nz2, nz3]
    refine lst_skip 14 rfl rfl ?_
    simp only [nz1, nz2, nz3]
    refine lst_skip 15 rfl rfl ?_
    simp only [nz1, nz2, nz3]
    refine lst_skip 16 rfl rfl ?_
    simp only [nz1, nz2, nz3]
    refine lst_skip 17 rfl rfl ?_
    simp only [nz1, nz2, nz3]
    refine lst_skip 18 rfl rfl ?_
    simp only [nz1, nz2, nz3]
    refine lst_skip 19 rfl rfl ?_
    simp only [nz1, nz2, nz3]
    refine lvw 20 (.bool false) rfl rfl (run_pickf rfl rfl rfl) ?_
    simp only [nz1, nz2, nz3]
    refine lvw 2 (.bool false) rfl rfl (run_as rfl rfl) ?_
    simp only [nz1, nz2, nz3]
    refine wpList_nil ?_
    refine then_n (hK2 _ _ ?_)
    refine wp_ret ?_
    have he11 : sign_m r = false := (show sign_m r = false from by unfold sign_m; rw [if_neg hs3] <;> rfl)
    exact ⟨rfl, .bool false, res_t rfl rfl, ⟨by rw [he11], hm0.below⟩⟩
  simp only [nz1, nz2, nz3]
  refine lvw 5 (.bool true) rfl rfl (run_mv rfl rfl) ?_
  simp only [nz1, nz2, nz3]
  refine lvw 6 (.int .i32 (r)) rfl rfl (run_mv rfl rfl) ?_
  simp only [nz1, nz2, nz3]
  refine lvb 7 (¬ r = 47) rfl rfl (z_neq r 47 rfl rfl rfl) (fun hs4 => ?_) (fun hs4 => ?_)
  rotate_left
  · simp only [nz1, nz2, nz3]
    refine lvw 8 (.bool false) rfl rfl (run_pick rfl rfl rfl) ?_
    simp only [nz1, nz2, nz3]
    refine lvw 9 (.bool false) rfl rfl (run_mv rfl rfl) ?_
    simp only [nz1, nz2, nz3]
    refine lst_skip 10 rfl rfl ?_
    simp only [nz1, nz2, nz3]
    refine lst_skip 11 rfl rfl ?_
    simp only [nz1, nz2, nz3]
    refine lvw 12 (.bool false) rfl rfl (run_pickf rfl rfl rfl) ?_
    simp only [nz1, nz2, nz3]
    refine lvw 13 (.bool false) rfl rfl (run_mv rfl rfl) ?_
    simp only [nz1, nz2, nz3]
    refine lst_skip 14 rfl rfl ?_
    simp only [nz1, nz2, nz3]
    refine lst_skip 15 rfl rfl ?_
    simp only [nz1, nz2, nz3]
    refine lst_skip 16 rfl rfl ?_
    simp only [nz1, nz2, nz3]
    refine lst_skip 17 rfl rfl ?_
    simp only [nz1, nz2, nz3]
    refine lst_skip 18 rfl rfl ?_
    simp only [nz1, nz2, nz3]
    refine lst_skip 19 rfl rfl ?_
    simp only [nz1, nz2, nz3]
    refine lvw 20 (.bool false) rfl rfl (run_pickf rfl rfl rfl) ?_
    simp only [nz1, nz2, nz3]
    refine lvw 2 (.bool false) rfl rfl (run_as rfl rfl) ?_
    simp only [nz1, nz2, nz3]
    refine wpList_nil ?_
    refine then_n (hK2 _ _ ?_)
    refine wp_ret ?_
    have he10 : sign_m r = false := (show sign_m r = false from by unfold sign_m; rw [if_pos hs3, if_neg hs4] <;> rfl)
    exact ⟨rfl, .bool false, res_t rfl rfl, ⟨by rw [he10], hm0.below⟩⟩
  simp only [nz1, nz2, nz3]
  refine lvw 8 (.bool true) rfl rfl (run_pick rfl rfl rfl) ?_
  simp only [nz1, nz2, nz3]
  refine lvw 9 (.bool true) rfl rfl (run_mv rfl rfl) ?_
  simp only [nz1, nz2, nz3]
  refine lvw 10 (.int .i32 (r)) rfl rfl (run_mv rfl rfl) ?_
  simp only [nz1, nz2, nz3]
  refine lvb 11 (¬ r = 127) rfl rfl (z_neq r 127 rfl rfl rfl) (fun hs5 => ?_) (fun hs5 => ?_)
  rotate_left
  · simp only [nz1, nz2, nz3]
    refine lvw 12 (.bool false) rfl rfl (run_pick rfl rfl rfl) ?_
    simp only [nz1, nz2, nz3]
    refine lvw 13 (.bool false) rfl rfl (run_mv rfl rfl) ?_
    simp only [nz1, nz2, nz3]
    refine lst_skip 14 rfl rfl ?_
    simp only [nz1, nz2, nz3]
    refine lst_skip 15 rfl rfl ?_
    simp only [nz1, nz2, nz3]
    refine lst_skip 16 rfl rfl ?_
    simp only [nz1, nz2, nz3]
    refine lst_skip 17 rfl rfl ?_
    simp only [nz1, nz2, nz3]
    refine lst_skip 18 rfl rfl ?_
    simp only [nz1, nz2, nz3]
    refine lst_skip 19 rfl rfl ?_
    simp only [nz1, nz2, nz3]
    refine lvw 20 (.bool false) rfl rfl (run_pickf rfl rfl rfl) ?_
    simp only [nz1, nz2, nz3]
    refine lvw 2 (.bool false) rfl rfl (run_as rfl rfl) ?_
    simp only [nz1, nz2, nz3]
    refine wpList_nil ?_
    refine then_n (hK2 _ _ ?_)
    refine wp_ret ?_
    have he9 : sign_m r = false := (show sign_m r = false from by unfold sign_m; rw [if_pos hs3, if_pos hs4, if_neg hs5] <;> rfl)
    exact ⟨rfl, .bool false, res_t rfl rfl, ⟨by rw [he9], hm0.below⟩⟩
  simp only [nz1, nz2, nz3]
  refine lvw 12 (.bool true) rfl rfl (run_pick rfl rfl rfl) ?_
  simp only [nz1, nz2, nz3]
  refine lvw 13 (.bool true) rfl rfl (run_mv rfl rfl) ?_
  simp only [nz1, nz2, nz3]
  refine lvw 14 (.int .i32 (r)) rfl rfl (run_mv rfl rfl) ?_
  simp only [nz1, nz2, nz3]
  refine lvb 15 (r < 128) rfl rfl (z_lss r 128 rfl rfl rfl) (fun hs6 => ?_) (fun hs6 => ?_)
  · simp only [nz1, nz2, nz3]
    refine lvw 16 (.bool true) rfl rfl (run_mv rfl rfl) ?_
    simp only [nz1, nz2, nz3]
    refine lst_skip 17 rfl rfl ?_
    simp only [nz1, nz2, nz3]
    refine lst_skip 18 rfl rfl ?_
    simp only [nz1, nz2, nz3]
    refine lvw 19 (.bool true) rfl rfl (run_pick rfl rfl rfl) ?_
    simp only [nz1, nz2, nz3]
    refine lvw 20 (.bool true) rfl rfl (run_pick rfl rfl rfl) ?_
    simp only [nz1, nz2, nz3]
    refine lvw 2 (.bool true) rfl rfl (run_as rfl rfl) ?_
    simp only [nz1, nz2, nz3]
    refine wpList_nil ?_
    refine then_n (hK2 _ _ ?_)
    refine wp_ret ?_
    have he7 : sign_m r = true := (show sign_m r = true from by unfold sign_m; rw [if_pos hs3, if_pos hs4, if_pos hs5, if_pos hs6] <;> rfl)
    exact ⟨rfl, .bool true, res_t rfl rfl, ⟨by rw [he7], hm0.below⟩⟩
  simp only [nz1, nz2, nz3]
  refine lvw 16 (.bool false) rfl rfl (run_mv rfl rfl) ?_
  simp only [nz1, nz2, nz3]
  refine lvw 17 (.int .i32 (r)) rfl rfl (run_mv rfl rfl) ?_
  simp only [nz1, nz2, nz3]
  refine lvw 18 (.bool (decide (159 < r))) rfl rfl (z_gtr r 159 rfl rfl rfl) ?_
  simp only [nz1, nz2, nz3]
  refine lvw 19 (.bool (decide (159 < r))) rfl rfl (run_pickf rfl rfl rfl) ?_
  simp only [nz1, nz2, nz3]
  refine lvw 20 (.bool (decide (159 < r))) rfl rfl (run_pick rfl rfl rfl) ?_
  simp only [nz1, nz2, nz3]
  refine lvw 2 (.bool (decide (159 < r))) rfl rfl (run_as rfl rfl) ?_
  simp only [nz1, nz2, nz3]
  refine wpList_nil ?_
  refine then_n (hK2 _ _ ?_)
  refine wp_ret ?_
  have he8 : sign_m r = (decide (159 < r)) := (show sign_m r = (decide (159 < r)) from by unfold sign_m; rw [if_pos hs3, if_pos hs4, if_pos hs5, if_neg hs6] <;> rfl)
  exact ⟨rfl, .bool (decide (159 < r)), res_t rfl rfl, ⟨by rw [he8], hm0.below⟩⟩
theorem run_sign {o : Oper} {a : Act} {w : World} {x0 : Operand} {v0 : Value} (ho : o.op = .call { callee := .value (.func 64), args := #[x0], argTypes := #[21] }) (h0 : a.eval x0 = v0) :
    (execOp a.eval o).run Tryd.prog w = .ok (.enter 64 #[v0]) w := by
  unfold execOp
  simp only [ho]
  have hf : a.eval (.func 64) = .func (.func 64) #[] #[] := rfl
  generalize a.eval = f at *
  go_simp
def signs_m_b0 (s : List UInt8) (slash : Bool) (rec : Nat → Sum (Nat) (Bool)) (p14 : Nat) : Sum (Nat) (Bool) :=
  if p14 < s.length then
    if (!(sign_m (((dec s p14).1 : Nat) : Int))) = true then
      if slash = true then
        if ¬ ((dec s p14).1 = 47) then
          .inr false
        else
          rec (nxp s p14)
      else
        .inr false
    else
      rec (nxp s p14)
  else
    .inl (nxp s p14)
def signs_m_l0 (s : List UInt8) (slash : Bool) : Nat → Nat → Sum (Nat) (Bool)
  | 0, zz => .inl zz
  | nq + 1, zz => signs_m_b0 s slash (signs_m_l0 s slash nq) zz

def signs_m_k0 (s : List UInt8) (slash : Bool) (y18 : Nat) : Bool :=
  true

def signs_m (s : List UInt8) (slash : Bool) : Bool :=
  if (!(valid_m s)) = true then
    false
  else
    fin (signs_m_l0 s slash ((s.length - 0) + 1) 0) (fun r => r) (fun zz => signs_m_k0 s slash zz)

set_option maxHeartbeats 4000000 in
set_option maxRecDepth 100000 in
theorem signs_any (s : List UInt8) (slash : Bool) (w : World)  (hT : Laid w) (hp0 : s.length ≤ 9223372036854775807) : Calls Tryd.prog 41 #[.string (tx s), .bool (slash)] w (fun e w' => e = .returned (.bool ((signs_m s slash))) ∧ Below w.heap.size w w') := by
  go_enter Tryd.func41, Tryd.ntmps41
  have hm00 := Mm.nil none (fun _ => True) w
  have hm0 := hm00
  refine wp_seq_k (fun K1 hK1 => ?_)
  refine wp_region_lit ?_
  refine lvw 4 (.bool false) rfl rfl (run_as rfl rfl) ?_
  simp only [nz1, nz2, nz3]
  refine wpList_nil ?_
  refine then_n (hK1 _ _ ?_)
  refine wp_seq_k (fun K2 hK2 => ?_)
  refine wp_seq_k (fun K3 hK3 => ?_)
  refine wp_region_lit ?_
  refine lvw 7 (.string (tx s)) rfl rfl (run_mv rfl rfl) ?_
  simp only [nz1, nz2, nz3]
  refine lst rfl (m_call hm0 8 (.bool ((valid_m s))) rfl (run_valid rfl rfl) (valid_any s  _  (Laid.below hT hm0.below) (by first | omega | assumption | decide | (simp; done) | (simp; omega))) (fun w4 (hm5 : Mm none (fun _ => True) w w4 []) => ?_))
  simp only [nz1, nz2, nz3]
  refine lvw 9 (.bool (!(valid_m s))) rfl rfl (r_not (valid_m s) rfl rfl) ?_
  simp only [nz1, nz2, nz3]
  refine wpList_nil ?_
  refine then_n (hK3 _ _ ?_)
  refine cond_B (!(valid_m s)) rfl (fun hc6 => ?_) (fun hc6 => ?_)
  · refine wp_seq_k (fun K7 hK7 => ?_)
    refine wp_region_lit ?_
    refine lvw 4 (.bool false) rfl rfl (run_as rfl rfl) ?_
    simp only [nz1, nz2, nz3]
    refine wpList_nil ?_
    refine then_n (hK7 _ _ ?_)
    refine wp_ret ?_
    refine then_r ?_
    have he8 : signs_m s slash = false := (show signs_m s slash = false from by unfold signs_m; rw [if_pos hc6] <;> rfl)
    exact ⟨rfl, .bool false, res_t rfl rfl, ⟨by rw [he8], hm5.below⟩⟩
  refine wp_skip ?_
  refine then_n (hK2 _ _ ?_)
  refine wp_seq_k (fun K9 hK9 => ?_)
  refine wp_seq_k (fun K10 hK10 => ?_)
  refine wp_region_lit ?_
  refine lvw 10 (.string (tx s)) rfl rfl (run_mv rfl rfl) ?_
  simp only [nz1, nz2, nz3]
  refine lst rfl (m_range s hm5 11 rfl rfl Tryd.underlying9 rfl (fun g13 w11 (hm12 : Mm none (fun _ => True) w w11 [.itr g13 (tx s) 0]) => ?_))
  simp only [nz1, nz2, nz3]
  refine wpList_nil ?_
  refine then_n (hK10 _ _ ?_)
  refine wp_cutK (fun a' w' => ∃ (y18 : Nat) (yu0 : Nat → Value), signs_m_l0 s slash ((s.length - 0) + 1) 0 = .inl y18 ∧ a' = ⟨#[.string (tx s), .bool (slash), undef, undef, yu0 0, undef, yu0 1, .string (tx s), .bool ((valid_m s)), .bool (!(valid_m s)), .string (tx s), .pointer (some ⟨g13, 0, none⟩), yu0 2, yu0 3, yu0 4, yu0 5, yu0 6, yu0 7, yu0 8, yu0 9, yu0 10, yu0 11, yu0 12, yu0 13, yu0 14, yu0 15], []⟩ ∧ Mm none (fun _ => True) w w' [.itr g13 (tx s) y18]) ?_ ?_
  · refine wp_block ?_
    refine wp_loop_n (fun n' a' w' => ∃ (n15 : Nat) (p14 : Nat) (u0 : Nat → Value), n' = n15 ∧ (s.length - p14) < n15 ∧ signs_m_l0 s slash ((s.length - 0) + 1) 0 = signs_m_l0 s slash n15 p14 ∧ a' = ⟨#[.string (tx s), .bool (slash), undef, undef, u0 0, undef, u0 1, .string (tx s), .bool ((valid_m s)), .bool (!(valid_m s)), .string (tx s), .pointer (some ⟨g13, 0, none⟩), u0 2, u0 3, u0 4, u0 5, u0 6, u0 7, u0 8, u0 9, u0 10, u0 11, u0 12, u0 13, u0 14, u0 15], []⟩ ∧ Mm none (fun _ => True) w w' [.itr g13 (tx s) p14]) ⟨((s.length - 0) + 1), 0, (fun qq => List.getD [.bool false, undef, undef, undef, undef, undef, undef, undef, undef, undef, undef, undef, undef, undef, undef, undef] qq undef), rfl, Nat.lt_succ_self _, rfl, rfl, hm12⟩ ?_
    rintro n15 _ w20 ⟨_, p14, u0, rfl, hl24, hi17, rfl, hm21⟩ R22 hR22
    obtain ⟨k16, rfl⟩ : ∃ k, n15 = k + 1 := ⟨n15 - 1, by omega⟩
    refine wp_seq_k (fun K25 hK25 => ?_)
    refine wp_region_lit ?_
    have hf28 : (p14 < s.length ∧ p14 < nxp s p14 ∧ nxp s p14 ≤ p14 + 4 ∧ nxp s p14 ≤ s.length) ∨ (s.length ≤ p14 ∧ nxp s p14 = p14) := nxp_or s p14
    have hf29 : (dec s p14).1 ≤ 1114111 := dec_max s p14
    refine lst rfl (m_next s 0 hm21 rfl 12 rfl rfl rfl (fun w26 (hm27 : Mm none (fun _ => True) w w26 [.itr g13 (tx s) (nxp s p14)]) => ?_))
    simp only [nz1, nz2, nz3]
    refine lvw 13 (.bool (decide (p14 < s.length))) rfl rfl (r_ext0 s p14 rfl rfl) ?_
    simp only [nz1, nz2, nz3]
    refine wpList_nil ?_
    refine then_n (hK25 _ _ ?_)
    refine wp_seq_k (fun K30 hK30 => ?_)
    refine cond_d (p14 < s.length) rfl (fun hc31 => ?_) (fun hc31 => ?_)
    rotate_left
    · refine wp_exit ?_
      refine then_x ?_
      refine then_x ?_
      refine blk_x ?_
      refine then_n ?_
      exact ⟨(nxp s p14), (fun qq => List.getD [u0 0, u0 1, nxv s p14, .bool (decide (p14 < s.length)), u0 4, u0 5, u0 6, u0 7, u0 8, u0 9, u0 10, u0 11, u0 12, u0 13, u0 14, u0 15] qq undef), (hi17.trans (show signs_m_b0 s slash (signs_m_l0 s slash k16) p14 = .inl (nxp s p14) from by unfold signs_m_b0; rw [if_neg hc31] <;> rfl)), rfl, hm27⟩
    refine wp_skip ?_
    refine then_n (hK30 _ _ ?_)
    refine wp_block ?_
    refine wp_seq_k (fun K32 hK32 => ?_)
    refine wp_region_lit ?_
    refine lvw 14 (.int .i32 (((dec s p14).1 : Nat) : Int)) rfl rfl (r_ext2 (s := s) (i := p14) (by first | assumption | omega) rfl rfl) ?_
    simp only [nz1, nz2, nz3]
    refine lvw 6 (.int .i32 (((dec s p14).1 : Nat) : Int)) rfl rfl (run_as rfl rfl) ?_
    simp only [nz1, nz2, nz3]
    refine wpList_nil ?_
    refine then_n (hK32 _ _ ?_)
    refine wp_seq_k (fun K33 hK33 => ?_)
    refine wp_region_lit ?_
    refine lvw 15 (.int .i32 (((dec s p14).1 : Nat) : Int)) rfl rfl (run_mv rfl rfl) ?_
    simp only [nz1, nz2, nz3]
    refine lst rfl (m_call hm27 16 (.bool ((sign_m (((dec s p14).1 : Nat) : Int)))) rfl (run_sign rfl rfl) (sign_any (((dec s p14).1 : Nat) : Int)  _  ) (fun w34 (hm35 : Mm none (fun _ => True) w w34 [.itr g13 (tx s) (nxp s p14)]) => ?_))
    simp only [nz1, nz2, nz3]
    refine lvB 17 (!(sign_m (((dec s p14).1 : Nat) : Int))) rfl rfl (r_not (sign_m (((dec s p14).1 : Nat) : Int)) rfl rfl) (fun hs36 => ?_) (fun hs36 => ?_)
    rotate_left
    · simp only [nz1, nz2, nz3]
      refine lvw 18 (.bool false) rfl rfl (run_mv rfl rfl) ?_
      simp only [nz1, nz2, nz3]
      refine lst_skip 19 rfl rfl ?_
      simp only [nz1, nz2, nz3]
      refine lst_skip 20 rfl rfl ?_
      simp only [nz1, nz2, nz3]
      refine lst_skip 21 rfl rfl ?_
      simp only [nz1, nz2, nz3]
      refine lst_skip 22 rfl rfl ?_
      simp only [nz1, nz2, nz3]
      refine lst_skip 23 rfl rfl ?_
      simp only [nz1, nz2, nz3]
      refine lst_skip 24 rfl rfl ?_
      simp only [nz1, nz2, nz3]
      refine lvw 25 (.bool false) rfl rfl (run_pickf rfl rfl rfl) ?_
      simp only [nz1, nz2, nz3]
      refine wpList_nil ?_
      refine then_n (hK33 _ _ ?_)
      refine cond_f rfl ?_
      refine wp_skip ?_
      refine blk_n ?_
      refine then_n (hR22 _ _ _ ⟨k16, (nxp s p14), (fun qq => List.getD [u0 0, .int .i32 (((dec s p14).1 : Nat) : Int), nxv s p14, .bool (decide (p14 < s.length)), .int .i32 (((dec s p14).1 : Nat) : Int), .int .i32 (((dec s p14).1 : Nat) : Int), .bool ((sign_m (((dec s p14).1 : Nat) : Int))), .bool false, .bool false, undef, undef, undef, undef, undef, undef, .bool false] qq undef), rfl, (by first | omega | (simp; omega) | (simp at *; omega)), (hi17.trans (show signs_m_b0 s slash (signs_m_l0 s slash k16) p14 = signs_m_l0 s slash k16 (nxp s p14) from by unfold signs_m_b0; rw [if_pos hc31, if_neg hs36] <;> rfl)), rfl, hm35⟩ ?_)
      omega
    simp only [nz1, nz2, nz3]
    refine lvw 18 (.bool true) rfl rfl (run_mv rfl rfl) ?_
    simp only [nz1, nz2, nz3]
    refine lvB 19 slash rfl rfl (run_mv rfl rfl) (fun hs37 => ?_) (fun hs37 => ?_)
    rotate_left
    · simp only [nz1, nz2, nz3]
      refine lvw 20 (.bool false) rfl rfl (run_mv rfl rfl) ?_
      simp only [nz1, nz2, nz3]
      refine lst_skip 21 rfl rfl ?_
      simp only [nz1, nz2, nz3]
      refine lst_skip 22 rfl rfl ?_
      simp only [nz1, nz2, nz3]
      refine lvw 23 (.bool false) rfl rfl (run_pickf rfl rfl rfl) ?_
      simp only [nz1, nz2, nz3]
      refine lvw 24 (.bool true) rfl rfl (r_not false rfl rfl) ?_
      simp only [nz1, nz2, nz3]
      refine lvw 25 (.bool true) rfl rfl (run_pick rfl rfl rfl) ?_
      simp only [nz1, nz2, nz3]
      refine wpList_nil ?_
      refine then_n (hK33 _ _ ?_)
      refine cond_t rfl ?_
      refine wp_seq_k (fun K42 hK42 => ?_)
      refine wp_region_lit ?_
      refine lvw 4 (.bool false) rfl rfl (run_as rfl rfl) ?_
      simp only [nz1, nz2, nz3]
      refine wpList_nil ?_
      refine then_n (hK42 _ _ ?_)
      refine wp_ret ?_
      refine blk_r ?_
      refine then_r ?_
      refine blk_r ?_
      refine then_r ?_
      refine then_r ?_
      have he43 : signs_m_l0 s slash ((s.length - 0) + 1) 0 = .inr false := (hi17.trans (show signs_m_b0 s slash (signs_m_l0 s slash k16) p14 = .inr false from by unfold signs_m_b0; rw [if_pos hc31, if_pos hs36, if_neg hs37] <;> rfl))
      have he44 : signs_m s slash = false := (show signs_m s slash = false from by unfold signs_m; rw [if_neg hc6, he43] <;> rfl)
      exact ⟨rfl, .bool false, res_t rfl rfl, ⟨by rw [he44], hm35.below⟩⟩
    simp only [nz1, nz2, nz3]
    refine lvw 20 (.bool true) rfl rfl (run_mv rfl rfl) ?_
    simp only [nz1, nz2, nz3]
    refine lvw 21 (.int .i32 (((dec s p14).1 : Nat) : Int)) rfl rfl (run_mv rfl rfl) ?_
    simp only [nz1, nz2, nz3]
    refine lvw 22 (.bool (decide ((dec s p14).1 = 47))) rfl rfl (r_eql ((dec s p14).1) 47 rfl rfl rfl) ?_
    simp only [nz1, nz2, nz3]
    refine lvw 23 (.bool (decide ((dec s p14).1 = 47))) rfl rfl (run_pick rfl rfl rfl) ?_
    simp only [nz1, nz2, nz3]
    refine lvw 24 (.bool (decide (¬ ((dec s p14).1 = 47)))) rfl rfl (r_notD ((dec s p14).1 = 47) rfl rfl) ?_
    simp only [nz1, nz2, nz3]
    refine lvw 25 (.bool (decide (¬ ((dec s p14).1 = 47)))) rfl rfl (run_pick rfl rfl rfl) ?_
    simp only [nz1, nz2, nz3]
    refine wpList_nil ?_
    refine then_n (hK33 _ _ ?_)
    refine cond_d (¬ ((dec s p14).1 = 47)) rfl (fun hc38 => ?_) (fun hc38 => ?_)
    rotate_left
    · refine wp_skip ?_
      refine blk_n ?_
      refine then_n (hR22 _ _ _ ⟨k16, (nxp s p14), (fun qq => List.getD [u0 0, .int .i32 (((dec s p14).1 : Nat) : Int), nxv s p14, .bool (decide (p14 < s.length)), .int .i32 (((dec s p14).1 : Nat) : Int), .int .i32 (((dec s p14).1 : Nat) : Int), .bool ((sign_m (((dec s p14).1 : Nat) : Int))), .bool true, .bool true, .bool true, .bool true, .int .i32 (((dec s p14).1 : Nat) : Int), .bool (decide ((dec s p14).1 = 47)), .bool (decide ((dec s p14).1 = 47)), .bool (decide (¬ ((dec s p14).1 = 47))), .bool (decide (¬ ((dec s p14).1 = 47)))] qq undef), rfl, (by first | omega | (simp; omega) | (simp at *; omega)), (hi17.trans (show signs_m_b0 s slash (signs_m_l0 s slash k16) p14 = signs_m_l0 s slash k16 (nxp s p14) from by unfold signs_m_b0; rw [if_pos hc31, if_pos hs36, if_pos hs37, if_neg hc38] <;> rfl)), rfl, hm35⟩ ?_)
      omega
    refine wp_seq_k (fun K39 hK39 => ?_)
    refine wp_region_lit ?_
    refine lvw 4 (.bool false) rfl rfl (run_as rfl rfl) ?_
    simp only [nz1, nz2, nz3]
    refine wpList_nil ?_
    refine then_n (hK39 _ _ ?_)
    refine wp_ret ?_
    refine blk_r ?_
    refine then_r ?_
    refine blk_r ?_
    refine then_r ?_
    refine then_r ?_
    have he40 : signs_m_l0 s slash ((s.length - 0) + 1) 0 = .inr false := (hi17.trans (show signs_m_b0 s slash (signs_m_l0 s slash k16) p14 = .inr false from by unfold signs_m_b0; rw [if_pos hc31, if_pos hs36, if_pos hs37, if_pos hc38] <;> rfl))
    have he41 : signs_m s slash = false := (show signs_m s slash = false from by unfold signs_m; rw [if_neg hc6, he40] <;> rfl)
    exact ⟨rfl, .bool false, res_t rfl rfl, ⟨by rw [he41], hm35.below⟩⟩
  rintro _ w45 ⟨y18, yu0, hx19, rfl, hm46⟩
  have hq47 : signs_m s slash = signs_m_k0 s slash y18 := (show signs_m s slash = signs_m_k0 s slash y18 from by unfold signs_m; rw [if_neg hc6, hx19] <;> rfl)
  refine then_n (hK9 _ _ ?_)
  refine wp_seq_k (fun K48 hK48 => ?_)
  refine wp_region_lit ?_
  refine lvw 4 (.bool true) rfl rfl (run_as rfl rfl) ?_
  simp only [nz1, nz2, nz3]
  refine wpList_nil ?_
  refine then_n (hK48 _ _ ?_)
  refine wp_ret ?_
  have he49 : signs_m s slash = true := (hq47.trans (show signs_m_k0 s slash y18 = true from by unfold signs_m_k0; rfl))
  exact ⟨rfl, .bool true, res_t rfl rfl, ⟨by rw [he49], hm46.below⟩⟩
theorem run_signs {o : Oper} {a : Act} {w : World} {x0 x1 : Operand} {v0 v1 : Value} (ho : o.op = .call { callee := .value (.func 41), args := #[x0, x1], argTypes := #[9, 4] }) (h0 : a.eval x0 = v0) (h1 : a.eval x1 = v1) :
    (execOp a.eval o).run Tryd.prog w = .ok (.enter 41 #[v0, v1]) w := by
  unfold execOp
  simp only [ho]
  have hf : a.eval (.func 41) = .func (.func 41) #[] #[] := rfl
  generalize a.eval = f at *
  go_simp
def part_m (s : List UInt8) : Bool :=
  if 1 ≤ s.length then
    if s.length ≤ 64 then
      if ¬ s = [46] then
        if ¬ s = [46, 46] then
          (signs_m s false)
        else
          false
      else
        false
    else
      false
  else
    false

set_option maxHeartbeats 4000000 in
set_option maxRecDepth 100000 in
theorem part_any (s : List UInt8) (w : World)  (hT : Laid w)  : Calls Tryd.prog 18 #[.string (tx s)] w (fun e w' => e = .returned (.bool ((part_m s))) ∧ Below w.heap.size w w') := by
  go_enter Tryd.func18, Tryd.ntmps18
  have hm00 := Mm.nil none (fun _ => True) w
  have hm0 := hm00
  refine wp_seq_k (fun K1 hK1 => ?_)
  refine wp_region_lit ?_
  refine lvw 2 (.bool false) rfl rfl (run_as rfl rfl) ?_
  simp only [nz1, nz2, nz3]
  refine wpList_nil ?_
  refine then_n (hK1 _ _ ?_)
  refine wp_seq_k (fun K2 hK2 => ?_)
  refine wp_region_lit ?_
  refine lvw 3 (.string (tx s)) rfl rfl (run_mv rfl rfl) ?_
  simp only [nz1, nz2, nz3]
  refine lvw 4 (.int .i64 ((s.length : Nat) : Int)) rfl rfl (t_len rfl Tryd.underlying9 rfl) ?_
  simp only [nz1, nz2, nz3]
  refine lvb 5 (1 ≤ s.length) rfl rfl (r_geq s.length 1 rfl rfl rfl) (fun hs3 => ?_) (fun hs3 => ?_)
  rotate_left
  · simp only [nz1, nz2, nz3]
    refine lvw 6 (.bool false) rfl rfl (run_mv rfl rfl) ?_
    simp only [nz1, nz2, nz3]
    refine lst_skip 7 rfl rfl ?_
    simp only [nz1, nz2, nz3]
    refine lst_skip 8 rfl rfl ?_
    simp only [nz1, nz2, nz3]
    refine lst_skip 9 rfl rfl ?_
    simp only [nz1, nz2, nz3]
    refine lvw 10 (.bool false) rfl rfl (run_pickf rfl rfl rfl) ?_
    simp only [nz1, nz2, nz3]
    refine lvw 11 (.bool false) rfl rfl (run_mv rfl rfl) ?_
    simp only [nz1, nz2, nz3]
    refine lst_skip 12 rfl rfl ?_
    simp only [nz1, nz2, nz3]
    refine lst_skip 13 rfl rfl ?_
    simp only [nz1, nz2, nz3]
    refine lvw 14 (.bool false) rfl rfl (run_pickf rfl rfl rfl) ?_
    simp only [nz1, nz2, nz3]
    refine lvw 15 (.bool false) rfl rfl (run_mv rfl rfl) ?_
    simp only [nz1, nz2, nz3]
    refine lst_skip 16 rfl rfl ?_
    simp only [nz1, nz2, nz3]
    refine lst_skip 17 rfl rfl ?_
    simp only [nz1, nz2, nz3]
    refine lvw 18 (.bool false) rfl rfl (run_pickf rfl rfl rfl) ?_
    simp only [nz1, nz2, nz3]
    refine lvw 19 (.bool false) rfl rfl (run_mv rfl rfl) ?_
    simp only [nz1, nz2, nz3]
    refine lst_skip 20 rfl rfl ?_
    simp only [nz1, nz2, nz3]
    refine lst_skip 21 rfl rfl ?_
    simp only [nz1, nz2, nz3]
    refine lvw 22 (.bool false) rfl rfl (run_pickf rfl rfl rfl) ?_
    simp only [nz1, nz2, nz3]
    refine lvw 2 (.bool false) rfl rfl (run_as rfl rfl) ?_
    simp only [nz1, nz2, nz3]
    refine wpList_nil ?_
    refine then_n (hK2 _ _ ?_)
    refine wp_ret ?_
    have he13 : part_m s = false := (show part_m s = false from by unfold part_m; rw [if_neg hs3] <;> rfl)
    exact ⟨rfl, .bool false, res_t rfl rfl, ⟨by rw [he13], hm0.below⟩⟩
  simp only [nz1, nz2, nz3]
  refine lvw 6 (.bool true) rfl rfl (run_mv rfl rfl) ?_
  simp only [nz1, nz2, nz3]
  refine lvw 7 (.string (tx s)) rfl rfl (run_mv rfl rfl) ?_
  simp only [nz1, nz2, nz3]
  refine lvw 8 (.int .i64 ((s.length : Nat) : Int)) rfl rfl (t_len rfl Tryd.underlying9 rfl) ?_
  simp only [nz1, nz2, nz3]
  refine lvb 9 (s.length ≤ 64) rfl rfl (r_leq s.length 64 rfl rfl rfl) (fun hs4 => ?_) (fun hs4 => ?_)
  rotate_left
  · simp only [nz1, nz2, nz3]
    refine lvw 10 (.bool false) rfl rfl (run_pick rfl rfl rfl) ?_
    simp only [nz1, nz2, nz3]
    refine lvw 11 (.bool false) rfl rfl (run_mv rfl rfl) ?_
    simp only [nz1, nz2, nz3]
    refine lst_skip 12 rfl rfl ?_
    simp only [nz1, nz2, nz3]
    refine lst_skip 13 rfl rfl ?_
    simp only [nz1, nz2, nz3]
    refine lvw 14 (.bool false) rfl rfl (run_pickf rfl rfl rfl) ?_
    simp only [nz1, nz2, nz3]
    refine lvw 15 (.bool false) rfl rfl (run_mv rfl rfl) ?_
    simp only [nz1, nz2, nz3]
    refine lst_skip 16 rfl rfl ?_
    simp only [nz1, nz2, nz3]
    refine lst_skip 17 rfl rfl ?_
    simp only [nz1, nz2, nz3]
    refine lvw 18 (.bool false) rfl rfl (run_pickf rfl rfl rfl) ?_
    simp only [nz1, nz2, nz3]
    refine lvw 19 (.bool false) rfl rfl (run_mv rfl rfl) ?_
    simp only [nz1, nz2, nz3]
    refine lst_skip 20 rfl rfl ?_
    simp only [nz1, nz2, nz3]
    refine lst_skip 21 rfl rfl ?_
    simp only [nz1, nz2, nz3]
    refine lvw 22 (.bool false) rfl rfl (run_pickf rfl rfl rfl) ?_
    simp only [nz1, nz2, nz3]
    refine lvw 2 (.bool false) rfl rfl (run_as rfl rfl) ?_
    simp only [nz1, nz2, nz3]
    refine wpList_nil ?_
    refine then_n (hK2 _ _ ?_)
    refine wp_ret ?_
    have he12 : part_m s = false := (show part_m s = false from by unfold part_m; rw [if_pos hs3, if_neg hs4] <;> rfl)
    exact ⟨rfl, .bool false, res_t rfl rfl, ⟨by rw [he12], hm0.below⟩⟩
  simp only [nz1, nz2, nz3]
  refine lvw 10 (.bool true) rfl rfl (run_pick rfl rfl rfl) ?_
  simp only [nz1, nz2, nz3]
  refine lvw 11 (.bool true) rfl rfl (run_mv rfl rfl) ?_
  simp only [nz1, nz2, nz3]
  refine lvw 12 (.string (tx s)) rfl rfl (run_mv rfl rfl) ?_
  simp only [nz1, nz2, nz3]
  refine lvb 13 (¬ s = [46]) rfl rfl (t_neq s ([46]) rfl rfl rfl) (fun hs5 => ?_) (fun hs5 => ?_)
  rotate_left
  · simp only [nz1, nz2, nz3]
    refine lvw 14 (.bool false) rfl rfl (run_pick rfl rfl rfl) ?_
    simp only [nz1, nz2, nz3]
    refine lvw 15 (.bool false) rfl rfl (run_mv rfl rfl) ?_
    simp only [nz1, nz2, nz3]
    refine lst_skip 16 rfl rfl ?_
    simp only [nz1, nz2, nz3]
    refine lst_skip 17 rfl rfl ?_
    simp only [nz1, nz2, nz3]
    refine lvw 18 (.bool false) rfl rfl (run_pickf rfl rfl rfl) ?_
    simp only [nz1, nz2, nz3]
    refine lvw 19 (.bool false) rfl rfl (run_mv rfl rfl) ?_
    simp only [nz1, nz2, nz3]
    refine lst_skip 20 rfl rfl ?_
    simp only [nz1, nz2, nz3]
    refine lst_skip 21 rfl rfl ?_
    simp only [nz1, nz2, nz3]
    refine lvw 22 (.bool false) rfl rfl (run_pickf rfl rfl rfl) ?_
    simp only [nz1, nz2, nz3]
    refine lvw 2 (.bool false) rfl rfl (run_as rfl rfl) ?_
    simp only [nz1, nz2, nz3]
    refine wpList_nil ?_
    refine then_n (hK2 _ _ ?_)
    refine wp_ret ?_
    have he11 : part_m s = false := (show part_m s = false from by unfold part_m; rw [if_pos hs3, if_pos hs4, if_neg hs5] <;> rfl)
    exact ⟨rfl, .bool false, res_t rfl rfl, ⟨by rw [he11], hm0.below⟩⟩
  simp only [nz1, nz2, nz3]
  refine lvw 14 (.bool true) rfl rfl (run_pick rfl rfl rfl) ?_
  simp only [nz1, nz2, nz3]
  refine lvw 15 (.bool true) rfl rfl (run_mv rfl rfl) ?_
  simp only [nz1, nz2, nz3]
  refine lvw 16 (.string (tx s)) rfl rfl (run_mv rfl rfl) ?_
  simp only [nz1, nz2, nz3]
  refine lvb 17 (¬ s = [46, 46]) rfl rfl (t_neq s ([46, 46]) rfl rfl rfl) (fun hs6 => ?_) (fun hs6 => ?_)
  · simp only [nz1, nz2, nz3]
    refine lvw 18 (.bool true) rfl rfl (run_pick rfl rfl rfl) ?_
    simp only [nz1, nz2, nz3]
    refine lvw 19 (.bool true) rfl rfl (run_mv rfl rfl) ?_
    simp only [nz1, nz2, nz3]
    refine lvw 20 (.string (tx s)) rfl rfl (run_mv rfl rfl) ?_
    simp only [nz1, nz2, nz3]
    refine lst rfl (m_call hm0 21 (.bool ((signs_m s false))) rfl (run_signs rfl rfl rfl) (signs_any s false  _  (Laid.below hT hm0.below) (by first | omega | assumption | decide | (simp; done) | (simp; omega))) (fun w7 (hm8 : Mm none (fun _ => True) w w7 []) => ?_))
    simp only [nz1, nz2, nz3]
    refine lvw 22 (.bool ((signs_m s false))) rfl rfl (run_pick rfl rfl rfl) ?_
    simp only [nz1, nz2, nz3]
    refine lvw 2 (.bool ((signs_m s false))) rfl rfl (run_as rfl rfl) ?_
    simp only [nz1, nz2, nz3]
    refine wpList_nil ?_
    refine then_n (hK2 _ _ ?_)
    refine wp_ret ?_
    have he9 : part_m s = (signs_m s false) := (show part_m s = (signs_m s false) from by unfold part_m; rw [if_pos hs3, if_pos hs4, if_pos hs5, if_pos hs6] <;> rfl)
    exact ⟨rfl, .bool ((signs_m s false)), res_t rfl rfl, ⟨by rw [he9], hm8.below⟩⟩
  simp only [nz1, nz2, nz3]
  refine lvw 18 (.bool false) rfl rfl (run_pick rfl rfl rfl) ?_
  simp only [nz1, nz2, nz3]
  refine lvw 19 (.bool false) rfl rfl (run_mv rfl rfl) ?_
  simp only [nz1, nz2, nz3]
  refine lst_skip 20 rfl rfl ?_
  simp only [nz1, nz2, nz3]
  refine lst_skip 21 rfl rfl ?_
  simp only [nz1, nz2, nz3]
  refine lvw 22 (.bool false) rfl rfl (run_pickf rfl rfl rfl) ?_
  simp only [nz1, nz2, nz3]
  refine lvw 2 (.bool false) rfl rfl (run_as rfl rfl) ?_
  simp only [nz1, nz2, nz3]
  refine wpList_nil ?_
  refine then_n (hK2 _ _ ?_)
  refine wp_ret ?_
  have he10 : part_m s = false := (show part_m s = false from by unfold part_m; rw [if_pos hs3, if_pos hs4, if_pos hs5, if_neg hs6] <;> rfl)
  exact ⟨rfl, .bool false, res_t rfl rfl, ⟨by rw [he10], hm0.below⟩⟩
theorem run_part {o : Oper} {a : Act} {w : World} {x0 : Operand} {v0 : Value} (ho : o.op = .call { callee := .value (.func 18), args := #[x0], argTypes := #[9] }) (h0 : a.eval x0 = v0) :
    (execOp a.eval o).run Tryd.prog w = .ok (.enter 18 #[v0]) w := by
  unfold execOp
  simp only [ho]
  have hf : a.eval (.func 18) = .func (.func 18) #[] #[] := rfl
  generalize a.eval = f at *
  go_simp
def own_m : (List UInt8) :=
  ([46, 104, 111, 108, 100, 97, 108, 108])

set_option maxHeartbeats 4000000 in
set_option maxRecDepth 100000 in
theorem own_any (w : World)   : Calls Tryd.prog 27 #[] w (fun e w' => e = .returned (.string (tx own_m)) ∧ Below w.heap.size w w') := by
  go_enter Tryd.func27, Tryd.ntmps27
  have hm00 := Mm.nil none (fun _ => True) w
  have hm0 := hm00
  refine wp_seq_k (fun K1 hK1 => ?_)
  refine wp_region_lit ?_
  refine lvw 0 (.string (tx ([]))) rfl rfl (run_as rfl rfl) ?_
  simp only [nz1, nz2]
  refine wpList_nil ?_
  refine then_n (hK1 _ _ ?_)
  refine wp_seq_k (fun K2 hK2 => ?_)
  refine wp_region_lit ?_
  refine lvw 0 (.string (tx ([46, 104, 111, 108, 100, 97, 108, 108]))) rfl rfl (run_as rfl rfl) ?_
  simp only [nz1, nz2]
  refine wpList_nil ?_
  refine then_n (hK2 _ _ ?_)
  refine wp_ret ?_
  have he3 : own_m = ([46, 104, 111, 108, 100, 97, 108, 108]) := (show own_m = ([46, 104, 111, 108, 100, 97, 108, 108]) from by unfold own_m; rfl)
  exact ⟨rfl, .string (tx ([46, 104, 111, 108, 100, 97, 108, 108])), res_t rfl rfl, ⟨by rw [he3], hm0.below⟩⟩
theorem run_own {o : Oper} {a : Act} {w : World} (ho : o.op = .call { callee := .value (.func 27), args := #[], argTypes := #[] })  :
    (execOp a.eval o).run Tryd.prog w = .ok (.enter 27 #[]) w := by
  unfold execOp
  simp only [ho]
  have hf : a.eval (.func 27) = .func (.func 27) #[] #[] := rfl
  generalize a.eval = f at *
  go_simp
end Go.Proofs.YtdohmmdfenafnaaDoor.Pa
