/- Layer 7: PathJoins. -/
import Derived.Test.YtdohmmdfenafnaaDoorPaF
namespace Go.Proofs.YtdohmmdfenafnaaDoor.Pa
open Go.RowKit
open Go.Proofs.YtdohmmdfenafnaaDoor.Sym Go.Proofs.YtdohmmdfenafnaaDoor.Mem
open Go.Proofs.YtdohmmdfenafnaaDoor.Sx hiding Mm m_alloc m_store m_put m_call m_callx m_make m_append r_string r_ixS
set_option linter.unusedVariables false
attribute [local irreducible] wpList Oper.wp

def joins_m_b0 (l : List (List UInt8)) (rec : Nat × Nat → Sum (Nat × Nat) (Bool)) (x5 : Nat) (x6 : Nat) : Sum (Nat × Nat) (Bool) :=
  if x6 < l.length then
    if ((100000 : Int) - ((x5 : Nat) : Int)) < (((l.getD x6 []).length : Nat) : Int) then
      .inr awake_m
    else
      rec ((x5 + ((l.getD x6 []).length)), (x6 + 1))
  else
    .inl (x5, x6)
def joins_m_l0 (l : List (List UInt8)) : Nat → Nat × Nat → Sum (Nat × Nat) (Bool)
  | 0, zz => .inl zz
  | nq + 1, zz => joins_m_b0 l (joins_m_l0 l nq) zz.1 zz.2

def joins_m_k0 (l : List (List UInt8)) (y10 : Nat) (y11 : Nat) : Bool :=
  if awake_m = true then
    (decide ((pjoin_m l) = (rjoin_m l)))
  else
    false

def joins_m (l : List (List UInt8)) : Bool :=
  fin (joins_m_l0 l ((l.length - 0) + 1) (0, 0)) (fun r => r) (fun zz => joins_m_k0 l zz.1 zz.2)

set_option maxHeartbeats 4000000 in
set_option maxRecDepth 100000 in
theorem joins_any (l : List (List UInt8)) (lv0 : Value) (w : World) (hl : Rs eS 1 l lv0 w) (hT : Laid w) (hp0 : l.length ≤ 8796093022207) : Calls Tryd.prog 4 #[lv0] w (fun e w' => e = .returned (.bool ((joins_m l))) ∧ Below w.heap.size w w') := by
  go_enter Tryd.func4, Tryd.ntmps4
  have hm00 := Mm.nil none (fun _ => True) w
  obtain ⟨Fl, hm01⟩ : ∃ Fl, Mm none (fun _ => True) w w [.see (Rs eS 1 l lv0) Fl] := hm00.come (Rs.all hl)
  have hm0 := hm01
  refine wp_seq_k (fun K1 hK1 => ?_)
  refine wp_region_lit ?_
  refine lvw 2 (.bool false) rfl rfl (run_as rfl rfl) ?_
  simp only [nz1, nz2, nz3]
  refine wpList_nil ?_
  refine then_n (hK1 _ _ ?_)
  refine wp_seq_k (fun K2 hK2 => ?_)
  refine wp_region_lit ?_
  refine lvw 3 (.int .i64 0) rfl rfl (run_as rfl rfl) ?_
  simp only [nz1, nz2, nz3]
  refine wpList_nil ?_
  refine then_n (hK2 _ _ ?_)
  refine wp_seq_k (fun K3 hK3 => ?_)
  refine wp_seq_k (fun K4 hK4 => ?_)
  refine wp_region_lit ?_
  refine lvw 4 (.int .i64 0) rfl rfl (run_as rfl rfl) ?_
  simp only [nz1, nz2, nz3]
  refine wpList_nil ?_
  refine then_n (hK4 _ _ ?_)
  refine wp_cutK (fun a' w' => ∃ (y10 : Nat) (y11 : Nat) (yu0 : Nat → Value), joins_m_l0 l ((l.length - 0) + 1) (0, 0) = .inl (y10, y11) ∧ (y10 = tot (l.take y11) ∧ y10 ≤ 100000 ∧ l.length ≤ y11) ∧ a' = ⟨#[lv0, undef, yu0 0, .int .i64 ((y10 : Nat) : Int), .int .i64 ((y11 : Nat) : Int), yu0 1, yu0 2, yu0 3, yu0 4, yu0 5, yu0 6, yu0 7, yu0 8, yu0 9, yu0 10, yu0 11, yu0 12, yu0 13, yu0 14, yu0 15, yu0 16, yu0 17, yu0 18, yu0 19, yu0 20, yu0 21, yu0 22, undef, undef, undef, undef, undef, undef, undef, undef], []⟩ ∧ Mm none (fun _ => True) w w' [.see (Rs eS 1 l lv0) Fl]) ?_ ?_
  · refine wp_block ?_
    refine wp_loop_n (fun n' a' w' => ∃ (n7 : Nat) (x5 : Nat) (x6 : Nat) (u0 : Nat → Value), n' = n7 ∧ (l.length - x6) < n7 ∧ joins_m_l0 l ((l.length - 0) + 1) (0, 0) = joins_m_l0 l n7 (x5, x6) ∧ (x5 = tot (l.take x6) ∧ x5 ≤ 100000 ∧ x6 ≤ l.length) ∧ a' = ⟨#[lv0, undef, u0 0, .int .i64 ((x5 : Nat) : Int), .int .i64 ((x6 : Nat) : Int), u0 1, u0 2, u0 3, u0 4, u0 5, u0 6, u0 7, u0 8, u0 9, u0 10, u0 11, u0 12, u0 13, u0 14, u0 15, u0 16, u0 17, u0 18, u0 19, u0 20, u0 21, u0 22, undef, undef, undef, undef, undef, undef, undef, undef], []⟩ ∧ Mm none (fun _ => True) w w' [.see (Rs eS 1 l lv0) Fl]) ⟨((l.length - 0) + 1), 0, 0, (fun qq => List.getD [.bool false, undef, undef, undef, undef, undef, undef, undef, undef, undef, undef, undef, undef, undef, undef, undef, undef, undef, undef, undef, undef, undef, undef] qq undef), rfl, Nat.lt_succ_self _, rfl, (by simp [tot_nil]), rfl, hm0⟩ ?_
    rintro n7 _ w13 ⟨_, x5, x6, u0, rfl, hl17, hi9, hjp, rfl, hm14⟩ R15 hR15
    obtain ⟨k8, rfl⟩ : ∃ k, n7 = k + 1 := ⟨n7 - 1, by omega⟩
    refine wp_seq_k (fun K18 hK18 => ?_)
    refine wp_seq_k (fun K19 hK19 => ?_)
    refine wp_region_lit ?_
    refine lvw 5 (.int .i64 ((x6 : Nat) : Int)) rfl rfl (run_mv rfl rfl) ?_
    simp only [nz1, nz2, nz3]
    refine lvw 6 (lv0) rfl rfl (run_mv rfl rfl) ?_
    simp only [nz1, nz2, nz3]
    refine lvw 7 (.int .i64 ((l.length : Nat) : Int)) rfl rfl (s_len ((hm14.see 0 rfl)) rfl Tryd.underlying22 rfl) ?_
    simp only [nz1, nz2, nz3]
    refine lvw 8 (.bool (decide (x6 < l.length))) rfl rfl (r_lss x6 l.length rfl rfl rfl) ?_
    simp only [nz1, nz2, nz3]
    refine wpList_nil ?_
    refine then_n (hK19 _ _ ?_)
    refine cond_d (x6 < l.length) rfl (fun hc20 => ?_) (fun hc20 => ?_)
    rotate_left
    · refine wp_exit ?_
      refine then_x ?_
      refine then_x ?_
      refine blk_x ?_
      refine then_n ?_
      exact ⟨x5, x6, (fun qq => List.getD [u0 0, .int .i64 ((x6 : Nat) : Int), lv0, .int .i64 ((l.length : Nat) : Int), .bool (decide (x6 < l.length)), u0 5, u0 6, u0 7, u0 8, u0 9, u0 10, u0 11, u0 12, u0 13, u0 14, u0 15, u0 16, u0 17, u0 18, u0 19, u0 20, u0 21, u0 22] qq undef), (hi9.trans (show joins_m_b0 l (joins_m_l0 l k8) x5 x6 = .inl (x5, x6) from by unfold joins_m_b0; rw [if_neg hc20] <;> rfl)), ⟨hjp.1, hjp.2.1, (by omega)⟩, rfl, hm14⟩
    refine wp_skip ?_
    refine then_n (hK18 _ _ ?_)
    refine wp_seq_k (fun K21 hK21 => ?_)
    refine wp_block ?_
    refine wp_seq_k (fun K22 hK22 => ?_)
    refine wp_seq_k (fun K23 hK23 => ?_)
    refine wp_region_lit ?_
    refine lvw 11 (lv0) rfl rfl (run_mv rfl rfl) ?_
    simp only [nz1, nz2, nz3]
    refine lvw 12 (.int .i64 ((x6 : Nat) : Int)) rfl rfl (run_mv rfl rfl) ?_
    simp only [nz1, nz2, nz3]
    refine lvw 13 (.pointer (some ⟨(bk lv0), (po lv0 + x6 * 1), none⟩)) rfl rfl (r_ixv ((hm14.see 0 rfl)) x6 (by omega) Tryd.underlying22 sz_9 rfl rfl rfl) ?_
    simp only [nz1, nz2, nz3]
    refine lvw 14 (.string (tx (l.getD x6 []))) rfl rfl (r_cellw (Rs.cell ((hm14.see 0 rfl)) eS_len [] x6 (by omega) 0 _ rfl) Tryd.underlying9 rfl rfl rfl) ?_
    simp only [nz1, nz2, nz3]
    refine lvw 15 (.int .i64 (((l.getD x6 []).length : Nat) : Int)) rfl rfl (t_len rfl Tryd.underlying9 rfl) ?_
    simp only [nz1, nz2, nz3]
    refine lvw 16 (.int .i64 ((x5 : Nat) : Int)) rfl rfl (run_mv rfl rfl) ?_
    simp only [nz1, nz2, nz3]
    refine lvw 17 (.int .i64 (((100000 : Int) - ((x5 : Nat) : Int)))) rfl rfl (z_sub (100000 : Int) ((x5 : Nat) : Int) _ (by rw [IntKind.wrap_i64]; omega) rfl rfl rfl) ?_
    simp only [nz1, nz2, nz3]
    refine lvw 18 (.bool (decide (((100000 : Int) - ((x5 : Nat) : Int)) < (((l.getD x6 []).length : Nat) : Int)))) rfl rfl (z_gtr (((l.getD x6 []).length : Nat) : Int) ((100000 : Int) - ((x5 : Nat) : Int)) rfl rfl rfl) ?_
    simp only [nz1, nz2, nz3]
    refine wpList_nil ?_
    refine then_n (hK23 _ _ ?_)
    refine cond_d (((100000 : Int) - ((x5 : Nat) : Int)) < (((l.getD x6 []).length : Nat) : Int)) rfl (fun hc24 => ?_) (fun hc24 => ?_)
    · refine wp_seq_k (fun K25 hK25 => ?_)
      refine wp_region_lit ?_
      refine lst rfl (m_call hm14 19 (.bool (awake_m)) rfl (run_awake rfl) (awake_any   _  (Laid.below hT hm14.below) ) (fun w26 (hm27 : Mm none (fun _ => True) w w26 [.see (Rs eS 1 l lv0) Fl]) => ?_))
      simp only [nz1, nz2, nz3]
      refine lvw 2 (.bool (awake_m)) rfl rfl (run_as rfl rfl) ?_
      simp only [nz1, nz2, nz3]
      refine wpList_nil ?_
      refine then_n (hK25 _ _ ?_)
      refine wp_ret ?_
      refine then_r ?_
      refine blk_r ?_
      refine then_r ?_
      refine then_r ?_
      refine blk_r ?_
      refine then_r ?_
      refine then_r ?_
      have he28 : joins_m_l0 l ((l.length - 0) + 1) (0, 0) = .inr awake_m := (hi9.trans (show joins_m_b0 l (joins_m_l0 l k8) x5 x6 = .inr awake_m from by unfold joins_m_b0; rw [if_pos hc20, if_pos hc24] <;> rfl))
      have he29 : joins_m l = awake_m := (show joins_m l = awake_m from by unfold joins_m; rw [he28] <;> rfl)
      exact ⟨rfl, .bool (awake_m), res_t rfl rfl, ⟨by rw [he29], hm27.below⟩⟩
    refine wp_skip ?_
    refine then_n (hK22 _ _ ?_)
    refine wp_region_lit ?_
    refine lvw 20 (.int .i64 ((x5 : Nat) : Int)) rfl rfl (run_mv rfl rfl) ?_
    simp only [nz1, nz2, nz3]
    refine lvw 21 (lv0) rfl rfl (run_mv rfl rfl) ?_
    simp only [nz1, nz2, nz3]
    refine lvw 22 (.int .i64 ((x6 : Nat) : Int)) rfl rfl (run_mv rfl rfl) ?_
    simp only [nz1, nz2, nz3]
    refine lvw 23 (.pointer (some ⟨(bk lv0), (po lv0 + x6 * 1), none⟩)) rfl rfl (r_ixv ((hm14.see 0 rfl)) x6 (by omega) Tryd.underlying22 sz_9 rfl rfl rfl) ?_
    simp only [nz1, nz2, nz3]
    refine lvw 24 (.string (tx (l.getD x6 []))) rfl rfl (r_cellw (Rs.cell ((hm14.see 0 rfl)) eS_len [] x6 (by omega) 0 _ rfl) Tryd.underlying9 rfl rfl rfl) ?_
    simp only [nz1, nz2, nz3]
    refine lvw 25 (.int .i64 (((l.getD x6 []).length : Nat) : Int)) rfl rfl (t_len rfl Tryd.underlying9 rfl) ?_
    simp only [nz1, nz2, nz3]
    refine lvw 26 (.int .i64 (((x5 + ((l.getD x6 []).length)) : Nat) : Int)) rfl rfl (r_add x5 ((l.getD x6 []).length) (show (x5 + ((l.getD x6 []).length)) < 9223372036854775808 from by omega) rfl rfl rfl) ?_
    simp only [nz1, nz2, nz3]
    refine lvw 3 (.int .i64 (((x5 + ((l.getD x6 []).length)) : Nat) : Int)) rfl rfl (run_as rfl rfl) ?_
    simp only [nz1, nz2, nz3]
    refine wpList_nil ?_
    refine blk_n ?_
    refine then_n (hK21 _ _ ?_)
    refine wp_region_lit ?_
    refine lvw 9 (.int .i64 ((x6 : Nat) : Int)) rfl rfl (run_mv rfl rfl) ?_
    simp only [nz1, nz2, nz3]
    refine lvw 10 (.int .i64 (((x6 + 1) : Nat) : Int)) rfl rfl (r_add x6 1 (show (x6 + 1) < 9223372036854775808 from by omega) rfl rfl rfl) ?_
    simp only [nz1, nz2, nz3]
    refine lvw 4 (.int .i64 (((x6 + 1) : Nat) : Int)) rfl rfl (run_as rfl rfl) ?_
    simp only [nz1, nz2, nz3]
    refine wpList_nil ?_
    refine then_n (hR15 _ _ _ ⟨k8, (x5 + ((l.getD x6 []).length)), (x6 + 1), (fun qq => List.getD [u0 0, .int .i64 ((x6 : Nat) : Int), lv0, .int .i64 ((l.length : Nat) : Int), .bool (decide (x6 < l.length)), .int .i64 ((x6 : Nat) : Int), .int .i64 (((x6 + 1) : Nat) : Int), lv0, .int .i64 ((x6 : Nat) : Int), .pointer (some ⟨(bk lv0), (po lv0 + x6 * 1), none⟩), .string (tx (l.getD x6 [])), .int .i64 (((l.getD x6 []).length : Nat) : Int), .int .i64 ((x5 : Nat) : Int), .int .i64 (((100000 : Int) - ((x5 : Nat) : Int))), .bool (decide (((100000 : Int) - ((x5 : Nat) : Int)) < (((l.getD x6 []).length : Nat) : Int))), u0 15, .int .i64 ((x5 : Nat) : Int), lv0, .int .i64 ((x6 : Nat) : Int), .pointer (some ⟨(bk lv0), (po lv0 + x6 * 1), none⟩), .string (tx (l.getD x6 [])), .int .i64 (((l.getD x6 []).length : Nat) : Int), .int .i64 (((x5 + ((l.getD x6 []).length)) : Nat) : Int)] qq undef), rfl, (by first | omega | (simp; omega) | (simp at *; omega)), (hi9.trans (show joins_m_b0 l (joins_m_l0 l k8) x5 x6 = joins_m_l0 l k8 ((x5 + ((l.getD x6 []).length)), (x6 + 1)) from by unfold joins_m_b0; rw [if_pos hc20, if_neg hc24] <;> rfl)), (by have h1 := tot_step l x6 (by omega); omega), rfl, hm14⟩ ?_)
    omega
  rintro _ w30 ⟨y10, y11, yu0, hx12, hjp, rfl, hm31⟩
  have hq32 : joins_m l = joins_m_k0 l y10 y11 := (show joins_m l = joins_m_k0 l y10 y11 from by unfold joins_m; rw [hx12] <;> rfl)
  refine then_n (hK3 _ _ ?_)
  refine wp_seq_k (fun K33 hK33 => ?_)
  refine wp_region_lit ?_
  refine lst rfl (m_call hm31 27 (.bool (awake_m)) rfl (run_awake rfl) (awake_any   _  (Laid.below hT hm31.below) ) (fun w34 (hm35 : Mm none (fun _ => True) w w34 [.see (Rs eS 1 l lv0) Fl]) => ?_))
  simp only [nz1, nz2, nz3]
  by_cases hs36 : awake_m = true
  · rw [(hs36 : awake_m = true)]
    refine lvw 28 (.bool true) rfl rfl (run_mv rfl rfl) ?_
    simp only [nz1, nz2, nz3]
    refine lvw 29 (lv0) rfl rfl (run_mv rfl rfl) ?_
    simp only [nz1, nz2, nz3]
    refine lst rfl (m_call hm35 30 (.string (tx (pjoin_m l))) rfl (run_pjoin rfl rfl) (pjoin_any l lv0 _ (hm35.see 0 rfl) (by first | omega | assumption | decide | exact joins_len l _ _ hjp (by omega) | exact joins_tot l _ _ hjp | (simp; done) | (simp; omega)) (by first | omega | assumption | decide | exact joins_len l _ _ hjp (by omega) | exact joins_tot l _ _ hjp | (simp; done) | (simp; omega))) (fun w37 (hm38 : Mm none (fun _ => True) w w37 [.see (Rs eS 1 l lv0) Fl]) => ?_))
    simp only [nz1, nz2, nz3]
    refine lvw 31 (lv0) rfl rfl (run_mv rfl rfl) ?_
    simp only [nz1, nz2, nz3]
    refine lst rfl (m_call hm38 32 (.string (tx (rjoin_m l))) rfl (run_rjoin rfl rfl) (rjoin_any l lv0 _ (hm38.see 0 rfl) (by first | omega | assumption | decide | exact joins_len l _ _ hjp (by omega) | exact joins_tot l _ _ hjp | (simp; done) | (simp; omega)) (by first | omega | assumption | decide | exact joins_len l _ _ hjp (by omega) | exact joins_tot l _ _ hjp | (simp; done) | (simp; omega))) (fun w39 (hm40 : Mm none (fun _ => True) w w39 [.see (Rs eS 1 l lv0) Fl]) => ?_))
    simp only [nz1, nz2, nz3]
    refine lvw 33 (.bool (decide ((pjoin_m l) = (rjoin_m l)))) rfl rfl (t_eql (pjoin_m l) (rjoin_m l) rfl rfl rfl) ?_
    simp only [nz1, nz2, nz3]
    refine lvw 34 (.bool (decide ((pjoin_m l) = (rjoin_m l)))) rfl rfl (run_pick rfl rfl rfl) ?_
    simp only [nz1, nz2, nz3]
    refine lvw 2 (.bool (decide ((pjoin_m l) = (rjoin_m l)))) rfl rfl (run_as rfl rfl) ?_
    simp only [nz1, nz2, nz3]
    refine wpList_nil ?_
    refine then_n (hK33 _ _ ?_)
    refine wp_ret ?_
    have he41 : joins_m l = (decide ((pjoin_m l) = (rjoin_m l))) := (hq32.trans (show joins_m_k0 l y10 y11 = (decide ((pjoin_m l) = (rjoin_m l))) from by unfold joins_m_k0; rw [if_pos hs36] <;> rfl))
    exact ⟨rfl, .bool (decide ((pjoin_m l) = (rjoin_m l))), res_t rfl rfl, ⟨by rw [he41], hm40.below⟩⟩
  rw [(Bool.eq_false_iff.2 hs36 : awake_m = false)]
  refine lvw 28 (.bool false) rfl rfl (run_mv rfl rfl) ?_
  simp only [nz1, nz2, nz3]
  refine lst_skip 29 rfl rfl ?_
  simp only [nz1, nz2, nz3]
  refine lst_skip 30 rfl rfl ?_
  simp only [nz1, nz2, nz3]
  refine lst_skip 31 rfl rfl ?_
  simp only [nz1, nz2, nz3]
  refine lst_skip 32 rfl rfl ?_
  simp only [nz1, nz2, nz3]
  refine lst_skip 33 rfl rfl ?_
  simp only [nz1, nz2, nz3]
  refine lvw 34 (.bool false) rfl rfl (run_pickf rfl rfl rfl) ?_
  simp only [nz1, nz2, nz3]
  refine lvw 2 (.bool false) rfl rfl (run_as rfl rfl) ?_
  simp only [nz1, nz2, nz3]
  refine wpList_nil ?_
  refine then_n (hK33 _ _ ?_)
  refine wp_ret ?_
  have he42 : joins_m l = false := (hq32.trans (show joins_m_k0 l y10 y11 = false from by unfold joins_m_k0; rw [if_neg hs36] <;> rfl))
  exact ⟨rfl, .bool false, res_t rfl rfl, ⟨by rw [he42], hm35.below⟩⟩
theorem run_joins {o : Oper} {a : Act} {w : World} {x0 : Operand} {v0 : Value} (ho : o.op = .call { callee := .value (.func 4), args := #[x0], argTypes := #[22] }) (h0 : a.eval x0 = v0) :
    (execOp a.eval o).run Tryd.prog w = .ok (.enter 4 #[v0]) w := by
  unfold execOp
  simp only [ho]
  have hf : a.eval (.func 4) = .func (.func 4) #[] #[] := rfl
  generalize a.eval = f at *
  go_simp
end Go.Proofs.YtdohmmdfenafnaaDoor.Pa
