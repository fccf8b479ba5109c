/- Layer 17: whether a node may be. -/
import Derived.Test.YtmammofbgllceaaNodA
namespace Go.Proofs.Ytmammofbgllceaa.Nod
open Go.RowKit
open Go.Proofs.Ytmammofbgllceaa.Sym Go.Proofs.Ytmammofbgllceaa.Mem
open Go.Proofs.Ytmammofbgllceaa.Sx hiding Mm m_alloc m_store m_put m_call m_callx m_make m_append r_string r_ixS

theorem z_quo {P : Program} {o : Oper} {a : Act} {w : World} {x y : Operand} {T T' : TypeId} {k : IntKind} (n m z : Int) (hm : m ≠ 0) (h : k.wrap (n.tdiv m) = z) (ho : o.op = .binOp .quo T x y T') (hx : a.eval x = .int k n) (hy : a.eval y = .int k m) : (execOp a.eval o).run P w = .ok (.value (.int k z)) w := by
  unfold execOp
  simp only [ho, hx, hy]
  generalize a.eval = f at *
  go_simp
set_option maxHeartbeats 4000000 in
set_option maxRecDepth 100000 in
theorem sectors_any (n : Int) (h0 : 0 ≤ n) (h : n ≤ 1000000000000) (w : World) : Calls Try.prog 52 #[.int .i64 (n)] w (fun e w' => e = .returned (.int .i64 ((secs n.toNat : Nat) : Int)) ∧ Below w.heap.size w w') := by
  go_enter Try.func52, Try.ntmps52
  have hm0 := Mm.nil none w
  refine wp_seq_k (fun K1 hK1 => ?_)
  refine wp_region_lit ?_
  refine lv 2 (.int .i64 0) rfl rfl (run_as rfl rfl) ?_
  simp only [nz1, nz2, nz3]
  refine wpList_nil ?_
  refine then_n (hK1 _ _ ?_)
  refine wp_seq_k (fun K2 hK2 => ?_)
  refine wp_seq_k (fun K3 hK3 => ?_)
  refine wp_region_lit ?_
  refine lv 3 (.int .i64 (n)) rfl rfl (run_mv rfl rfl) ?_
  simp only [nz1, nz2, nz3]
  refine lv 4 (.bool (decide (n ≤ ((0 : Nat) : Int)))) rfl rfl (z_leq n ((0 : Nat) : Int) rfl rfl rfl) ?_
  simp only [nz1, nz2, nz3]
  refine wpList_nil ?_
  refine then_n (hK3 _ _ ?_)
  refine cond_d (n ≤ ((0 : Nat) : Int)) rfl (fun hc4 => ?_) (fun hc4 => ?_)
  · rw [decide_eq_true hc4]
    refine wp_seq_k (fun K5 hK5 => ?_)
    refine wp_region_lit ?_
    refine lv 2 (.int .i64 0) rfl rfl (run_as rfl rfl) ?_
    simp only [nz1, nz2, nz3]
    refine wpList_nil ?_
    refine then_n (hK5 _ _ ?_)
    refine wp_ret ?_
    refine then_r ?_
    exact ⟨rfl, .int .i64 0, res_t rfl rfl, ⟨by rw [show secs n.toNat = 0 by unfold secs; omega]; rfl, hm0.below⟩⟩
  rw [decide_eq_false hc4]
  refine wp_skip ?_
  refine then_n (hK2 _ _ ?_)
  refine wp_seq_k (fun K6 hK6 => ?_)
  refine wp_region_lit ?_
  refine lv 5 (.int .i64 (n)) rfl rfl (run_mv rfl rfl) ?_
  simp only [nz1, nz2, nz3]
  refine lv 6 (.int .i64 (n - 1)) rfl rfl (r_subZ n 1 _ (by rw [IntKind.wrap_i64]; omega) rfl rfl rfl) ?_
  simp only [nz1, nz2, nz3]
  refine lv 7 (.int .i64 ((n - 1) / 256)) rfl rfl (z_quo (n - 1) 256 _ (by decide) (by rw [Int.tdiv_eq_ediv_of_nonneg (by omega), IntKind.wrap_i64]; omega) rfl rfl rfl) ?_
  simp only [nz1, nz2, nz3]
  refine lv 8 (.int .i64 (((secs n.toNat) : Nat) : Int)) rfl rfl (z_add ((n - 1) / 256) 1 _ (by rw [IntKind.wrap_i64]; unfold secs; omega) rfl rfl rfl) ?_
  simp only [nz1, nz2, nz3]
  refine lv 2 (.int .i64 (((secs n.toNat) : Nat) : Int)) rfl rfl (run_as rfl rfl) ?_
  simp only [nz1, nz2, nz3]
  refine wpList_nil ?_
  refine then_n (hK6 _ _ ?_)
  refine wp_ret ?_
  exact ⟨rfl, .int .i64 (((secs n.toNat) : Nat) : Int), res_t rfl rfl, ⟨rfl, hm0.below⟩⟩
set_option maxHeartbeats 4000000 in
set_option maxRecDepth 100000 in
theorem rsectors_any (n : Int) (h0 : 0 ≤ n) (h : n ≤ 1000000000000) (w : World) : Calls Try.prog 55 #[.int .i64 (n)] w (fun e w' => e = .returned (.int .i64 ((secs n.toNat : Nat) : Int)) ∧ Below w.heap.size w w') := by
  go_enter Try.func55, Try.ntmps55
  have hm0 := Mm.nil none w
  refine wp_seq_k (fun K1 hK1 => ?_)
  refine wp_region_lit ?_
  refine lv 2 (.int .i64 0) rfl rfl (run_as rfl rfl) ?_
  simp only [nz1, nz2, nz3]
  refine wpList_nil ?_
  refine then_n (hK1 _ _ ?_)
  refine wp_seq_k (fun K2 hK2 => ?_)
  refine wp_seq_k (fun K3 hK3 => ?_)
  refine wp_region_lit ?_
  refine lv 3 (.int .i64 (n)) rfl rfl (run_mv rfl rfl) ?_
  simp only [nz1, nz2, nz3]
  refine lv 4 (.bool (decide (n ≤ ((0 : Nat) : Int)))) rfl rfl (z_leq n ((0 : Nat) : Int) rfl rfl rfl) ?_
  simp only [nz1, nz2, nz3]
  refine wpList_nil ?_
  refine then_n (hK3 _ _ ?_)
  refine cond_d (n ≤ ((0 : Nat) : Int)) rfl (fun hc4 => ?_) (fun hc4 => ?_)
  · rw [decide_eq_true hc4]
    refine wp_seq_k (fun K5 hK5 => ?_)
    refine wp_region_lit ?_
    refine lv 2 (.int .i64 0) rfl rfl (run_as rfl rfl) ?_
    simp only [nz1, nz2, nz3]
    refine wpList_nil ?_
    refine then_n (hK5 _ _ ?_)
    refine wp_ret ?_
    refine then_r ?_
    exact ⟨rfl, .int .i64 0, res_t rfl rfl, ⟨by rw [show secs n.toNat = 0 by unfold secs; omega]; rfl, hm0.below⟩⟩
  rw [decide_eq_false hc4]
  refine wp_skip ?_
  refine then_n (hK2 _ _ ?_)
  refine wp_seq_k (fun K6 hK6 => ?_)
  refine wp_region_lit ?_
  refine lv 5 (.int .i64 (n)) rfl rfl (run_mv rfl rfl) ?_
  simp only [nz1, nz2, nz3]
  refine lv 6 (.int .i64 (n - 1)) rfl rfl (r_subZ n 1 _ (by rw [IntKind.wrap_i64]; omega) rfl rfl rfl) ?_
  simp only [nz1, nz2, nz3]
  refine lv 7 (.int .i64 ((n - 1) / 256)) rfl rfl (z_quo (n - 1) 256 _ (by decide) (by rw [Int.tdiv_eq_ediv_of_nonneg (by omega), IntKind.wrap_i64]; omega) rfl rfl rfl) ?_
  simp only [nz1, nz2, nz3]
  refine lv 8 (.int .i64 (((secs n.toNat) : Nat) : Int)) rfl rfl (z_add ((n - 1) / 256) 1 _ (by rw [IntKind.wrap_i64]; unfold secs; omega) rfl rfl rfl) ?_
  simp only [nz1, nz2, nz3]
  refine lv 2 (.int .i64 (((secs n.toNat) : Nat) : Int)) rfl rfl (run_as rfl rfl) ?_
  simp only [nz1, nz2, nz3]
  refine wpList_nil ?_
  refine then_n (hK6 _ _ ?_)
  refine wp_ret ?_
  exact ⟨rfl, .int .i64 (((secs n.toNat) : Nat) : Int), res_t rfl rfl, ⟨rfl, hm0.below⟩⟩
set_option maxHeartbeats 4000000 in
set_option maxRecDepth 100000 in
theorem free_any (x : Nd) (v : Value) (w : World) (hb : Rd w v x.blocks.length 1 (x.blocks.map iv)) : Calls Try.prog 54 #[.agg #[.int .i64 (x.kind), .int .i64 (x.mode), .int .i64 (x.uid), .int .i64 (x.gid), .int .i64 (x.time), .int .i64 (x.links), .int .i64 (x.size), v]] w (fun e w' => e = .returned (.bool (decide (x.kind = 0 ∧ FreeP x))) ∧ Below w.heap.size w w') := by
  go_enter Try.func54, Try.ntmps54
  have hm0 := Mm.nil none w
  refine wp_seq_k (fun K1 hK1 => ?_)
  refine wp_region_lit ?_
  refine lst (wanted_none rfl) (m_alloc (c := #[.int .i64 (x.kind), .int .i64 (x.mode), .int .i64 (x.uid), .int .i64 (x.gid), .int .i64 (x.time), .int .i64 (x.links), .int .i64 (x.size), v]) (T := 48) hm0 1 rfl (run_box rfl rfl) (fun g4 w2 (hm3 : Mm none w w2 [.blk g4 #[.int .i64 (x.kind), .int .i64 (x.mode), .int .i64 (x.uid), .int .i64 (x.gid), .int .i64 (x.time), .int .i64 (x.links), .int .i64 (x.size), v] 48]) => ?_))
  simp only [nz1, nz2, nz3]
  refine lv 2 (.bool false) rfl rfl (run_as rfl rfl) ?_
  simp only [nz1, nz2, nz3]
  refine wpList_nil ?_
  refine then_n (hK1 _ _ ?_)
  refine wp_seq_k (fun K5 hK5 => ?_)
  refine wp_region_lit ?_
  refine lv 3 (.pointer (some ⟨g4, 0, none⟩)) rfl rfl (r_fa48_0 g4 0 rfl rfl) ?_
  simp only [nz1, nz2, nz3]
  refine lv 4 (.int .i64 (x.kind)) rfl rfl (r_load (hm3.at 0 rfl) rfl Try.underlying3 rfl rfl rfl) ?_
  simp only [nz1, nz2, nz3]
  refine lvb 5 (x.kind = ((0 : Nat) : Int)) rfl rfl (z_eql x.kind ((0 : Nat) : Int) rfl rfl rfl) (fun hs6 => ?_) (fun hs6 => ?_)
  rotate_left
  · simp only [nz1, nz2, nz3]
    refine lv 6 (.bool false) rfl rfl (run_mv rfl rfl) ?_
    simp only [nz1, nz2, nz3]
    refine lst_skip 7 rfl rfl ?_
    simp only [nz1, nz2, nz3]
    refine lst_skip 8 rfl rfl ?_
    simp only [nz1, nz2, nz3]
    refine lst_skip 9 rfl rfl ?_
    simp only [nz1, nz2, nz3]
    refine lv 10 (.bool false) rfl rfl (run_pickf rfl rfl rfl) ?_
    simp only [nz1, nz2, nz3]
    refine lv 11 (.bool false) rfl rfl (run_mv rfl rfl) ?_
    simp only [nz1, nz2, nz3]
    refine lst_skip 12 rfl rfl ?_
    simp only [nz1, nz2, nz3]
    refine lst_skip 13 rfl rfl ?_
    simp only [nz1, nz2, nz3]
    refine lst_skip 14 rfl rfl ?_
    simp only [nz1, nz2, nz3]
    refine lv 15 (.bool false) rfl rfl (run_pickf rfl rfl rfl) ?_
    simp only [nz1, nz2, nz3]
    refine lv 16 (.bool false) rfl rfl (run_mv rfl rfl) ?_
    simp only [nz1, nz2, nz3]
    refine lst_skip 17 rfl rfl ?_
    simp only [nz1, nz2, nz3]
    refine lst_skip 18 rfl rfl ?_
    simp only [nz1, nz2, nz3]
    refine lst_skip 19 rfl rfl ?_
    simp only [nz1, nz2, nz3]
    refine lv 20 (.bool false) rfl rfl (run_pickf rfl rfl rfl) ?_
    simp only [nz1, nz2, nz3]
    refine lv 21 (.bool false) rfl rfl (run_mv rfl rfl) ?_
    simp only [nz1, nz2, nz3]
    refine lst_skip 22 rfl rfl ?_
    simp only [nz1, nz2, nz3]
    refine lst_skip 23 rfl rfl ?_
    simp only [nz1, nz2, nz3]
    refine lst_skip 24 rfl rfl ?_
    simp only [nz1, nz2, nz3]
    refine lv 25 (.bool false) rfl rfl (run_pickf rfl rfl rfl) ?_
    simp only [nz1, nz2, nz3]
    refine lv 26 (.bool false) rfl rfl (run_mv rfl rfl) ?_
    simp only [nz1, nz2, nz3]
    refine lst_skip 27 rfl rfl ?_
    simp only [nz1, nz2, nz3]
    refine lst_skip 28 rfl rfl ?_
    simp only [nz1, nz2, nz3]
    refine lst_skip 29 rfl rfl ?_
    simp only [nz1, nz2, nz3]
    refine lv 30 (.bool false) rfl rfl (run_pickf rfl rfl rfl) ?_
    simp only [nz1, nz2, nz3]
    refine lv 31 (.bool false) rfl rfl (run_mv rfl rfl) ?_
    simp only [nz1, nz2, nz3]
    refine lst_skip 32 rfl rfl ?_
    simp only [nz1, nz2, nz3]
    refine lst_skip 33 rfl rfl ?_
    simp only [nz1, nz2, nz3]
    refine lst_skip 34 rfl rfl ?_
    simp only [nz1, nz2, nz3]
    refine lv 35 (.bool false) rfl rfl (run_pickf rfl rfl rfl) ?_
    simp only [nz1, nz2, nz3]
    refine lv 36 (.bool false) rfl rfl (run_mv rfl rfl) ?_
    simp only [nz1, nz2, nz3]
    refine lst_skip 37 rfl rfl ?_
    simp only [nz1, nz2, nz3]
    refine lst_skip 38 rfl rfl ?_
    simp only [nz1, nz2, nz3]
    refine lst_skip 39 rfl rfl ?_
    simp only [nz1, nz2, nz3]
    refine lst_skip 40 rfl rfl ?_
    simp only [nz1, nz2, nz3]
    refine lv 41 (.bool false) rfl rfl (run_pickf rfl rfl rfl) ?_
    simp only [nz1, nz2, nz3]
    refine lv 2 (.bool false) rfl rfl (run_as rfl rfl) ?_
    simp only [nz1, nz2, nz3]
    refine wpList_nil ?_
    refine then_n (hK5 _ _ ?_)
    refine wp_ret ?_
    exact ⟨rfl, .bool false, res_t rfl rfl, ⟨by rw [show decide (x.kind = 0 ∧ FreeP x) = false from decide_eq_false (by unfold FreeP; omega)], hm3.below⟩⟩
  simp only [nz1, nz2, nz3]
  refine lv 6 (.bool true) rfl rfl (run_mv rfl rfl) ?_
  simp only [nz1, nz2, nz3]
  refine lst rfl (w_value 7 (.pointer (some ⟨g4, 1, none⟩)) rfl (r_fa48_1 g4 0 rfl rfl) ?_)
  simp only [nz1, nz2, nz3]
  refine lst rfl (w_value 8 (.int .i64 (x.mode)) rfl (r_load (hm3.at 0 rfl) rfl Try.underlying3 rfl rfl rfl) ?_)
  simp only [nz1, nz2, nz3]
  refine lvb 9 (x.mode = ((0 : Nat) : Int)) rfl rfl (z_eql x.mode ((0 : Nat) : Int) rfl rfl rfl) (fun hs7 => ?_) (fun hs7 => ?_)
  rotate_left
  · simp only [nz1, nz2, nz3]
    refine lv 10 (.bool false) rfl rfl (run_pick rfl rfl rfl) ?_
    simp only [nz1, nz2, nz3]
    refine lv 11 (.bool false) rfl rfl (run_mv rfl rfl) ?_
    simp only [nz1, nz2, nz3]
    refine lst_skip 12 rfl rfl ?_
    simp only [nz1, nz2, nz3]
    refine lst_skip 13 rfl rfl ?_
    simp only [nz1, nz2, nz3]
    refine lst_skip 14 rfl rfl ?_
    simp only [nz1, nz2, nz3]
    refine lv 15 (.bool false) rfl rfl (run_pickf rfl rfl rfl) ?_
    simp only [nz1, nz2, nz3]
    refine lv 16 (.bool false) rfl rfl (run_mv rfl rfl) ?_
    simp only [nz1, nz2, nz3]
    refine lst_skip 17 rfl rfl ?_
    simp only [nz1, nz2, nz3]
    refine lst_skip 18 rfl rfl ?_
    simp only [nz1, nz2, nz3]
    refine lst_skip 19 rfl rfl ?_
    simp only [nz1, nz2, nz3]
    refine lv 20 (.bool false) rfl rfl (run_pickf rfl rfl rfl) ?_
    simp only [nz1, nz2, nz3]
    refine lv 21 (.bool false) rfl rfl (run_mv rfl rfl) ?_
    simp only [nz1, nz2, nz3]
    refine lst_skip 22 rfl rfl ?_
    simp only [nz1, nz2, nz3]
    refine lst_skip 23 rfl rfl ?_
    simp only [nz1, nz2, nz3]
    refine lst_skip 24 rfl rfl ?_
    simp only [nz1, nz2, nz3]
    refine lv 25 (.bool false) rfl rfl (run_pickf rfl rfl rfl) ?_
    simp only [nz1, nz2, nz3]
    refine lv 26 (.bool false) rfl rfl (run_mv rfl rfl) ?_
    simp only [nz1, nz2, nz3]
    refine lst_skip 27 rfl rfl ?_
    simp only [nz1, nz2, nz3]
    refine lst_skip 28 rfl rfl ?_
    simp only [nz1, nz2, nz3]
    refine lst_skip 29 rfl rfl ?_
    simp only [nz1, nz2, nz3]
    refine lv 30 (.bool false) rfl rfl (run_pickf rfl rfl rfl) ?_
    simp only [nz1, nz2, nz3]
    refine lv 31 (.bool false) rfl rfl (run_mv rfl rfl) ?_
    simp only [nz1, nz2, nz3]
    refine lst_skip 32 rfl rfl ?_
    simp only [nz1, nz2, nz3]
    refine lst_skip 33 rfl rfl ?_
    simp only [nz1, nz2, nz3]
    refine lst_skip 34 rfl rfl ?_
    simp only [nz1, nz2, nz3]
    refine lv 35 (.bool false) rfl rfl (run_pickf rfl rfl rfl) ?_
    simp only [nz1, nz2, nz3]
    refine lv 36 (.bool false) rfl rfl (run_mv rfl rfl) ?_
    simp only [nz1, nz2, nz3]
    refine lst_skip 37 rfl rfl ?_
    simp only [nz1, nz2, nz3]
    refine lst_skip 38 rfl rfl ?_
    simp only [nz1, nz2, nz3]
    refine lst_skip 39 rfl rfl ?_
    simp only [nz1, nz2, nz3]
    refine lst_skip 40 rfl rfl ?_
    simp only [nz1, nz2, nz3]
    refine lv 41 (.bool false) rfl rfl (run_pickf rfl rfl rfl) ?_
    simp only [nz1, nz2, nz3]
    refine lv 2 (.bool false) rfl rfl (run_as rfl rfl) ?_
    simp only [nz1, nz2, nz3]
    refine wpList_nil ?_
    refine then_n (hK5 _ _ ?_)
    refine wp_ret ?_
    exact ⟨rfl, .bool false, res_t rfl rfl, ⟨by rw [show decide (x.kind = 0 ∧ FreeP x) = false from decide_eq_false (by unfold FreeP; omega)], hm3.below⟩⟩
  simp only [nz1, nz2, nz3]
  refine lv 10 (.bool true) rfl rfl (run_pick rfl rfl rfl) ?_
  simp only [nz1, nz2, nz3]
  refine lv 11 (.bool true) rfl rfl (run_mv rfl rfl) ?_
  simp only [nz1, nz2, nz3]
  refine lst rfl (w_value 12 (.pointer (some ⟨g4, 2, none⟩)) rfl (r_fa48_2 g4 0 rfl rfl) ?_)
  simp only [nz1, nz2, nz3]
  refine lst rfl (w_value 13 (.int .i64 (x.uid)) rfl (r_load (hm3.at 0 rfl) rfl Try.underlying3 rfl rfl rfl) ?_)
  simp only [nz1, nz2, nz3]
  refine lvb 14 (x.uid = ((0 : Nat) : Int)) rfl rfl (z_eql x.uid ((0 : Nat) : Int) rfl rfl rfl) (fun hs8 => ?_) (fun hs8 => ?_)
  rotate_left
  · simp only [nz1, nz2, nz3]
    refine lv 15 (.bool false) rfl rfl (run_pick rfl rfl rfl) ?_
    simp only [nz1, nz2, nz3]
    refine lv 16 (.bool false) rfl rfl (run_mv rfl rfl) ?_
    simp only [nz1, nz2, nz3]
    refine lst_skip 17 rfl rfl ?_
    simp only [nz1, nz2, nz3]
    refine lst_skip 18 rfl rfl ?_
    simp only [nz1, nz2, nz3]
    refine lst_skip 19 rfl rfl ?_
    simp only [nz1, nz2, nz3]
    refine lv 20 (.bool false) rfl rfl (run_pickf rfl rfl rfl) ?_
    simp only [nz1, nz2, nz3]
    refine lv 21 (.bool false) rfl rfl (run_mv rfl rfl) ?_
    simp only [nz1, nz2, nz3]
    refine lst_skip 22 rfl rfl ?_
    simp only [nz1, nz2, nz3]
    refine lst_skip 23 rfl rfl ?_
    simp only [nz1, nz2, nz3]
    refine lst_skip 24 rfl rfl ?_
    simp only [nz1, nz2, nz3]
    refine lv 25 (.bool false) rfl rfl (run_pickf rfl rfl rfl) ?_
    simp only [nz1, nz2, nz3]
    refine lv 26 (.bool false) rfl rfl (run_mv rfl rfl) ?_
    simp only [nz1, nz2, nz3]
    refine lst_skip 27 rfl rfl ?_
    simp only [nz1, nz2, nz3]
    refine lst_skip 28 rfl rfl ?_
    simp only [nz1, nz2, nz3]
    refine lst_skip 29 rfl rfl ?_
    simp only [nz1, nz2, nz3]
    refine lv 30 (.bool false) rfl rfl (run_pickf rfl rfl rfl) ?_
    simp only [nz1, nz2, nz3]
    refine lv 31 (.bool false) rfl rfl (run_mv rfl rfl) ?_
    simp only [nz1, nz2, nz3]
    refine lst_skip 32 rfl rfl ?_
    simp only [nz1, nz2, nz3]
    refine lst_skip 33 rfl rfl ?_
    simp only [nz1, nz2, nz3]
    refine lst_skip 34 rfl rfl ?_
    simp only [nz1, nz2, nz3]
    refine lv 35 (.bool false) rfl rfl (run_pickf rfl rfl rfl) ?_
    simp only [nz1, nz2, nz3]
    refine lv 36 (.bool false) rfl rfl (run_mv rfl rfl) ?_
    simp only [nz1, nz2, nz3]
    refine lst_skip 37 rfl rfl ?_
    simp only [nz1, nz2, nz3]
    refine lst_skip 38 rfl rfl ?_
    simp only [nz1, nz2, nz3]
    refine lst_skip 39 rfl rfl ?_
    simp only [nz1, nz2, nz3]
    refine lst_skip 40 rfl rfl ?_
    simp only [nz1, nz2, nz3]
    refine lv 41 (.bool false) rfl rfl (run_pickf rfl rfl rfl) ?_
    simp only [nz1, nz2, nz3]
    refine lv 2 (.bool false) rfl rfl (run_as rfl rfl) ?_
    simp only [nz1, nz2, nz3]
    refine wpList_nil ?_
    refine then_n (hK5 _ _ ?_)
    refine wp_ret ?_
    exact ⟨rfl, .bool false, res_t rfl rfl, ⟨by rw [show decide (x.kind = 0 ∧ FreeP x) = false from decide_eq_false (by unfold FreeP; omega)], hm3.below⟩⟩
  simp only [nz1, nz2, nz3]
  refine lv 15 (.bool true) rfl rfl (run_pick rfl rfl rfl) ?_
  simp only [nz1, nz2, nz3]
  refine lv 16 (.bool true) rfl rfl (run_mv rfl rfl) ?_
  simp only [nz1, nz2, nz3]
  refine lst rfl (w_value 17 (.pointer (some ⟨g4, 3, none⟩)) rfl (r_fa48_3 g4 0 rfl rfl) ?_)
  simp only [nz1, nz2, nz3]
  refine lst rfl (w_value 18 (.int .i64 (x.gid)) rfl (r_load (hm3.at 0 rfl) rfl Try.underlying3 rfl rfl rfl) ?_)
  simp only [nz1, nz2, nz3]
  refine lvb 19 (x.gid = ((0 : Nat) : Int)) rfl rfl (z_eql x.gid ((0 : Nat) : Int) rfl rfl rfl) (fun hs9 => ?_) (fun hs9 => ?_)
  rotate_left
  · simp only [nz1, nz2, nz3]
    refine lv 20 (.bool false) rfl rfl (run_pick rfl rfl rfl) ?_
    simp only [nz1, nz2, nz3]
    refine lv 21 (.bool false) rfl rfl (run_mv rfl rfl) ?_
    simp only [nz1, nz2, nz3]
    refine lst_skip 22 rfl rfl ?_
    simp only [nz1, nz2, nz3]
    refine lst_skip 23 rfl rfl ?_
    simp only [nz1, nz2, nz3]
    refine lst_skip 24 rfl rfl ?_
    simp only [nz1, nz2, nz3]
    refine lv 25 (.bool false) rfl rfl (run_pickf rfl rfl rfl) ?_
    simp only [nz1, nz2, nz3]
    refine lv 26 (.bool false) rfl rfl (run_mv rfl rfl) ?_
    simp only [nz1, nz2, nz3]
    refine lst_skip 27 rfl rfl ?_
    simp only [nz1, nz2, nz3]
    refine lst_skip 28 rfl rfl ?_
    simp only [nz1, nz2, nz3]
    refine lst_skip 29 rfl rfl ?_
    simp only [nz1, nz2, nz3]
    refine lv 30 (.bool false) rfl rfl (run_pickf rfl rfl rfl) ?_
    simp only [nz1, nz2, nz3]
    refine lv 31 (.bool false) rfl rfl (run_mv rfl rfl) ?_
    simp only [nz1, nz2, nz3]
    refine lst_skip 32 rfl rfl ?_
    simp only [nz1, nz2, nz3]
    refine lst_skip 33 rfl rfl ?_
    simp only [nz1, nz2, nz3]
    refine lst_skip 34 rfl rfl ?_
    simp only [nz1, nz2, nz3]
    refine lv 35 (.bool false) rfl rfl (run_pickf rfl rfl rfl) ?_
    simp only [nz1, nz2, nz3]
    refine lv 36 (.bool false) rfl rfl (run_mv rfl rfl) ?_
    simp only [nz1, nz2, nz3]
    refine lst_skip 37 rfl rfl ?_
    simp only [nz1, nz2, nz3]
    refine lst_skip 38 rfl rfl ?_
    simp only [nz1, nz2, nz3]
    refine lst_skip 39 rfl rfl ?_
    simp only [nz1, nz2, nz3]
    refine lst_skip 40 rfl rfl ?_
    simp only [nz1, nz2, nz3]
    refine lv 41 (.bool false) rfl rfl (run_pickf rfl rfl rfl) ?_
    simp only [nz1, nz2, nz3]
    refine lv 2 (.bool false) rfl rfl (run_as rfl rfl) ?_
    simp only [nz1, nz2, nz3]
    refine wpList_nil ?_
    refine then_n (hK5 _ _ ?_)
    refine wp_ret ?_
    exact ⟨rfl, .bool false, res_t rfl rfl, ⟨by rw [show decide (x.kind = 0 ∧ FreeP x) = false from decide_eq_false (by unfold FreeP; omega)], hm3.below⟩⟩
  simp only [nz1, nz2, nz3]
  refine lv 20 (.bool true) rfl rfl (run_pick rfl rfl rfl) ?_
  simp only [nz1, nz2, nz3]
  refine lv 21 (.bool true) rfl rfl (run_mv rfl rfl) ?_
  simp only [nz1, nz2, nz3]
  refine lst rfl (w_value 22 (.pointer (some ⟨g4, 4, none⟩)) rfl (r_fa48_4 g4 0 rfl rfl) ?_)
  simp only [nz1, nz2, nz3]
  refine lst rfl (w_value 23 (.int .i64 (x.time)) rfl (r_load (hm3.at 0 rfl) rfl Try.underlying3 rfl rfl rfl) ?_)
  simp only [nz1, nz2, nz3]
  refine lvb 24 (x.time = ((0 : Nat) : Int)) rfl rfl (z_eql x.time ((0 : Nat) : Int) rfl rfl rfl) (fun hs10 => ?_) (fun hs10 => ?_)
  rotate_left
  · simp only [nz1, nz2, nz3]
    refine lv 25 (.bool false) rfl rfl (run_pick rfl rfl rfl) ?_
    simp only [nz1, nz2, nz3]
    refine lv 26 (.bool false) rfl rfl (run_mv rfl rfl) ?_
    simp only [nz1, nz2, nz3]
    refine lst_skip 27 rfl rfl ?_
    simp only [nz1, nz2, nz3]
    refine lst_skip 28 rfl rfl ?_
    simp only [nz1, nz2, nz3]
    refine lst_skip 29 rfl rfl ?_
    simp only [nz1, nz2, nz3]
    refine lv 30 (.bool false) rfl rfl (run_pickf rfl rfl rfl) ?_
    simp only [nz1, nz2, nz3]
    refine lv 31 (.bool false) rfl rfl (run_mv rfl rfl) ?_
    simp only [nz1, nz2, nz3]
    refine lst_skip 32 rfl rfl ?_
    simp only [nz1, nz2, nz3]
    refine lst_skip 33 rfl rfl ?_
    simp only [nz1, nz2, nz3]
    refine lst_skip 34 rfl rfl ?_
    simp only [nz1, nz2, nz3]
    refine lv 35 (.bool false) rfl rfl (run_pickf rfl rfl rfl) ?_
    simp only [nz1, nz2, nz3]
    refine lv 36 (.bool false) rfl rfl (run_mv rfl rfl) ?_
    simp only [nz1, nz2, nz3]
    refine lst_skip 37 rfl rfl ?_
    simp only [nz1, nz2, nz3]
    refine lst_skip 38 rfl rfl ?_
    simp only [nz1, nz2, nz3]
    refine lst_skip 39 rfl rfl ?_
    simp only [nz1, nz2, nz3]
    refine lst_skip 40 rfl rfl ?_
    simp only [nz1, nz2, nz3]
    refine lv 41 (.bool false) rfl rfl (run_pickf rfl rfl rfl) ?_
    simp only [nz1, nz2, nz3]
    refine lv 2 (.bool false) rfl rfl (run_as rfl rfl) ?_
    simp only [nz1, nz2, nz3]
    refine wpList_nil ?_
    refine then_n (hK5 _ _ ?_)
    refine wp_ret ?_
    exact ⟨rfl, .bool false, res_t rfl rfl, ⟨by rw [show decide (x.kind = 0 ∧ FreeP x) = false from decide_eq_false (by unfold FreeP; omega)], hm3.below⟩⟩
  simp only [nz1, nz2, nz3]
  refine lv 25 (.bool true) rfl rfl (run_pick rfl rfl rfl) ?_
  simp only [nz1, nz2, nz3]
  refine lv 26 (.bool true) rfl rfl (run_mv rfl rfl) ?_
  simp only [nz1, nz2, nz3]
  refine lst rfl (w_value 27 (.pointer (some ⟨g4, 5, none⟩)) rfl (r_fa48_5 g4 0 rfl rfl) ?_)
  simp only [nz1, nz2, nz3]
  refine lst rfl (w_value 28 (.int .i64 (x.links)) rfl (r_load (hm3.at 0 rfl) rfl Try.underlying3 rfl rfl rfl) ?_)
  simp only [nz1, nz2, nz3]
  refine lvb 29 (x.links = ((0 : Nat) : Int)) rfl rfl (z_eql x.links ((0 : Nat) : Int) rfl rfl rfl) (fun hs11 => ?_) (fun hs11 => ?_)
  rotate_left
  · simp only [nz1, nz2, nz3]
    refine lv 30 (.bool false) rfl rfl (run_pick rfl rfl rfl) ?_
    simp only [nz1, nz2, nz3]
    refine lv 31 (.bool false) rfl rfl (run_mv rfl rfl) ?_
    simp only [nz1, nz2, nz3]
    refine lst_skip 32 rfl rfl ?_
    simp only [nz1, nz2, nz3]
    refine lst_skip 33 rfl rfl ?_
    simp only [nz1, nz2, nz3]
    refine lst_skip 34 rfl rfl ?_
    simp only [nz1, nz2, nz3]
    refine lv 35 (.bool false) rfl rfl (run_pickf rfl rfl rfl) ?_
    simp only [nz1, nz2, nz3]
    refine lv 36 (.bool false) rfl rfl (run_mv rfl rfl) ?_
    simp only [nz1, nz2, nz3]
    refine lst_skip 37 rfl rfl ?_
    simp only [nz1, nz2, nz3]
    refine lst_skip 38 rfl rfl ?_
    simp only [nz1, nz2, nz3]
    refine lst_skip 39 rfl rfl ?_
    simp only [nz1, nz2, nz3]
    refine lst_skip 40 rfl rfl ?_
    simp only [nz1, nz2, nz3]
    refine lv 41 (.bool false) rfl rfl (run_pickf rfl rfl rfl) ?_
    simp only [nz1, nz2, nz3]
    refine lv 2 (.bool false) rfl rfl (run_as rfl rfl) ?_
    simp only [nz1, nz2, nz3]
    refine wpList_nil ?_
    refine then_n (hK5 _ _ ?_)
    refine wp_ret ?_
    exact ⟨rfl, .bool false, res_t rfl rfl, ⟨by rw [show decide (x.kind = 0 ∧ FreeP x) = false from decide_eq_false (by unfold FreeP; omega)], hm3.below⟩⟩
  simp only [nz1, nz2, nz3]
  refine lv 30 (.bool true) rfl rfl (run_pick rfl rfl rfl) ?_
  simp only [nz1, nz2, nz3]
  refine lv 31 (.bool true) rfl rfl (run_mv rfl rfl) ?_
  simp only [nz1, nz2, nz3]
  refine lst rfl (w_value 32 (.pointer (some ⟨g4, 6, none⟩)) rfl (r_fa48_6 g4 0 rfl rfl) ?_)
  simp only [nz1, nz2, nz3]
  refine lst rfl (w_value 33 (.int .i64 (x.size)) rfl (r_load (hm3.at 0 rfl) rfl Try.underlying3 rfl rfl rfl) ?_)
  simp only [nz1, nz2, nz3]
  refine lvb 34 (x.size = ((0 : Nat) : Int)) rfl rfl (z_eql x.size ((0 : Nat) : Int) rfl rfl rfl) (fun hs12 => ?_) (fun hs12 => ?_)
  · simp only [nz1, nz2, nz3]
    refine lv 35 (.bool true) rfl rfl (run_pick rfl rfl rfl) ?_
    simp only [nz1, nz2, nz3]
    refine lv 36 (.bool true) rfl rfl (run_mv rfl rfl) ?_
    simp only [nz1, nz2, nz3]
    refine lst rfl (w_value 37 (.pointer (some ⟨g4, 7, none⟩)) rfl (r_fa48_7 g4 0 rfl rfl) ?_)
    simp only [nz1, nz2, nz3]
    refine lst rfl (w_value 38 (v) rfl (r_load (hm3.at 0 rfl) rfl Try.underlying46 rfl rfl rfl) ?_)
    simp only [nz1, nz2, nz3]
    refine lst rfl (w_value 39 (.int .i64 ((x.blocks.length : Nat) : Int)) rfl (s_len hb rfl Try.underlying46 rfl) ?_)
    simp only [nz1, nz2, nz3]
    refine lst rfl (w_value 40 (.bool (decide (x.blocks.length = 0))) rfl (r_eql x.blocks.length 0 rfl rfl rfl) ?_)
    simp only [nz1, nz2, nz3]
    refine lv 41 (.bool (decide (x.blocks.length = 0))) rfl rfl (run_pick rfl rfl rfl) ?_
    simp only [nz1, nz2, nz3]
    refine lv 2 (.bool (decide (x.blocks.length = 0))) rfl rfl (run_as rfl rfl) ?_
    simp only [nz1, nz2, nz3]
    refine wpList_nil ?_
    refine then_n (hK5 _ _ ?_)
    refine wp_ret ?_
    exact ⟨rfl, .bool (decide (x.blocks.length = 0)), res_t rfl rfl, ⟨by rw [show decide (x.kind = 0 ∧ FreeP x) = (decide (x.blocks.length = 0)) from decide_eq_decide.2 (by unfold FreeP; omega)], hm3.below⟩⟩
  simp only [nz1, nz2, nz3]
  refine lv 35 (.bool false) rfl rfl (run_pick rfl rfl rfl) ?_
  simp only [nz1, nz2, nz3]
  refine lv 36 (.bool false) rfl rfl (run_mv rfl rfl) ?_
  simp only [nz1, nz2, nz3]
  refine lst_skip 37 rfl rfl ?_
  simp only [nz1, nz2, nz3]
  refine lst_skip 38 rfl rfl ?_
  simp only [nz1, nz2, nz3]
  refine lst_skip 39 rfl rfl ?_
  simp only [nz1, nz2, nz3]
  refine lst_skip 40 rfl rfl ?_
  simp only [nz1, nz2, nz3]
  refine lv 41 (.bool false) rfl rfl (run_pickf rfl rfl rfl) ?_
  simp only [nz1, nz2, nz3]
  refine lv 2 (.bool false) rfl rfl (run_as rfl rfl) ?_
  simp only [nz1, nz2, nz3]
  refine wpList_nil ?_
  refine then_n (hK5 _ _ ?_)
  refine wp_ret ?_
  exact ⟨rfl, .bool false, res_t rfl rfl, ⟨by rw [show decide (x.kind = 0 ∧ FreeP x) = false from decide_eq_false (by unfold FreeP; omega)], hm3.below⟩⟩
set_option maxHeartbeats 4000000 in
set_option maxRecDepth 100000 in
theorem check_any (x : Nd) (v : Value) (w : World) (hb : Rd w v x.blocks.length 1 (x.blocks.map iv)) : Calls Try.prog 31 #[.agg #[.int .i64 (x.kind), .int .i64 (x.mode), .int .i64 (x.uid), .int .i64 (x.gid), .int .i64 (x.time), .int .i64 (x.links), .int .i64 (x.size), v]] w (fun e w' => e = .returned (.bool (decide (CheckP x))) ∧ Below w.heap.size w w') := by
  go_enter Try.func31, Try.ntmps31
  have hm0 := Mm.nil none w
  refine wp_seq_k (fun K1 hK1 => ?_)
  refine wp_region_lit ?_
  refine lst (wanted_none rfl) (m_alloc (c := #[.int .i64 (x.kind), .int .i64 (x.mode), .int .i64 (x.uid), .int .i64 (x.gid), .int .i64 (x.time), .int .i64 (x.links), .int .i64 (x.size), v]) (T := 48) hm0 1 rfl (run_box rfl rfl) (fun g4 w2 (hm3 : Mm none w w2 [.blk g4 #[.int .i64 (x.kind), .int .i64 (x.mode), .int .i64 (x.uid), .int .i64 (x.gid), .int .i64 (x.time), .int .i64 (x.links), .int .i64 (x.size), v] 48]) => ?_))
  simp only [nz1, nz2, nz3]
  refine lv 2 (.bool false) rfl rfl (run_as rfl rfl) ?_
  simp only [nz1, nz2, nz3]
  refine wpList_nil ?_
  refine then_n (hK1 _ _ ?_)
  refine wp_seq_k (fun K5 hK5 => ?_)
  refine wp_seq_k (fun K6 hK6 => ?_)
  refine wp_region_lit ?_
  refine lv 5 (.pointer (some ⟨g4, 0, none⟩)) rfl rfl (r_fa48_0 g4 0 rfl rfl) ?_
  simp only [nz1, nz2, nz3]
  refine lv 6 (.int .i64 (x.kind)) rfl rfl (r_load (hm3.at 0 rfl) rfl Try.underlying3 rfl rfl rfl) ?_
  simp only [nz1, nz2, nz3]
  refine lv 7 (.bool (decide (x.kind = ((0 : Nat) : Int)))) rfl rfl (z_eql x.kind ((0 : Nat) : Int) rfl rfl rfl) ?_
  simp only [nz1, nz2, nz3]
  refine wpList_nil ?_
  refine then_n (hK6 _ _ ?_)
  refine cond_d (x.kind = ((0 : Nat) : Int)) rfl (fun hc7 => ?_) (fun hc7 => ?_)
  · rw [decide_eq_true hc7]
    refine wp_seq_k (fun K8 hK8 => ?_)
    refine wp_region_lit ?_
    refine lv 8 (.agg #[.int .i64 (x.kind), .int .i64 (x.mode), .int .i64 (x.uid), .int .i64 (x.gid), .int .i64 (x.time), .int .i64 (x.links), .int .i64 (x.size), v]) rfl rfl (r_whole (hm3.at 0 rfl) Try.underlying48 rfl (by exact sz_node) rfl rfl) ?_
    simp only [nz1, nz2, nz3]
    refine lst (wanted_none rfl) (m_call hm3 9 (.bool (decide (x.kind = 0 ∧ FreeP x))) rfl (run_free rfl rfl) (free_any x v _ (hb.below hm3.below)) (fun w9 (hm10 : Mm none w w9 [.blk g4 #[.int .i64 (x.kind), .int .i64 (x.mode), .int .i64 (x.uid), .int .i64 (x.gid), .int .i64 (x.time), .int .i64 (x.links), .int .i64 (x.size), v] 48]) => ?_))
    simp only [nz1, nz2, nz3]
    refine lv 2 (.bool (decide (x.kind = 0 ∧ FreeP x))) rfl rfl (run_as rfl rfl) ?_
    simp only [nz1, nz2, nz3]
    refine wpList_nil ?_
    refine then_n (hK8 _ _ ?_)
    refine wp_ret ?_
    refine then_r ?_
    exact ⟨rfl, .bool (decide (x.kind = 0 ∧ FreeP x)), res_t rfl rfl, ⟨by rw [show decide (CheckP x) = (decide (x.kind = 0 ∧ FreeP x)) from decide_eq_decide.2 ⟨fun h => by rcases h with h | ⟨h, _⟩; exact h; exact absurd ‹x.kind = 0› h, fun h => .inl h⟩], hm10.below⟩⟩
  rw [decide_eq_false hc7]
  refine wp_skip ?_
  refine then_n (hK5 _ _ ?_)
  refine wp_seq_k (fun K11 hK11 => ?_)
  refine wp_block ?_
  refine wp_seq_k (fun K12 hK12 => ?_)
  refine wp_seq_k (fun K13 hK13 => ?_)
  refine wp_region_lit ?_
  refine lv 11 (.pointer (some ⟨g4, 0, none⟩)) rfl rfl (r_fa48_0 g4 0 rfl rfl) ?_
  simp only [nz1, nz2, nz3]
  refine lv 12 (.int .i64 (x.kind)) rfl rfl (r_load (hm3.at 0 rfl) rfl Try.underlying3 rfl rfl rfl) ?_
  simp only [nz1, nz2, nz3]
  refine lvb 13 (x.kind < ((1 : Nat) : Int)) rfl rfl (z_lss x.kind ((1 : Nat) : Int) rfl rfl rfl) (fun hs14 => ?_) (fun hs14 => ?_)
  · simp only [nz1, nz2, nz3]
    refine lv 14 (.bool true) rfl rfl (run_mv rfl rfl) ?_
    simp only [nz1, nz2, nz3]
    refine lst_skip 15 rfl rfl ?_
    simp only [nz1, nz2, nz3]
    refine lst_skip 16 rfl rfl ?_
    simp only [nz1, nz2, nz3]
    refine lst_skip 17 rfl rfl ?_
    simp only [nz1, nz2, nz3]
    refine lv 18 (.bool true) rfl rfl (run_pick rfl rfl rfl) ?_
    simp only [nz1, nz2, nz3]
    refine lv 10 (.bool true) rfl rfl (run_as rfl rfl) ?_
    simp only [nz1, nz2, nz3]
    refine wpList_nil ?_
    refine then_n (hK13 _ _ ?_)
    refine cond_t rfl ?_
    refine wp_skip ?_
    refine then_n (hK12 _ _ ?_)
    refine cond_t rfl ?_
    refine wp_seq_k (fun K15 hK15 => ?_)
    refine wp_region_lit ?_
    refine lv 2 (.bool false) rfl rfl (run_as rfl rfl) ?_
    simp only [nz1, nz2, nz3]
    refine wpList_nil ?_
    refine then_n (hK15 _ _ ?_)
    refine wp_ret ?_
    refine blk_r ?_
    refine then_r ?_
    exact ⟨rfl, .bool false, res_t rfl rfl, ⟨by rw [show decide (CheckP x) = false from decide_eq_false (by unfold CheckP; rintro (⟨_, h⟩ | ⟨_, h, _⟩) <;> simp only [FreeP, RangeP] at h <;> omega)], hm3.below⟩⟩
  simp only [nz1, nz2, nz3]
  refine lv 14 (.bool false) rfl rfl (run_mv rfl rfl) ?_
  simp only [nz1, nz2, nz3]
  refine lst rfl (w_value 15 (.pointer (some ⟨g4, 0, none⟩)) rfl (r_fa48_0 g4 0 rfl rfl) ?_)
  simp only [nz1, nz2, nz3]
  refine lst rfl (w_value 16 (.int .i64 (x.kind)) rfl (r_load (hm3.at 0 rfl) rfl Try.underlying3 rfl rfl rfl) ?_)
  simp only [nz1, nz2, nz3]
  refine lst rfl (w_value 17 (.bool (decide (((3 : Nat) : Int) < x.kind))) rfl (z_gtr x.kind ((3 : Nat) : Int) rfl rfl rfl) ?_)
  simp only [nz1, nz2, nz3]
  refine lv 18 (.bool (decide (((3 : Nat) : Int) < x.kind))) rfl rfl (run_pickf rfl rfl rfl) ?_
  simp only [nz1, nz2, nz3]
  refine lv 10 (.bool (decide (((3 : Nat) : Int) < x.kind))) rfl rfl (run_as rfl rfl) ?_
  simp only [nz1, nz2, nz3]
  refine wpList_nil ?_
  refine then_n (hK13 _ _ ?_)
  refine cond_d (((3 : Nat) : Int) < x.kind) rfl (fun hc16 => ?_) (fun hc16 => ?_)
  · rw [decide_eq_true hc16]
    refine wp_skip ?_
    refine then_n (hK12 _ _ ?_)
    refine cond_t rfl ?_
    refine wp_seq_k (fun K17 hK17 => ?_)
    refine wp_region_lit ?_
    refine lv 2 (.bool false) rfl rfl (run_as rfl rfl) ?_
    simp only [nz1, nz2, nz3]
    refine wpList_nil ?_
    refine then_n (hK17 _ _ ?_)
    refine wp_ret ?_
    refine blk_r ?_
    refine then_r ?_
    exact ⟨rfl, .bool false, res_t rfl rfl, ⟨by rw [show decide (CheckP x) = false from decide_eq_false (by unfold CheckP; rintro (⟨_, h⟩ | ⟨_, h, _⟩) <;> simp only [FreeP, RangeP] at h <;> omega)], hm3.below⟩⟩
  rw [decide_eq_false hc16]
  refine wp_region_lit ?_
  refine lv 19 (.pointer (some ⟨g4, 1, none⟩)) rfl rfl (r_fa48_1 g4 0 rfl rfl) ?_
  simp only [nz1, nz2, nz3]
  refine lv 20 (.int .i64 (x.mode)) rfl rfl (r_load (hm3.at 0 rfl) rfl Try.underlying3 rfl rfl rfl) ?_
  simp only [nz1, nz2, nz3]
  refine lvb 21 (x.mode < ((0 : Nat) : Int)) rfl rfl (z_lss x.mode ((0 : Nat) : Int) rfl rfl rfl) (fun hs18 => ?_) (fun hs18 => ?_)
  · simp only [nz1, nz2, nz3]
    refine lv 22 (.bool true) rfl rfl (run_mv rfl rfl) ?_
    simp only [nz1, nz2, nz3]
    refine lst_skip 23 rfl rfl ?_
    simp only [nz1, nz2, nz3]
    refine lst_skip 24 rfl rfl ?_
    simp only [nz1, nz2, nz3]
    refine lst_skip 25 rfl rfl ?_
    simp only [nz1, nz2, nz3]
    refine lv 26 (.bool true) rfl rfl (run_pick rfl rfl rfl) ?_
    simp only [nz1, nz2, nz3]
    refine lv 10 (.bool true) rfl rfl (run_as rfl rfl) ?_
    simp only [nz1, nz2, nz3]
    refine wpList_nil ?_
    refine then_n (hK12 _ _ ?_)
    refine cond_t rfl ?_
    refine wp_seq_k (fun K19 hK19 => ?_)
    refine wp_region_lit ?_
    refine lv 2 (.bool false) rfl rfl (run_as rfl rfl) ?_
    simp only [nz1, nz2, nz3]
    refine wpList_nil ?_
    refine then_n (hK19 _ _ ?_)
    refine wp_ret ?_
    refine blk_r ?_
    refine then_r ?_
    exact ⟨rfl, .bool false, res_t rfl rfl, ⟨by rw [show decide (CheckP x) = false from decide_eq_false (by unfold CheckP; rintro (⟨_, h⟩ | ⟨_, h, _⟩) <;> simp only [FreeP, RangeP] at h <;> omega)], hm3.below⟩⟩
  simp only [nz1, nz2, nz3]
  refine lv 22 (.bool false) rfl rfl (run_mv rfl rfl) ?_
  simp only [nz1, nz2, nz3]
  refine lst rfl (w_value 23 (.pointer (some ⟨g4, 1, none⟩)) rfl (r_fa48_1 g4 0 rfl rfl) ?_)
  simp only [nz1, nz2, nz3]
  refine lst rfl (w_value 24 (.int .i64 (x.mode)) rfl (r_load (hm3.at 0 rfl) rfl Try.underlying3 rfl rfl rfl) ?_)
  simp only [nz1, nz2, nz3]
  refine lst rfl (w_value 25 (.bool (decide (((4095 : Nat) : Int) < x.mode))) rfl (z_gtr x.mode ((4095 : Nat) : Int) rfl rfl rfl) ?_)
  simp only [nz1, nz2, nz3]
  refine lv 26 (.bool (decide (((4095 : Nat) : Int) < x.mode))) rfl rfl (run_pickf rfl rfl rfl) ?_
  simp only [nz1, nz2, nz3]
  refine lv 10 (.bool (decide (((4095 : Nat) : Int) < x.mode))) rfl rfl (run_as rfl rfl) ?_
  simp only [nz1, nz2, nz3]
  refine wpList_nil ?_
  refine then_n (hK12 _ _ ?_)
  refine cond_d (((4095 : Nat) : Int) < x.mode) rfl (fun hc20 => ?_) (fun hc20 => ?_)
  · rw [decide_eq_true hc20]
    refine wp_seq_k (fun K21 hK21 => ?_)
    refine wp_region_lit ?_
    refine lv 2 (.bool false) rfl rfl (run_as rfl rfl) ?_
    simp only [nz1, nz2, nz3]
    refine wpList_nil ?_
    refine then_n (hK21 _ _ ?_)
    refine wp_ret ?_
    refine blk_r ?_
    refine then_r ?_
    exact ⟨rfl, .bool false, res_t rfl rfl, ⟨by rw [show decide (CheckP x) = false from decide_eq_false (by unfold CheckP; rintro (⟨_, h⟩ | ⟨_, h, _⟩) <;> simp only [FreeP, RangeP] at h <;> omega)], hm3.below⟩⟩
  rw [decide_eq_false hc20]
  refine wp_seq_k (fun K22 hK22 => ?_)
  refine wp_seq_k (fun K23 hK23 => ?_)
  refine wp_region_lit ?_
  refine lv 28 (.pointer (some ⟨g4, 2, none⟩)) rfl rfl (r_fa48_2 g4 0 rfl rfl) ?_
  simp only [nz1, nz2, nz3]
  refine lv 29 (.int .i64 (x.uid)) rfl rfl (r_load (hm3.at 0 rfl) rfl Try.underlying3 rfl rfl rfl) ?_
  simp only [nz1, nz2, nz3]
  refine lvb 30 (x.uid < ((0 : Nat) : Int)) rfl rfl (z_lss x.uid ((0 : Nat) : Int) rfl rfl rfl) (fun hs24 => ?_) (fun hs24 => ?_)
  · simp only [nz1, nz2, nz3]
    refine lv 31 (.bool true) rfl rfl (run_mv rfl rfl) ?_
    simp only [nz1, nz2, nz3]
    refine lst_skip 32 rfl rfl ?_
    simp only [nz1, nz2, nz3]
    refine lst_skip 33 rfl rfl ?_
    simp only [nz1, nz2, nz3]
    refine lst_skip 34 rfl rfl ?_
    simp only [nz1, nz2, nz3]
    refine lv 35 (.bool true) rfl rfl (run_pick rfl rfl rfl) ?_
    simp only [nz1, nz2, nz3]
    refine lv 27 (.bool true) rfl rfl (run_as rfl rfl) ?_
    simp only [nz1, nz2, nz3]
    refine wpList_nil ?_
    refine then_n (hK23 _ _ ?_)
    refine cond_t rfl ?_
    refine wp_skip ?_
    refine then_n (hK22 _ _ ?_)
    refine cond_t rfl ?_
    refine wp_seq_k (fun K25 hK25 => ?_)
    refine wp_region_lit ?_
    refine lv 2 (.bool false) rfl rfl (run_as rfl rfl) ?_
    simp only [nz1, nz2, nz3]
    refine wpList_nil ?_
    refine then_n (hK25 _ _ ?_)
    refine wp_ret ?_
    refine blk_r ?_
    refine then_r ?_
    exact ⟨rfl, .bool false, res_t rfl rfl, ⟨by rw [show decide (CheckP x) = false from decide_eq_false (by unfold CheckP; rintro (⟨_, h⟩ | ⟨_, h, _⟩) <;> simp only [FreeP, RangeP] at h <;> omega)], hm3.below⟩⟩
  simp only [nz1, nz2, nz3]
  refine lv 31 (.bool false) rfl rfl (run_mv rfl rfl) ?_
  simp only [nz1, nz2, nz3]
  refine lst rfl (w_value 32 (.pointer (some ⟨g4, 2, none⟩)) rfl (r_fa48_2 g4 0 rfl rfl) ?_)
  simp only [nz1, nz2, nz3]
  refine lst rfl (w_value 33 (.int .i64 (x.uid)) rfl (r_load (hm3.at 0 rfl) rfl Try.underlying3 rfl rfl rfl) ?_)
  simp only [nz1, nz2, nz3]
  refine lst rfl (w_value 34 (.bool (decide (((4294967295 : Nat) : Int) < x.uid))) rfl (z_gtr x.uid ((4294967295 : Nat) : Int) rfl rfl rfl) ?_)
  simp only [nz1, nz2, nz3]
  refine lv 35 (.bool (decide (((4294967295 : Nat) : Int) < x.uid))) rfl rfl (run_pickf rfl rfl rfl) ?_
  simp only [nz1, nz2, nz3]
  refine lv 27 (.bool (decide (((4294967295 : Nat) : Int) < x.uid))) rfl rfl (run_as rfl rfl) ?_
  simp only [nz1, nz2, nz3]
  refine wpList_nil ?_
  refine then_n (hK23 _ _ ?_)
  refine cond_d (((4294967295 : Nat) : Int) < x.uid) rfl (fun hc26 => ?_) (fun hc26 => ?_)
  · rw [decide_eq_true hc26]
    refine wp_skip ?_
    refine then_n (hK22 _ _ ?_)
    refine cond_t rfl ?_
    refine wp_seq_k (fun K27 hK27 => ?_)
    refine wp_region_lit ?_
    refine lv 2 (.bool false) rfl rfl (run_as rfl rfl) ?_
    simp only [nz1, nz2, nz3]
    refine wpList_nil ?_
    refine then_n (hK27 _ _ ?_)
    refine wp_ret ?_
    refine blk_r ?_
    refine then_r ?_
    exact ⟨rfl, .bool false, res_t rfl rfl, ⟨by rw [show decide (CheckP x) = false from decide_eq_false (by unfold CheckP; rintro (⟨_, h⟩ | ⟨_, h, _⟩) <;> simp only [FreeP, RangeP] at h <;> omega)], hm3.below⟩⟩
  rw [decide_eq_false hc26]
  refine wp_seq_k (fun K28 hK28 => ?_)
  refine wp_region_lit ?_
  refine lv 36 (.pointer (some ⟨g4, 3, none⟩)) rfl rfl (r_fa48_3 g4 0 rfl rfl) ?_
  simp only [nz1, nz2, nz3]
  refine lv 37 (.int .i64 (x.gid)) rfl rfl (r_load (hm3.at 0 rfl) rfl Try.underlying3 rfl rfl rfl) ?_
  simp only [nz1, nz2, nz3]
  refine lvb 38 (x.gid < ((0 : Nat) : Int)) rfl rfl (z_lss x.gid ((0 : Nat) : Int) rfl rfl rfl) (fun hs29 => ?_) (fun hs29 => ?_)
  · simp only [nz1, nz2, nz3]
    refine lv 39 (.bool true) rfl rfl (run_mv rfl rfl) ?_
    simp only [nz1, nz2, nz3]
    refine lst_skip 40 rfl rfl ?_
    simp only [nz1, nz2, nz3]
    refine lst_skip 41 rfl rfl ?_
    simp only [nz1, nz2, nz3]
    refine lst_skip 42 rfl rfl ?_
    simp only [nz1, nz2, nz3]
    refine lv 43 (.bool true) rfl rfl (run_pick rfl rfl rfl) ?_
    simp only [nz1, nz2, nz3]
    refine lv 27 (.bool true) rfl rfl (run_as rfl rfl) ?_
    simp only [nz1, nz2, nz3]
    refine wpList_nil ?_
    refine then_n (hK28 _ _ ?_)
    refine cond_t rfl ?_
    refine wp_skip ?_
    refine then_n (hK22 _ _ ?_)
    refine cond_t rfl ?_
    refine wp_seq_k (fun K30 hK30 => ?_)
    refine wp_region_lit ?_
    refine lv 2 (.bool false) rfl rfl (run_as rfl rfl) ?_
    simp only [nz1, nz2, nz3]
    refine wpList_nil ?_
    refine then_n (hK30 _ _ ?_)
    refine wp_ret ?_
    refine blk_r ?_
    refine then_r ?_
    exact ⟨rfl, .bool false, res_t rfl rfl, ⟨by rw [show decide (CheckP x) = false from decide_eq_false (by unfold CheckP; rintro (⟨_, h⟩ | ⟨_, h, _⟩) <;> simp only [FreeP, RangeP] at h <;> omega)], hm3.below⟩⟩
  simp only [nz1, nz2, nz3]
  refine lv 39 (.bool false) rfl rfl (run_mv rfl rfl) ?_
  simp only [nz1, nz2, nz3]
  refine lst rfl (w_value 40 (.pointer (some ⟨g4, 3, none⟩)) rfl (r_fa48_3 g4 0 rfl rfl) ?_)
  simp only [nz1, nz2, nz3]
  refine lst rfl (w_value 41 (.int .i64 (x.gid)) rfl (r_load (hm3.at 0 rfl) rfl Try.underlying3 rfl rfl rfl) ?_)
  simp only [nz1, nz2, nz3]
  refine lst rfl (w_value 42 (.bool (decide (((4294967295 : Nat) : Int) < x.gid))) rfl (z_gtr x.gid ((4294967295 : Nat) : Int) rfl rfl rfl) ?_)
  simp only [nz1, nz2, nz3]
  refine lv 43 (.bool (decide (((4294967295 : Nat) : Int) < x.gid))) rfl rfl (run_pickf rfl rfl rfl) ?_
  simp only [nz1, nz2, nz3]
  refine lv 27 (.bool (decide (((4294967295 : Nat) : Int) < x.gid))) rfl rfl (run_as rfl rfl) ?_
  simp only [nz1, nz2, nz3]
  refine wpList_nil ?_
  refine then_n (hK28 _ _ ?_)
  refine cond_d (((4294967295 : Nat) : Int) < x.gid) rfl (fun hc31 => ?_) (fun hc31 => ?_)
  · rw [decide_eq_true hc31]
    refine wp_skip ?_
    refine then_n (hK22 _ _ ?_)
    refine cond_t rfl ?_
    refine wp_seq_k (fun K32 hK32 => ?_)
    refine wp_region_lit ?_
    refine lv 2 (.bool false) rfl rfl (run_as rfl rfl) ?_
    simp only [nz1, nz2, nz3]
    refine wpList_nil ?_
    refine then_n (hK32 _ _ ?_)
    refine wp_ret ?_
    refine blk_r ?_
    refine then_r ?_
    exact ⟨rfl, .bool false, res_t rfl rfl, ⟨by rw [show decide (CheckP x) = false from decide_eq_false (by unfold CheckP; rintro (⟨_, h⟩ | ⟨_, h, _⟩) <;> simp only [FreeP, RangeP] at h <;> omega)], hm3.below⟩⟩
  rw [decide_eq_false hc31]
  refine wp_region_lit ?_
  refine lv 44 (.pointer (some ⟨g4, 4, none⟩)) rfl rfl (r_fa48_4 g4 0 rfl rfl) ?_
  simp only [nz1, nz2, nz3]
  refine lv 45 (.int .i64 (x.time)) rfl rfl (r_load (hm3.at 0 rfl) rfl Try.underlying3 rfl rfl rfl) ?_
  simp only [nz1, nz2, nz3]
  refine lv 46 (.bool (decide (x.time < ((0 : Nat) : Int)))) rfl rfl (z_lss x.time ((0 : Nat) : Int) rfl rfl rfl) ?_
  simp only [nz1, nz2, nz3]
  refine lv 27 (.bool (decide (x.time < ((0 : Nat) : Int)))) rfl rfl (run_as rfl rfl) ?_
  simp only [nz1, nz2, nz3]
  refine wpList_nil ?_
  refine then_n (hK22 _ _ ?_)
  refine cond_d (x.time < ((0 : Nat) : Int)) rfl (fun hc33 => ?_) (fun hc33 => ?_)
  · rw [decide_eq_true hc33]
    refine wp_seq_k (fun K34 hK34 => ?_)
    refine wp_region_lit ?_
    refine lv 2 (.bool false) rfl rfl (run_as rfl rfl) ?_
    simp only [nz1, nz2, nz3]
    refine wpList_nil ?_
    refine then_n (hK34 _ _ ?_)
    refine wp_ret ?_
    refine blk_r ?_
    refine then_r ?_
    exact ⟨rfl, .bool false, res_t rfl rfl, ⟨by rw [show decide (CheckP x) = false from decide_eq_false (by unfold CheckP; rintro (⟨_, h⟩ | ⟨_, h, _⟩) <;> simp only [FreeP, RangeP] at h <;> omega)], hm3.below⟩⟩
  rw [decide_eq_false hc33]
  refine wp_seq_k (fun K35 hK35 => ?_)
  refine wp_seq_k (fun K36 hK36 => ?_)
  refine wp_region_lit ?_
  refine lv 48 (.pointer (some ⟨g4, 5, none⟩)) rfl rfl (r_fa48_5 g4 0 rfl rfl) ?_
  simp only [nz1, nz2, nz3]
  refine lv 49 (.int .i64 (x.links)) rfl rfl (r_load (hm3.at 0 rfl) rfl Try.underlying3 rfl rfl rfl) ?_
  simp only [nz1, nz2, nz3]
  refine lvb 50 (x.links < ((1 : Nat) : Int)) rfl rfl (z_lss x.links ((1 : Nat) : Int) rfl rfl rfl) (fun hs37 => ?_) (fun hs37 => ?_)
  · simp only [nz1, nz2, nz3]
    refine lv 51 (.bool true) rfl rfl (run_mv rfl rfl) ?_
    simp only [nz1, nz2, nz3]
    refine lst_skip 52 rfl rfl ?_
    simp only [nz1, nz2, nz3]
    refine lst_skip 53 rfl rfl ?_
    simp only [nz1, nz2, nz3]
    refine lst_skip 54 rfl rfl ?_
    simp only [nz1, nz2, nz3]
    refine lv 55 (.bool true) rfl rfl (run_pick rfl rfl rfl) ?_
    simp only [nz1, nz2, nz3]
    refine lv 47 (.bool true) rfl rfl (run_as rfl rfl) ?_
    simp only [nz1, nz2, nz3]
    refine wpList_nil ?_
    refine then_n (hK36 _ _ ?_)
    refine cond_t rfl ?_
    refine wp_skip ?_
    refine then_n (hK35 _ _ ?_)
    refine cond_t rfl ?_
    refine wp_seq_k (fun K38 hK38 => ?_)
    refine wp_region_lit ?_
    refine lv 2 (.bool false) rfl rfl (run_as rfl rfl) ?_
    simp only [nz1, nz2, nz3]
    refine wpList_nil ?_
    refine then_n (hK38 _ _ ?_)
    refine wp_ret ?_
    refine blk_r ?_
    refine then_r ?_
    exact ⟨rfl, .bool false, res_t rfl rfl, ⟨by rw [show decide (CheckP x) = false from decide_eq_false (by unfold CheckP; rintro (⟨_, h⟩ | ⟨_, h, _⟩) <;> simp only [FreeP, RangeP] at h <;> omega)], hm3.below⟩⟩
  simp only [nz1, nz2, nz3]
  refine lv 51 (.bool false) rfl rfl (run_mv rfl rfl) ?_
  simp only [nz1, nz2, nz3]
  refine lst rfl (w_value 52 (.pointer (some ⟨g4, 5, none⟩)) rfl (r_fa48_5 g4 0 rfl rfl) ?_)
  simp only [nz1, nz2, nz3]
  refine lst rfl (w_value 53 (.int .i64 (x.links)) rfl (r_load (hm3.at 0 rfl) rfl Try.underlying3 rfl rfl rfl) ?_)
  simp only [nz1, nz2, nz3]
  refine lst rfl (w_value 54 (.bool (decide (((2048 : Nat) : Int) < x.links))) rfl (z_gtr x.links ((2048 : Nat) : Int) rfl rfl rfl) ?_)
  simp only [nz1, nz2, nz3]
  refine lv 55 (.bool (decide (((2048 : Nat) : Int) < x.links))) rfl rfl (run_pickf rfl rfl rfl) ?_
  simp only [nz1, nz2, nz3]
  refine lv 47 (.bool (decide (((2048 : Nat) : Int) < x.links))) rfl rfl (run_as rfl rfl) ?_
  simp only [nz1, nz2, nz3]
  refine wpList_nil ?_
  refine then_n (hK36 _ _ ?_)
  refine cond_d (((2048 : Nat) : Int) < x.links) rfl (fun hc39 => ?_) (fun hc39 => ?_)
  · rw [decide_eq_true hc39]
    refine wp_skip ?_
    refine then_n (hK35 _ _ ?_)
    refine cond_t rfl ?_
    refine wp_seq_k (fun K40 hK40 => ?_)
    refine wp_region_lit ?_
    refine lv 2 (.bool false) rfl rfl (run_as rfl rfl) ?_
    simp only [nz1, nz2, nz3]
    refine wpList_nil ?_
    refine then_n (hK40 _ _ ?_)
    refine wp_ret ?_
    refine blk_r ?_
    refine then_r ?_
    exact ⟨rfl, .bool false, res_t rfl rfl, ⟨by rw [show decide (CheckP x) = false from decide_eq_false (by unfold CheckP; rintro (⟨_, h⟩ | ⟨_, h, _⟩) <;> simp only [FreeP, RangeP] at h <;> omega)], hm3.below⟩⟩
  rw [decide_eq_false hc39]
  refine wp_seq_k (fun K41 hK41 => ?_)
  refine wp_region_lit ?_
  refine lv 56 (.pointer (some ⟨g4, 6, none⟩)) rfl rfl (r_fa48_6 g4 0 rfl rfl) ?_
  simp only [nz1, nz2, nz3]
  refine lv 57 (.int .i64 (x.size)) rfl rfl (r_load (hm3.at 0 rfl) rfl Try.underlying3 rfl rfl rfl) ?_
  simp only [nz1, nz2, nz3]
  refine lvb 58 (x.size < ((0 : Nat) : Int)) rfl rfl (z_lss x.size ((0 : Nat) : Int) rfl rfl rfl) (fun hs42 => ?_) (fun hs42 => ?_)
  · simp only [nz1, nz2, nz3]
    refine lv 59 (.bool true) rfl rfl (run_mv rfl rfl) ?_
    simp only [nz1, nz2, nz3]
    refine lst_skip 60 rfl rfl ?_
    simp only [nz1, nz2, nz3]
    refine lst_skip 61 rfl rfl ?_
    simp only [nz1, nz2, nz3]
    refine lst_skip 62 rfl rfl ?_
    simp only [nz1, nz2, nz3]
    refine lv 63 (.bool true) rfl rfl (run_pick rfl rfl rfl) ?_
    simp only [nz1, nz2, nz3]
    refine lv 47 (.bool true) rfl rfl (run_as rfl rfl) ?_
    simp only [nz1, nz2, nz3]
    refine wpList_nil ?_
    refine then_n (hK41 _ _ ?_)
    refine cond_t rfl ?_
    refine wp_skip ?_
    refine then_n (hK35 _ _ ?_)
    refine cond_t rfl ?_
    refine wp_seq_k (fun K43 hK43 => ?_)
    refine wp_region_lit ?_
    refine lv 2 (.bool false) rfl rfl (run_as rfl rfl) ?_
    simp only [nz1, nz2, nz3]
    refine wpList_nil ?_
    refine then_n (hK43 _ _ ?_)
    refine wp_ret ?_
    refine blk_r ?_
    refine then_r ?_
    exact ⟨rfl, .bool false, res_t rfl rfl, ⟨by rw [show decide (CheckP x) = false from decide_eq_false (by unfold CheckP; rintro (⟨_, h⟩ | ⟨_, h, _⟩) <;> simp only [FreeP, RangeP] at h <;> omega)], hm3.below⟩⟩
  simp only [nz1, nz2, nz3]
  refine lv 59 (.bool false) rfl rfl (run_mv rfl rfl) ?_
  simp only [nz1, nz2, nz3]
  refine lst rfl (w_value 60 (.pointer (some ⟨g4, 6, none⟩)) rfl (r_fa48_6 g4 0 rfl rfl) ?_)
  simp only [nz1, nz2, nz3]
  refine lst rfl (w_value 61 (.int .i64 (x.size)) rfl (r_load (hm3.at 0 rfl) rfl Try.underlying3 rfl rfl rfl) ?_)
  simp only [nz1, nz2, nz3]
  refine lst rfl (w_value 62 (.bool (decide (((14592 : Nat) : Int) < x.size))) rfl (z_gtr x.size ((14592 : Nat) : Int) rfl rfl rfl) ?_)
  simp only [nz1, nz2, nz3]
  refine lv 63 (.bool (decide (((14592 : Nat) : Int) < x.size))) rfl rfl (run_pickf rfl rfl rfl) ?_
  simp only [nz1, nz2, nz3]
  refine lv 47 (.bool (decide (((14592 : Nat) : Int) < x.size))) rfl rfl (run_as rfl rfl) ?_
  simp only [nz1, nz2, nz3]
  refine wpList_nil ?_
  refine then_n (hK41 _ _ ?_)
  refine cond_d (((14592 : Nat) : Int) < x.size) rfl (fun hc44 => ?_) (fun hc44 => ?_)
  · rw [decide_eq_true hc44]
    refine wp_skip ?_
    refine then_n (hK35 _ _ ?_)
    refine cond_t rfl ?_
    refine wp_seq_k (fun K45 hK45 => ?_)
    refine wp_region_lit ?_
    refine lv 2 (.bool false) rfl rfl (run_as rfl rfl) ?_
    simp only [nz1, nz2, nz3]
    refine wpList_nil ?_
    refine then_n (hK45 _ _ ?_)
    refine wp_ret ?_
    refine blk_r ?_
    refine then_r ?_
    exact ⟨rfl, .bool false, res_t rfl rfl, ⟨by rw [show decide (CheckP x) = false from decide_eq_false (by unfold CheckP; rintro (⟨_, h⟩ | ⟨_, h, _⟩) <;> simp only [FreeP, RangeP] at h <;> omega)], hm3.below⟩⟩
  rw [decide_eq_false hc44]
  have hm46 := hm3.drew
  refine wp_region_held_drew (S := fun w' => Mem.Blk w' g4 (#[.int .i64 (x.kind), .int .i64 (x.mode), .int .i64 (x.uid), .int .i64 (x.gid), .int .i64 (x.time), .int .i64 (x.links), .int .i64 (x.size), v]) 48) (by kernel_rfl) (hm46.at 0 rfl) (fun _ => ?_)
  generalize w2.drew = w47 at *
  refine tk 0 64 (.pointer (some ⟨g4, 7, none⟩)) rfl rfl (fun _ hw => r_fa48_7 g4 0 rfl rfl) (hm46.at 0 rfl) ?_
  simp only [nz1, nz2, nz3]
  refine tk 1 65 (v) rfl rfl (fun _ hw => r_load hw rfl Try.underlying46 rfl rfl rfl) (hm46.at 0 rfl) ?_
  simp only [nz1, nz2, nz3]
  refine tk 2 66 (.int .i64 ((x.blocks.length : Nat) : Int)) rfl rfl (fun _ hw => s_len hb rfl Try.underlying46 rfl) (hm46.at 0 rfl) ?_
  simp only [nz1, nz2, nz3]
  refine tk 3 67 (.pointer (some ⟨g4, 6, none⟩)) rfl rfl (fun _ hw => r_fa48_6 g4 0 rfl rfl) (hm46.at 0 rfl) ?_
  simp only [nz1, nz2, nz3]
  refine tk 4 68 (.int .i64 (x.size)) rfl rfl (fun _ hw => r_load hw rfl Try.underlying3 rfl rfl rfl) (hm46.at 0 rfl) ?_
  simp only [nz1, nz2, nz3]
  refine one_ready 5 (by kernel_rfl) ?_
  refine opd rfl (wanted_none rfl) (m_call hm46 69 (.int .i64 (((secs x.size.toNat) : Nat) : Int)) rfl (run_Sectors rfl rfl) (sectors_any x.size (by omega) (by omega) _) (fun w48 (hm49 : Mm none w w48 [.blk g4 #[.int .i64 (x.kind), .int .i64 (x.mode), .int .i64 (x.uid), .int .i64 (x.gid), .int .i64 (x.time), .int .i64 (x.links), .int .i64 (x.size), v] 48]) => ?_))
  refine ⟨hm49.at 0 rfl, ?_⟩
  simp only [nz1, nz2, nz3]
  refine tk 6 70 (.bool (decide (¬ x.blocks.length = (secs x.size.toNat)))) rfl rfl (fun _ hw => r_neq x.blocks.length (secs x.size.toNat) rfl rfl rfl) (hm49.at 0 rfl) ?_
  simp only [nz1, nz2, nz3]
  refine one_ready 7 (by kernel_rfl) ?_
  refine opd rfl (wanted_none rfl) (w_value 47 (.bool (decide (¬ x.blocks.length = (secs x.size.toNat)))) rfl (run_as rfl rfl) ⟨hm49.at 0 rfl, ?_⟩)
  simp only [nz1, nz2, nz3]
  refine wpAnyH_done (by kernel_rfl) ?_ _
  refine then_n (hK35 _ _ ?_)
  refine cond_d (¬ x.blocks.length = (secs x.size.toNat)) rfl (fun hc50 => ?_) (fun hc50 => ?_)
  · rw [decide_eq_true hc50]
    refine wp_seq_k (fun K51 hK51 => ?_)
    refine wp_region_lit ?_
    refine lv 2 (.bool false) rfl rfl (run_as rfl rfl) ?_
    simp only [nz1, nz2, nz3]
    refine wpList_nil ?_
    refine then_n (hK51 _ _ ?_)
    refine wp_ret ?_
    refine blk_r ?_
    refine then_r ?_
    exact ⟨rfl, .bool false, res_t rfl rfl, ⟨by rw [show decide (CheckP x) = false from decide_eq_false (by unfold CheckP; rintro (⟨_, h⟩ | ⟨_, h, _⟩) <;> simp only [FreeP, RangeP] at h <;> omega)], hm49.below⟩⟩
  rw [decide_eq_false hc50]
  refine wp_skip ?_
  refine blk_n ?_
  refine then_n (hK11 _ _ ?_)
  refine wp_seq_k (fun K52 hK52 => ?_)
  refine wp_seq_k (fun K53 hK53 => ?_)
  refine wp_region_lit ?_
  refine lv 71 (.pointer (some ⟨g4, 7, none⟩)) rfl rfl (r_fa48_7 g4 0 rfl rfl) ?_
  simp only [nz1, nz2, nz3]
  refine lv 72 (v) rfl rfl (r_load (hm49.at 0 rfl) rfl Try.underlying46 rfl rfl rfl) ?_
  simp only [nz1, nz2, nz3]
  refine lv 73 (.int .i64 ((x.blocks.length : Nat) : Int)) rfl rfl (s_len hb rfl Try.underlying46 rfl) ?_
  simp only [nz1, nz2, nz3]
  refine lv 74 (.int .i64 0) rfl rfl (run_mv rfl rfl) ?_
  simp only [nz1, nz2, nz3]
  refine wpList_nil ?_
  have hsec : secs x.size.toNat ≤ 57 := by unfold secs; omega
  refine then_n (hK53 _ _ ?_)
  refine wp_block ?_
  refine wp_loop_n (fun n' a' w' => ∃ (i : Nat) (u0 : Nat → Value), n' = x.blocks.length - i ∧ (i ≤ x.blocks.length) ∧ (∀ k, k < i → 0 ≤ x.blocks.getD k 0 ∧ x.blocks.getD k 0 < 2048) ∧ a' = ⟨#[.agg #[.int .i64 (x.kind), .int .i64 (x.mode), .int .i64 (x.uid), .int .i64 (x.gid), .int .i64 (x.time), .int .i64 (x.links), .int .i64 (x.size), v], .pointer (some ⟨g4, 0, none⟩), u0 0, undef, u0 1, .pointer (some ⟨g4, 0, none⟩), .int .i64 (x.kind), .bool false, undef, undef, .bool false, .pointer (some ⟨g4, 0, none⟩), .int .i64 (x.kind), .bool false, .bool false, .pointer (some ⟨g4, 0, none⟩), .int .i64 (x.kind), .bool false, .bool false, .pointer (some ⟨g4, 1, none⟩), .int .i64 (x.mode), .bool false, .bool false, .pointer (some ⟨g4, 1, none⟩), .int .i64 (x.mode), .bool false, .bool false, .bool false, .pointer (some ⟨g4, 2, none⟩), .int .i64 (x.uid), .bool false, .bool false, .pointer (some ⟨g4, 2, none⟩), .int .i64 (x.uid), .bool false, .bool false, .pointer (some ⟨g4, 3, none⟩), .int .i64 (x.gid), .bool false, .bool false, .pointer (some ⟨g4, 3, none⟩), .int .i64 (x.gid), .bool false, .bool false, .pointer (some ⟨g4, 4, none⟩), .int .i64 (x.time), .bool false, .bool false, .pointer (some ⟨g4, 5, none⟩), .int .i64 (x.links), .bool false, .bool false, .pointer (some ⟨g4, 5, none⟩), .int .i64 (x.links), .bool false, .bool false, .pointer (some ⟨g4, 6, none⟩), .int .i64 (x.size), .bool false, .bool false, .pointer (some ⟨g4, 6, none⟩), .int .i64 (x.size), .bool false, .bool false, .pointer (some ⟨g4, 7, none⟩), v, .int .i64 ((x.blocks.length : Nat) : Int), .pointer (some ⟨g4, 6, none⟩), .int .i64 (x.size), .int .i64 (((secs x.size.toNat) : Nat) : Int), .bool false, .pointer (some ⟨g4, 7, none⟩), v, .int .i64 ((x.blocks.length : Nat) : Int), .int .i64 ((i : Nat) : Int), u0 2, u0 3, u0 4, u0 5, u0 6, u0 7, u0 8, u0 9, u0 10, u0 11], []⟩ ∧ Mm none w w' [.blk g4 #[.int .i64 (x.kind), .int .i64 (x.mode), .int .i64 (x.uid), .int .i64 (x.gid), .int .i64 (x.time), .int .i64 (x.links), .int .i64 (x.size), v] 48]) ⟨0, (fun qq => List.getD [.bool false, undef, undef, undef, undef, undef, undef, undef, undef, undef, undef, undef] qq undef), rfl, (Nat.zero_le _), (fun k hk => by omega), rfl, hm49⟩ ?_
  clear hm49
  rintro _ _ w54 ⟨i, u0, hn0, hi, hall, rfl, hm55⟩ R56 hR56
  refine wp_seq_k (fun K57 hK57 => ?_)
  refine wp_region_lit ?_
  refine lv 75 (.bool (decide (i < x.blocks.length))) rfl rfl (r_lss i x.blocks.length rfl rfl rfl) ?_
  simp only [nz1, nz2, nz3]
  refine wpList_nil ?_
  refine then_n (hK57 _ _ ?_)
  refine wp_seq_k (fun K58 hK58 => ?_)
  refine cond_d (i < x.blocks.length) rfl (fun hc59 => ?_) (fun hc59 => ?_)
  rotate_left
  · rw [decide_eq_false hc59]
    obtain rfl : i = x.blocks.length := by omega
    refine wp_exit ?_
    refine then_x ?_
    refine then_x ?_
    refine blk_x ?_
    refine then_n (hK52 _ _ ?_)
    refine wp_seq_k (fun K70 hK70 => ?_)
    refine wp_region_lit ?_
    refine lv 2 (.bool true) rfl rfl (run_as rfl rfl) ?_
    simp only [nz1, nz2, nz3]
    refine wpList_nil ?_
    refine then_n (hK70 _ _ ?_)
    refine wp_ret ?_
    exact ⟨rfl, .bool true, res_t rfl rfl, ⟨by rw [show decide (CheckP x) = true from decide_eq_true (.inr ⟨by omega, by unfold RangeP; omega, blk_good hall⟩)], hm55.below⟩⟩
  rw [decide_eq_true hc59]
  refine wp_skip ?_
  refine then_n (hK58 _ _ ?_)
  refine wp_seq_k (fun K60 hK60 => ?_)
  refine wp_block ?_
  refine wp_seq_k (fun K61 hK61 => ?_)
  refine wp_region_lit ?_
  obtain ⟨ge62, oe63, ce64, rfl⟩ := Rd.openz (hb.below hm55.below) (by omega)
  refine lv 76 (.pointer (some ⟨ge62, (oe63 + i * 1), none⟩)) rfl rfl (r_ixS ge62 oe63 i x.blocks.length ce64 1 (by omega) Try.underlying46 (by exact sz_int) rfl rfl rfl) ?_
  simp only [nz1, nz2, nz3]
  refine lv 77 (.int .i64 (x.blocks.getD i 0)) rfl rfl (r_cellw (cell_el (eo := 0) (Rd.cells (hb.below hm55.below)) (iv_at x.blocks i (by omega))) Try.underlying3 rfl rfl rfl) ?_
  simp only [nz1, nz2, nz3]
  refine lv 4 (.int .i64 (x.blocks.getD i 0)) rfl rfl (run_as rfl rfl) ?_
  simp only [nz1, nz2, nz3]
  refine wpList_nil ?_
  refine then_n (hK61 _ _ ?_)
  refine wp_seq_k (fun K65 hK65 => ?_)
  refine wp_region_lit ?_
  refine lv 78 (.int .i64 (x.blocks.getD i 0)) rfl rfl (run_mv rfl rfl) ?_
  simp only [nz1, nz2, nz3]
  refine lvb 79 (x.blocks.getD i 0 < ((0 : Nat) : Int)) rfl rfl (z_lss (x.blocks.getD i 0) ((0 : Nat) : Int) rfl rfl rfl) (fun hs66 => ?_) (fun hs66 => ?_)
  · simp only [nz1, nz2, nz3]
    refine lv 80 (.bool true) rfl rfl (run_mv rfl rfl) ?_
    simp only [nz1, nz2, nz3]
    refine lst_skip 81 rfl rfl ?_
    simp only [nz1, nz2, nz3]
    refine lst_skip 82 rfl rfl ?_
    simp only [nz1, nz2, nz3]
    refine lv 83 (.bool true) rfl rfl (run_pick rfl rfl rfl) ?_
    simp only [nz1, nz2, nz3]
    refine wpList_nil ?_
    refine then_n (hK65 _ _ ?_)
    refine cond_t rfl ?_
    refine wp_seq_k (fun K67 hK67 => ?_)
    refine wp_region_lit ?_
    refine lv 2 (.bool false) rfl rfl (run_as rfl rfl) ?_
    simp only [nz1, nz2, nz3]
    refine wpList_nil ?_
    refine then_n (hK67 _ _ ?_)
    refine wp_ret ?_
    refine blk_r ?_
    refine then_r ?_
    refine then_r ?_
    refine blk_r ?_
    refine then_r ?_
    exact ⟨rfl, .bool false, res_t rfl rfl, ⟨by rw [show decide (CheckP x) = false from decide_eq_false (by unfold CheckP; rintro (⟨h, _⟩ | ⟨_, _, h⟩); omega; exact blk_bad (i := i) (by omega) (by omega) h)], hm55.below⟩⟩
  simp only [nz1, nz2, nz3]
  refine lv 80 (.bool false) rfl rfl (run_mv rfl rfl) ?_
  simp only [nz1, nz2, nz3]
  refine lst rfl (w_value 81 (.int .i64 (x.blocks.getD i 0)) rfl (run_mv rfl rfl) ?_)
  simp only [nz1, nz2, nz3]
  refine lst rfl (w_value 82 (.bool (decide (((2048 : Nat) : Int) ≤ x.blocks.getD i 0))) rfl (z_geq (x.blocks.getD i 0) ((2048 : Nat) : Int) rfl rfl rfl) ?_)
  simp only [nz1, nz2, nz3]
  refine lv 83 (.bool (decide (((2048 : Nat) : Int) ≤ x.blocks.getD i 0))) rfl rfl (run_pickf rfl rfl rfl) ?_
  simp only [nz1, nz2, nz3]
  refine wpList_nil ?_
  refine then_n (hK65 _ _ ?_)
  refine cond_d (((2048 : Nat) : Int) ≤ x.blocks.getD i 0) rfl (fun hc68 => ?_) (fun hc68 => ?_)
  rotate_left
  · rw [decide_eq_false hc68]
    refine wp_skip ?_
    refine blk_n ?_
    refine then_n (hK60 _ _ ?_)
    refine wp_region_lit ?_
    refine lv 84 (.int .i64 (((i + 1) : Nat) : Int)) rfl rfl (r_add i 1 (show (i + 1) < 9223372036854775808 from by omega) rfl rfl rfl) ?_
    simp only [nz1, nz2, nz3]
    refine lv 74 (.int .i64 (((i + 1) : Nat) : Int)) rfl rfl (run_mv rfl rfl) ?_
    simp only [nz1, nz2, nz3]
    refine wpList_nil ?_
    refine then_n (hR56 _ _ _ ⟨(i + 1), (fun qq => List.getD [u0 0, .int .i64 (x.blocks.getD i 0), .bool true, .pointer (some ⟨ge62, (oe63 + i * 1), none⟩), .int .i64 (x.blocks.getD i 0), .int .i64 (x.blocks.getD i 0), .bool false, .bool false, .int .i64 (x.blocks.getD i 0), .bool false, .bool false, .int .i64 (((i + 1) : Nat) : Int)] qq undef), rfl, (by omega), (fun k hk => by by_cases e : k = i; (subst e; omega); exact hall k (by omega)), rfl, hm55⟩ ?_)
    omega
  rw [decide_eq_true hc68]
  refine wp_seq_k (fun K69 hK69 => ?_)
  refine wp_region_lit ?_
  refine lv 2 (.bool false) rfl rfl (run_as rfl rfl) ?_
  simp only [nz1, nz2, nz3]
  refine wpList_nil ?_
  refine then_n (hK69 _ _ ?_)
  refine wp_ret ?_
  refine blk_r ?_
  refine then_r ?_
  refine then_r ?_
  refine blk_r ?_
  refine then_r ?_
  exact ⟨rfl, .bool false, res_t rfl rfl, ⟨by rw [show decide (CheckP x) = false from decide_eq_false (by unfold CheckP; rintro (⟨h, _⟩ | ⟨_, _, h⟩); omega; exact blk_bad (i := i) (by omega) (by omega) h)], hm55.below⟩⟩
end Go.Proofs.Ytmammofbgllceaa.Nod
