/- Layer 4: words out of bytes, and back; differences, doubles. -/
import Derived.Test.YtcemcnbhnedaaaaScT
namespace Go.Proofs.Ytcemcnbhnedaaaa.Fld
open Go.RowKit Go.Shelf
open Go.Proofs.Ytcemcnbhnedaaaa.Num (val up val_congr val_add val_lt val_up val_digits val_word)
open Go.Proofs.Ytcemcnbhnedaaaa.Arr Go.Proofs.Ytcemcnbhnedaaaa.Sym Go.Proofs.Ytcemcnbhnedaaaa.Sx

set_option maxHeartbeats 1000000 in
set_option maxRecDepth 100000 in
theorem order_any  (w : World) : Calls Try.prog 21 #[] w (fun e w' => e = .returned (.agg (ws LL)) ∧ Below w.heap.size w w') := by
  go_enter Try.func21, Try.ntmps21
  have hm0 := Mm.nil w
  refine wp_seq_k (fun K1 hK1 => ?_)
  refine wp_region_lit ?_
  refine lst (wanted_none rfl) (m_alloc (c := ws 0) (T := 37) hm0 0 rfl (al_W rfl) (fun g2 w3 (hm4 : Mm w w3 [(g2, ws 0, 37)]) => ?_))
  simp only [List.setIfInBounds_toArray, List.set_cons_zero]
  refine wpList_nil ?_
  refine then_n (hK1 _ _ ?_)
  refine wp_seq_k (fun K5 hK5 => ?_)
  refine wp_region_lit ?_
  refine lst (wanted_none rfl) (w_value 1 (.agg (ws LL)) rfl (by unfold execOp; go_simp; rfl) ?_)
  simp only [List.setIfInBounds_toArray, List.set_cons_zero, List.set_cons_succ]
  refine lst (wanted_none rfl) (m_store 0 37 _ _ (ws LL) (old := ws 0) hm4 rfl rfl rfl rfl rfl (by rw [ws_sz]; exact info_w) ((ws_sz _).trans (ws_sz _).symm) (ws_one _) (fun w6 (hm7 : Mm w w6 [(g2, ws LL, 37)]) => ?_))
  refine wpList_nil ?_
  refine then_n (hK5 _ _ ?_)
  refine wp_ret ?_
  exact ⟨rfl, .agg (ws LL), res_c rfl rfl (hm7.at 0 rfl) Try.underlying37 rfl (by rw [ws_sz]; exact info_w), ⟨rfl, hm7.below⟩⟩
set_option maxHeartbeats 1000000 in
set_option maxRecDepth 100000 in
theorem load_any (n : Nat) (w : World) : Calls Try.prog 17 #[.agg (bs n)] w (fun e w' => e = .returned (.agg (ws n)) ∧ Below w.heap.size w w') := by
  go_enter Try.func17, Try.ntmps17
  have hm0 := Mm.nil w
  refine wp_seq_k (fun K1 hK1 => ?_)
  refine wp_region_lit ?_
  refine lst (wanted_none rfl) (m_alloc (c := bs n) (T := 23) hm0 1 rfl (run_box rfl rfl) (fun g2 w3 (hm4 : Mm w w3 [(g2, bs n, 23)]) => ?_))
  simp only [List.setIfInBounds_toArray, List.set_cons_zero, List.set_cons_succ]
  refine lst (wanted_none rfl) (m_alloc (c := ws 0) (T := 37) hm4 2 rfl (al_W rfl) (fun g5 w6 (hm7 : Mm w w6 [(g2, bs n, 23), (g5, ws 0, 37)]) => ?_))
  simp only [List.setIfInBounds_toArray, List.set_cons_zero, List.set_cons_succ]
  refine wpList_nil ?_
  refine then_n (hK1 _ _ ?_)
  refine wp_seq_k (fun K8 hK8 => ?_)
  refine wp_region_lit ?_
  refine lst (wanted_none rfl) (m_alloc (c := ws 0) (T := 37) hm7 3 rfl (al_W rfl) (fun g9 w10 (hm11 : Mm w w10 [(g2, bs n, 23), (g5, ws 0, 37), (g9, ws 0, 37)]) => ?_))
  simp only [List.setIfInBounds_toArray, List.set_cons_zero, List.set_cons_succ]
  refine wpList_nil ?_
  refine then_n (hK8 _ _ ?_)
  refine wp_seq_k (fun K12 hK12 => ?_)
  refine wp_seq_k (fun K13 hK13 => ?_)
  refine wp_region_lit ?_
  refine lst (wanted_none rfl) (w_value 4 (.int .i64 0) rfl (run_as rfl rfl) ?_)
  simp only [List.setIfInBounds_toArray, List.set_cons_zero, List.set_cons_succ]
  refine wpList_nil ?_
  have hm14 : Mm w w10 [(g2, bs n, 23), (g5, ws 0, 37), (g9, rowOf .u64 (pl n 0 8) 4, 37)] := by rw [show (rowOf .u64 (pl n 0 8) 4 : Array Value) = ws 0 from pl_none n]; exact hm11
  refine then_n (hK13 _ _ ?_)
  refine wp_block ?_
  refine wp_loop_n (fun n' a' w' => ∃ (i : Nat) (u0 : Nat → Value), n' = 4 - i ∧ (i ≤ 4) ∧ a' = ⟨#[.agg (bs n), .pointer (some ⟨g2, 0, none⟩), .pointer (some ⟨g5, 0, none⟩), .pointer (some ⟨g9, 0, none⟩), .int .i64 ((i : Nat) : Int), u0 0, u0 1, u0 2, u0 3, u0 4, u0 5, u0 6, u0 7, u0 8, u0 9, u0 10, u0 11, u0 12, u0 13, u0 14, u0 15, u0 16, u0 17, u0 18, u0 19, u0 20, u0 21, u0 22, undef], []⟩ ∧ Mm w w' [(g2, bs n, 23), (g5, ws 0, 37), (g9, rowOf .u64 (pl n i 8) 4, 37)]) ⟨0, (fun qq => List.getD [undef, undef, undef, undef, undef, undef, undef, undef, undef, undef, undef, undef, undef, undef, undef, undef, undef, undef, undef, undef, undef, undef, undef] qq undef), rfl, (by omega), rfl, hm14⟩ ?_
  clear hm14
  rintro _ _ w15 ⟨i, u0, hn0, hi, rfl, hm16⟩ R17 hR17
  refine wp_seq_k (fun K18 hK18 => ?_)
  refine wp_seq_k (fun K19 hK19 => ?_)
  refine wp_region_lit ?_
  refine lst (wanted_none rfl) (w_value 6 (.int .i64 ((i : Nat) : Int)) rfl (run_mv rfl rfl) ?_)
  simp only [List.setIfInBounds_toArray, List.set_cons_zero, List.set_cons_succ]
  refine lst (wanted_none rfl) (w_value 7 (.bool (decide (i < 4))) rfl (r_lss i 4 rfl rfl rfl) ?_)
  simp only [List.setIfInBounds_toArray, List.set_cons_zero, List.set_cons_succ]
  refine wpList_nil ?_
  refine then_n (hK19 _ _ ?_)
  refine cond_d (i < 4) rfl (fun hc20 => ?_) (fun hc20 => ?_)
  · refine wp_skip ?_
    refine then_n (hK18 _ _ ?_)
    refine wp_seq_k (fun K21 hK21 => ?_)
    refine wp_block ?_
    refine wp_seq_k (fun K22 hK22 => ?_)
    refine wp_region_lit ?_
    refine lst (wanted_none rfl) (w_value 5 (.int .i64 7) rfl (run_as rfl rfl) ?_)
    simp only [List.setIfInBounds_toArray, List.set_cons_zero, List.set_cons_succ]
    refine wpList_nil ?_
    refine then_n (hK22 _ _ ?_)
    refine wp_block ?_
    refine wp_loop_n (fun n' a' w' => ∃ (k : Nat) (z : Int) (u1 : Nat → Value), n' = k ∧ (k ≤ 8) ∧ (z = (k : Int) - 1) ∧ a' = ⟨#[.agg (bs n), .pointer (some ⟨g2, 0, none⟩), .pointer (some ⟨g5, 0, none⟩), .pointer (some ⟨g9, 0, none⟩), .int .i64 ((i : Nat) : Int), .int .i64 (z), .int .i64 ((i : Nat) : Int), .bool (decide (i < 4)), u0 3, u0 4, u1 0, u1 1, u1 2, u1 3, u1 4, u1 5, u1 6, u1 7, u1 8, u1 9, u1 10, u1 11, u1 12, u1 13, u1 14, u1 15, u1 16, u1 17, undef], []⟩ ∧ Mm w w' [(g2, bs n, 23), (g5, ws 0, 37), (g9, rowOf .u64 (pl n i k) 4, 37)]) ⟨8, 7, (fun qq => List.getD [u0 5, u0 6, u0 7, u0 8, u0 9, u0 10, u0 11, u0 12, u0 13, u0 14, u0 15, u0 16, u0 17, u0 18, u0 19, u0 20, u0 21, u0 22] qq undef), rfl, (by omega), (by decide), rfl, hm16⟩ ?_
    clear hm16
    rintro _ _ w23 ⟨k, z, u1, hn1, hk, hz, rfl, hm24⟩ R25 hR25
    refine wp_seq_k (fun K26 hK26 => ?_)
    refine wp_seq_k (fun K27 hK27 => ?_)
    refine wp_region_lit ?_
    refine lst (wanted_none rfl) (w_value 10 (.int .i64 (z)) rfl (run_mv rfl rfl) ?_)
    simp only [List.setIfInBounds_toArray, List.set_cons_zero, List.set_cons_succ]
    refine lst (wanted_none rfl) (w_value 11 (.bool (decide (((0 : Nat) : Int) ≤ z))) rfl (r_geqZ (z) (((0 : Nat) : Int)) rfl rfl rfl) ?_)
    simp only [List.setIfInBounds_toArray, List.set_cons_zero, List.set_cons_succ]
    refine wpList_nil ?_
    refine then_n (hK27 _ _ ?_)
    refine cond_d (((0 : Nat) : Int) ≤ z) rfl (fun hc28 => ?_) (fun hc28 => ?_)
    · obtain ⟨m, rfl⟩ : ∃ m, k = m + 1 := ⟨k - 1, by omega⟩
      obtain rfl : z = ((m : Nat) : Int) := by omega
      refine wp_skip ?_
      refine then_n (hK26 _ _ ?_)
      refine wp_seq_k (fun K29 hK29 => ?_)
      refine wp_block ?_
      have hm30 := hm24.drew
      refine wp_region_held_drew (S := fun w' => Sym.Blk w' g2 (bs n) 23) (by kernel_rfl) (hm24.at 0 rfl) (fun _ => ?_)
      generalize w23.drew = w31 at *
      refine Sym.take_at 0 14 (.int .i64 ((i : Nat) : Int)) rfl rfl (by kernel_rfl) (by kernel_rfl) (by kernel_rfl) (fun _ _ _ h => h) (wanted_none rfl) (fun _ hw => run_mv rfl rfl) (hm30.at 0 rfl) ?_
      simp only [List.setIfInBounds_toArray, List.set_cons_zero, List.set_cons_succ]
      refine Sym.take_at 1 15 (.int .i64 ((i : Nat) : Int)) rfl rfl (by kernel_rfl) (by kernel_rfl) (by kernel_rfl) (fun _ _ _ h => h) (wanted_none rfl) (fun _ hw => run_mv rfl rfl) (hm30.at 0 rfl) ?_
      simp only [List.setIfInBounds_toArray, List.set_cons_zero, List.set_cons_succ]
      refine Sym.take_at 2 16 (.pointer (some ⟨g9, i, none⟩)) rfl rfl (by kernel_rfl) (by kernel_rfl) (by kernel_rfl) (fun _ _ _ h => h) (wanted_none rfl) (fun _ hw => r_ix g9 i (by omega) Try.underlying37 one_u64 rfl rfl rfl) (hm30.at 0 rfl) ?_
      simp only [List.setIfInBounds_toArray, List.set_cons_zero, List.set_cons_succ]
      refine Sym.take_at 5 19 (.int .i64 ((i : Nat) : Int)) rfl rfl (by kernel_rfl) (by kernel_rfl) (by kernel_rfl) (fun _ _ _ h => h) (wanted_none rfl) (fun _ hw => run_mv rfl rfl) (hm30.at 0 rfl) ?_
      simp only [List.setIfInBounds_toArray, List.set_cons_zero, List.set_cons_succ]
      refine Sym.take_at 6 20 (.int .i64 (((8 * i) : Nat) : Int)) rfl rfl (by kernel_rfl) (by kernel_rfl) (by kernel_rfl) (fun _ _ _ h => h) (wanted_none rfl) (fun _ hw => r_mul 8 i (show (8 * i) < 9223372036854775808 from by omega) rfl rfl rfl) (hm30.at 0 rfl) ?_
      simp only [List.setIfInBounds_toArray, List.set_cons_zero, List.set_cons_succ]
      refine Sym.take_at 7 21 (.int .i64 ((m : Nat) : Int)) rfl rfl (by kernel_rfl) (by kernel_rfl) (by kernel_rfl) (fun _ _ _ h => h) (wanted_none rfl) (fun _ hw => run_mv rfl rfl) (hm30.at 0 rfl) ?_
      simp only [List.setIfInBounds_toArray, List.set_cons_zero, List.set_cons_succ]
      refine Sym.take_at 8 22 (.int .i64 ((((8 * i) + m) : Nat) : Int)) rfl rfl (by kernel_rfl) (by kernel_rfl) (by kernel_rfl) (fun _ _ _ h => h) (wanted_none rfl) (fun _ hw => r_add (8 * i) m (show ((8 * i) + m) < 9223372036854775808 from by omega) rfl rfl rfl) (hm30.at 0 rfl) ?_
      simp only [List.setIfInBounds_toArray, List.set_cons_zero, List.set_cons_succ]
      refine Sym.take_at 9 23 (.pointer (some ⟨g2, ((8 * i) + m), none⟩)) rfl rfl (by kernel_rfl) (by kernel_rfl) (by kernel_rfl) (fun _ _ _ h => h) (wanted_none rfl) (fun _ hw => r_ix g2 ((8 * i) + m) (by omega) Try.underlying23 one_u8 rfl rfl rfl) (hm30.at 0 rfl) ?_
      simp only [List.setIfInBounds_toArray, List.set_cons_zero, List.set_cons_succ]
      refine Sym.take_at 10 24 (.int .u8 (((bt n) ((8 * i) + m) : Nat) : Int)) rfl rfl (by kernel_rfl) (by kernel_rfl) (by kernel_rfl) (fun _ _ _ h => h) (wanted_none rfl) (fun _ hw => r_cell (f := (bt n)) (n := 32) g2 ((8 * i) + m) (by omega) hw Try.underlying5 rfl rfl) (hm30.at 0 rfl) ?_
      simp only [List.setIfInBounds_toArray, List.set_cons_zero, List.set_cons_succ]
      refine Sym.take_at 11 25 (.int .u64 (((bt n (8 * i + m)) : Nat) : Int)) rfl rfl (by kernel_rfl) (by kernel_rfl) (by kernel_rfl) (fun _ _ _ h => h) (wanted_none rfl) (fun _ hw => r_conv (k' := .u64) ((bt n) ((8 * i) + m)) (bt n (8 * i + m)) some_u8 Try.underlying35 (wrap_nat (Nat.lt_trans (bt_lt _ _) (by decide))) rfl rfl) (hm30.at 0 rfl) ?_
      simp only [List.setIfInBounds_toArray, List.set_cons_zero, List.set_cons_succ]
      refine one_ready 3 (by kernel_rfl) ?_
      refine opd rfl (wanted_none rfl) (w_value 17 (.int .u64 (((pl n i (m + 1)) i : Nat) : Int)) rfl (r_cell (f := (pl n i (m + 1))) (n := 4) g9 i (by omega) (hm30.at 2 rfl) Try.underlying35 rfl rfl) ⟨hm30.at 0 rfl, ?_⟩)
      simp only [List.setIfInBounds_toArray, List.set_cons_zero, List.set_cons_succ]
      refine Sym.take_at 4 18 (.int .u64 (((((pl n i (m + 1)) i) * 2 ^ 8) : Nat) : Int)) rfl rfl (by kernel_rfl) (by kernel_rfl) (by kernel_rfl) (fun _ _ _ h => h) (wanted_none rfl) (fun _ hw => r_shl ((pl n i (m + 1)) i) 8 (by rw [pl_here]; exact pl_lt n i m (by omega)) (by decide) rfl rfl rfl) (hm30.at 0 rfl) ?_
      simp only [List.setIfInBounds_toArray, List.set_cons_zero, List.set_cons_succ]
      refine Sym.take_at 12 26 (.int .u64 (((pl n i (m + 1) i * 2 ^ 8 + bt n (8 * i + m)) : Nat) : Int)) rfl rfl (by kernel_rfl) (by kernel_rfl) (by kernel_rfl) (fun _ _ _ h => h) (wanted_none rfl) (fun _ hw => r_orx (((pl n i (m + 1)) i) * 2 ^ 8) (bt n (8 * i + m)) 64 (pl n i (m + 1) i * 2 ^ 8 + bt n (8 * i + m)) (by decide) (by rw [pl_here]; exact pl_lt n i m (by omega)) (Nat.lt_trans (bt_lt _ _) (by decide)) (or_sum _ _ 8 (by omega) (bt_lt _ _)) rfl rfl rfl) (hm30.at 0 rfl) ?_
      simp only [List.setIfInBounds_toArray, List.set_cons_zero, List.set_cons_succ]
      refine Sym.take_at 13 27 (.pointer (some ⟨g9, i, none⟩)) rfl rfl (by kernel_rfl) (by kernel_rfl) (by kernel_rfl) (fun _ _ _ h => h) (wanted_none rfl) (fun _ hw => r_ix g9 i (by omega) Try.underlying37 one_u64 rfl rfl rfl) (hm30.at 0 rfl) ?_
      simp only [List.setIfInBounds_toArray, List.set_cons_zero, List.set_cons_succ]
      refine one_ready 14 (by kernel_rfl) ?_
      refine opd rfl (wanted_none rfl) (m_put 2 (new := rowOf .u64 (up (pl n i (m + 1)) i (pl n i (m + 1) i * 2 ^ 8 + bt n (8 * i + m))) 4) i (.int .u64 (((pl n i (m + 1) i * 2 ^ 8 + bt n (8 * i + m)) : Nat) : Int)) (old := rowOf .u64 (pl n i (m + 1)) 4) hm30 rfl rfl (p_cell (n := 4) (f := (pl n i (m + 1))) g9 i (pl n i (m + 1) i * 2 ^ 8 + bt n (8 * i + m)) (by omega) (hm30.at 2 rfl) rfl one_u64 rfl rfl) (rowOf_set _ _ _ _ _) (fun w32 (hm33 : Mm w w32 [(g2, bs n, 23), (g5, ws 0, 37), (g9, rowOf .u64 (up (pl n i (m + 1)) i (pl n i (m + 1) i * 2 ^ 8 + bt n (8 * i + m))) 4, 37)]) => ?_))
      refine ⟨hm33.at 0 rfl, ?_⟩
      refine wpAnyH_done (by kernel_rfl) ?_ _
      have hm34 : Mm w w32 [(g2, bs n, 23), (g5, ws 0, 37), (g9, rowOf .u64 (pl n i m) 4, 37)] := by rw [show (rowOf .u64 (pl n i m) 4 : Array Value) = rowOf .u64 (up (pl n i (m + 1)) i (pl n i (m + 1) i * 2 ^ 8 + bt n (8 * i + m))) 4 from by rw [pl_up n i m _ (by rw [pl_here, pl_step n i m (by omega)])]]; exact hm33
      refine blk_n ?_
      refine then_n (hK29 _ _ ?_)
      refine wp_region_lit ?_
      refine lst (wanted_none rfl) (w_value 12 (.int .i64 ((m : Nat) : Int)) rfl (run_mv rfl rfl) ?_)
      simp only [List.setIfInBounds_toArray, List.set_cons_zero, List.set_cons_succ]
      refine lst (wanted_none rfl) (w_value 13 (.int .i64 (((m : Nat) : Int) - 1)) rfl (r_subZ ((m : Nat) : Int) ((1 : Nat) : Int) _ (IntWalk.i64_in _ (by omega)) rfl rfl rfl) ?_)
      simp only [List.setIfInBounds_toArray, List.set_cons_zero, List.set_cons_succ]
      refine lst (wanted_none rfl) (w_value 5 (.int .i64 (((m : Nat) : Int) - 1)) rfl (run_as rfl rfl) ?_)
      simp only [List.setIfInBounds_toArray, List.set_cons_zero, List.set_cons_succ]
      refine wpList_nil ?_
      refine then_n (hR25 _ _ _ ⟨m, _, (fun qq => List.getD [.int .i64 ((m : Nat) : Int), .bool (decide (((0 : Nat) : Int) ≤ ((m : Nat) : Int))), .int .i64 ((m : Nat) : Int), .int .i64 (((m : Nat) : Int) - 1), .int .i64 ((i : Nat) : Int), .int .i64 ((i : Nat) : Int), .pointer (some ⟨g9, i, none⟩), .int .u64 (((pl n i (m + 1)) i : Nat) : Int), .int .u64 (((((pl n i (m + 1)) i) * 2 ^ 8) : Nat) : Int), .int .i64 ((i : Nat) : Int), .int .i64 (((8 * i) : Nat) : Int), .int .i64 ((m : Nat) : Int), .int .i64 ((((8 * i) + m) : Nat) : Int), .pointer (some ⟨g2, ((8 * i) + m), none⟩), .int .u8 (((bt n) ((8 * i) + m) : Nat) : Int), .int .u64 (((bt n (8 * i + m)) : Nat) : Int), .int .u64 (((pl n i (m + 1) i * 2 ^ 8 + bt n (8 * i + m)) : Nat) : Int), .pointer (some ⟨g9, i, none⟩)] qq undef), rfl, (by omega), rfl, rfl, hm34⟩ ?_)
      omega
    · obtain rfl : k = 0 := by omega
      have hm35 : Mm w w23 [(g2, bs n, 23), (g5, ws 0, 37), (g9, rowOf .u64 (pl n (i + 1) 8) 4, 37)] := by rw [show (rowOf .u64 (pl n (i + 1) 8) 4 : Array Value) = rowOf .u64 (pl n i 0) 4 from by rw [pl_end]]; exact hm24
      refine wp_exit ?_
      refine then_x ?_
      refine then_x ?_
      refine blk_x ?_
      refine blk_n ?_
      refine then_n (hK21 _ _ ?_)
      refine wp_region_lit ?_
      refine lst (wanted_none rfl) (w_value 8 (.int .i64 ((i : Nat) : Int)) rfl (run_mv rfl rfl) ?_)
      simp only [List.setIfInBounds_toArray, List.set_cons_zero, List.set_cons_succ]
      refine lst (wanted_none rfl) (w_value 9 (.int .i64 (((i + 1) : Nat) : Int)) rfl (r_add i 1 (show (i + 1) < 9223372036854775808 from by omega) rfl rfl rfl) ?_)
      simp only [List.setIfInBounds_toArray, List.set_cons_zero, List.set_cons_succ]
      refine lst (wanted_none rfl) (w_value 4 (.int .i64 (((i + 1) : Nat) : Int)) rfl (run_as rfl rfl) ?_)
      simp only [List.setIfInBounds_toArray, List.set_cons_zero, List.set_cons_succ]
      refine wpList_nil ?_
      refine then_n (hR17 _ _ _ ⟨(i + 1), (fun qq => List.getD [.int .i64 (z), .int .i64 ((i : Nat) : Int), .bool (decide (i < 4)), .int .i64 ((i : Nat) : Int), .int .i64 (((i + 1) : Nat) : Int), .int .i64 (z), .bool (decide (((0 : Nat) : Int) ≤ z)), u1 2, u1 3, u1 4, u1 5, u1 6, u1 7, u1 8, u1 9, u1 10, u1 11, u1 12, u1 13, u1 14, u1 15, u1 16, u1 17] qq undef), rfl, (by omega), rfl, hm35⟩ ?_)
      omega
  · obtain rfl : i = 4 := by omega
    have hm36 : Mm w w15 [(g2, bs n, 23), (g5, ws 0, 37), (g9, ws n, 37)] := by rw [show (ws n : Array Value) = rowOf .u64 (pl n 4 8) 4 from (pl_all n).symm]; exact hm16
    refine wp_exit ?_
    refine then_x ?_
    refine then_x ?_
    refine blk_x ?_
    refine then_n (hK12 _ _ ?_)
    refine wp_seq_k (fun K37 hK37 => ?_)
    refine wp_region_lit ?_
    refine lst (wanted_none rfl) (w_value 28 (.agg (ws n)) rfl (run_row rfl rfl (hm36.at 2 rfl) Try.underlying37 rfl (by rw [ws_sz]; exact info_w)) ?_)
    simp only [List.setIfInBounds_toArray, List.set_cons_zero, List.set_cons_succ]
    refine lst (wanted_none rfl) (m_store 1 37 _ _ (ws n) (old := ws 0) hm36 rfl rfl rfl rfl rfl (by rw [ws_sz]; exact info_w) ((ws_sz _).trans (ws_sz _).symm) (ws_one _) (fun w38 (hm39 : Mm w w38 [(g2, bs n, 23), (g5, ws n, 37), (g9, ws n, 37)]) => ?_))
    refine wpList_nil ?_
    refine then_n (hK37 _ _ ?_)
    refine wp_ret ?_
    exact ⟨rfl, .agg (ws n), res_c rfl rfl (hm39.at 1 rfl) Try.underlying37 rfl (by rw [ws_sz]; exact info_w), ⟨rfl, hm39.below⟩⟩
set_option maxHeartbeats 1000000 in
set_option maxRecDepth 100000 in
theorem store_any (n : Nat) (w : World) : Calls Try.prog 15 #[.agg (ws n)] w (fun e w' => e = .returned (.agg (bs n)) ∧ Below w.heap.size w w') := by
  go_enter Try.func15, Try.ntmps15
  have hm0 := Mm.nil w
  refine wp_seq_k (fun K1 hK1 => ?_)
  refine wp_region_lit ?_
  refine lst (wanted_none rfl) (m_alloc (c := ws n) (T := 37) hm0 1 rfl (run_box rfl rfl) (fun g2 w3 (hm4 : Mm w w3 [(g2, ws n, 37)]) => ?_))
  simp only [List.setIfInBounds_toArray, List.set_cons_zero, List.set_cons_succ]
  refine lst (wanted_none rfl) (m_alloc (c := bs 0) (T := 23) hm4 2 rfl (al_N rfl) (fun g5 w6 (hm7 : Mm w w6 [(g2, ws n, 37), (g5, bs 0, 23)]) => ?_))
  simp only [List.setIfInBounds_toArray, List.set_cons_zero, List.set_cons_succ]
  refine wpList_nil ?_
  refine then_n (hK1 _ _ ?_)
  refine wp_seq_k (fun K8 hK8 => ?_)
  refine wp_region_lit ?_
  refine lst (wanted_none rfl) (m_alloc (c := bs 0) (T := 23) hm7 3 rfl (al_N rfl) (fun g9 w10 (hm11 : Mm w w10 [(g2, ws n, 37), (g5, bs 0, 23), (g9, bs 0, 23)]) => ?_))
  simp only [List.setIfInBounds_toArray, List.set_cons_zero, List.set_cons_succ]
  refine wpList_nil ?_
  refine then_n (hK8 _ _ ?_)
  refine wp_seq_k (fun K12 hK12 => ?_)
  refine wp_seq_k (fun K13 hK13 => ?_)
  refine wp_region_lit ?_
  refine lst (wanted_none rfl) (w_value 4 (.int .i64 0) rfl (run_as rfl rfl) ?_)
  simp only [List.setIfInBounds_toArray, List.set_cons_zero, List.set_cons_succ]
  refine wpList_nil ?_
  have hm14 : Mm w w10 [(g2, ws n, 37), (g5, bs 0, 23), (g9, rowOf .u8 (partb n 0) 32, 23)] := by rw [show (rowOf .u8 (partb n 0) 32 : Array Value) = bs 0 from partb_none n]; exact hm11
  refine then_n (hK13 _ _ ?_)
  refine wp_block ?_
  refine wp_loop_n (fun n' a' w' => ∃ (k : Nat) (u0 : Nat → Value), n' = 32 - k ∧ (k ≤ 32) ∧ a' = ⟨#[.agg (ws n), .pointer (some ⟨g2, 0, none⟩), .pointer (some ⟨g5, 0, none⟩), .pointer (some ⟨g9, 0, none⟩), .int .i64 ((k : Nat) : Int), u0 0, u0 1, u0 2, u0 3, u0 4, u0 5, u0 6, u0 7, u0 8, u0 9, u0 10, u0 11, u0 12, u0 13, u0 14, undef], []⟩ ∧ Mm w w' [(g2, ws n, 37), (g5, bs 0, 23), (g9, rowOf .u8 (partb n k) 32, 23)]) ⟨0, (fun qq => List.getD [undef, undef, undef, undef, undef, undef, undef, undef, undef, undef, undef, undef, undef, undef, undef] qq undef), rfl, (by omega), rfl, hm14⟩ ?_
  clear hm14
  rintro _ _ w15 ⟨k, u0, hn0, hk, rfl, hm16⟩ R17 hR17
  refine wp_seq_k (fun K18 hK18 => ?_)
  refine wp_seq_k (fun K19 hK19 => ?_)
  refine wp_region_lit ?_
  refine lst (wanted_none rfl) (w_value 5 (.int .i64 ((k : Nat) : Int)) rfl (run_mv rfl rfl) ?_)
  simp only [List.setIfInBounds_toArray, List.set_cons_zero, List.set_cons_succ]
  refine lst (wanted_none rfl) (w_value 6 (.bool (decide (k < 32))) rfl (r_lss k 32 rfl rfl rfl) ?_)
  simp only [List.setIfInBounds_toArray, List.set_cons_zero, List.set_cons_succ]
  refine wpList_nil ?_
  refine then_n (hK19 _ _ ?_)
  refine cond_d (k < 32) rfl (fun hc20 => ?_) (fun hc20 => ?_)
  · refine wp_skip ?_
    refine then_n (hK18 _ _ ?_)
    refine wp_seq_k (fun K21 hK21 => ?_)
    refine wp_block ?_
    refine wp_region_lit ?_
    refine lst (wanted_none rfl) (w_value 9 (.int .i64 ((k : Nat) : Int)) rfl (run_mv rfl rfl) ?_)
    simp only [List.setIfInBounds_toArray, List.set_cons_zero, List.set_cons_succ]
    refine lst (wanted_none rfl) (w_value 10 (.int .i64 ((k : Nat) : Int)) rfl (run_mv rfl rfl) ?_)
    simp only [List.setIfInBounds_toArray, List.set_cons_zero, List.set_cons_succ]
    refine lst (wanted_none rfl) (w_value 11 (.int .i64 (((k / 8) : Nat) : Int)) rfl (r_quo k 8 (show k < 9223372036854775808 from by omega) (by decide) rfl rfl rfl) ?_)
    simp only [List.setIfInBounds_toArray, List.set_cons_zero, List.set_cons_succ]
    refine lst (wanted_none rfl) (w_value 12 (.pointer (some ⟨g2, (k / 8), none⟩)) rfl (r_ix g2 (k / 8) (by omega) Try.underlying37 one_u64 rfl rfl rfl) ?_)
    simp only [List.setIfInBounds_toArray, List.set_cons_zero, List.set_cons_succ]
    refine lst (wanted_none rfl) (w_value 13 (.int .u64 (((wd n) (k / 8) : Nat) : Int)) rfl (r_cell (f := (wd n)) (n := 4) g2 (k / 8) (by omega) (hm16.at 0 rfl) Try.underlying35 rfl rfl) ?_)
    simp only [List.setIfInBounds_toArray, List.set_cons_zero, List.set_cons_succ]
    refine lst (wanted_none rfl) (w_value 14 (.int .i64 ((k : Nat) : Int)) rfl (run_mv rfl rfl) ?_)
    simp only [List.setIfInBounds_toArray, List.set_cons_zero, List.set_cons_succ]
    refine lst (wanted_none rfl) (w_value 15 (.int .i64 (((k % 8) : Nat) : Int)) rfl (r_rem k 8 (show k < 9223372036854775808 from by omega) (by decide) rfl rfl rfl) ?_)
    simp only [List.setIfInBounds_toArray, List.set_cons_zero, List.set_cons_succ]
    refine lst (wanted_none rfl) (w_value 16 (.int .i64 (((8 * (k % 8)) : Nat) : Int)) rfl (r_mul 8 (k % 8) (show (8 * (k % 8)) < 9223372036854775808 from by omega) rfl rfl rfl) ?_)
    simp only [List.setIfInBounds_toArray, List.set_cons_zero, List.set_cons_succ]
    refine lst (wanted_none rfl) (w_value 17 (.int .u64 (((((wd n) (k / 8)) / 2 ^ (8 * (k % 8))) : Nat) : Int)) rfl (r_shr ((wd n) (k / 8)) (8 * (k % 8)) (show 8 * (k % 8) ≤ 64 from by omega) rfl rfl rfl) ?_)
    simp only [List.setIfInBounds_toArray, List.set_cons_zero, List.set_cons_succ]
    refine lst (wanted_none rfl) (w_value 18 (.int .u8 ((((((wd n) (k / 8)) / 2 ^ (8 * (k % 8))) % 256) : Nat) : Int)) rfl (r_conv (k' := .u8) (((wd n) (k / 8)) / 2 ^ (8 * (k % 8))) ((((wd n) (k / 8)) / 2 ^ (8 * (k % 8))) % 256) some_u64 Try.underlying5 (wrap_u8n _) rfl rfl) ?_)
    simp only [List.setIfInBounds_toArray, List.set_cons_zero, List.set_cons_succ]
    refine lst (wanted_none rfl) (w_value 19 (.pointer (some ⟨g9, k, none⟩)) rfl (r_ix g9 k (by omega) Try.underlying23 one_u8 rfl rfl rfl) ?_)
    simp only [List.setIfInBounds_toArray, List.set_cons_zero, List.set_cons_succ]
    refine lst (wanted_none rfl) (m_put 2 (new := rowOf .u8 (up (partb n k) k ((((wd n) (k / 8)) / 2 ^ (8 * (k % 8))) % 256)) 32) k (.int .u8 ((((((wd n) (k / 8)) / 2 ^ (8 * (k % 8))) % 256) : Nat) : Int)) (old := rowOf .u8 (partb n k) 32) hm16 rfl rfl (p_cell (n := 32) (f := (partb n k)) g9 k ((((wd n) (k / 8)) / 2 ^ (8 * (k % 8))) % 256) (by omega) (hm16.at 2 rfl) rfl one_u8 rfl rfl) (rowOf_set _ _ _ _ _) (fun w22 (hm23 : Mm w w22 [(g2, ws n, 37), (g5, bs 0, 23), (g9, rowOf .u8 (up (partb n k) k ((((wd n) (k / 8)) / 2 ^ (8 * (k % 8))) % 256)) 32, 23)]) => ?_))
    refine wpList_nil ?_
    have hm24 : Mm w w22 [(g2, ws n, 37), (g5, bs 0, 23), (g9, rowOf .u8 (partb n (k + 1)) 32, 23)] := by rw [show (rowOf .u8 (partb n (k + 1)) 32 : Array Value) = rowOf .u8 (up (partb n k) k ((((wd n) (k / 8)) / 2 ^ (8 * (k % 8))) % 256)) 32 from by rw [bt_of_wd, partb_up]]; exact hm23
    refine blk_n ?_
    refine then_n (hK21 _ _ ?_)
    refine wp_region_lit ?_
    refine lst (wanted_none rfl) (w_value 7 (.int .i64 ((k : Nat) : Int)) rfl (run_mv rfl rfl) ?_)
    simp only [List.setIfInBounds_toArray, List.set_cons_zero, List.set_cons_succ]
    refine lst (wanted_none rfl) (w_value 8 (.int .i64 (((k + 1) : Nat) : Int)) rfl (r_add k 1 (show (k + 1) < 9223372036854775808 from by omega) rfl rfl rfl) ?_)
    simp only [List.setIfInBounds_toArray, List.set_cons_zero, List.set_cons_succ]
    refine lst (wanted_none rfl) (w_value 4 (.int .i64 (((k + 1) : Nat) : Int)) rfl (run_as rfl rfl) ?_)
    simp only [List.setIfInBounds_toArray, List.set_cons_zero, List.set_cons_succ]
    refine wpList_nil ?_
    refine then_n (hR17 _ _ _ ⟨(k + 1), (fun qq => List.getD [.int .i64 ((k : Nat) : Int), .bool (decide (k < 32)), .int .i64 ((k : Nat) : Int), .int .i64 (((k + 1) : Nat) : Int), .int .i64 ((k : Nat) : Int), .int .i64 ((k : Nat) : Int), .int .i64 (((k / 8) : Nat) : Int), .pointer (some ⟨g2, (k / 8), none⟩), .int .u64 (((wd n) (k / 8) : Nat) : Int), .int .i64 ((k : Nat) : Int), .int .i64 (((k % 8) : Nat) : Int), .int .i64 (((8 * (k % 8)) : Nat) : Int), .int .u64 (((((wd n) (k / 8)) / 2 ^ (8 * (k % 8))) : Nat) : Int), .int .u8 ((((((wd n) (k / 8)) / 2 ^ (8 * (k % 8))) % 256) : Nat) : Int), .pointer (some ⟨g9, k, none⟩)] qq undef), rfl, (by omega), rfl, hm24⟩ ?_)
    omega
  · obtain rfl : k = 32 := by omega
    have hm25 : Mm w w15 [(g2, ws n, 37), (g5, bs 0, 23), (g9, bs n, 23)] := by rw [show (bs n : Array Value) = rowOf .u8 (partb n 32) 32 from (partb_all n).symm]; exact hm16
    refine wp_exit ?_
    refine then_x ?_
    refine then_x ?_
    refine blk_x ?_
    refine then_n (hK12 _ _ ?_)
    refine wp_seq_k (fun K26 hK26 => ?_)
    refine wp_region_lit ?_
    refine lst (wanted_none rfl) (w_value 20 (.agg (bs n)) rfl (run_row rfl rfl (hm25.at 2 rfl) Try.underlying23 rfl (by rw [bs_sz]; exact info_b)) ?_)
    simp only [List.setIfInBounds_toArray, List.set_cons_zero, List.set_cons_succ]
    refine lst (wanted_none rfl) (m_store 1 23 _ _ (bs n) (old := bs 0) hm25 rfl rfl rfl rfl rfl (by rw [bs_sz]; exact info_b) ((bs_sz _).trans (bs_sz _).symm) (bs_one _) (fun w27 (hm28 : Mm w w27 [(g2, ws n, 37), (g5, bs n, 23), (g9, bs n, 23)]) => ?_))
    refine wpList_nil ?_
    refine then_n (hK26 _ _ ?_)
    refine wp_ret ?_
    exact ⟨rfl, .agg (bs n), res_c rfl rfl (hm28.at 1 rfl) Try.underlying23 rfl (by rw [bs_sz]; exact info_b), ⟨rfl, hm28.below⟩⟩
set_option maxHeartbeats 1000000 in
set_option maxRecDepth 100000 in
theorem minus_any (a b : Nat) (hbm : b ≤ MM) (w : World) : Calls Try.prog 20 #[.agg (ws a), .agg (ws b)] w (fun e w' => e = .returned (.tuple #[.agg (ws (a + MM - b)), .int .u64 (bo a b 4 : Int)]) ∧ Below w.heap.size w w') := by
  go_enter Try.func20, Try.ntmps20
  have hm0 := Mm.nil w
  refine wp_seq_k (fun K1 hK1 => ?_)
  refine wp_region_lit ?_
  refine lst (wanted_none rfl) (m_alloc (c := ws a) (T := 37) hm0 2 rfl (run_box rfl rfl) (fun g2 w3 (hm4 : Mm w w3 [(g2, ws a, 37)]) => ?_))
  simp only [List.setIfInBounds_toArray, List.set_cons_zero, List.set_cons_succ]
  refine lst (wanted_none rfl) (m_alloc (c := ws b) (T := 37) hm4 3 rfl (run_box rfl rfl) (fun g5 w6 (hm7 : Mm w w6 [(g2, ws a, 37), (g5, ws b, 37)]) => ?_))
  simp only [List.setIfInBounds_toArray, List.set_cons_zero, List.set_cons_succ]
  refine lst (wanted_none rfl) (m_alloc (c := ws 0) (T := 37) hm7 4 rfl (al_W rfl) (fun g8 w9 (hm10 : Mm w w9 [(g2, ws a, 37), (g5, ws b, 37), (g8, ws 0, 37)]) => ?_))
  simp only [List.setIfInBounds_toArray, List.set_cons_zero, List.set_cons_succ]
  refine lst (wanted_none rfl) (w_value 5 (.int .u64 0) rfl (run_as rfl rfl) ?_)
  simp only [List.setIfInBounds_toArray, List.set_cons_zero, List.set_cons_succ]
  refine wpList_nil ?_
  refine then_n (hK1 _ _ ?_)
  refine wp_seq_k (fun K11 hK11 => ?_)
  refine wp_region_lit ?_
  refine lst (wanted_none rfl) (m_alloc (c := ws 0) (T := 37) hm10 6 rfl (al_W rfl) (fun g12 w13 (hm14 : Mm w w13 [(g2, ws a, 37), (g5, ws b, 37), (g8, ws 0, 37), (g12, ws 0, 37)]) => ?_))
  simp only [List.setIfInBounds_toArray, List.set_cons_zero, List.set_cons_succ]
  refine wpList_nil ?_
  refine then_n (hK11 _ _ ?_)
  refine wp_seq_k (fun K15 hK15 => ?_)
  refine wp_region_lit ?_
  refine lst (wanted_none rfl) (w_value 7 (.int .u64 0) rfl (run_as rfl rfl) ?_)
  simp only [List.setIfInBounds_toArray, List.set_cons_zero, List.set_cons_succ]
  refine wpList_nil ?_
  refine then_n (hK15 _ _ ?_)
  refine wp_seq_k (fun K16 hK16 => ?_)
  refine wp_seq_k (fun K17 hK17 => ?_)
  refine wp_region_lit ?_
  refine lst (wanted_none rfl) (w_value 8 (.int .i64 0) rfl (run_as rfl rfl) ?_)
  simp only [List.setIfInBounds_toArray, List.set_cons_zero, List.set_cons_succ]
  refine wpList_nil ?_
  have hm18 : Mm w w13 [(g2, ws a, 37), (g5, ws b, 37), (g8, ws 0, 37), (g12, rowOf .u64 (mixw (a + MM - b) 0 0) 4, 37)] := by rw [show (rowOf .u64 (mixw (a + MM - b) 0 0) 4 : Array Value) = ws 0 from by rw [mixw_none]; rfl]; exact hm14
  rw [show ((.int .u64 0) : Value) = .int .u64 (((bo a b 0) : Nat) : Int) from by rw [bo_zero]; rfl]
  refine then_n (hK17 _ _ ?_)
  refine wp_block ?_
  refine wp_loop_n (fun n' a' w' => ∃ (k : Nat) (u0 : Nat → Value), n' = 4 - k ∧ (k ≤ 4) ∧ a' = ⟨#[.agg (ws a), .agg (ws b), .pointer (some ⟨g2, 0, none⟩), .pointer (some ⟨g5, 0, none⟩), .pointer (some ⟨g8, 0, none⟩), .int .u64 (((bo a b 0) : Nat) : Int), .pointer (some ⟨g12, 0, none⟩), .int .u64 (((bo a b k) : Nat) : Int), .int .i64 ((k : Nat) : Int), u0 0, u0 1, u0 2, u0 3, u0 4, u0 5, u0 6, u0 7, u0 8, u0 9, u0 10, u0 11, u0 12, u0 13, u0 14, u0 15, u0 16, undef, undef], []⟩ ∧ Mm w w' [(g2, ws a, 37), (g5, ws b, 37), (g8, ws 0, 37), (g12, rowOf .u64 (mixw (a + MM - b) 0 k) 4, 37)]) ⟨0, (fun qq => List.getD [undef, undef, undef, undef, undef, undef, undef, undef, undef, undef, undef, undef, undef, undef, undef, undef, undef] qq undef), rfl, (by omega), rfl, hm18⟩ ?_
  clear hm18
  rintro _ _ w19 ⟨k, u0, hn0, hk, rfl, hm20⟩ R21 hR21
  refine wp_seq_k (fun K22 hK22 => ?_)
  refine wp_seq_k (fun K23 hK23 => ?_)
  refine wp_region_lit ?_
  refine lst (wanted_none rfl) (w_value 9 (.int .i64 ((k : Nat) : Int)) rfl (run_mv rfl rfl) ?_)
  simp only [List.setIfInBounds_toArray, List.set_cons_zero, List.set_cons_succ]
  refine lst (wanted_none rfl) (w_value 10 (.bool (decide (k < 4))) rfl (r_lss k 4 rfl rfl rfl) ?_)
  simp only [List.setIfInBounds_toArray, List.set_cons_zero, List.set_cons_succ]
  refine wpList_nil ?_
  refine then_n (hK23 _ _ ?_)
  refine cond_d (k < 4) rfl (fun hc24 => ?_) (fun hc24 => ?_)
  · refine wp_skip ?_
    refine then_n (hK22 _ _ ?_)
    refine wp_seq_k (fun K25 hK25 => ?_)
    refine wp_block ?_
    have hm26 := hm20.drew
    refine wp_region_held_drew (S := fun w' => Sym.Blk w' g2 (ws a) 37 ∧ Sym.Blk w' g5 (ws b) 37) (by kernel_rfl) (⟨hm20.at 0 rfl, hm20.at 1 rfl⟩) (fun _ => ?_)
    generalize w19.drew = w27 at *
    refine Sym.take_at 0 14 (.int .i64 ((k : Nat) : Int)) rfl rfl (by kernel_rfl) (by kernel_rfl) (by kernel_rfl) (fun _ _ _ h => h) (wanted_none rfl) (fun _ hw => run_mv rfl rfl) (⟨hm26.at 0 rfl, hm26.at 1 rfl⟩) ?_
    simp only [List.setIfInBounds_toArray, List.set_cons_zero, List.set_cons_succ]
    refine Sym.take_at 1 15 (.int .i64 ((k : Nat) : Int)) rfl rfl (by kernel_rfl) (by kernel_rfl) (by kernel_rfl) (fun _ _ _ h => h) (wanted_none rfl) (fun _ hw => run_mv rfl rfl) (⟨hm26.at 0 rfl, hm26.at 1 rfl⟩) ?_
    simp only [List.setIfInBounds_toArray, List.set_cons_zero, List.set_cons_succ]
    refine Sym.take_at 2 16 (.pointer (some ⟨g2, k, none⟩)) rfl rfl (by kernel_rfl) (by kernel_rfl) (by kernel_rfl) (fun _ _ _ h => h) (wanted_none rfl) (fun _ hw => r_ix g2 k (by omega) Try.underlying37 one_u64 rfl rfl rfl) (⟨hm26.at 0 rfl, hm26.at 1 rfl⟩) ?_
    simp only [List.setIfInBounds_toArray, List.set_cons_zero, List.set_cons_succ]
    refine Sym.take_at 3 17 (.int .u64 (((wd a) k : Nat) : Int)) rfl rfl (by kernel_rfl) (by kernel_rfl) (by kernel_rfl) (fun _ _ _ h => h) (wanted_none rfl) (fun _ hw => r_cell (f := (wd a)) (n := 4) g2 k (by omega) hw.1 Try.underlying35 rfl rfl) (⟨hm26.at 0 rfl, hm26.at 1 rfl⟩) ?_
    simp only [List.setIfInBounds_toArray, List.set_cons_zero, List.set_cons_succ]
    refine Sym.take_at 4 18 (.int .i64 ((k : Nat) : Int)) rfl rfl (by kernel_rfl) (by kernel_rfl) (by kernel_rfl) (fun _ _ _ h => h) (wanted_none rfl) (fun _ hw => run_mv rfl rfl) (⟨hm26.at 0 rfl, hm26.at 1 rfl⟩) ?_
    simp only [List.setIfInBounds_toArray, List.set_cons_zero, List.set_cons_succ]
    refine Sym.take_at 5 19 (.pointer (some ⟨g5, k, none⟩)) rfl rfl (by kernel_rfl) (by kernel_rfl) (by kernel_rfl) (fun _ _ _ h => h) (wanted_none rfl) (fun _ hw => r_ix g5 k (by omega) Try.underlying37 one_u64 rfl rfl rfl) (⟨hm26.at 0 rfl, hm26.at 1 rfl⟩) ?_
    simp only [List.setIfInBounds_toArray, List.set_cons_zero, List.set_cons_succ]
    refine Sym.take_at 6 20 (.int .u64 (((wd b) k : Nat) : Int)) rfl rfl (by kernel_rfl) (by kernel_rfl) (by kernel_rfl) (fun _ _ _ h => h) (wanted_none rfl) (fun _ hw => r_cell (f := (wd b)) (n := 4) g5 k (by omega) hw.2 Try.underlying35 rfl rfl) (⟨hm26.at 0 rfl, hm26.at 1 rfl⟩) ?_
    simp only [List.setIfInBounds_toArray, List.set_cons_zero, List.set_cons_succ]
    refine Sym.take_at 7 21 (.int .u64 (((bo a b k) : Nat) : Int)) rfl rfl (by kernel_rfl) (by kernel_rfl) (by kernel_rfl) (fun _ _ _ h => h) (wanted_none rfl) (fun _ hw => run_mv rfl rfl) (⟨hm26.at 0 rfl, hm26.at 1 rfl⟩) ?_
    simp only [List.setIfInBounds_toArray, List.set_cons_zero, List.set_cons_succ]
    refine one_ready 8 (by kernel_rfl) ?_
    refine opd rfl (wanted_none rfl) (w_value 22 (.tuple #[.int .u64 (((wd (a + MM - b) k) : Nat) : Int), .int .u64 (((bo a b (k + 1)) : Nat) : Int)]) rfl (run_sub64o ((wd a) k) ((wd b) k) (bo a b k) _ _ (bo_le _ _ _) (by rw [wd_sub _ _ _ (by omega) hbm]) (by rw [bo_succ]) rfl rfl rfl rfl) ⟨⟨hm26.at 0 rfl, hm26.at 1 rfl⟩, ?_⟩)
    simp only [List.setIfInBounds_toArray, List.set_cons_zero, List.set_cons_succ]
    refine Sym.take_at 9 13 (.tuple #[.int .u64 (((wd (a + MM - b) k) : Nat) : Int), .int .u64 (((bo a b (k + 1)) : Nat) : Int)]) rfl rfl (by kernel_rfl) (by kernel_rfl) (by kernel_rfl) (fun _ _ _ h => h) (wanted_none rfl) (fun _ hw => run_mv rfl rfl) (⟨hm26.at 0 rfl, hm26.at 1 rfl⟩) ?_
    simp only [List.setIfInBounds_toArray, List.set_cons_zero, List.set_cons_succ]
    refine Sym.take_at 10 23 (.int .u64 (((wd (a + MM - b) k) : Nat) : Int)) rfl rfl (by kernel_rfl) (by kernel_rfl) (by kernel_rfl) (fun _ _ _ h => h) (wanted_none rfl) (fun _ hw => run_ex rfl rfl rfl) (⟨hm26.at 0 rfl, hm26.at 1 rfl⟩) ?_
    simp only [List.setIfInBounds_toArray, List.set_cons_zero, List.set_cons_succ]
    refine Sym.take_at 11 24 (.int .u64 (((bo a b (k + 1)) : Nat) : Int)) rfl rfl (by kernel_rfl) (by kernel_rfl) (by kernel_rfl) (fun _ _ _ h => h) (wanted_none rfl) (fun _ hw => run_ex rfl rfl rfl) (⟨hm26.at 0 rfl, hm26.at 1 rfl⟩) ?_
    simp only [List.setIfInBounds_toArray, List.set_cons_zero, List.set_cons_succ]
    refine Sym.take_at 12 25 (.pointer (some ⟨g12, k, none⟩)) rfl rfl (by kernel_rfl) (by kernel_rfl) (by kernel_rfl) (fun _ _ _ h => h) (wanted_none rfl) (fun _ hw => r_ix g12 k (by omega) Try.underlying37 one_u64 rfl rfl rfl) (⟨hm26.at 0 rfl, hm26.at 1 rfl⟩) ?_
    simp only [List.setIfInBounds_toArray, List.set_cons_zero, List.set_cons_succ]
    refine one_ready 13 (by kernel_rfl) ?_
    refine opd rfl (wanted_none rfl) (m_put 3 (new := rowOf .u64 (up (mixw (a + MM - b) 0 k) k (wd (a + MM - b) k)) 4) k (.int .u64 (((wd (a + MM - b) k) : Nat) : Int)) (old := rowOf .u64 (mixw (a + MM - b) 0 k) 4) hm26 rfl rfl (p_cell (n := 4) (f := (mixw (a + MM - b) 0 k)) g12 k (wd (a + MM - b) k) (by omega) (hm26.at 3 rfl) rfl one_u64 rfl rfl) (rowOf_set _ _ _ _ _) (fun w28 (hm29 : Mm w w28 [(g2, ws a, 37), (g5, ws b, 37), (g8, ws 0, 37), (g12, rowOf .u64 (up (mixw (a + MM - b) 0 k) k (wd (a + MM - b) k)) 4, 37)]) => ?_))
    refine ⟨⟨hm29.at 0 rfl, hm29.at 1 rfl⟩, ?_⟩
    refine one_ready 14 (by kernel_rfl) ?_
    refine opd rfl (wanted_none rfl) (w_value 7 (.int .u64 (((bo a b (k + 1)) : Nat) : Int)) rfl (run_as rfl rfl) ⟨⟨hm29.at 0 rfl, hm29.at 1 rfl⟩, ?_⟩)
    simp only [List.setIfInBounds_toArray, List.set_cons_zero, List.set_cons_succ]
    refine wpAnyH_done (by kernel_rfl) ?_ _
    have hm30 : Mm w w28 [(g2, ws a, 37), (g5, ws b, 37), (g8, ws 0, 37), (g12, rowOf .u64 (mixw (a + MM - b) 0 (k + 1)) 4, 37)] := by rw [show (rowOf .u64 (mixw (a + MM - b) 0 (k + 1)) 4 : Array Value) = rowOf .u64 (up (mixw (a + MM - b) 0 k) k (wd (a + MM - b) k)) 4 from by rw [mixw_up]]; exact hm29
    refine blk_n ?_
    refine then_n (hK25 _ _ ?_)
    refine wp_region_lit ?_
    refine lst (wanted_none rfl) (w_value 11 (.int .i64 ((k : Nat) : Int)) rfl (run_mv rfl rfl) ?_)
    simp only [List.setIfInBounds_toArray, List.set_cons_zero, List.set_cons_succ]
    refine lst (wanted_none rfl) (w_value 12 (.int .i64 (((k + 1) : Nat) : Int)) rfl (r_add k 1 (show (k + 1) < 9223372036854775808 from by omega) rfl rfl rfl) ?_)
    simp only [List.setIfInBounds_toArray, List.set_cons_zero, List.set_cons_succ]
    refine lst (wanted_none rfl) (w_value 8 (.int .i64 (((k + 1) : Nat) : Int)) rfl (run_as rfl rfl) ?_)
    simp only [List.setIfInBounds_toArray, List.set_cons_zero, List.set_cons_succ]
    refine wpList_nil ?_
    refine then_n (hR21 _ _ _ ⟨(k + 1), (fun qq => List.getD [.int .i64 ((k : Nat) : Int), .bool (decide (k < 4)), .int .i64 ((k : Nat) : Int), .int .i64 (((k + 1) : Nat) : Int), .tuple #[.int .u64 (((wd (a + MM - b) k) : Nat) : Int), .int .u64 (((bo a b (k + 1)) : Nat) : Int)], .int .i64 ((k : Nat) : Int), .int .i64 ((k : Nat) : Int), .pointer (some ⟨g2, k, none⟩), .int .u64 (((wd a) k : Nat) : Int), .int .i64 ((k : Nat) : Int), .pointer (some ⟨g5, k, none⟩), .int .u64 (((wd b) k : Nat) : Int), .int .u64 (((bo a b k) : Nat) : Int), .tuple #[.int .u64 (((wd (a + MM - b) k) : Nat) : Int), .int .u64 (((bo a b (k + 1)) : Nat) : Int)], .int .u64 (((wd (a + MM - b) k) : Nat) : Int), .int .u64 (((bo a b (k + 1)) : Nat) : Int), .pointer (some ⟨g12, k, none⟩)] qq undef), rfl, (by omega), rfl, hm30⟩ ?_)
    omega
  · obtain rfl : k = 4 := by omega
    have hm31 : Mm w w19 [(g2, ws a, 37), (g5, ws b, 37), (g8, ws 0, 37), (g12, ws (a + MM - b), 37)] := by rw [show (ws (a + MM - b) : Array Value) = rowOf .u64 (mixw (a + MM - b) 0 4) 4 from (mixw_all _ _).symm]; exact hm20
    refine wp_exit ?_
    refine then_x ?_
    refine then_x ?_
    refine blk_x ?_
    refine then_n (hK16 _ _ ?_)
    refine wp_seq_k (fun K32 hK32 => ?_)
    refine wp_region_lit ?_
    refine lst (wanted_none rfl) (w_value 26 (.agg (ws (a + MM - b))) rfl (run_row rfl rfl (hm31.at 3 rfl) Try.underlying37 rfl (by rw [ws_sz]; exact info_w)) ?_)
    simp only [List.setIfInBounds_toArray, List.set_cons_zero, List.set_cons_succ]
    refine lst (wanted_none rfl) (w_value 27 (.int .u64 (((bo a b 4) : Nat) : Int)) rfl (run_mv rfl rfl) ?_)
    simp only [List.setIfInBounds_toArray, List.set_cons_zero, List.set_cons_succ]
    refine lst (wanted_none rfl) (m_store 2 37 _ _ (ws (a + MM - b)) (old := ws 0) hm31 rfl rfl rfl rfl rfl (by rw [ws_sz]; exact info_w) ((ws_sz _).trans (ws_sz _).symm) (ws_one _) (fun w33 (hm34 : Mm w w33 [(g2, ws a, 37), (g5, ws b, 37), (g8, ws (a + MM - b), 37), (g12, ws (a + MM - b), 37)]) => ?_))
    refine lst (wanted_none rfl) (w_value 5 (.int .u64 (((bo a b 4) : Nat) : Int)) rfl (run_as rfl rfl) ?_)
    simp only [List.setIfInBounds_toArray, List.set_cons_zero, List.set_cons_succ]
    refine wpList_nil ?_
    refine then_n (hK32 _ _ ?_)
    refine wp_ret ?_
    exact ⟨rfl, .tuple #[.agg (ws (a + MM - b)), .int .u64 (((bo a b 4) : Nat) : Int)], res_ct rfl rfl (hm34.at 2 rfl) Try.underlying37 rfl (by rw [ws_sz]; exact info_w) rfl, ⟨rfl, hm34.below⟩⟩
set_option maxHeartbeats 1000000 in
set_option maxRecDepth 100000 in
theorem double_any (n c : Nat) (hc : c ≤ 1) (w : World) : Calls Try.prog 28 #[.agg (ws n), .int .u64 ((c : Nat) : Int)] w (fun e w' => e = .returned (.agg (ws (2 * n + c))) ∧ Below w.heap.size w w') := by
  go_enter Try.func28, Try.ntmps28
  have hm0 := Mm.nil w
  refine wp_seq_k (fun K1 hK1 => ?_)
  refine wp_region_lit ?_
  refine lst (wanted_none rfl) (m_alloc (c := ws n) (T := 37) hm0 2 rfl (run_box rfl rfl) (fun g2 w3 (hm4 : Mm w w3 [(g2, ws n, 37)]) => ?_))
  simp only [List.setIfInBounds_toArray, List.set_cons_zero, List.set_cons_succ]
  refine lst (wanted_none rfl) (m_alloc (c := ws 0) (T := 37) hm4 4 rfl (al_W rfl) (fun g5 w6 (hm7 : Mm w w6 [(g2, ws n, 37), (g5, ws 0, 37)]) => ?_))
  simp only [List.setIfInBounds_toArray, List.set_cons_zero, List.set_cons_succ]
  refine wpList_nil ?_
  refine then_n (hK1 _ _ ?_)
  refine wp_seq_k (fun K8 hK8 => ?_)
  refine wp_region_lit ?_
  refine lst (wanted_none rfl) (m_alloc (c := ws 0) (T := 37) hm7 5 rfl (al_W rfl) (fun g9 w10 (hm11 : Mm w w10 [(g2, ws n, 37), (g5, ws 0, 37), (g9, ws 0, 37)]) => ?_))
  simp only [List.setIfInBounds_toArray, List.set_cons_zero, List.set_cons_succ]
  refine wpList_nil ?_
  refine then_n (hK8 _ _ ?_)
  refine wp_seq_k (fun K12 hK12 => ?_)
  refine wp_seq_k (fun K13 hK13 => ?_)
  refine wp_region_lit ?_
  refine lst (wanted_none rfl) (w_value 6 (.int .i64 0) rfl (run_as rfl rfl) ?_)
  simp only [List.setIfInBounds_toArray, List.set_cons_zero, List.set_cons_succ]
  refine wpList_nil ?_
  have hm14 : Mm w w10 [(g2, ws n, 37), (g5, ws 0, 37), (g9, rowOf .u64 (mixw (2 * n + c) 0 0) 4, 37)] := by rw [show (rowOf .u64 (mixw (2 * n + c) 0 0) 4 : Array Value) = ws 0 from by rw [mixw_none]; rfl]; exact hm11
  rw [show ((.int .u64 ((c : Nat) : Int)) : Value) = .int .u64 (((cy n c 0) : Nat) : Int) from by rw [cy_zero]]
  refine then_n (hK13 _ _ ?_)
  refine wp_block ?_
  refine wp_loop_n (fun n' a' w' => ∃ (k : Nat) (u0 : Nat → Value), n' = 4 - k ∧ (k ≤ 4) ∧ a' = ⟨#[.agg (ws n), .int .u64 (((cy n c k) : Nat) : Int), .pointer (some ⟨g2, 0, none⟩), undef, .pointer (some ⟨g5, 0, none⟩), .pointer (some ⟨g9, 0, none⟩), .int .i64 ((k : Nat) : Int), u0 0, u0 1, u0 2, u0 3, u0 4, u0 5, u0 6, u0 7, u0 8, u0 9, u0 10, u0 11, u0 12, u0 13, u0 14, u0 15, undef], []⟩ ∧ Mm w w' [(g2, ws n, 37), (g5, ws 0, 37), (g9, rowOf .u64 (mixw (2 * n + c) 0 k) 4, 37)]) ⟨0, (fun qq => List.getD [undef, undef, undef, undef, undef, undef, undef, undef, undef, undef, undef, undef, undef, undef, undef, undef] qq undef), rfl, (by omega), rfl, hm14⟩ ?_
  clear hm14
  rintro _ _ w15 ⟨k, u0, hn0, hk, rfl, hm16⟩ R17 hR17
  refine wp_seq_k (fun K18 hK18 => ?_)
  refine wp_seq_k (fun K19 hK19 => ?_)
  refine wp_region_lit ?_
  refine lst (wanted_none rfl) (w_value 7 (.int .i64 ((k : Nat) : Int)) rfl (run_mv rfl rfl) ?_)
  simp only [List.setIfInBounds_toArray, List.set_cons_zero, List.set_cons_succ]
  refine lst (wanted_none rfl) (w_value 8 (.bool (decide (k < 4))) rfl (r_lss k 4 rfl rfl rfl) ?_)
  simp only [List.setIfInBounds_toArray, List.set_cons_zero, List.set_cons_succ]
  refine wpList_nil ?_
  refine then_n (hK19 _ _ ?_)
  refine cond_d (k < 4) rfl (fun hc20 => ?_) (fun hc20 => ?_)
  · refine wp_skip ?_
    refine then_n (hK18 _ _ ?_)
    refine wp_seq_k (fun K21 hK21 => ?_)
    refine wp_block ?_
    refine wp_seq_k (fun K22 hK22 => ?_)
    refine wp_region_lit ?_
    refine lst (wanted_none rfl) (w_value 11 (.int .i64 ((k : Nat) : Int)) rfl (run_mv rfl rfl) ?_)
    simp only [List.setIfInBounds_toArray, List.set_cons_zero, List.set_cons_succ]
    refine lst (wanted_none rfl) (w_value 12 (.int .i64 ((k : Nat) : Int)) rfl (run_mv rfl rfl) ?_)
    simp only [List.setIfInBounds_toArray, List.set_cons_zero, List.set_cons_succ]
    refine lst (wanted_none rfl) (w_value 13 (.pointer (some ⟨g2, k, none⟩)) rfl (r_ix g2 k (by omega) Try.underlying37 one_u64 rfl rfl rfl) ?_)
    simp only [List.setIfInBounds_toArray, List.set_cons_zero, List.set_cons_succ]
    refine lst (wanted_none rfl) (w_value 14 (.int .u64 (((wd n) k : Nat) : Int)) rfl (r_cell (f := (wd n)) (n := 4) g2 k (by omega) (hm16.at 0 rfl) Try.underlying35 rfl rfl) ?_)
    simp only [List.setIfInBounds_toArray, List.set_cons_zero, List.set_cons_succ]
    refine lst (wanted_none rfl) (w_value 15 (.int .u64 (((((wd n) k) * 2 ^ 1 % 18446744073709551616) : Nat) : Int)) rfl (r_shlw ((wd n) k) 1 (by decide) rfl rfl rfl) ?_)
    simp only [List.setIfInBounds_toArray, List.set_cons_zero, List.set_cons_succ]
    refine lst (wanted_none rfl) (w_value 16 (.int .u64 (((cy n c k) : Nat) : Int)) rfl (run_mv rfl rfl) ?_)
    simp only [List.setIfInBounds_toArray, List.set_cons_zero, List.set_cons_succ]
    refine lst (wanted_none rfl) (w_value 17 (.int .u64 (((wd n k * 2 ^ 1 % 18446744073709551616 + cy n c k) : Nat) : Int)) rfl (r_orx (((wd n) k) * 2 ^ 1 % 18446744073709551616) (cy n c k) 64 (wd n k * 2 ^ 1 % 18446744073709551616 + cy n c k) (by decide) (Nat.mod_lt _ (by decide)) (Nat.lt_of_le_of_lt (cy_le _ _ _ hc) (by decide)) (or_sum _ _ 1 (by omega) (Nat.lt_of_le_of_lt (cy_le _ _ _ hc) (by decide))) rfl rfl rfl) ?_)
    simp only [List.setIfInBounds_toArray, List.set_cons_zero, List.set_cons_succ]
    refine lst (wanted_none rfl) (w_value 18 (.pointer (some ⟨g9, k, none⟩)) rfl (r_ix g9 k (by omega) Try.underlying37 one_u64 rfl rfl rfl) ?_)
    simp only [List.setIfInBounds_toArray, List.set_cons_zero, List.set_cons_succ]
    refine lst (wanted_none rfl) (m_put 2 (new := rowOf .u64 (up (mixw (2 * n + c) 0 k) k (wd n k * 2 ^ 1 % 18446744073709551616 + cy n c k)) 4) k (.int .u64 (((wd n k * 2 ^ 1 % 18446744073709551616 + cy n c k) : Nat) : Int)) (old := rowOf .u64 (mixw (2 * n + c) 0 k) 4) hm16 rfl rfl (p_cell (n := 4) (f := (mixw (2 * n + c) 0 k)) g9 k (wd n k * 2 ^ 1 % 18446744073709551616 + cy n c k) (by omega) (hm16.at 2 rfl) rfl one_u64 rfl rfl) (rowOf_set _ _ _ _ _) (fun w23 (hm24 : Mm w w23 [(g2, ws n, 37), (g5, ws 0, 37), (g9, rowOf .u64 (up (mixw (2 * n + c) 0 k) k (wd n k * 2 ^ 1 % 18446744073709551616 + cy n c k)) 4, 37)]) => ?_))
    refine wpList_nil ?_
    have hm25 : Mm w w23 [(g2, ws n, 37), (g5, ws 0, 37), (g9, rowOf .u64 (mixw (2 * n + c) 0 (k + 1)) 4, 37)] := by rw [show (rowOf .u64 (mixw (2 * n + c) 0 (k + 1)) 4 : Array Value) = rowOf .u64 (up (mixw (2 * n + c) 0 k) k (wd n k * 2 ^ 1 % 18446744073709551616 + cy n c k)) 4 from by rw [show wd n k * 2 ^ 1 = wd n k * 2 from rfl, ← wd_dbl n c k hc, mixw_up]]; exact hm24
    refine then_n (hK22 _ _ ?_)
    refine wp_region_lit ?_
    refine lst (wanted_none rfl) (w_value 19 (.int .i64 ((k : Nat) : Int)) rfl (run_mv rfl rfl) ?_)
    simp only [List.setIfInBounds_toArray, List.set_cons_zero, List.set_cons_succ]
    refine lst (wanted_none rfl) (w_value 20 (.pointer (some ⟨g2, k, none⟩)) rfl (r_ix g2 k (by omega) Try.underlying37 one_u64 rfl rfl rfl) ?_)
    simp only [List.setIfInBounds_toArray, List.set_cons_zero, List.set_cons_succ]
    refine lst (wanted_none rfl) (w_value 21 (.int .u64 (((wd n) k : Nat) : Int)) rfl (r_cell (f := (wd n)) (n := 4) g2 k (by omega) (hm25.at 0 rfl) Try.underlying35 rfl rfl) ?_)
    simp only [List.setIfInBounds_toArray, List.set_cons_zero, List.set_cons_succ]
    refine lst (wanted_none rfl) (w_value 22 (.int .u64 (((((wd n) k) / 2 ^ 63) : Nat) : Int)) rfl (r_shr ((wd n) k) 63 (by decide) rfl rfl rfl) ?_)
    simp only [List.setIfInBounds_toArray, List.set_cons_zero, List.set_cons_succ]
    refine lst (wanted_none rfl) (w_value 1 (.int .u64 (((((wd n) k) / 2 ^ 63) : Nat) : Int)) rfl (run_as rfl rfl) ?_)
    simp only [List.setIfInBounds_toArray, List.set_cons_zero, List.set_cons_succ]
    refine wpList_nil ?_
    rw [show ((.int .u64 (((((wd n) k) / 2 ^ 63) : Nat) : Int)) : Value) = .int .u64 (((cy n c (k + 1)) : Nat) : Int) from by rw [cy_succ]]
    refine blk_n ?_
    refine then_n (hK21 _ _ ?_)
    refine wp_region_lit ?_
    refine lst (wanted_none rfl) (w_value 9 (.int .i64 ((k : Nat) : Int)) rfl (run_mv rfl rfl) ?_)
    simp only [List.setIfInBounds_toArray, List.set_cons_zero, List.set_cons_succ]
    refine lst (wanted_none rfl) (w_value 10 (.int .i64 (((k + 1) : Nat) : Int)) rfl (r_add k 1 (show (k + 1) < 9223372036854775808 from by omega) rfl rfl rfl) ?_)
    simp only [List.setIfInBounds_toArray, List.set_cons_zero, List.set_cons_succ]
    refine lst (wanted_none rfl) (w_value 6 (.int .i64 (((k + 1) : Nat) : Int)) rfl (run_as rfl rfl) ?_)
    simp only [List.setIfInBounds_toArray, List.set_cons_zero, List.set_cons_succ]
    refine wpList_nil ?_
    refine then_n (hR17 _ _ _ ⟨(k + 1), (fun qq => List.getD [.int .i64 ((k : Nat) : Int), .bool (decide (k < 4)), .int .i64 ((k : Nat) : Int), .int .i64 (((k + 1) : Nat) : Int), .int .i64 ((k : Nat) : Int), .int .i64 ((k : Nat) : Int), .pointer (some ⟨g2, k, none⟩), .int .u64 (((wd n) k : Nat) : Int), .int .u64 (((((wd n) k) * 2 ^ 1 % 18446744073709551616) : Nat) : Int), .int .u64 (((cy n c k) : Nat) : Int), .int .u64 (((wd n k * 2 ^ 1 % 18446744073709551616 + cy n c k) : Nat) : Int), .pointer (some ⟨g9, k, none⟩), .int .i64 ((k : Nat) : Int), .pointer (some ⟨g2, k, none⟩), .int .u64 (((wd n) k : Nat) : Int), .int .u64 (((cy n c (k + 1)) : Nat) : Int)] qq undef), rfl, (by omega), rfl, hm25⟩ ?_)
    omega
  · obtain rfl : k = 4 := by omega
    have hm26 : Mm w w15 [(g2, ws n, 37), (g5, ws 0, 37), (g9, ws (2 * n + c), 37)] := by rw [show (ws (2 * n + c) : Array Value) = rowOf .u64 (mixw (2 * n + c) 0 4) 4 from (mixw_all _ _).symm]; exact hm16
    refine wp_exit ?_
    refine then_x ?_
    refine then_x ?_
    refine blk_x ?_
    refine then_n (hK12 _ _ ?_)
    refine wp_seq_k (fun K27 hK27 => ?_)
    refine wp_region_lit ?_
    refine lst (wanted_none rfl) (w_value 23 (.agg (ws (2 * n + c))) rfl (run_row rfl rfl (hm26.at 2 rfl) Try.underlying37 rfl (by rw [ws_sz]; exact info_w)) ?_)
    simp only [List.setIfInBounds_toArray, List.set_cons_zero, List.set_cons_succ]
    refine lst (wanted_none rfl) (m_store 1 37 _ _ (ws (2 * n + c)) (old := ws 0) hm26 rfl rfl rfl rfl rfl (by rw [ws_sz]; exact info_w) ((ws_sz _).trans (ws_sz _).symm) (ws_one _) (fun w28 (hm29 : Mm w w28 [(g2, ws n, 37), (g5, ws (2 * n + c), 37), (g9, ws (2 * n + c), 37)]) => ?_))
    refine wpList_nil ?_
    refine then_n (hK27 _ _ ?_)
    refine wp_ret ?_
    exact ⟨rfl, .agg (ws (2 * n + c)), res_c rfl rfl (hm29.at 1 rfl) Try.underlying37 rfl (by rw [ws_sz]; exact info_w), ⟨rfl, hm29.below⟩⟩
end Go.Proofs.Ytcemcnbhnedaaaa.Fld
