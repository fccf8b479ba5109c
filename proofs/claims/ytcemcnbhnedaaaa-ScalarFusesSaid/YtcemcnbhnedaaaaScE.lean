/- Layer 4, the document's answers: words, numbers, order. -/
import Derived.Test.YtcemcnbhnedaaaaScT
import Derived.Test.YtcemcnbhnedaaaaScN
namespace Go.Proofs.Ytcemcnbhnedaaaa.Fld
open Go.RowKit Go.Shelf
open Go.Proofs.Ytcemcnbhnedaaaa.Num (val up val_congr val_add val_lt val_up val_digits val_word)
open Go.Proofs.Ytcemcnbhnedaaaa.Arr Go.Proofs.Ytcemcnbhnedaaaa.Sym Go.Proofs.Ytcemcnbhnedaaaa.Sx

set_option maxHeartbeats 1000000 in
set_option maxRecDepth 100000 in
theorem rorder_any  (w : World) : Calls Try.prog 24 #[] w (fun e w' => e = .returned (.agg (ws LL)) ∧ Below w.heap.size w w') := by
  go_enter Try.func24, Try.ntmps24
  have hm0 := Mm.nil w
  refine wp_seq_k (fun K1 hK1 => ?_)
  refine wp_region_lit ?_
  refine lst (wanted_none rfl) (m_alloc (c := ws 0) (T := 36) hm0 0 rfl (al_X rfl) (fun g2 w3 (hm4 : Mm w w3 [(g2, ws 0, 36)]) => ?_))
  simp only [List.setIfInBounds_toArray, List.set_cons_zero]
  refine wpList_nil ?_
  refine then_n (hK1 _ _ ?_)
  refine wp_seq_k (fun K5 hK5 => ?_)
  refine wp_region_lit ?_
  refine lst (wanted_none rfl) (w_value 1 (.agg (ws LL)) rfl (by unfold execOp; go_simp; rfl) ?_)
  simp only [List.setIfInBounds_toArray, List.set_cons_zero, List.set_cons_succ]
  refine lst (wanted_none rfl) (m_store 0 36 _ _ (ws LL) (old := ws 0) hm4 rfl rfl rfl rfl rfl (by rw [ws_sz]; exact info_x) ((ws_sz _).trans (ws_sz _).symm) (ws_one _) (fun w6 (hm7 : Mm w w6 [(g2, ws LL, 36)]) => ?_))
  refine wpList_nil ?_
  refine then_n (hK5 _ _ ?_)
  refine wp_ret ?_
  exact ⟨rfl, .agg (ws LL), res_c rfl rfl (hm7.at 0 rfl) Try.underlying36 rfl (by rw [ws_sz]; exact info_x), ⟨rfl, hm7.below⟩⟩
set_option maxHeartbeats 1000000 in
set_option maxRecDepth 100000 in
theorem rnum_any (n : Nat) (w : World) : Calls Try.prog 18 #[.agg (ws n)] w (fun e w' => e = .returned (.agg (bs n)) ∧ Below w.heap.size w w') := by
  go_enter Try.func18, Try.ntmps18
  have hm0 := Mm.nil w
  refine wp_seq_k (fun K1 hK1 => ?_)
  refine wp_region_lit ?_
  refine lst (wanted_none rfl) (m_alloc (c := ws n) (T := 36) hm0 1 rfl (run_box rfl rfl) (fun g2 w3 (hm4 : Mm w w3 [(g2, ws n, 36)]) => ?_))
  simp only [List.setIfInBounds_toArray, List.set_cons_zero, List.set_cons_succ]
  refine lst (wanted_none rfl) (m_alloc (c := bs 0) (T := 23) hm4 2 rfl (al_N rfl) (fun g5 w6 (hm7 : Mm w w6 [(g2, ws n, 36), (g5, bs 0, 23)]) => ?_))
  simp only [List.setIfInBounds_toArray, List.set_cons_zero, List.set_cons_succ]
  refine wpList_nil ?_
  refine then_n (hK1 _ _ ?_)
  refine wp_seq_k (fun K8 hK8 => ?_)
  refine wp_region_lit ?_
  refine lst (wanted_none rfl) (m_alloc (c := bs 0) (T := 23) hm7 3 rfl (al_N rfl) (fun g9 w10 (hm11 : Mm w w10 [(g2, ws n, 36), (g5, bs 0, 23), (g9, bs 0, 23)]) => ?_))
  simp only [List.setIfInBounds_toArray, List.set_cons_zero, List.set_cons_succ]
  refine wpList_nil ?_
  refine then_n (hK8 _ _ ?_)
  refine wp_seq_k (fun K12 hK12 => ?_)
  refine wp_seq_k (fun K13 hK13 => ?_)
  refine wp_region_lit ?_
  refine lst (wanted_none rfl) (w_value 4 (.int .i64 0) rfl (run_as rfl rfl) ?_)
  simp only [List.setIfInBounds_toArray, List.set_cons_zero, List.set_cons_succ]
  refine wpList_nil ?_
  have hm14 : Mm w w10 [(g2, ws n, 36), (g5, bs 0, 23), (g9, rowOf .u8 (partb n 0) 32, 23)] := by rw [show (rowOf .u8 (partb n 0) 32 : Array Value) = bs 0 from partb_none n]; exact hm11
  refine then_n (hK13 _ _ ?_)
  refine wp_block ?_
  refine wp_loop_n (fun n' a' w' => ∃ (k : Nat) (u0 : Nat → Value), n' = 32 - k ∧ (k ≤ 32) ∧ a' = ⟨#[.agg (ws n), .pointer (some ⟨g2, 0, none⟩), .pointer (some ⟨g5, 0, none⟩), .pointer (some ⟨g9, 0, none⟩), .int .i64 ((k : Nat) : Int), u0 0, u0 1, u0 2, u0 3, u0 4, u0 5, u0 6, u0 7, u0 8, u0 9, u0 10, u0 11, u0 12, u0 13, u0 14, u0 15, undef], []⟩ ∧ Mm w w' [(g2, ws n, 36), (g5, bs 0, 23), (g9, rowOf .u8 (partb n k) 32, 23)]) ⟨0, (fun qq => List.getD [undef, undef, undef, undef, undef, undef, undef, undef, undef, undef, undef, undef, undef, undef, undef, undef] qq undef), rfl, (by omega), rfl, hm14⟩ ?_
  clear hm14
  rintro _ _ w15 ⟨k, u0, hn0, hk, rfl, hm16⟩ R17 hR17
  refine wp_seq_k (fun K18 hK18 => ?_)
  refine wp_seq_k (fun K19 hK19 => ?_)
  refine wp_region_lit ?_
  refine lst (wanted_none rfl) (w_value 5 (.int .i64 ((k : Nat) : Int)) rfl (run_mv rfl rfl) ?_)
  simp only [List.setIfInBounds_toArray, List.set_cons_zero, List.set_cons_succ]
  refine lst (wanted_none rfl) (w_value 6 (.bool (decide (k < 32))) rfl (r_lss k 32 rfl rfl rfl) ?_)
  simp only [List.setIfInBounds_toArray, List.set_cons_zero, List.set_cons_succ]
  refine wpList_nil ?_
  refine then_n (hK19 _ _ ?_)
  refine cond_d (k < 32) rfl (fun hc20 => ?_) (fun hc20 => ?_)
  · refine wp_skip ?_
    refine then_n (hK18 _ _ ?_)
    refine wp_seq_k (fun K21 hK21 => ?_)
    refine wp_block ?_
    refine wp_region_lit ?_
    refine lst (wanted_none rfl) (w_value 9 (.int .i64 ((k : Nat) : Int)) rfl (run_mv rfl rfl) ?_)
    simp only [List.setIfInBounds_toArray, List.set_cons_zero, List.set_cons_succ]
    refine lst (wanted_none rfl) (w_value 10 (.int .i64 ((k : Nat) : Int)) rfl (run_mv rfl rfl) ?_)
    simp only [List.setIfInBounds_toArray, List.set_cons_zero, List.set_cons_succ]
    refine lst (wanted_none rfl) (w_value 11 (.int .i64 (((k / 8) : Nat) : Int)) rfl (r_quo k 8 (show k < 9223372036854775808 from by omega) (by decide) rfl rfl rfl) ?_)
    simp only [List.setIfInBounds_toArray, List.set_cons_zero, List.set_cons_succ]
    refine lst (wanted_none rfl) (w_value 12 (.pointer (some ⟨g2, (k / 8), none⟩)) rfl (r_ix g2 (k / 8) (by omega) Try.underlying36 one_u64 rfl rfl rfl) ?_)
    simp only [List.setIfInBounds_toArray, List.set_cons_zero, List.set_cons_succ]
    refine lst (wanted_none rfl) (w_value 13 (.int .u64 (((wd n) (k / 8) : Nat) : Int)) rfl (r_cell (f := (wd n)) (n := 4) g2 (k / 8) (by omega) (hm16.at 0 rfl) Try.underlying35 rfl rfl) ?_)
    simp only [List.setIfInBounds_toArray, List.set_cons_zero, List.set_cons_succ]
    refine lst (wanted_none rfl) (w_value 14 (.int .i64 ((k : Nat) : Int)) rfl (run_mv rfl rfl) ?_)
    simp only [List.setIfInBounds_toArray, List.set_cons_zero, List.set_cons_succ]
    refine lst (wanted_none rfl) (w_value 15 (.int .i64 (((k % 8) : Nat) : Int)) rfl (r_rem k 8 (show k < 9223372036854775808 from by omega) (by decide) rfl rfl rfl) ?_)
    simp only [List.setIfInBounds_toArray, List.set_cons_zero, List.set_cons_succ]
    refine lst (wanted_none rfl) (w_value 16 (.int .u64 (((k % 8) : Nat) : Int)) rfl (r_conv (k' := .u64) (k % 8) (k % 8) some_i64 Try.underlying41 (wrap_nat (show k % 8 < 18446744073709551616 from by omega)) rfl rfl) ?_)
    simp only [List.setIfInBounds_toArray, List.set_cons_zero, List.set_cons_succ]
    refine lst (wanted_none rfl) (w_value 17 (.int .u64 (((8 * (k % 8)) : Nat) : Int)) rfl (r_mul 8 (k % 8) (show (8 * (k % 8)) < 18446744073709551616 from by omega) rfl rfl rfl) ?_)
    simp only [List.setIfInBounds_toArray, List.set_cons_zero, List.set_cons_succ]
    refine lst (wanted_none rfl) (w_value 18 (.int .u64 (((((wd n) (k / 8)) / 2 ^ (8 * (k % 8))) : Nat) : Int)) rfl (r_shr ((wd n) (k / 8)) (8 * (k % 8)) (show 8 * (k % 8) ≤ 64 from by omega) rfl rfl rfl) ?_)
    simp only [List.setIfInBounds_toArray, List.set_cons_zero, List.set_cons_succ]
    refine lst (wanted_none rfl) (w_value 19 (.int .u8 ((((((wd n) (k / 8)) / 2 ^ (8 * (k % 8))) % 256) : Nat) : Int)) rfl (r_conv (k' := .u8) (((wd n) (k / 8)) / 2 ^ (8 * (k % 8))) ((((wd n) (k / 8)) / 2 ^ (8 * (k % 8))) % 256) some_u64 Try.underlying5 (wrap_u8n _) rfl rfl) ?_)
    simp only [List.setIfInBounds_toArray, List.set_cons_zero, List.set_cons_succ]
    refine lst (wanted_none rfl) (w_value 20 (.pointer (some ⟨g9, k, none⟩)) rfl (r_ix g9 k (by omega) Try.underlying23 one_u8 rfl rfl rfl) ?_)
    simp only [List.setIfInBounds_toArray, List.set_cons_zero, List.set_cons_succ]
    refine lst (wanted_none rfl) (m_put 2 (new := rowOf .u8 (up (partb n k) k ((((wd n) (k / 8)) / 2 ^ (8 * (k % 8))) % 256)) 32) k (.int .u8 ((((((wd n) (k / 8)) / 2 ^ (8 * (k % 8))) % 256) : Nat) : Int)) (old := rowOf .u8 (partb n k) 32) hm16 rfl rfl (p_cell (n := 32) (f := (partb n k)) g9 k ((((wd n) (k / 8)) / 2 ^ (8 * (k % 8))) % 256) (by omega) (hm16.at 2 rfl) rfl one_u8 rfl rfl) (rowOf_set _ _ _ _ _) (fun w22 (hm23 : Mm w w22 [(g2, ws n, 36), (g5, bs 0, 23), (g9, rowOf .u8 (up (partb n k) k ((((wd n) (k / 8)) / 2 ^ (8 * (k % 8))) % 256)) 32, 23)]) => ?_))
    refine wpList_nil ?_
    have hm24 : Mm w w22 [(g2, ws n, 36), (g5, bs 0, 23), (g9, rowOf .u8 (partb n (k + 1)) 32, 23)] := by rw [show (rowOf .u8 (partb n (k + 1)) 32 : Array Value) = rowOf .u8 (up (partb n k) k ((((wd n) (k / 8)) / 2 ^ (8 * (k % 8))) % 256)) 32 from by rw [bt_of_wd, partb_up]]; exact hm23
    refine blk_n ?_
    refine then_n (hK21 _ _ ?_)
    refine wp_region_lit ?_
    refine lst (wanted_none rfl) (w_value 7 (.int .i64 ((k : Nat) : Int)) rfl (run_mv rfl rfl) ?_)
    simp only [List.setIfInBounds_toArray, List.set_cons_zero, List.set_cons_succ]
    refine lst (wanted_none rfl) (w_value 8 (.int .i64 (((k + 1) : Nat) : Int)) rfl (r_add k 1 (show (k + 1) < 9223372036854775808 from by omega) rfl rfl rfl) ?_)
    simp only [List.setIfInBounds_toArray, List.set_cons_zero, List.set_cons_succ]
    refine lst (wanted_none rfl) (w_value 4 (.int .i64 (((k + 1) : Nat) : Int)) rfl (run_as rfl rfl) ?_)
    simp only [List.setIfInBounds_toArray, List.set_cons_zero, List.set_cons_succ]
    refine wpList_nil ?_
    refine then_n (hR17 _ _ _ ⟨(k + 1), (fun qq => List.getD [.int .i64 ((k : Nat) : Int), .bool (decide (k < 32)), .int .i64 ((k : Nat) : Int), .int .i64 (((k + 1) : Nat) : Int), .int .i64 ((k : Nat) : Int), .int .i64 ((k : Nat) : Int), .int .i64 (((k / 8) : Nat) : Int), .pointer (some ⟨g2, (k / 8), none⟩), .int .u64 (((wd n) (k / 8) : Nat) : Int), .int .i64 ((k : Nat) : Int), .int .i64 (((k % 8) : Nat) : Int), .int .u64 (((k % 8) : Nat) : Int), .int .u64 (((8 * (k % 8)) : Nat) : Int), .int .u64 (((((wd n) (k / 8)) / 2 ^ (8 * (k % 8))) : Nat) : Int), .int .u8 ((((((wd n) (k / 8)) / 2 ^ (8 * (k % 8))) % 256) : Nat) : Int), .pointer (some ⟨g9, k, none⟩)] qq undef), rfl, (by omega), rfl, hm24⟩ ?_)
    omega
  · obtain rfl : k = 32 := by omega
    have hm25 : Mm w w15 [(g2, ws n, 36), (g5, bs 0, 23), (g9, bs n, 23)] := by rw [show (bs n : Array Value) = rowOf .u8 (partb n 32) 32 from (partb_all n).symm]; exact hm16
    refine wp_exit ?_
    refine then_x ?_
    refine then_x ?_
    refine blk_x ?_
    refine then_n (hK12 _ _ ?_)
    refine wp_seq_k (fun K26 hK26 => ?_)
    refine wp_region_lit ?_
    refine lst (wanted_none rfl) (w_value 21 (.agg (bs n)) rfl (run_row rfl rfl (hm25.at 2 rfl) Try.underlying23 rfl (by rw [bs_sz]; exact info_b)) ?_)
    simp only [List.setIfInBounds_toArray, List.set_cons_zero, List.set_cons_succ]
    refine lst (wanted_none rfl) (m_store 1 23 _ _ (bs n) (old := bs 0) hm25 rfl rfl rfl rfl rfl (by rw [bs_sz]; exact info_b) ((bs_sz _).trans (bs_sz _).symm) (bs_one _) (fun w27 (hm28 : Mm w w27 [(g2, ws n, 36), (g5, bs n, 23), (g9, bs n, 23)]) => ?_))
    refine wpList_nil ?_
    refine then_n (hK26 _ _ ?_)
    refine wp_ret ?_
    exact ⟨rfl, .agg (bs n), res_c rfl rfl (hm28.at 1 rfl) Try.underlying23 rfl (by rw [bs_sz]; exact info_b), ⟨rfl, hm28.below⟩⟩
set_option maxHeartbeats 1000000 in
set_option maxRecDepth 100000 in
theorem rwords_any (n : Nat) (w : World) : Calls Try.prog 23 #[.agg (bs n)] w (fun e w' => e = .returned (.agg (ws n)) ∧ Below w.heap.size w w') := by
  go_enter Try.func23, Try.ntmps23
  have hm0 := Mm.nil w
  refine wp_seq_k (fun K1 hK1 => ?_)
  refine wp_region_lit ?_
  refine lst (wanted_none rfl) (m_alloc (c := bs n) (T := 23) hm0 1 rfl (run_box rfl rfl) (fun g2 w3 (hm4 : Mm w w3 [(g2, bs n, 23)]) => ?_))
  simp only [List.setIfInBounds_toArray, List.set_cons_zero, List.set_cons_succ]
  refine lst (wanted_none rfl) (m_alloc (c := ws 0) (T := 36) hm4 2 rfl (al_X rfl) (fun g5 w6 (hm7 : Mm w w6 [(g2, bs n, 23), (g5, ws 0, 36)]) => ?_))
  simp only [List.setIfInBounds_toArray, List.set_cons_zero, List.set_cons_succ]
  refine wpList_nil ?_
  refine then_n (hK1 _ _ ?_)
  refine wp_seq_k (fun K8 hK8 => ?_)
  refine wp_region_lit ?_
  refine lst (wanted_none rfl) (m_alloc (c := ws 0) (T := 36) hm7 3 rfl (al_X rfl) (fun g9 w10 (hm11 : Mm w w10 [(g2, bs n, 23), (g5, ws 0, 36), (g9, ws 0, 36)]) => ?_))
  simp only [List.setIfInBounds_toArray, List.set_cons_zero, List.set_cons_succ]
  refine wpList_nil ?_
  refine then_n (hK8 _ _ ?_)
  refine wp_seq_k (fun K12 hK12 => ?_)
  refine wp_seq_k (fun K13 hK13 => ?_)
  refine wp_region_lit ?_
  refine lst (wanted_none rfl) (w_value 4 (.int .i64 0) rfl (run_as rfl rfl) ?_)
  simp only [List.setIfInBounds_toArray, List.set_cons_zero, List.set_cons_succ]
  refine wpList_nil ?_
  have hm14 : Mm w w10 [(g2, bs n, 23), (g5, ws 0, 36), (g9, rowOf .u64 (fw n 0) 4, 36)] := by rw [show (rowOf .u64 (fw n 0) 4 : Array Value) = ws 0 from fw_none n]; exact hm11
  refine then_n (hK13 _ _ ?_)
  refine wp_block ?_
  refine wp_loop_n (fun n' a' w' => ∃ (k : Nat) (u0 : Nat → Value), n' = 32 - k ∧ (k ≤ 32) ∧ a' = ⟨#[.agg (bs n), .pointer (some ⟨g2, 0, none⟩), .pointer (some ⟨g5, 0, none⟩), .pointer (some ⟨g9, 0, none⟩), .int .i64 ((k : Nat) : Int), u0 0, u0 1, u0 2, u0 3, u0 4, u0 5, u0 6, u0 7, u0 8, u0 9, u0 10, u0 11, u0 12, u0 13, u0 14, u0 15, u0 16, u0 17, u0 18, u0 19, u0 20, undef], []⟩ ∧ Mm w w' [(g2, bs n, 23), (g5, ws 0, 36), (g9, rowOf .u64 (fw n k) 4, 36)]) ⟨0, (fun qq => List.getD [undef, undef, undef, undef, undef, undef, undef, undef, undef, undef, undef, undef, undef, undef, undef, undef, undef, undef, undef, undef, undef] qq undef), rfl, (by omega), rfl, hm14⟩ ?_
  clear hm14
  rintro _ _ w15 ⟨k, u0, hn0, hk, rfl, hm16⟩ R17 hR17
  refine wp_seq_k (fun K18 hK18 => ?_)
  refine wp_seq_k (fun K19 hK19 => ?_)
  refine wp_region_lit ?_
  refine lst (wanted_none rfl) (w_value 5 (.int .i64 ((k : Nat) : Int)) rfl (run_mv rfl rfl) ?_)
  simp only [List.setIfInBounds_toArray, List.set_cons_zero, List.set_cons_succ]
  refine lst (wanted_none rfl) (w_value 6 (.bool (decide (k < 32))) rfl (r_lss k 32 rfl rfl rfl) ?_)
  simp only [List.setIfInBounds_toArray, List.set_cons_zero, List.set_cons_succ]
  refine wpList_nil ?_
  refine then_n (hK19 _ _ ?_)
  refine cond_d (k < 32) rfl (fun hc20 => ?_) (fun hc20 => ?_)
  · refine wp_skip ?_
    refine then_n (hK18 _ _ ?_)
    refine wp_seq_k (fun K21 hK21 => ?_)
    refine wp_block ?_
    have hm22 := hm16.drew
    refine wp_region_held_drew (S := fun w' => Sym.Blk w' g2 (bs n) 23) (by kernel_rfl) (hm16.at 0 rfl) (fun _ => ?_)
    generalize w15.drew = w23 at *
    refine Sym.take_at 0 9 (.int .i64 ((k : Nat) : Int)) rfl rfl (by kernel_rfl) (by kernel_rfl) (by kernel_rfl) (fun _ _ _ h => h) (wanted_none rfl) (fun _ hw => run_mv rfl rfl) (hm22.at 0 rfl) ?_
    simp only [List.setIfInBounds_toArray, List.set_cons_zero, List.set_cons_succ]
    refine Sym.take_at 1 10 (.int .i64 (((k / 8) : Nat) : Int)) rfl rfl (by kernel_rfl) (by kernel_rfl) (by kernel_rfl) (fun _ _ _ h => h) (wanted_none rfl) (fun _ hw => r_quo k 8 (show k < 9223372036854775808 from by omega) (by decide) rfl rfl rfl) (hm22.at 0 rfl) ?_
    simp only [List.setIfInBounds_toArray, List.set_cons_zero, List.set_cons_succ]
    refine Sym.take_at 2 11 (.int .i64 ((k : Nat) : Int)) rfl rfl (by kernel_rfl) (by kernel_rfl) (by kernel_rfl) (fun _ _ _ h => h) (wanted_none rfl) (fun _ hw => run_mv rfl rfl) (hm22.at 0 rfl) ?_
    simp only [List.setIfInBounds_toArray, List.set_cons_zero, List.set_cons_succ]
    refine Sym.take_at 3 12 (.int .i64 (((k / 8) : Nat) : Int)) rfl rfl (by kernel_rfl) (by kernel_rfl) (by kernel_rfl) (fun _ _ _ h => h) (wanted_none rfl) (fun _ hw => r_quo k 8 (show k < 9223372036854775808 from by omega) (by decide) rfl rfl rfl) (hm22.at 0 rfl) ?_
    simp only [List.setIfInBounds_toArray, List.set_cons_zero, List.set_cons_succ]
    refine Sym.take_at 4 13 (.pointer (some ⟨g9, (k / 8), none⟩)) rfl rfl (by kernel_rfl) (by kernel_rfl) (by kernel_rfl) (fun _ _ _ h => h) (wanted_none rfl) (fun _ hw => r_ix g9 (k / 8) (by omega) Try.underlying36 one_u64 rfl rfl rfl) (hm22.at 0 rfl) ?_
    simp only [List.setIfInBounds_toArray, List.set_cons_zero, List.set_cons_succ]
    refine Sym.take_at 6 15 (.int .i64 ((k : Nat) : Int)) rfl rfl (by kernel_rfl) (by kernel_rfl) (by kernel_rfl) (fun _ _ _ h => h) (wanted_none rfl) (fun _ hw => run_mv rfl rfl) (hm22.at 0 rfl) ?_
    simp only [List.setIfInBounds_toArray, List.set_cons_zero, List.set_cons_succ]
    refine Sym.take_at 7 16 (.pointer (some ⟨g2, k, none⟩)) rfl rfl (by kernel_rfl) (by kernel_rfl) (by kernel_rfl) (fun _ _ _ h => h) (wanted_none rfl) (fun _ hw => r_ix g2 k (by omega) Try.underlying23 one_u8 rfl rfl rfl) (hm22.at 0 rfl) ?_
    simp only [List.setIfInBounds_toArray, List.set_cons_zero, List.set_cons_succ]
    refine Sym.take_at 8 17 (.int .u8 (((bt n) k : Nat) : Int)) rfl rfl (by kernel_rfl) (by kernel_rfl) (by kernel_rfl) (fun _ _ _ h => h) (wanted_none rfl) (fun _ hw => r_cell (f := (bt n)) (n := 32) g2 k (by omega) hw Try.underlying5 rfl rfl) (hm22.at 0 rfl) ?_
    simp only [List.setIfInBounds_toArray, List.set_cons_zero, List.set_cons_succ]
    refine Sym.take_at 9 18 (.int .u64 (((bt n k) : Nat) : Int)) rfl rfl (by kernel_rfl) (by kernel_rfl) (by kernel_rfl) (fun _ _ _ h => h) (wanted_none rfl) (fun _ hw => r_conv (k' := .u64) ((bt n) k) (bt n k) some_u8 Try.underlying35 (wrap_nat (Nat.lt_trans (bt_lt _ _) (by decide))) rfl rfl) (hm22.at 0 rfl) ?_
    simp only [List.setIfInBounds_toArray, List.set_cons_zero, List.set_cons_succ]
    refine Sym.take_at 10 19 (.int .i64 ((k : Nat) : Int)) rfl rfl (by kernel_rfl) (by kernel_rfl) (by kernel_rfl) (fun _ _ _ h => h) (wanted_none rfl) (fun _ hw => run_mv rfl rfl) (hm22.at 0 rfl) ?_
    simp only [List.setIfInBounds_toArray, List.set_cons_zero, List.set_cons_succ]
    refine Sym.take_at 11 20 (.int .i64 (((k % 8) : Nat) : Int)) rfl rfl (by kernel_rfl) (by kernel_rfl) (by kernel_rfl) (fun _ _ _ h => h) (wanted_none rfl) (fun _ hw => r_rem k 8 (show k < 9223372036854775808 from by omega) (by decide) rfl rfl rfl) (hm22.at 0 rfl) ?_
    simp only [List.setIfInBounds_toArray, List.set_cons_zero, List.set_cons_succ]
    refine Sym.take_at 12 21 (.int .u64 (((k % 8) : Nat) : Int)) rfl rfl (by kernel_rfl) (by kernel_rfl) (by kernel_rfl) (fun _ _ _ h => h) (wanted_none rfl) (fun _ hw => r_conv (k' := .u64) (k % 8) (k % 8) some_i64 Try.underlying41 (wrap_nat (show k % 8 < 18446744073709551616 from by omega)) rfl rfl) (hm22.at 0 rfl) ?_
    simp only [List.setIfInBounds_toArray, List.set_cons_zero, List.set_cons_succ]
    refine Sym.take_at 13 22 (.int .u64 (((8 * (k % 8)) : Nat) : Int)) rfl rfl (by kernel_rfl) (by kernel_rfl) (by kernel_rfl) (fun _ _ _ h => h) (wanted_none rfl) (fun _ hw => r_mul 8 (k % 8) (show (8 * (k % 8)) < 18446744073709551616 from by omega) rfl rfl rfl) (hm22.at 0 rfl) ?_
    simp only [List.setIfInBounds_toArray, List.set_cons_zero, List.set_cons_succ]
    refine Sym.take_at 14 23 (.int .u64 ((((bt n k) * 2 ^ (8 * (k % 8))) : Nat) : Int)) rfl rfl (by kernel_rfl) (by kernel_rfl) (by kernel_rfl) (fun _ _ _ h => h) (wanted_none rfl) (fun _ hw => r_shl (bt n k) (8 * (k % 8)) (sh_lt _ _ (bt_lt _ _) (Nat.mod_lt _ (by decide))) (show 8 * (k % 8) ≤ 64 from by omega) rfl rfl rfl) (hm22.at 0 rfl) ?_
    simp only [List.setIfInBounds_toArray, List.set_cons_zero, List.set_cons_succ]
    refine one_ready 5 (by kernel_rfl) ?_
    refine opd rfl (wanted_none rfl) (w_value 14 (.int .u64 (((fw n k) (k / 8) : Nat) : Int)) rfl (r_cell (f := (fw n k)) (n := 4) g9 (k / 8) (by omega) (hm22.at 2 rfl) Try.underlying35 rfl rfl) ⟨hm22.at 0 rfl, ?_⟩)
    simp only [List.setIfInBounds_toArray, List.set_cons_zero, List.set_cons_succ]
    refine Sym.take_at 15 24 (.int .u64 (((fw n k (k / 8) + bt n k * 2 ^ (8 * (k % 8))) : Nat) : Int)) rfl rfl (by kernel_rfl) (by kernel_rfl) (by kernel_rfl) (fun _ _ _ h => h) (wanted_none rfl) (fun _ hw => r_orx ((fw n k) (k / 8)) ((bt n k) * 2 ^ (8 * (k % 8))) 64 (fw n k (k / 8) + bt n k * 2 ^ (8 * (k % 8))) (by decide) (lt_64 (fw_lt n k) (Nat.mod_lt _ (by decide))) (sh_lt _ _ (bt_lt _ _) (Nat.mod_lt _ (by decide))) (or_low _ _ _ (fw_lt n k) (Nat.mul_mod_left _ _)) rfl rfl rfl) (hm22.at 0 rfl) ?_
    simp only [List.setIfInBounds_toArray, List.set_cons_zero, List.set_cons_succ]
    refine Sym.take_at 16 25 (.pointer (some ⟨g9, (k / 8), none⟩)) rfl rfl (by kernel_rfl) (by kernel_rfl) (by kernel_rfl) (fun _ _ _ h => h) (wanted_none rfl) (fun _ hw => r_ix g9 (k / 8) (by omega) Try.underlying36 one_u64 rfl rfl rfl) (hm22.at 0 rfl) ?_
    simp only [List.setIfInBounds_toArray, List.set_cons_zero, List.set_cons_succ]
    refine one_ready 17 (by kernel_rfl) ?_
    refine opd rfl (wanted_none rfl) (m_put 2 (new := rowOf .u64 (up (fw n k) (k / 8) (fw n k (k / 8) + bt n k * 2 ^ (8 * (k % 8)))) 4) (k / 8) (.int .u64 (((fw n k (k / 8) + bt n k * 2 ^ (8 * (k % 8))) : Nat) : Int)) (old := rowOf .u64 (fw n k) 4) hm22 rfl rfl (p_cell (n := 4) (f := (fw n k)) g9 (k / 8) (fw n k (k / 8) + bt n k * 2 ^ (8 * (k % 8))) (by omega) (hm22.at 2 rfl) rfl one_u64 rfl rfl) (rowOf_set _ _ _ _ _) (fun w24 (hm25 : Mm w w24 [(g2, bs n, 23), (g5, ws 0, 36), (g9, rowOf .u64 (up (fw n k) (k / 8) (fw n k (k / 8) + bt n k * 2 ^ (8 * (k % 8)))) 4, 36)]) => ?_))
    refine ⟨hm25.at 0 rfl, ?_⟩
    refine wpAnyH_done (by kernel_rfl) ?_ _
    have hm26 : Mm w w24 [(g2, bs n, 23), (g5, ws 0, 36), (g9, rowOf .u64 (fw n (k + 1)) 4, 36)] := by rw [show (rowOf .u64 (fw n (k + 1)) 4 : Array Value) = rowOf .u64 (up (fw n k) (k / 8) (fw n k (k / 8) + bt n k * 2 ^ (8 * (k % 8)))) 4 from by rw [fw_up']]; exact hm25
    refine blk_n ?_
    refine then_n (hK21 _ _ ?_)
    refine wp_region_lit ?_
    refine lst (wanted_none rfl) (w_value 7 (.int .i64 ((k : Nat) : Int)) rfl (run_mv rfl rfl) ?_)
    simp only [List.setIfInBounds_toArray, List.set_cons_zero, List.set_cons_succ]
    refine lst (wanted_none rfl) (w_value 8 (.int .i64 (((k + 1) : Nat) : Int)) rfl (r_add k 1 (show (k + 1) < 9223372036854775808 from by omega) rfl rfl rfl) ?_)
    simp only [List.setIfInBounds_toArray, List.set_cons_zero, List.set_cons_succ]
    refine lst (wanted_none rfl) (w_value 4 (.int .i64 (((k + 1) : Nat) : Int)) rfl (run_as rfl rfl) ?_)
    simp only [List.setIfInBounds_toArray, List.set_cons_zero, List.set_cons_succ]
    refine wpList_nil ?_
    refine then_n (hR17 _ _ _ ⟨(k + 1), (fun qq => List.getD [.int .i64 ((k : Nat) : Int), .bool (decide (k < 32)), .int .i64 ((k : Nat) : Int), .int .i64 (((k + 1) : Nat) : Int), .int .i64 ((k : Nat) : Int), .int .i64 (((k / 8) : Nat) : Int), .int .i64 ((k : Nat) : Int), .int .i64 (((k / 8) : Nat) : Int), .pointer (some ⟨g9, (k / 8), none⟩), .int .u64 (((fw n k) (k / 8) : Nat) : Int), .int .i64 ((k : Nat) : Int), .pointer (some ⟨g2, k, none⟩), .int .u8 (((bt n) k : Nat) : Int), .int .u64 (((bt n k) : Nat) : Int), .int .i64 ((k : Nat) : Int), .int .i64 (((k % 8) : Nat) : Int), .int .u64 (((k % 8) : Nat) : Int), .int .u64 (((8 * (k % 8)) : Nat) : Int), .int .u64 ((((bt n k) * 2 ^ (8 * (k % 8))) : Nat) : Int), .int .u64 (((fw n k (k / 8) + bt n k * 2 ^ (8 * (k % 8))) : Nat) : Int), .pointer (some ⟨g9, (k / 8), none⟩)] qq undef), rfl, (by omega), rfl, hm26⟩ ?_)
    omega
  · obtain rfl : k = 32 := by omega
    have hm27 : Mm w w15 [(g2, bs n, 23), (g5, ws 0, 36), (g9, ws n, 36)] := by rw [show (ws n : Array Value) = rowOf .u64 (fw n 32) 4 from (fw_all n).symm]; exact hm16
    refine wp_exit ?_
    refine then_x ?_
    refine then_x ?_
    refine blk_x ?_
    refine then_n (hK12 _ _ ?_)
    refine wp_seq_k (fun K28 hK28 => ?_)
    refine wp_region_lit ?_
    refine lst (wanted_none rfl) (w_value 26 (.agg (ws n)) rfl (run_row rfl rfl (hm27.at 2 rfl) Try.underlying36 rfl (by rw [ws_sz]; exact info_x)) ?_)
    simp only [List.setIfInBounds_toArray, List.set_cons_zero, List.set_cons_succ]
    refine lst (wanted_none rfl) (m_store 1 36 _ _ (ws n) (old := ws 0) hm27 rfl rfl rfl rfl rfl (by rw [ws_sz]; exact info_x) ((ws_sz _).trans (ws_sz _).symm) (ws_one _) (fun w29 (hm30 : Mm w w29 [(g2, bs n, 23), (g5, ws n, 36), (g9, ws n, 36)]) => ?_))
    refine wpList_nil ?_
    refine then_n (hK28 _ _ ?_)
    refine wp_ret ?_
    exact ⟨rfl, .agg (ws n), res_c rfl rfl (hm30.at 1 rfl) Try.underlying36 rfl (by rw [ws_sz]; exact info_x), ⟨rfl, hm30.below⟩⟩
set_option maxHeartbeats 1000000 in
set_option maxRecDepth 100000 in
theorem rbelow_any (a b : Nat) (ha : a < MM) (hb : b < MM) (w : World) : Calls Try.prog 22 #[.agg (ws a), .agg (ws b)] w (fun e w' => e = .returned (.bool (decide (a < b))) ∧ Below w.heap.size w w') := by
  go_enter Try.func22, Try.ntmps22
  have hm0 := Mm.nil w
  refine wp_seq_k (fun K1 hK1 => ?_)
  refine wp_region_lit ?_
  refine lst (wanted_none rfl) (m_alloc (c := ws a) (T := 36) hm0 2 rfl (run_box rfl rfl) (fun g2 w3 (hm4 : Mm w w3 [(g2, ws a, 36)]) => ?_))
  simp only [List.setIfInBounds_toArray, List.set_cons_zero, List.set_cons_succ]
  refine lst (wanted_none rfl) (m_alloc (c := ws b) (T := 36) hm4 3 rfl (run_box rfl rfl) (fun g5 w6 (hm7 : Mm w w6 [(g2, ws a, 36), (g5, ws b, 36)]) => ?_))
  simp only [List.setIfInBounds_toArray, List.set_cons_zero, List.set_cons_succ]
  refine lst (wanted_none rfl) (w_value 4 (.bool false) rfl (run_as rfl rfl) ?_)
  simp only [List.setIfInBounds_toArray, List.set_cons_zero, List.set_cons_succ]
  refine wpList_nil ?_
  refine then_n (hK1 _ _ ?_)
  refine wp_seq_k (fun K8 hK8 => ?_)
  refine wp_seq_k (fun K9 hK9 => ?_)
  refine wp_region_lit ?_
  refine lst (wanted_none rfl) (w_value 5 (.int .i64 3) rfl (run_as rfl rfl) ?_)
  simp only [List.setIfInBounds_toArray, List.set_cons_zero, List.set_cons_succ]
  refine wpList_nil ?_
  refine then_n (hK9 _ _ ?_)
  refine wp_block ?_
  refine wp_loop_n (fun n' a' w' => ∃ (k : Nat) (z : Int) (u0 : Nat → Value), n' = k ∧ (k ≤ 4) ∧ (z = (k : Int) - 1) ∧ (a / 18446744073709551616 ^ k = b / 18446744073709551616 ^ k) ∧ a' = ⟨#[.agg (ws a), .agg (ws b), .pointer (some ⟨g2, 0, none⟩), .pointer (some ⟨g5, 0, none⟩), u0 0, .int .i64 (z), u0 1, u0 2, u0 3, u0 4, u0 5, u0 6, u0 7, u0 8, u0 9, u0 10, u0 11, u0 12, u0 13, u0 14, u0 15, u0 16, u0 17, u0 18], []⟩ ∧ Mm w w' [(g2, ws a, 36), (g5, ws b, 36)]) ⟨4, 3, (fun qq => List.getD [.bool false, undef, undef, undef, undef, undef, undef, undef, undef, undef, undef, undef, undef, undef, undef, undef, undef, undef, undef] qq undef), rfl, (by omega), (by decide), (by rw [bel_top a ha, bel_top b hb]), rfl, hm7⟩ ?_
  clear hm7
  rintro _ _ w10 ⟨k, z, u0, hn0, hk, hz, he, rfl, hm11⟩ R12 hR12
  refine wp_seq_k (fun K13 hK13 => ?_)
  refine wp_seq_k (fun K14 hK14 => ?_)
  refine wp_region_lit ?_
  refine lst (wanted_none rfl) (w_value 6 (.int .i64 (z)) rfl (run_mv rfl rfl) ?_)
  simp only [List.setIfInBounds_toArray, List.set_cons_zero, List.set_cons_succ]
  refine lst (wanted_none rfl) (w_value 7 (.bool (decide (((0 : Nat) : Int) ≤ z))) rfl (r_geqZ (z) (((0 : Nat) : Int)) rfl rfl rfl) ?_)
  simp only [List.setIfInBounds_toArray, List.set_cons_zero, List.set_cons_succ]
  refine wpList_nil ?_
  refine then_n (hK14 _ _ ?_)
  refine cond_d (((0 : Nat) : Int) ≤ z) rfl (fun hc15 => ?_) (fun hc15 => ?_)
  · obtain ⟨m, rfl⟩ : ∃ m, k = m + 1 := ⟨k - 1, by omega⟩
    obtain rfl : z = ((m : Nat) : Int) := by omega
    refine wp_skip ?_
    refine then_n (hK13 _ _ ?_)
    refine wp_seq_k (fun K16 hK16 => ?_)
    refine wp_block ?_
    refine wp_seq_k (fun K17 hK17 => ?_)
    have hm18 := hm11.drew
    refine wp_region_held_drew (S := fun w' => Sym.Blk w' g2 (ws a) 36 ∧ Sym.Blk w' g5 (ws b) 36) (by kernel_rfl) (⟨hm11.at 0 rfl, hm11.at 1 rfl⟩) (fun _ => ?_)
    generalize w10.drew = w19 at *
    refine Sym.take_at 0 10 (.int .i64 ((m : Nat) : Int)) rfl rfl (by kernel_rfl) (by kernel_rfl) (by kernel_rfl) (fun _ _ _ h => h) (wanted_none rfl) (fun _ hw => run_mv rfl rfl) (⟨hm18.at 0 rfl, hm18.at 1 rfl⟩) ?_
    simp only [List.setIfInBounds_toArray, List.set_cons_zero, List.set_cons_succ]
    refine Sym.take_at 1 11 (.pointer (some ⟨g2, m, none⟩)) rfl rfl (by kernel_rfl) (by kernel_rfl) (by kernel_rfl) (fun _ _ _ h => h) (wanted_none rfl) (fun _ hw => r_ix g2 m (by omega) Try.underlying36 one_u64 rfl rfl rfl) (⟨hm18.at 0 rfl, hm18.at 1 rfl⟩) ?_
    simp only [List.setIfInBounds_toArray, List.set_cons_zero, List.set_cons_succ]
    refine Sym.take_at 2 12 (.int .u64 (((wd a) m : Nat) : Int)) rfl rfl (by kernel_rfl) (by kernel_rfl) (by kernel_rfl) (fun _ _ _ h => h) (wanted_none rfl) (fun _ hw => r_cell (f := (wd a)) (n := 4) g2 m (by omega) hw.1 Try.underlying35 rfl rfl) (⟨hm18.at 0 rfl, hm18.at 1 rfl⟩) ?_
    simp only [List.setIfInBounds_toArray, List.set_cons_zero, List.set_cons_succ]
    refine Sym.take_at 3 13 (.int .i64 ((m : Nat) : Int)) rfl rfl (by kernel_rfl) (by kernel_rfl) (by kernel_rfl) (fun _ _ _ h => h) (wanted_none rfl) (fun _ hw => run_mv rfl rfl) (⟨hm18.at 0 rfl, hm18.at 1 rfl⟩) ?_
    simp only [List.setIfInBounds_toArray, List.set_cons_zero, List.set_cons_succ]
    refine Sym.take_at 4 14 (.pointer (some ⟨g5, m, none⟩)) rfl rfl (by kernel_rfl) (by kernel_rfl) (by kernel_rfl) (fun _ _ _ h => h) (wanted_none rfl) (fun _ hw => r_ix g5 m (by omega) Try.underlying36 one_u64 rfl rfl rfl) (⟨hm18.at 0 rfl, hm18.at 1 rfl⟩) ?_
    simp only [List.setIfInBounds_toArray, List.set_cons_zero, List.set_cons_succ]
    refine Sym.take_at 5 15 (.int .u64 (((wd b) m : Nat) : Int)) rfl rfl (by kernel_rfl) (by kernel_rfl) (by kernel_rfl) (fun _ _ _ h => h) (wanted_none rfl) (fun _ hw => r_cell (f := (wd b)) (n := 4) g5 m (by omega) hw.2 Try.underlying35 rfl rfl) (⟨hm18.at 0 rfl, hm18.at 1 rfl⟩) ?_
    simp only [List.setIfInBounds_toArray, List.set_cons_zero, List.set_cons_succ]
    refine Sym.take_at 6 16 (.bool (decide (¬ (wd a) m = (wd b) m))) rfl rfl (by kernel_rfl) (by kernel_rfl) (by kernel_rfl) (fun _ _ _ h => h) (wanted_none rfl) (fun _ hw => r_neq ((wd a) m) ((wd b) m) rfl rfl rfl) (⟨hm18.at 0 rfl, hm18.at 1 rfl⟩) ?_
    simp only [List.setIfInBounds_toArray, List.set_cons_zero, List.set_cons_succ]
    refine wpAnyH_done (by kernel_rfl) ?_ _
    refine then_n (hK17 _ _ ?_)
    refine cond_d (¬ (wd a) m = (wd b) m) rfl (fun hc20 => ?_) (fun hc20 => ?_)
    · refine wp_seq_k (fun K21 hK21 => ?_)
      have hm22 := hm18.drew
      refine wp_region_held_drew (S := fun w' => Sym.Blk w' g2 (ws a) 36 ∧ Sym.Blk w' g5 (ws b) 36) (by kernel_rfl) (⟨hm18.at 0 rfl, hm18.at 1 rfl⟩) (fun _ => ?_)
      generalize w19.drew = w23 at *
      refine Sym.take_at 0 17 (.int .i64 ((m : Nat) : Int)) rfl rfl (by kernel_rfl) (by kernel_rfl) (by kernel_rfl) (fun _ _ _ h => h) (wanted_none rfl) (fun _ hw => run_mv rfl rfl) (⟨hm22.at 0 rfl, hm22.at 1 rfl⟩) ?_
      simp only [List.setIfInBounds_toArray, List.set_cons_zero, List.set_cons_succ]
      refine Sym.take_at 1 18 (.pointer (some ⟨g2, m, none⟩)) rfl rfl (by kernel_rfl) (by kernel_rfl) (by kernel_rfl) (fun _ _ _ h => h) (wanted_none rfl) (fun _ hw => r_ix g2 m (by omega) Try.underlying36 one_u64 rfl rfl rfl) (⟨hm22.at 0 rfl, hm22.at 1 rfl⟩) ?_
      simp only [List.setIfInBounds_toArray, List.set_cons_zero, List.set_cons_succ]
      refine Sym.take_at 2 19 (.int .u64 (((wd a) m : Nat) : Int)) rfl rfl (by kernel_rfl) (by kernel_rfl) (by kernel_rfl) (fun _ _ _ h => h) (wanted_none rfl) (fun _ hw => r_cell (f := (wd a)) (n := 4) g2 m (by omega) hw.1 Try.underlying35 rfl rfl) (⟨hm22.at 0 rfl, hm22.at 1 rfl⟩) ?_
      simp only [List.setIfInBounds_toArray, List.set_cons_zero, List.set_cons_succ]
      refine Sym.take_at 3 20 (.int .i64 ((m : Nat) : Int)) rfl rfl (by kernel_rfl) (by kernel_rfl) (by kernel_rfl) (fun _ _ _ h => h) (wanted_none rfl) (fun _ hw => run_mv rfl rfl) (⟨hm22.at 0 rfl, hm22.at 1 rfl⟩) ?_
      simp only [List.setIfInBounds_toArray, List.set_cons_zero, List.set_cons_succ]
      refine Sym.take_at 4 21 (.pointer (some ⟨g5, m, none⟩)) rfl rfl (by kernel_rfl) (by kernel_rfl) (by kernel_rfl) (fun _ _ _ h => h) (wanted_none rfl) (fun _ hw => r_ix g5 m (by omega) Try.underlying36 one_u64 rfl rfl rfl) (⟨hm22.at 0 rfl, hm22.at 1 rfl⟩) ?_
      simp only [List.setIfInBounds_toArray, List.set_cons_zero, List.set_cons_succ]
      refine Sym.take_at 5 22 (.int .u64 (((wd b) m : Nat) : Int)) rfl rfl (by kernel_rfl) (by kernel_rfl) (by kernel_rfl) (fun _ _ _ h => h) (wanted_none rfl) (fun _ hw => r_cell (f := (wd b)) (n := 4) g5 m (by omega) hw.2 Try.underlying35 rfl rfl) (⟨hm22.at 0 rfl, hm22.at 1 rfl⟩) ?_
      simp only [List.setIfInBounds_toArray, List.set_cons_zero, List.set_cons_succ]
      refine Sym.take_at 6 23 (.bool (decide ((wd a) m < (wd b) m))) rfl rfl (by kernel_rfl) (by kernel_rfl) (by kernel_rfl) (fun _ _ _ h => h) (wanted_none rfl) (fun _ hw => r_lss ((wd a) m) ((wd b) m) rfl rfl rfl) (⟨hm22.at 0 rfl, hm22.at 1 rfl⟩) ?_
      simp only [List.setIfInBounds_toArray, List.set_cons_zero, List.set_cons_succ]
      refine one_ready 7 (by kernel_rfl) ?_
      refine opd rfl (wanted_none rfl) (w_value 4 (.bool (decide ((wd a) m < (wd b) m))) rfl (run_as rfl rfl) ⟨⟨hm22.at 0 rfl, hm22.at 1 rfl⟩, ?_⟩)
      simp only [List.setIfInBounds_toArray, List.set_cons_zero, List.set_cons_succ]
      refine wpAnyH_done (by kernel_rfl) ?_ _
      refine then_n (hK21 _ _ ?_)
      refine wp_ret ?_
      refine blk_r ?_
      refine then_r ?_
      refine then_r ?_
      refine blk_r ?_
      refine then_r ?_
      exact ⟨rfl, .bool (decide ((wd a) m < (wd b) m)), res_t rfl rfl, ⟨by rw [bel_ne a b m he hc20], hm22.below⟩⟩
    · refine wp_skip ?_
      refine blk_n ?_
      refine then_n (hK16 _ _ ?_)
      refine wp_region_lit ?_
      refine lst (wanted_none rfl) (w_value 8 (.int .i64 ((m : Nat) : Int)) rfl (run_mv rfl rfl) ?_)
      simp only [List.setIfInBounds_toArray, List.set_cons_zero, List.set_cons_succ]
      refine lst (wanted_none rfl) (w_value 9 (.int .i64 (((m : Nat) : Int) - 1)) rfl (r_subZ ((m : Nat) : Int) ((1 : Nat) : Int) _ (IntWalk.i64_in _ (by omega)) rfl rfl rfl) ?_)
      simp only [List.setIfInBounds_toArray, List.set_cons_zero, List.set_cons_succ]
      refine lst (wanted_none rfl) (w_value 5 (.int .i64 (((m : Nat) : Int) - 1)) rfl (run_as rfl rfl) ?_)
      simp only [List.setIfInBounds_toArray, List.set_cons_zero, List.set_cons_succ]
      refine wpList_nil ?_
      refine then_n (hR12 _ _ _ ⟨m, _, (fun qq => List.getD [u0 0, .int .i64 ((m : Nat) : Int), .bool (decide (((0 : Nat) : Int) ≤ ((m : Nat) : Int))), .int .i64 ((m : Nat) : Int), .int .i64 (((m : Nat) : Int) - 1), .int .i64 ((m : Nat) : Int), .pointer (some ⟨g2, m, none⟩), .int .u64 (((wd a) m : Nat) : Int), .int .i64 ((m : Nat) : Int), .pointer (some ⟨g5, m, none⟩), .int .u64 (((wd b) m : Nat) : Int), .bool (decide (¬ (wd a) m = (wd b) m)), u0 12, u0 13, u0 14, u0 15, u0 16, u0 17, u0 18] qq undef), rfl, (by omega), rfl, (bel_eq a b m he (Classical.not_not.1 hc20)), rfl, hm18⟩ ?_)
      omega
  · obtain rfl : k = 0 := by omega
    refine wp_exit ?_
    refine then_x ?_
    refine then_x ?_
    refine blk_x ?_
    refine then_n (hK8 _ _ ?_)
    refine wp_seq_k (fun K24 hK24 => ?_)
    refine wp_region_lit ?_
    refine lst (wanted_none rfl) (w_value 4 (.bool false) rfl (run_as rfl rfl) ?_)
    simp only [List.setIfInBounds_toArray, List.set_cons_zero, List.set_cons_succ]
    refine wpList_nil ?_
    refine then_n (hK24 _ _ ?_)
    refine wp_ret ?_
    exact ⟨rfl, .bool false, res_t rfl rfl, ⟨by rw [← bel_end a b he], hm11.below⟩⟩
end Go.Proofs.Ytcemcnbhnedaaaa.Fld
