/- Layer 4, the document's answers: what it offers. -/
import Derived.Test.YtcemcnbhnedaaaaScF
namespace Go.Proofs.Ytcemcnbhnedaaaa.Fld
open Go.RowKit Go.Shelf
open Go.Proofs.Ytcemcnbhnedaaaa.Num (val up val_congr val_add val_lt val_up val_digits val_word)
open Go.Proofs.Ytcemcnbhnedaaaa.Arr Go.Proofs.Ytcemcnbhnedaaaa.Sym Go.Proofs.Ytcemcnbhnedaaaa.Sx

set_option maxHeartbeats 1000000 in
set_option maxRecDepth 100000 in
theorem rcanon_any (a : Nat) (ha : a < MM) (w : World) : Calls Try.prog 12 #[.agg (bs a)] w (fun e w' => e = .returned (.bool (decide (a < LL))) ∧ Below w.heap.size w w') := by
  go_enter Try.func12, Try.ntmps12
  have hm0 := Mm.nil w
  refine wp_seq_k (fun K1 hK1 => ?_)
  refine wp_region_lit ?_
  refine lst (wanted_none rfl) (m_alloc (c := bs a) (T := 23) hm0 1 rfl (run_box rfl rfl) (fun g2 w3 (hm4 : Mm w w3 [(g2, bs a, 23)]) => ?_))
  simp only [List.setIfInBounds_toArray, List.set_cons_zero, List.set_cons_succ]
  refine lst (wanted_none rfl) (w_value 2 (.bool false) rfl (run_as rfl rfl) ?_)
  simp only [List.setIfInBounds_toArray, List.set_cons_zero, List.set_cons_succ]
  refine wpList_nil ?_
  refine then_n (hK1 _ _ ?_)
  refine wp_seq_k (fun K5 hK5 => ?_)
  refine wp_region_lit ?_
  refine lst (wanted_none rfl) (w_value 3 (.agg (bs a)) rfl (run_row rfl rfl (hm4.at 0 rfl) Try.underlying23 rfl (by rw [bs_sz]; exact info_b)) ?_)
  simp only [List.setIfInBounds_toArray, List.set_cons_zero, List.set_cons_succ]
  refine lst (wanted_none rfl) (m_call hm4 4 (.agg (ws a)) rfl (run_rwords rfl rfl) (rwords_any a _) (fun w6 hm7 => ?_))
  simp only [List.setIfInBounds_toArray, List.set_cons_zero, List.set_cons_succ]
  refine lst (wanted_none rfl) (m_call hm7 5 (.agg (ws LL)) rfl (run_rorder rfl) (rorder_any _) (fun w8 hm9 => ?_))
  simp only [List.setIfInBounds_toArray, List.set_cons_zero, List.set_cons_succ]
  refine lst (wanted_none rfl) (m_call hm9 6 (.bool (decide (a < LL))) rfl (run_rbelow rfl rfl rfl) (rbelow_any a LL ha (by decide) _) (fun w10 hm11 => ?_))
  simp only [List.setIfInBounds_toArray, List.set_cons_zero, List.set_cons_succ]
  refine lst (wanted_none rfl) (w_value 2 (.bool (decide (a < LL))) rfl (run_as rfl rfl) ?_)
  simp only [List.setIfInBounds_toArray, List.set_cons_zero, List.set_cons_succ]
  refine wpList_nil ?_
  refine then_n (hK5 _ _ ?_)
  refine wp_ret ?_
  exact ⟨rfl, .bool (decide (a < LL)), res_t rfl rfl, ⟨rfl, hm11.below⟩⟩
set_option maxHeartbeats 1000000 in
set_option maxRecDepth 100000 in
theorem rwide_no (s : ByteArray) (h : ¬ s.size = 64) (w : World) : Calls Try.prog 9 #[.string s] w (fun e w' => e = .returned (.tuple #[.agg (bs 0), .bool false]) ∧ Below w.heap.size w w') := by
  go_enter Try.func9, Try.ntmps9
  have hm0 := Mm.nil w
  refine wp_seq_k (fun K1 hK1 => ?_)
  refine wp_region_lit ?_
  refine lst (wanted_none rfl) (m_alloc (c := bs 0) (T := 23) hm0 2 rfl (al_N rfl) (fun g2 w3 (hm4 : Mm w w3 [(g2, bs 0, 23)]) => ?_))
  simp only [List.setIfInBounds_toArray, List.set_cons_zero, List.set_cons_succ]
  refine lst (wanted_none rfl) (w_value 3 (.bool false) rfl (run_as rfl rfl) ?_)
  simp only [List.setIfInBounds_toArray, List.set_cons_zero, List.set_cons_succ]
  refine wpList_nil ?_
  refine then_n (hK1 _ _ ?_)
  refine wp_seq_k (fun K5 hK5 => ?_)
  refine wp_seq_k (fun K6 hK6 => ?_)
  refine wp_region_lit ?_
  refine lst (wanted_none rfl) (w_value 6 (.string s) rfl (run_mv rfl rfl) ?_)
  simp only [List.setIfInBounds_toArray, List.set_cons_zero, List.set_cons_succ]
  refine lst (wanted_none rfl) (w_value 7 (.int .i64 ((s.size : Nat) : Int)) rfl (r_len rfl Try.underlying9 rfl) ?_)
  simp only [List.setIfInBounds_toArray, List.set_cons_zero, List.set_cons_succ]
  refine lst (wanted_none rfl) (w_value 8 (.bool (decide (¬ s.size = 64))) rfl (r_neq s.size 64 rfl rfl rfl) ?_)
  simp only [List.setIfInBounds_toArray, List.set_cons_zero, List.set_cons_succ]
  refine wpList_nil ?_
  refine then_n (hK6 _ _ ?_)
  refine cond_dt (¬ s.size = 64) rfl h ?_
  refine wp_seq_k (fun K7 hK7 => ?_)
  refine wp_region_lit ?_
  refine lst (wanted_none rfl) (w_value 9 (.agg (bs 0)) rfl (by unfold execOp; go_simp; rfl) ?_)
  simp only [List.setIfInBounds_toArray, List.set_cons_zero, List.set_cons_succ]
  refine lst (wanted_none rfl) (m_store 0 23 _ _ (bs 0) (old := bs 0) hm4 rfl rfl rfl rfl rfl (by rw [bs_sz]; exact info_b) ((bs_sz _).trans (bs_sz _).symm) (bs_one _) (fun w8 (hm9 : Mm w w8 [(g2, bs 0, 23)]) => ?_))
  refine lst (wanted_none rfl) (w_value 3 (.bool false) rfl (run_as rfl rfl) ?_)
  simp only [List.setIfInBounds_toArray, List.set_cons_zero, List.set_cons_succ]
  refine wpList_nil ?_
  refine then_n (hK7 _ _ ?_)
  refine wp_ret ?_
  refine then_r ?_
  exact ⟨rfl, .tuple #[.agg (bs 0), .bool false], res_ct rfl rfl (hm9.at 0 rfl) Try.underlying23 rfl (by rw [bs_sz]; exact info_b) rfl, ⟨rfl, hm9.below⟩⟩
set_option maxHeartbeats 2000000 in
set_option maxRecDepth 100000 in
theorem rwide_yes (s : ByteArray) (h : s.size = 64) (w : World) : Calls Try.prog 9 #[.string s] w (fun e w' => e = .returned (.tuple #[.agg (bs (n64 s % LL)), .bool true]) ∧ Below w.heap.size w w') := by
  go_enter Try.func9, Try.ntmps9
  have hm0 := Mm.nil w
  refine wp_seq_k (fun K1 hK1 => ?_)
  refine wp_region_lit ?_
  refine lst (wanted_none rfl) (m_alloc (c := bs 0) (T := 23) hm0 2 rfl (al_N rfl) (fun g2 w3 (hm4 : Mm w w3 [(g2, bs 0, 23)]) => ?_))
  simp only [List.setIfInBounds_toArray, List.set_cons_zero, List.set_cons_succ]
  refine lst (wanted_none rfl) (w_value 3 (.bool false) rfl (run_as rfl rfl) ?_)
  simp only [List.setIfInBounds_toArray, List.set_cons_zero, List.set_cons_succ]
  refine wpList_nil ?_
  refine then_n (hK1 _ _ ?_)
  refine wp_seq_k (fun K5 hK5 => ?_)
  refine wp_seq_k (fun K6 hK6 => ?_)
  refine wp_region_lit ?_
  refine lst (wanted_none rfl) (w_value 6 (.string s) rfl (run_mv rfl rfl) ?_)
  simp only [List.setIfInBounds_toArray, List.set_cons_zero, List.set_cons_succ]
  refine lst (wanted_none rfl) (w_value 7 (.int .i64 ((s.size : Nat) : Int)) rfl (r_len rfl Try.underlying9 rfl) ?_)
  simp only [List.setIfInBounds_toArray, List.set_cons_zero, List.set_cons_succ]
  refine lst (wanted_none rfl) (w_value 8 (.bool (decide (¬ s.size = 64))) rfl (r_neq s.size 64 rfl rfl rfl) ?_)
  simp only [List.setIfInBounds_toArray, List.set_cons_zero, List.set_cons_succ]
  refine wpList_nil ?_
  refine then_n (hK6 _ _ ?_)
  refine cond_df (¬ s.size = 64) rfl (fun hn => hn h) ?_
  refine wp_skip ?_
  refine then_n (hK5 _ _ ?_)
  refine wp_seq_k (fun K7 hK7 => ?_)
  refine wp_region_lit ?_
  refine lst (wanted_none rfl) (m_alloc (c := w8 0) (T := 40) hm4 4 rfl (al_8 rfl) (fun g8 w9 (hm10 : Mm w w9 [(g2, bs 0, 23), (g8, w8 0, 40)]) => ?_))
  simp only [List.setIfInBounds_toArray, List.set_cons_zero, List.set_cons_succ]
  refine wpList_nil ?_
  refine then_n (hK7 _ _ ?_)
  refine wp_seq_k (fun K11 hK11 => ?_)
  refine wp_seq_k (fun K12 hK12 => ?_)
  refine wp_region_lit ?_
  refine lst (wanted_none rfl) (w_value 5 (.int .i64 0) rfl (run_as rfl rfl) ?_)
  simp only [List.setIfInBounds_toArray, List.set_cons_zero, List.set_cons_succ]
  refine wpList_nil ?_
  have hm13 : Mm w w9 [(g2, bs 0, 23), (g8, rowOf .u64 (fw (n64 s) 0) 8, 40)] := by rw [show (rowOf .u64 (fw (n64 s) 0) 8 : Array Value) = w8 0 from fw_none8 _]; exact hm10
  refine then_n (hK12 _ _ ?_)
  refine wp_block ?_
  refine wp_loop_n (fun n' a' w' => ∃ (k : Nat) (u0 : Nat → Value), n' = 64 - k ∧ (k ≤ 64) ∧ a' = ⟨#[.string s, undef, .pointer (some ⟨g2, 0, none⟩), .bool false, .pointer (some ⟨g8, 0, none⟩), .int .i64 ((k : Nat) : Int), .string s, .int .i64 ((s.size : Nat) : Int), .bool (decide (¬ s.size = 64)), undef, u0 0, u0 1, u0 2, u0 3, u0 4, u0 5, u0 6, u0 7, u0 8, u0 9, u0 10, u0 11, u0 12, u0 13, u0 14, u0 15, u0 16, u0 17, u0 18, u0 19, u0 20, undef, undef, undef], []⟩ ∧ Mm w w' [(g2, bs 0, 23), (g8, rowOf .u64 (fw (n64 s) k) 8, 40)]) ⟨0, (fun qq => List.getD [undef, undef, undef, undef, undef, undef, undef, undef, undef, undef, undef, undef, undef, undef, undef, undef, undef, undef, undef, undef, undef] qq undef), rfl, (by omega), rfl, hm13⟩ ?_
  clear hm13
  rintro _ _ w14 ⟨k, u0, hn0, hk, rfl, hm15⟩ R16 hR16
  refine wp_seq_k (fun K17 hK17 => ?_)
  refine wp_seq_k (fun K18 hK18 => ?_)
  refine wp_region_lit ?_
  refine lst (wanted_none rfl) (w_value 10 (.int .i64 ((k : Nat) : Int)) rfl (run_mv rfl rfl) ?_)
  simp only [List.setIfInBounds_toArray, List.set_cons_zero, List.set_cons_succ]
  refine lst (wanted_none rfl) (w_value 11 (.bool (decide (k < 64))) rfl (r_lss k 64 rfl rfl rfl) ?_)
  simp only [List.setIfInBounds_toArray, List.set_cons_zero, List.set_cons_succ]
  refine wpList_nil ?_
  refine then_n (hK18 _ _ ?_)
  refine cond_d (k < 64) rfl (fun hc19 => ?_) (fun hc19 => ?_)
  · refine wp_skip ?_
    refine then_n (hK17 _ _ ?_)
    refine wp_seq_k (fun K20 hK20 => ?_)
    refine wp_block ?_
    have hm21 := hm15.drew
    refine wp_region_held_drew (S := fun w' => True) (by kernel_rfl) (trivial) (fun _ => ?_)
    generalize w14.drew = w22 at *
    refine Sym.take_at 0 14 (.int .i64 ((k : Nat) : Int)) rfl rfl (by kernel_rfl) (by kernel_rfl) (by kernel_rfl) (fun _ _ _ h => h) (wanted_none rfl) (fun _ hw => run_mv rfl rfl) (trivial) ?_
    simp only [List.setIfInBounds_toArray, List.set_cons_zero, List.set_cons_succ]
    refine Sym.take_at 1 15 (.int .i64 (((k / 8) : Nat) : Int)) rfl rfl (by kernel_rfl) (by kernel_rfl) (by kernel_rfl) (fun _ _ _ h => h) (wanted_none rfl) (fun _ hw => r_quo k 8 (show k < 9223372036854775808 from by omega) (by decide) rfl rfl rfl) (trivial) ?_
    simp only [List.setIfInBounds_toArray, List.set_cons_zero, List.set_cons_succ]
    refine Sym.take_at 2 16 (.int .i64 ((k : Nat) : Int)) rfl rfl (by kernel_rfl) (by kernel_rfl) (by kernel_rfl) (fun _ _ _ h => h) (wanted_none rfl) (fun _ hw => run_mv rfl rfl) (trivial) ?_
    simp only [List.setIfInBounds_toArray, List.set_cons_zero, List.set_cons_succ]
    refine Sym.take_at 3 17 (.int .i64 (((k / 8) : Nat) : Int)) rfl rfl (by kernel_rfl) (by kernel_rfl) (by kernel_rfl) (fun _ _ _ h => h) (wanted_none rfl) (fun _ hw => r_quo k 8 (show k < 9223372036854775808 from by omega) (by decide) rfl rfl rfl) (trivial) ?_
    simp only [List.setIfInBounds_toArray, List.set_cons_zero, List.set_cons_succ]
    refine Sym.take_at 4 18 (.pointer (some ⟨g8, (k / 8), none⟩)) rfl rfl (by kernel_rfl) (by kernel_rfl) (by kernel_rfl) (fun _ _ _ h => h) (wanted_none rfl) (fun _ hw => r_ix g8 (k / 8) (by omega) Try.underlying40 one_u64 rfl rfl rfl) (trivial) ?_
    simp only [List.setIfInBounds_toArray, List.set_cons_zero, List.set_cons_succ]
    refine Sym.take_at 6 20 (.string s) rfl rfl (by kernel_rfl) (by kernel_rfl) (by kernel_rfl) (fun _ _ _ h => h) (wanted_none rfl) (fun _ hw => run_mv rfl rfl) (trivial) ?_
    simp only [List.setIfInBounds_toArray, List.set_cons_zero, List.set_cons_succ]
    refine Sym.take_at 7 21 (.int .i64 ((k : Nat) : Int)) rfl rfl (by kernel_rfl) (by kernel_rfl) (by kernel_rfl) (fun _ _ _ h => h) (wanted_none rfl) (fun _ hw => run_mv rfl rfl) (trivial) ?_
    simp only [List.setIfInBounds_toArray, List.set_cons_zero, List.set_cons_succ]
    refine Sym.take_at 8 22 (.int .u8 (((bt (n64 s) k) : Nat) : Int)) rfl rfl (by kernel_rfl) (by kernel_rfl) (by kernel_rfl) (fun _ _ _ h => h) (wanted_none rfl) (fun _ hw => r_char k (bt (n64 s) k) (by omega) ((sb_at s k _).trans (n64_bt s k (by omega))) Try.underlying9 rfl rfl rfl) (trivial) ?_
    simp only [List.setIfInBounds_toArray, List.set_cons_zero, List.set_cons_succ]
    refine Sym.take_at 9 23 (.int .u64 (((bt (n64 s) k) : Nat) : Int)) rfl rfl (by kernel_rfl) (by kernel_rfl) (by kernel_rfl) (fun _ _ _ h => h) (wanted_none rfl) (fun _ hw => r_conv (k' := .u64) (bt (n64 s) k) (bt (n64 s) k) some_u8 Try.underlying35 (wrap_nat (Nat.lt_trans (bt_lt _ _) (by decide))) rfl rfl) (trivial) ?_
    simp only [List.setIfInBounds_toArray, List.set_cons_zero, List.set_cons_succ]
    refine Sym.take_at 10 24 (.int .i64 ((k : Nat) : Int)) rfl rfl (by kernel_rfl) (by kernel_rfl) (by kernel_rfl) (fun _ _ _ h => h) (wanted_none rfl) (fun _ hw => run_mv rfl rfl) (trivial) ?_
    simp only [List.setIfInBounds_toArray, List.set_cons_zero, List.set_cons_succ]
    refine Sym.take_at 11 25 (.int .i64 (((k % 8) : Nat) : Int)) rfl rfl (by kernel_rfl) (by kernel_rfl) (by kernel_rfl) (fun _ _ _ h => h) (wanted_none rfl) (fun _ hw => r_rem k 8 (show k < 9223372036854775808 from by omega) (by decide) rfl rfl rfl) (trivial) ?_
    simp only [List.setIfInBounds_toArray, List.set_cons_zero, List.set_cons_succ]
    refine Sym.take_at 12 26 (.int .u64 (((k % 8) : Nat) : Int)) rfl rfl (by kernel_rfl) (by kernel_rfl) (by kernel_rfl) (fun _ _ _ h => h) (wanted_none rfl) (fun _ hw => r_conv (k' := .u64) (k % 8) (k % 8) some_i64 Try.underlying41 (wrap_nat (show k % 8 < 18446744073709551616 from by omega)) rfl rfl) (trivial) ?_
    simp only [List.setIfInBounds_toArray, List.set_cons_zero, List.set_cons_succ]
    refine Sym.take_at 13 27 (.int .u64 (((8 * (k % 8)) : Nat) : Int)) rfl rfl (by kernel_rfl) (by kernel_rfl) (by kernel_rfl) (fun _ _ _ h => h) (wanted_none rfl) (fun _ hw => r_mul 8 (k % 8) (show (8 * (k % 8)) < 18446744073709551616 from by omega) rfl rfl rfl) (trivial) ?_
    simp only [List.setIfInBounds_toArray, List.set_cons_zero, List.set_cons_succ]
    refine Sym.take_at 14 28 (.int .u64 ((((bt (n64 s) k) * 2 ^ (8 * (k % 8))) : Nat) : Int)) rfl rfl (by kernel_rfl) (by kernel_rfl) (by kernel_rfl) (fun _ _ _ h => h) (wanted_none rfl) (fun _ hw => r_shl (bt (n64 s) k) (8 * (k % 8)) (sh_lt _ _ (bt_lt _ _) (Nat.mod_lt _ (by decide))) (show 8 * (k % 8) ≤ 64 from by omega) rfl rfl rfl) (trivial) ?_
    simp only [List.setIfInBounds_toArray, List.set_cons_zero, List.set_cons_succ]
    refine one_ready 5 (by kernel_rfl) ?_
    refine opd rfl (wanted_none rfl) (w_value 19 (.int .u64 (((fw (n64 s) k) (k / 8) : Nat) : Int)) rfl (r_cell (f := (fw (n64 s) k)) (n := 8) g8 (k / 8) (by omega) (hm21.at 1 rfl) Try.underlying35 rfl rfl) ⟨trivial, ?_⟩)
    simp only [List.setIfInBounds_toArray, List.set_cons_zero, List.set_cons_succ]
    refine Sym.take_at 15 29 (.int .u64 (((fw (n64 s) k (k / 8) + bt (n64 s) k * 2 ^ (8 * (k % 8))) : Nat) : Int)) rfl rfl (by kernel_rfl) (by kernel_rfl) (by kernel_rfl) (fun _ _ _ h => h) (wanted_none rfl) (fun _ hw => r_orx ((fw (n64 s) k) (k / 8)) ((bt (n64 s) k) * 2 ^ (8 * (k % 8))) 64 (fw (n64 s) k (k / 8) + bt (n64 s) k * 2 ^ (8 * (k % 8))) (by decide) (lt_64 (fw_lt _ k) (Nat.mod_lt _ (by decide))) (sh_lt _ _ (bt_lt _ _) (Nat.mod_lt _ (by decide))) (or_low _ _ _ (fw_lt _ k) (Nat.mul_mod_left _ _)) rfl rfl rfl) (trivial) ?_
    simp only [List.setIfInBounds_toArray, List.set_cons_zero, List.set_cons_succ]
    refine Sym.take_at 16 30 (.pointer (some ⟨g8, (k / 8), none⟩)) rfl rfl (by kernel_rfl) (by kernel_rfl) (by kernel_rfl) (fun _ _ _ h => h) (wanted_none rfl) (fun _ hw => r_ix g8 (k / 8) (by omega) Try.underlying40 one_u64 rfl rfl rfl) (trivial) ?_
    simp only [List.setIfInBounds_toArray, List.set_cons_zero, List.set_cons_succ]
    refine one_ready 17 (by kernel_rfl) ?_
    refine opd rfl (wanted_none rfl) (m_put 1 (new := rowOf .u64 (up (fw (n64 s) k) (k / 8) (fw (n64 s) k (k / 8) + bt (n64 s) k * 2 ^ (8 * (k % 8)))) 8) (k / 8) (.int .u64 (((fw (n64 s) k (k / 8) + bt (n64 s) k * 2 ^ (8 * (k % 8))) : Nat) : Int)) (old := rowOf .u64 (fw (n64 s) k) 8) hm21 rfl rfl (p_cell (n := 8) (f := (fw (n64 s) k)) g8 (k / 8) (fw (n64 s) k (k / 8) + bt (n64 s) k * 2 ^ (8 * (k % 8))) (by omega) (hm21.at 1 rfl) rfl one_u64 rfl rfl) (rowOf_set _ _ _ _ _) (fun w23 (hm24 : Mm w w23 [(g2, bs 0, 23), (g8, rowOf .u64 (up (fw (n64 s) k) (k / 8) (fw (n64 s) k (k / 8) + bt (n64 s) k * 2 ^ (8 * (k % 8)))) 8, 40)]) => ?_))
    refine ⟨trivial, ?_⟩
    refine wpAnyH_done (by kernel_rfl) ?_ _
    have hm25 : Mm w w23 [(g2, bs 0, 23), (g8, rowOf .u64 (fw (n64 s) (k + 1)) 8, 40)] := by rw [show (rowOf .u64 (fw (n64 s) (k + 1)) 8 : Array Value) = rowOf .u64 (up (fw (n64 s) k) (k / 8) (fw (n64 s) k (k / 8) + bt (n64 s) k * 2 ^ (8 * (k % 8)))) 8 from by rw [fw_up']]; exact hm24
    refine blk_n ?_
    refine then_n (hK20 _ _ ?_)
    refine wp_region_lit ?_
    refine lst (wanted_none rfl) (w_value 12 (.int .i64 ((k : Nat) : Int)) rfl (run_mv rfl rfl) ?_)
    simp only [List.setIfInBounds_toArray, List.set_cons_zero, List.set_cons_succ]
    refine lst (wanted_none rfl) (w_value 13 (.int .i64 (((k + 1) : Nat) : Int)) rfl (r_add k 1 (show (k + 1) < 9223372036854775808 from by omega) rfl rfl rfl) ?_)
    simp only [List.setIfInBounds_toArray, List.set_cons_zero, List.set_cons_succ]
    refine lst (wanted_none rfl) (w_value 5 (.int .i64 (((k + 1) : Nat) : Int)) rfl (run_as rfl rfl) ?_)
    simp only [List.setIfInBounds_toArray, List.set_cons_zero, List.set_cons_succ]
    refine wpList_nil ?_
    refine then_n (hR16 _ _ _ ⟨(k + 1), (fun qq => List.getD [.int .i64 ((k : Nat) : Int), .bool (decide (k < 64)), .int .i64 ((k : Nat) : Int), .int .i64 (((k + 1) : Nat) : Int), .int .i64 ((k : Nat) : Int), .int .i64 (((k / 8) : Nat) : Int), .int .i64 ((k : Nat) : Int), .int .i64 (((k / 8) : Nat) : Int), .pointer (some ⟨g8, (k / 8), none⟩), .int .u64 (((fw (n64 s) k) (k / 8) : Nat) : Int), .string s, .int .i64 ((k : Nat) : Int), .int .u8 (((bt (n64 s) k) : Nat) : Int), .int .u64 (((bt (n64 s) k) : Nat) : Int), .int .i64 ((k : Nat) : Int), .int .i64 (((k % 8) : Nat) : Int), .int .u64 (((k % 8) : Nat) : Int), .int .u64 (((8 * (k % 8)) : Nat) : Int), .int .u64 ((((bt (n64 s) k) * 2 ^ (8 * (k % 8))) : Nat) : Int), .int .u64 (((fw (n64 s) k (k / 8) + bt (n64 s) k * 2 ^ (8 * (k % 8))) : Nat) : Int), .pointer (some ⟨g8, (k / 8), none⟩)] qq undef), rfl, (by omega), rfl, hm25⟩ ?_)
    omega
  · obtain rfl : k = 64 := by omega
    have hm26 : Mm w w14 [(g2, bs 0, 23), (g8, w8 (n64 s), 40)] := by rw [show (w8 (n64 s) : Array Value) = rowOf .u64 (fw (n64 s) 64) 8 from (fw_all8 _).symm]; exact hm15
    refine wp_exit ?_
    refine then_x ?_
    refine then_x ?_
    refine blk_x ?_
    refine then_n (hK11 _ _ ?_)
    refine wp_seq_k (fun K27 hK27 => ?_)
    refine wp_region_lit ?_
    refine lst (wanted_none rfl) (w_value 31 (.agg (w8 (n64 s))) rfl (run_row rfl rfl (hm26.at 1 rfl) Try.underlying40 rfl (by rw [w8_sz]; exact info_8)) ?_)
    simp only [List.setIfInBounds_toArray, List.set_cons_zero, List.set_cons_succ]
    refine lst (wanted_none rfl) (m_call hm26 32 (.agg (ws ((n64 s) % LL))) rfl (run_rrest rfl rfl) (rrest_any (n64 s) (n64_lt s) _) (fun w28 hm29 => ?_))
    simp only [List.setIfInBounds_toArray, List.set_cons_zero, List.set_cons_succ]
    refine lst (wanted_none rfl) (m_call hm29 33 (.agg (bs ((n64 s) % LL))) rfl (run_rnum rfl rfl) (rnum_any ((n64 s) % LL) _) (fun w30 hm31 => ?_))
    simp only [List.setIfInBounds_toArray, List.set_cons_zero, List.set_cons_succ]
    refine lst (wanted_none rfl) (m_store 0 23 _ _ (bs ((n64 s) % LL)) (old := bs 0) hm31 rfl rfl rfl rfl rfl (by rw [bs_sz]; exact info_b) ((bs_sz _).trans (bs_sz _).symm) (bs_one _) (fun w32 (hm33 : Mm w w32 [(g2, bs ((n64 s) % LL), 23), (g8, w8 (n64 s), 40)]) => ?_))
    refine lst (wanted_none rfl) (w_value 3 (.bool true) rfl (run_as rfl rfl) ?_)
    simp only [List.setIfInBounds_toArray, List.set_cons_zero, List.set_cons_succ]
    refine wpList_nil ?_
    refine then_n (hK27 _ _ ?_)
    refine wp_ret ?_
    exact ⟨rfl, .tuple #[.agg (bs ((n64 s) % LL)), .bool true], res_ct rfl rfl (hm33.at 0 rfl) Try.underlying23 rfl (by rw [bs_sz]; exact info_b) rfl, ⟨rfl, hm33.below⟩⟩
end Go.Proofs.Ytcemcnbhnedaaaa.Fld
