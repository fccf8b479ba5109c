/- Layer 5: a point out of its bytes. -/
import Derived.Test.YtfpphinnngblgaaDoorPtB
import Derived.Test.YtfpphinnngblgaaDoorPtM
import Derived.Test.YtfpphinnngblgaaDoorSy
namespace Go.Proofs.YtfpphinnngblgaaDoor.Fld
open Go.RowKit Go.Lib
open Go.Proofs.YtfpphinnngblgaaDoor.Num (val up val_congr val_add val_lt val_up val_digits val_word)
open Go.Proofs.YtfpphinnngblgaaDoor.Arr Go.Proofs.YtfpphinnngblgaaDoor.Sym Go.Proofs.YtfpphinnngblgaaDoor.Sx

theorem rootu_lt (a : Nat) : rootV a < MM := by
  have hR : rootR a < PP := by
    unfold rootR rt2 rt1
    split
    · exact Nat.mod_lt _ (by decide)
    · exact Nat.mod_lt _ (by decide)
  have := pp_lt
  unfold rootV
  split
  · split <;> omega
  · unfold MM; omega
theorem mulu_g (a b c : Nat) (ha : a < MM) (hb : b < MM) (h : fM a b = c) (w : World) : Calls Tryd.prog 28 #[.agg (bs a), .agg (bs b)] w (fun e w' => e = .returned (.agg (bs c)) ∧ Below w.heap.size w w') := by
  rw [← h]; exact mul_f a b ha hb w
theorem addu_g (a b c : Nat) (ha : a < MM) (hb : b < MM) (h : fA a b = c) (w : World) : Calls Tryd.prog 29 #[.agg (bs a), .agg (bs b)] w (fun e w' => e = .returned (.agg (bs c)) ∧ Below w.heap.size w w') := by
  rw [← h]; exact add_f a b ha hb w
theorem subu_g (a b c : Nat) (ha : a < MM) (hb : b < MM) (h : fS a b = c) (w : World) : Calls Tryd.prog 32 #[.agg (bs a), .agg (bs b)] w (fun e w' => e = .returned (.agg (bs c)) ∧ Below w.heap.size w w') := by
  rw [← h]; exact sub_f a b ha hb w
theorem invu_g (a i : Nat) (ha : a < MM) (h : fI a = i) (w : World) : Calls Tryd.prog 33 #[.agg (bs a)] w (fun e w' => e = .returned (.agg (bs i)) ∧ Below w.heap.size w w') := by
  rw [← h]; exact inv_f a ha w
theorem rootu_g (a x : Nat) (ha : a < MM) (h : rootV (a % PP) = x) (w : World) : Calls Tryd.prog 31 #[.agg (bs a)] w (fun e w' => e = .returned (.tuple #[.agg (bs x), .bool (rootOk (a % PP))]) ∧ Below w.heap.size w w') := by
  rw [← h]; exact root_any a ha w
set_option maxHeartbeats 4000000 in
set_option maxRecDepth 100000 in
theorem un_len (s : ByteArray) (hs : ¬ s.size = 32) (w : World) : Calls Tryd.prog 10 #[.string s] w (fun e w' => e = .returned (.tuple #[.agg (pt 0 0 0 0), .bool false]) ∧ Below w.heap.size w w') := by
  go_enter Tryd.func10, Tryd.ntmps10
  have hm0 := Mm.nil w
  refine wp_seq_k (fun K1 hK1 => ?_)
  refine wp_region_lit ?_
  refine lst (wanted_none rfl) (m_alloc (c := pt 0 0 0 0) (T := 25) hm0 2 rfl (al_P rfl) (fun g2 w3 (hm4 : Mm w w3 [(g2, pt 0 0 0 0, 25)]) => ?_))
  simp only [nz1, nz2, nz3]
  refine lv 3 (.bool false) rfl rfl (run_as rfl rfl) ?_
  simp only [nz1, nz2, nz3]
  refine wpList_nil ?_
  refine then_n (hK1 _ _ ?_)
  refine wp_seq_k (fun K5 hK5 => ?_)
  refine wp_seq_k (fun K6 hK6 => ?_)
  refine wp_region_lit ?_
  refine lv 11 (.string s) rfl rfl (run_mv rfl rfl) ?_
  simp only [nz1, nz2, nz3]
  refine lv 12 (.int .i64 ((s.size : Nat) : Int)) rfl rfl (r_len rfl Tryd.underlying9 rfl) ?_
  simp only [nz1, nz2, nz3]
  refine lv 13 (.bool (decide (¬ s.size = 32))) rfl rfl (r_neq s.size 32 rfl rfl rfl) ?_
  simp only [nz1, nz2, nz3]
  refine wpList_nil ?_
  refine then_n (hK6 _ _ ?_)
  refine cond_dt (¬ s.size = 32) rfl hs ?_
  refine wp_seq_k (fun K7 hK7 => ?_)
  refine wp_region_lit ?_
  refine lv 14 (.agg (pt 0 0 0 0)) rfl rfl (by unfold execOp; go_simp; rfl) ?_
  simp only [nz1, nz2, nz3]
  refine lst (wanted_none rfl) (m_store 0 25 _ _ (pt 0 0 0 0) (old := pt 0 0 0 0) hm4 rfl rfl rfl rfl rfl (by rw [pt_sz]; exact info_p) ((pt_sz _ _ _ _).trans (pt_sz _ _ _ _).symm) (pt_one _ _ _ _) (fun w8 (hm9 : Mm w w8 [(g2, pt 0 0 0 0, 25)]) => ?_))
  refine lv 3 (.bool false) rfl rfl (run_as rfl rfl) ?_
  simp only [nz1, nz2, nz3]
  refine wpList_nil ?_
  refine then_n (hK7 _ _ ?_)
  refine wp_ret ?_
  refine then_r ?_
  exact ⟨rfl, .tuple #[.agg (pt 0 0 0 0), .bool false], res_ct rfl rfl (hm9.at 0 rfl) Tryd.underlying25 rfl (by rw [pt_sz]; exact info_p) rfl, ⟨rfl, hm9.below⟩⟩
set_option maxHeartbeats 4000000 in
set_option maxRecDepth 100000 in
theorem un_canon_o (s : ByteArray) (hs : s.size = 32) (ho : 127 < bt (n32 s) 31) (hc : ¬ upY s < PP) (w : World) : Calls Tryd.prog 10 #[.string s] w (fun e w' => e = .returned (.tuple #[.agg (pt 0 0 0 0), .bool false]) ∧ Below w.heap.size w w') := by
  go_enter Tryd.func10, Tryd.ntmps10
  have hm0 := Mm.nil w
  refine wp_seq_k (fun K1 hK1 => ?_)
  refine wp_region_lit ?_
  refine lst (wanted_none rfl) (m_alloc (c := pt 0 0 0 0) (T := 25) hm0 2 rfl (al_P rfl) (fun g2 w3 (hm4 : Mm w w3 [(g2, pt 0 0 0 0, 25)]) => ?_))
  simp only [nz1, nz2, nz3]
  refine lv 3 (.bool false) rfl rfl (run_as rfl rfl) ?_
  simp only [nz1, nz2, nz3]
  refine wpList_nil ?_
  refine then_n (hK1 _ _ ?_)
  refine wp_seq_k (fun K5 hK5 => ?_)
  refine wp_seq_k (fun K6 hK6 => ?_)
  refine wp_region_lit ?_
  refine lv 11 (.string s) rfl rfl (run_mv rfl rfl) ?_
  simp only [nz1, nz2, nz3]
  refine lv 12 (.int .i64 ((s.size : Nat) : Int)) rfl rfl (r_len rfl Tryd.underlying9 rfl) ?_
  simp only [nz1, nz2, nz3]
  refine lv 13 (.bool (decide (¬ s.size = 32))) rfl rfl (r_neq s.size 32 rfl rfl rfl) ?_
  simp only [nz1, nz2, nz3]
  refine wpList_nil ?_
  refine then_n (hK6 _ _ ?_)
  refine cond_df (¬ s.size = 32) rfl (fun hn => hn hs) ?_
  refine wp_skip ?_
  refine then_n (hK5 _ _ ?_)
  refine wp_seq_k (fun K7 hK7 => ?_)
  refine wp_region_lit ?_
  refine lst (wanted_none rfl) (m_alloc (c := bs 0) (T := 23) hm4 4 rfl (run_alN rfl) (fun g8 w9 (hm10 : Mm w w9 [(g2, pt 0 0 0 0, 25), (g8, bs 0, 23)]) => ?_))
  simp only [nz1, nz2, nz3]
  refine wpList_nil ?_
  refine then_n (hK7 _ _ ?_)
  refine wp_seq_k (fun K11 hK11 => ?_)
  refine wp_seq_k (fun K12 hK12 => ?_)
  refine wp_region_lit ?_
  refine lv 15 (.int .i64 0) rfl rfl (run_mv rfl rfl) ?_
  simp only [nz1, nz2, nz3]
  refine wpList_nil ?_
  have hm13 : Mm w w9 [(g2, pt 0 0 0 0, 25), (g8, rowOf .u8 (pb (sb s) 0) 32, 23)] := by rw [show (rowOf .u8 (pb (sb s) 0) 32 : Array Value) = bs 0 from pb_none _]; exact hm10
  refine then_n (hK12 _ _ ?_)
  refine wp_block ?_
  refine wp_loop_n (fun n' a' w' => ∃ (k : Nat) (u0 : Nat → Value), n' = 32 - k ∧ (k ≤ 32) ∧ a' = ⟨#[.string s, undef, .pointer (some ⟨g2, 0, none⟩), .bool false, .pointer (some ⟨g8, 0, none⟩), u0 0, undef, undef, undef, undef, undef, .string s, .int .i64 ((s.size : Nat) : Int), .bool (decide (¬ s.size = 32)), undef, .int .i64 ((k : Nat) : Int), u0 1, u0 2, u0 3, u0 4, u0 5, u0 6, u0 7, u0 8, undef, undef, undef, undef, undef, undef, undef, undef, undef, undef, undef, undef, undef, undef, undef, undef, undef, undef, undef, undef, undef, undef, undef, undef, undef, undef, undef, undef, undef, undef, undef, undef, undef, undef, undef, undef, undef, undef, undef, undef, undef, undef, undef, undef, undef, undef, undef, undef, undef, undef], []⟩ ∧ Mm w w' [(g2, pt 0 0 0 0, 25), (g8, rowOf .u8 (pb (sb s) k) 32, 23)]) ⟨0, (fun qq => List.getD [undef, undef, undef, undef, undef, undef, undef, undef, undef] qq undef), rfl, (by omega), rfl, hm13⟩ ?_
  clear hm13
  rintro _ _ w14 ⟨k, u0, hn0, hk, rfl, hm15⟩ R16 hR16
  refine wp_seq_k (fun K17 hK17 => ?_)
  refine wp_region_lit ?_
  refine lv 16 (.bool (decide (k < 32))) rfl rfl (r_lss k 32 rfl rfl rfl) ?_
  simp only [nz1, nz2, nz3]
  refine wpList_nil ?_
  refine then_n (hK17 _ _ ?_)
  refine wp_seq_k (fun K18 hK18 => ?_)
  refine cond_d (k < 32) rfl (fun hc19 => ?_) (fun hc19 => ?_)
  · refine wp_skip ?_
    refine then_n (hK18 _ _ ?_)
    refine wp_seq_k (fun K20 hK20 => ?_)
    refine wp_block ?_
    refine wp_seq_k (fun K21 hK21 => ?_)
    refine wp_region_lit ?_
    refine lv 17 (.int .i64 ((k : Nat) : Int)) rfl rfl (run_mv rfl rfl) ?_
    simp only [nz1, nz2, nz3]
    refine lv 5 (.int .i64 ((k : Nat) : Int)) rfl rfl (run_as rfl rfl) ?_
    simp only [nz1, nz2, nz3]
    refine wpList_nil ?_
    refine then_n (hK21 _ _ ?_)
    refine wp_region_lit ?_
    refine lv 18 (.int .i64 ((k : Nat) : Int)) rfl rfl (run_mv rfl rfl) ?_
    simp only [nz1, nz2, nz3]
    refine lv 19 (.string s) rfl rfl (run_mv rfl rfl) ?_
    simp only [nz1, nz2, nz3]
    refine lv 20 (.int .i64 ((k : Nat) : Int)) rfl rfl (run_mv rfl rfl) ?_
    simp only [nz1, nz2, nz3]
    refine lv 21 (.int .u8 (((sb s k) : Nat) : Int)) rfl rfl (r_char k (sb s k) (by omega) (sb_at s k _) Tryd.underlying9 rfl rfl rfl) ?_
    simp only [nz1, nz2, nz3]
    refine lv 22 (.pointer (some ⟨g8, k, none⟩)) rfl rfl (r_ix g8 k (by omega) Tryd.underlying23 one_u8 rfl rfl rfl) ?_
    simp only [nz1, nz2, nz3]
    refine lst (wanted_none rfl) (m_put 1 (new := rowOf .u8 (up (pb (sb s) k) k (sb s k)) 32) k (.int .u8 (((sb s k) : Nat) : Int)) (old := rowOf .u8 (pb (sb s) k) 32) hm15 rfl rfl (p_cell (n := 32) (f := (pb (sb s) k)) g8 k (sb s k) (by omega) (hm15.at 1 rfl) rfl one_u8 rfl rfl) (rowOf_set _ _ _ _ _) (fun w22 (hm23 : Mm w w22 [(g2, pt 0 0 0 0, 25), (g8, rowOf .u8 (up (pb (sb s) k) k (sb s k)) 32, 23)]) => ?_))
    refine wpList_nil ?_
    have hm24 : Mm w w22 [(g2, pt 0 0 0 0, 25), (g8, rowOf .u8 (pb (sb s) (k + 1)) 32, 23)] := by rw [show (rowOf .u8 (pb (sb s) (k + 1)) 32 : Array Value) = rowOf .u8 (up (pb (sb s) k) k (sb s k)) 32 from by rw [pb_up]]; exact hm23
    refine blk_n ?_
    refine then_n (hK20 _ _ ?_)
    refine wp_region_lit ?_
    refine lv 23 (.int .i64 (((k + 1) : Nat) : Int)) rfl rfl (r_add k 1 (show (k + 1) < 9223372036854775808 from by omega) rfl rfl rfl) ?_
    simp only [nz1, nz2, nz3]
    refine lv 15 (.int .i64 (((k + 1) : Nat) : Int)) rfl rfl (run_mv rfl rfl) ?_
    simp only [nz1, nz2, nz3]
    refine wpList_nil ?_
    refine then_n (hR16 _ _ _ ⟨(k + 1), (fun qq => List.getD [.int .i64 ((k : Nat) : Int), .bool (decide (k < 32)), .int .i64 ((k : Nat) : Int), .int .i64 ((k : Nat) : Int), .string s, .int .i64 ((k : Nat) : Int), .int .u8 (((sb s k) : Nat) : Int), .pointer (some ⟨g8, k, none⟩), .int .i64 (((k + 1) : Nat) : Int)] qq undef), rfl, (by omega), rfl, hm24⟩ ?_)
    omega
  · obtain rfl : k = 32 := by omega
    have hm25 : Mm w w14 [(g2, pt 0 0 0 0, 25), (g8, bs (n32 s), 23)] := by rw [show (bs (n32 s) : Array Value) = rowOf .u8 (pb (sb s) 32) 32 from n32_row s]; exact hm15
    refine wp_exit ?_
    refine then_x ?_
    refine then_x ?_
    refine blk_x ?_
    refine then_n (hK11 _ _ ?_)
    refine wp_seq_k (fun K26 hK26 => ?_)
    refine wp_region_lit ?_
    refine lv 24 (.pointer (some ⟨g8, 31, none⟩)) rfl rfl (r_ix g8 31 (by decide) Tryd.underlying23 one_u8 rfl rfl rfl) ?_
    simp only [nz1, nz2, nz3]
    refine lv 25 (.int .u8 (((bt (n32 s)) 31 : Nat) : Int)) rfl rfl (r_cell (f := (bt (n32 s))) (n := 32) g8 31 (by decide) (hm25.at 1 rfl) Tryd.underlying5 rfl rfl) ?_
    simp only [nz1, nz2, nz3]
    refine lv 26 (.bool (decide (127 < (bt (n32 s)) 31))) rfl rfl (r_gtr ((bt (n32 s)) 31) 127 rfl rfl rfl) ?_
    simp only [nz1, nz2, nz3]
    refine lv 6 (.bool (decide (127 < (bt (n32 s)) 31))) rfl rfl (run_as rfl rfl) ?_
    simp only [nz1, nz2, nz3]
    refine wpList_nil ?_
    rw [show ((.bool (decide (127 < (bt (n32 s)) 31))) : Value) = .bool true from by rw [decide_eq_true ho]]
    refine then_n (hK26 _ _ ?_)
    refine wp_seq_k (fun K27 hK27 => ?_)
    refine wp_region_lit ?_
    refine lv 27 (.pointer (some ⟨g8, 31, none⟩)) rfl rfl (r_ix g8 31 (by decide) Tryd.underlying23 one_u8 rfl rfl rfl) ?_
    simp only [nz1, nz2, nz3]
    refine lv 28 (.int .u8 (((bt (n32 s)) 31 : Nat) : Int)) rfl rfl (r_cell (f := (bt (n32 s))) (n := 32) g8 31 (by decide) (hm25.at 1 rfl) Tryd.underlying5 rfl rfl) ?_
    simp only [nz1, nz2, nz3]
    refine lv 29 (.int .u8 (((bt (n32 s) 31 % 128) : Nat) : Int)) rfl rfl (r_andx ((bt (n32 s)) 31) 127 8 (bt (n32 s) 31 % 128) (by decide) (bt_lt _ _) (by decide) (show _ &&& (2 ^ 7 - 1) = _ from Nat.and_two_pow_sub_one_eq_mod _ 7) rfl rfl rfl) ?_
    simp only [nz1, nz2, nz3]
    refine lv 30 (.pointer (some ⟨g8, 31, none⟩)) rfl rfl (r_ix g8 31 (by decide) Tryd.underlying23 one_u8 rfl rfl rfl) ?_
    simp only [nz1, nz2, nz3]
    refine lst (wanted_none rfl) (m_put 1 (new := rowOf .u8 (up (bt (n32 s)) 31 (bt (n32 s) 31 % 128)) 32) 31 (.int .u8 (((bt (n32 s) 31 % 128) : Nat) : Int)) (old := bs (n32 s)) hm25 rfl rfl (p_cell (n := 32) (f := (bt (n32 s))) g8 31 (bt (n32 s) 31 % 128) (by decide) (hm25.at 1 rfl) rfl one_u8 rfl rfl) (rowOf_set _ _ _ _ _) (fun w28 (hm29 : Mm w w28 [(g2, pt 0 0 0 0, 25), (g8, rowOf .u8 (up (bt (n32 s)) 31 (bt (n32 s) 31 % 128)) 32, 23)]) => ?_))
    refine wpList_nil ?_
    have hm30 : Mm w w28 [(g2, pt 0 0 0 0, 25), (g8, bs (upY s), 23)] := by rw [show (bs (upY s) : Array Value) = rowOf .u8 (up (bt (n32 s)) 31 (bt (n32 s) 31 % 128)) 32 from cut_bit _]; exact hm29
    refine then_n (hK27 _ _ ?_)
    refine wp_seq_k (fun K31 hK31 => ?_)
    refine wp_seq_k (fun K32 hK32 => ?_)
    refine wp_region_lit ?_
    refine lv 31 (.agg (bs (upY s))) rfl rfl (run_row rfl rfl (hm30.at 1 rfl) Tryd.underlying23 rfl (by rw [bs_sz]; exact info_b)) ?_
    simp only [nz1, nz2, nz3]
    refine lst (wanted_none rfl) (m_call hm30 32 (.bool (decide ((upY s) < PP))) rfl (run_fCanon rfl rfl) (canon_any (upY s) (upY_lt s) _) (fun w33 hm34 => ?_))
    simp only [nz1, nz2, nz3]
    refine lv 33 (.bool (decide (¬ ((upY s) < PP)))) rfl rfl (r_notD ((upY s) < PP) rfl rfl) ?_
    simp only [nz1, nz2, nz3]
    refine wpList_nil ?_
    refine then_n (hK32 _ _ ?_)
    refine cond_dt (¬ ((upY s) < PP)) rfl hc ?_
    refine wp_seq_k (fun K35 hK35 => ?_)
    refine wp_region_lit ?_
    refine lv 34 (.agg (pt 0 0 0 0)) rfl rfl (by unfold execOp; go_simp; rfl) ?_
    simp only [nz1, nz2, nz3]
    refine lst (wanted_none rfl) (m_store 0 25 _ _ (pt 0 0 0 0) (old := pt 0 0 0 0) hm34 rfl rfl rfl rfl rfl (by rw [pt_sz]; exact info_p) ((pt_sz _ _ _ _).trans (pt_sz _ _ _ _).symm) (pt_one _ _ _ _) (fun w36 (hm37 : Mm w w36 [(g2, pt 0 0 0 0, 25), (g8, bs (upY s), 23)]) => ?_))
    refine lv 3 (.bool false) rfl rfl (run_as rfl rfl) ?_
    simp only [nz1, nz2, nz3]
    refine wpList_nil ?_
    refine then_n (hK35 _ _ ?_)
    refine wp_ret ?_
    refine then_r ?_
    exact ⟨rfl, .tuple #[.agg (pt 0 0 0 0), .bool false], res_ct rfl rfl (hm37.at 0 rfl) Tryd.underlying25 rfl (by rw [pt_sz]; exact info_p) rfl, ⟨rfl, hm37.below⟩⟩
set_option maxHeartbeats 4000000 in
set_option maxRecDepth 100000 in
theorem un_root_o (s : ByteArray) (sq ds den nu di ra xv : Nat) (h1 : fM (upY s) (upY s) = sq) (h2 : fM dN sq = ds) (h3 : fA ds 1 = den) (h4 : fS sq 1 = nu) (h5 : fI den = di) (h6 : fM nu di = ra) (h7 : rootV (ra % PP) = xv) (hs : s.size = 32) (ho : 127 < bt (n32 s) 31) (hc : upY s < PP) (hok : rootOk (ra % PP) = false) (w : World) (hd : DD w) : Calls Tryd.prog 10 #[.string s] w (fun e w' => e = .returned (.tuple #[.agg (pt 0 0 0 0), .bool false]) ∧ Below w.heap.size w w') := by
  go_enter Tryd.func10, Tryd.ntmps10
  have hm0 := Mm.nil w
  refine wp_seq_k (fun K1 hK1 => ?_)
  refine wp_region_lit ?_
  refine lst (wanted_none rfl) (m_alloc (c := pt 0 0 0 0) (T := 25) hm0 2 rfl (al_P rfl) (fun g2 w3 (hm4 : Mm w w3 [(g2, pt 0 0 0 0, 25)]) => ?_))
  simp only [nz1, nz2, nz3]
  refine lv 3 (.bool false) rfl rfl (run_as rfl rfl) ?_
  simp only [nz1, nz2, nz3]
  refine wpList_nil ?_
  refine then_n (hK1 _ _ ?_)
  refine wp_seq_k (fun K5 hK5 => ?_)
  refine wp_seq_k (fun K6 hK6 => ?_)
  refine wp_region_lit ?_
  refine lv 11 (.string s) rfl rfl (run_mv rfl rfl) ?_
  simp only [nz1, nz2, nz3]
  refine lv 12 (.int .i64 ((s.size : Nat) : Int)) rfl rfl (r_len rfl Tryd.underlying9 rfl) ?_
  simp only [nz1, nz2, nz3]
  refine lv 13 (.bool (decide (¬ s.size = 32))) rfl rfl (r_neq s.size 32 rfl rfl rfl) ?_
  simp only [nz1, nz2, nz3]
  refine wpList_nil ?_
  refine then_n (hK6 _ _ ?_)
  refine cond_df (¬ s.size = 32) rfl (fun hn => hn hs) ?_
  refine wp_skip ?_
  refine then_n (hK5 _ _ ?_)
  refine wp_seq_k (fun K7 hK7 => ?_)
  refine wp_region_lit ?_
  refine lst (wanted_none rfl) (m_alloc (c := bs 0) (T := 23) hm4 4 rfl (run_alN rfl) (fun g8 w9 (hm10 : Mm w w9 [(g2, pt 0 0 0 0, 25), (g8, bs 0, 23)]) => ?_))
  simp only [nz1, nz2, nz3]
  refine wpList_nil ?_
  refine then_n (hK7 _ _ ?_)
  refine wp_seq_k (fun K11 hK11 => ?_)
  refine wp_seq_k (fun K12 hK12 => ?_)
  refine wp_region_lit ?_
  refine lv 15 (.int .i64 0) rfl rfl (run_mv rfl rfl) ?_
  simp only [nz1, nz2, nz3]
  refine wpList_nil ?_
  have hm13 : Mm w w9 [(g2, pt 0 0 0 0, 25), (g8, rowOf .u8 (pb (sb s) 0) 32, 23)] := by rw [show (rowOf .u8 (pb (sb s) 0) 32 : Array Value) = bs 0 from pb_none _]; exact hm10
  refine then_n (hK12 _ _ ?_)
  refine wp_block ?_
  refine wp_loop_n (fun n' a' w' => ∃ (k : Nat) (u0 : Nat → Value), n' = 32 - k ∧ (k ≤ 32) ∧ a' = ⟨#[.string s, undef, .pointer (some ⟨g2, 0, none⟩), .bool false, .pointer (some ⟨g8, 0, none⟩), u0 0, undef, undef, undef, undef, undef, .string s, .int .i64 ((s.size : Nat) : Int), .bool (decide (¬ s.size = 32)), undef, .int .i64 ((k : Nat) : Int), u0 1, u0 2, u0 3, u0 4, u0 5, u0 6, u0 7, u0 8, undef, undef, undef, undef, undef, undef, undef, undef, undef, undef, undef, undef, undef, undef, undef, undef, undef, undef, undef, undef, undef, undef, undef, undef, undef, undef, undef, undef, undef, undef, undef, undef, undef, undef, undef, undef, undef, undef, undef, undef, undef, undef, undef, undef, undef, undef, undef, undef, undef, undef], []⟩ ∧ Mm w w' [(g2, pt 0 0 0 0, 25), (g8, rowOf .u8 (pb (sb s) k) 32, 23)]) ⟨0, (fun qq => List.getD [undef, undef, undef, undef, undef, undef, undef, undef, undef] qq undef), rfl, (by omega), rfl, hm13⟩ ?_
  clear hm13
  rintro _ _ w14 ⟨k, u0, hn0, hk, rfl, hm15⟩ R16 hR16
  refine wp_seq_k (fun K17 hK17 => ?_)
  refine wp_region_lit ?_
  refine lv 16 (.bool (decide (k < 32))) rfl rfl (r_lss k 32 rfl rfl rfl) ?_
  simp only [nz1, nz2, nz3]
  refine wpList_nil ?_
  refine then_n (hK17 _ _ ?_)
  refine wp_seq_k (fun K18 hK18 => ?_)
  refine cond_d (k < 32) rfl (fun hc19 => ?_) (fun hc19 => ?_)
  · refine wp_skip ?_
    refine then_n (hK18 _ _ ?_)
    refine wp_seq_k (fun K20 hK20 => ?_)
    refine wp_block ?_
    refine wp_seq_k (fun K21 hK21 => ?_)
    refine wp_region_lit ?_
    refine lv 17 (.int .i64 ((k : Nat) : Int)) rfl rfl (run_mv rfl rfl) ?_
    simp only [nz1, nz2, nz3]
    refine lv 5 (.int .i64 ((k : Nat) : Int)) rfl rfl (run_as rfl rfl) ?_
    simp only [nz1, nz2, nz3]
    refine wpList_nil ?_
    refine then_n (hK21 _ _ ?_)
    refine wp_region_lit ?_
    refine lv 18 (.int .i64 ((k : Nat) : Int)) rfl rfl (run_mv rfl rfl) ?_
    simp only [nz1, nz2, nz3]
    refine lv 19 (.string s) rfl rfl (run_mv rfl rfl) ?_
    simp only [nz1, nz2, nz3]
    refine lv 20 (.int .i64 ((k : Nat) : Int)) rfl rfl (run_mv rfl rfl) ?_
    simp only [nz1, nz2, nz3]
    refine lv 21 (.int .u8 (((sb s k) : Nat) : Int)) rfl rfl (r_char k (sb s k) (by omega) (sb_at s k _) Tryd.underlying9 rfl rfl rfl) ?_
    simp only [nz1, nz2, nz3]
    refine lv 22 (.pointer (some ⟨g8, k, none⟩)) rfl rfl (r_ix g8 k (by omega) Tryd.underlying23 one_u8 rfl rfl rfl) ?_
    simp only [nz1, nz2, nz3]
    refine lst (wanted_none rfl) (m_put 1 (new := rowOf .u8 (up (pb (sb s) k) k (sb s k)) 32) k (.int .u8 (((sb s k) : Nat) : Int)) (old := rowOf .u8 (pb (sb s) k) 32) hm15 rfl rfl (p_cell (n := 32) (f := (pb (sb s) k)) g8 k (sb s k) (by omega) (hm15.at 1 rfl) rfl one_u8 rfl rfl) (rowOf_set _ _ _ _ _) (fun w22 (hm23 : Mm w w22 [(g2, pt 0 0 0 0, 25), (g8, rowOf .u8 (up (pb (sb s) k) k (sb s k)) 32, 23)]) => ?_))
    refine wpList_nil ?_
    have hm24 : Mm w w22 [(g2, pt 0 0 0 0, 25), (g8, rowOf .u8 (pb (sb s) (k + 1)) 32, 23)] := by rw [show (rowOf .u8 (pb (sb s) (k + 1)) 32 : Array Value) = rowOf .u8 (up (pb (sb s) k) k (sb s k)) 32 from by rw [pb_up]]; exact hm23
    refine blk_n ?_
    refine then_n (hK20 _ _ ?_)
    refine wp_region_lit ?_
    refine lv 23 (.int .i64 (((k + 1) : Nat) : Int)) rfl rfl (r_add k 1 (show (k + 1) < 9223372036854775808 from by omega) rfl rfl rfl) ?_
    simp only [nz1, nz2, nz3]
    refine lv 15 (.int .i64 (((k + 1) : Nat) : Int)) rfl rfl (run_mv rfl rfl) ?_
    simp only [nz1, nz2, nz3]
    refine wpList_nil ?_
    refine then_n (hR16 _ _ _ ⟨(k + 1), (fun qq => List.getD [.int .i64 ((k : Nat) : Int), .bool (decide (k < 32)), .int .i64 ((k : Nat) : Int), .int .i64 ((k : Nat) : Int), .string s, .int .i64 ((k : Nat) : Int), .int .u8 (((sb s k) : Nat) : Int), .pointer (some ⟨g8, k, none⟩), .int .i64 (((k + 1) : Nat) : Int)] qq undef), rfl, (by omega), rfl, hm24⟩ ?_)
    omega
  · obtain rfl : k = 32 := by omega
    have hm25 : Mm w w14 [(g2, pt 0 0 0 0, 25), (g8, bs (n32 s), 23)] := by rw [show (bs (n32 s) : Array Value) = rowOf .u8 (pb (sb s) 32) 32 from n32_row s]; exact hm15
    refine wp_exit ?_
    refine then_x ?_
    refine then_x ?_
    refine blk_x ?_
    refine then_n (hK11 _ _ ?_)
    refine wp_seq_k (fun K26 hK26 => ?_)
    refine wp_region_lit ?_
    refine lv 24 (.pointer (some ⟨g8, 31, none⟩)) rfl rfl (r_ix g8 31 (by decide) Tryd.underlying23 one_u8 rfl rfl rfl) ?_
    simp only [nz1, nz2, nz3]
    refine lv 25 (.int .u8 (((bt (n32 s)) 31 : Nat) : Int)) rfl rfl (r_cell (f := (bt (n32 s))) (n := 32) g8 31 (by decide) (hm25.at 1 rfl) Tryd.underlying5 rfl rfl) ?_
    simp only [nz1, nz2, nz3]
    refine lv 26 (.bool (decide (127 < (bt (n32 s)) 31))) rfl rfl (r_gtr ((bt (n32 s)) 31) 127 rfl rfl rfl) ?_
    simp only [nz1, nz2, nz3]
    refine lv 6 (.bool (decide (127 < (bt (n32 s)) 31))) rfl rfl (run_as rfl rfl) ?_
    simp only [nz1, nz2, nz3]
    refine wpList_nil ?_
    rw [show ((.bool (decide (127 < (bt (n32 s)) 31))) : Value) = .bool true from by rw [decide_eq_true ho]]
    refine then_n (hK26 _ _ ?_)
    refine wp_seq_k (fun K27 hK27 => ?_)
    refine wp_region_lit ?_
    refine lv 27 (.pointer (some ⟨g8, 31, none⟩)) rfl rfl (r_ix g8 31 (by decide) Tryd.underlying23 one_u8 rfl rfl rfl) ?_
    simp only [nz1, nz2, nz3]
    refine lv 28 (.int .u8 (((bt (n32 s)) 31 : Nat) : Int)) rfl rfl (r_cell (f := (bt (n32 s))) (n := 32) g8 31 (by decide) (hm25.at 1 rfl) Tryd.underlying5 rfl rfl) ?_
    simp only [nz1, nz2, nz3]
    refine lv 29 (.int .u8 (((bt (n32 s) 31 % 128) : Nat) : Int)) rfl rfl (r_andx ((bt (n32 s)) 31) 127 8 (bt (n32 s) 31 % 128) (by decide) (bt_lt _ _) (by decide) (show _ &&& (2 ^ 7 - 1) = _ from Nat.and_two_pow_sub_one_eq_mod _ 7) rfl rfl rfl) ?_
    simp only [nz1, nz2, nz3]
    refine lv 30 (.pointer (some ⟨g8, 31, none⟩)) rfl rfl (r_ix g8 31 (by decide) Tryd.underlying23 one_u8 rfl rfl rfl) ?_
    simp only [nz1, nz2, nz3]
    refine lst (wanted_none rfl) (m_put 1 (new := rowOf .u8 (up (bt (n32 s)) 31 (bt (n32 s) 31 % 128)) 32) 31 (.int .u8 (((bt (n32 s) 31 % 128) : Nat) : Int)) (old := bs (n32 s)) hm25 rfl rfl (p_cell (n := 32) (f := (bt (n32 s))) g8 31 (bt (n32 s) 31 % 128) (by decide) (hm25.at 1 rfl) rfl one_u8 rfl rfl) (rowOf_set _ _ _ _ _) (fun w28 (hm29 : Mm w w28 [(g2, pt 0 0 0 0, 25), (g8, rowOf .u8 (up (bt (n32 s)) 31 (bt (n32 s) 31 % 128)) 32, 23)]) => ?_))
    refine wpList_nil ?_
    have hm30 : Mm w w28 [(g2, pt 0 0 0 0, 25), (g8, bs (upY s), 23)] := by rw [show (bs (upY s) : Array Value) = rowOf .u8 (up (bt (n32 s)) 31 (bt (n32 s) 31 % 128)) 32 from cut_bit _]; exact hm29
    refine then_n (hK27 _ _ ?_)
    refine wp_seq_k (fun K31 hK31 => ?_)
    refine wp_seq_k (fun K32 hK32 => ?_)
    refine wp_region_lit ?_
    refine lv 31 (.agg (bs (upY s))) rfl rfl (run_row rfl rfl (hm30.at 1 rfl) Tryd.underlying23 rfl (by rw [bs_sz]; exact info_b)) ?_
    simp only [nz1, nz2, nz3]
    refine lst (wanted_none rfl) (m_call hm30 32 (.bool (decide ((upY s) < PP))) rfl (run_fCanon rfl rfl) (canon_any (upY s) (upY_lt s) _) (fun w33 hm34 => ?_))
    simp only [nz1, nz2, nz3]
    refine lv 33 (.bool (decide (¬ ((upY s) < PP)))) rfl rfl (r_notD ((upY s) < PP) rfl rfl) ?_
    simp only [nz1, nz2, nz3]
    refine wpList_nil ?_
    refine then_n (hK32 _ _ ?_)
    refine cond_df (¬ ((upY s) < PP)) rfl (fun hn => hn hc) ?_
    refine wp_skip ?_
    refine then_n (hK31 _ _ ?_)
    refine wp_seq_k (fun K35 hK35 => ?_)
    refine wp_region_lit ?_
    refine lv 35 (.agg (bs (upY s))) rfl rfl (run_row rfl rfl (hm34.at 1 rfl) Tryd.underlying23 rfl (by rw [bs_sz]; exact info_b)) ?_
    simp only [nz1, nz2, nz3]
    refine lv 36 (.agg (bs (upY s))) rfl rfl (run_row rfl rfl (hm34.at 1 rfl) Tryd.underlying23 rfl (by rw [bs_sz]; exact info_b)) ?_
    simp only [nz1, nz2, nz3]
    refine lst (wanted_none rfl) (m_call hm34 37 (.agg (bs sq)) rfl (run_fMul rfl rfl rfl) (mulu_g (upY s) (upY s) sq (upY_lt s) (upY_lt s) h1 _) (fun w36 hm37 => ?_))
    simp only [nz1, nz2, nz3]
    refine lst (wanted_none rfl) (m_alloc (c := bs 0) (T := 23) hm37 7 rfl (run_alN rfl) (fun g38 w39 (hm40 : Mm w w39 [(g2, pt 0 0 0 0, 25), (g8, bs (upY s), 23), (g38, bs 0, 23)]) => ?_))
    simp only [nz1, nz2, nz3]
    refine lst (wanted_none rfl) (m_store 2 23 _ _ (bs sq) (old := bs 0) hm40 rfl rfl rfl rfl rfl (by rw [bs_sz]; exact info_b) ((bs_sz _).trans (bs_sz _).symm) (bs_one _) (fun w41 (hm42 : Mm w w41 [(g2, pt 0 0 0 0, 25), (g8, bs (upY s), 23), (g38, bs sq, 23)]) => ?_))
    refine wpList_nil ?_
    refine then_n (hK35 _ _ ?_)
    refine wp_seq_k (fun K43 hK43 => ?_)
    refine wp_region_lit ?_
    refine lv 38 (.agg (bs dN)) rfl rfl (run_row rfl rfl (kept hd hm42.below) Tryd.underlying23 rfl (by rw [bs_sz]; exact info_b)) ?_
    simp only [nz1, nz2, nz3]
    refine lv 39 (.agg (bs sq)) rfl rfl (run_row rfl rfl (hm42.at 2 rfl) Tryd.underlying23 rfl (by rw [bs_sz]; exact info_b)) ?_
    simp only [nz1, nz2, nz3]
    refine lst (wanted_none rfl) (m_call hm42 40 (.agg (bs ds)) rfl (run_fMul rfl rfl rfl) (mulu_g dN sq ds dN_lt (h1 ▸ f_lt (fM_lt _ _)) h2 _) (fun w44 hm45 => ?_))
    simp only [nz1, nz2, nz3]
    refine lst (wanted_none rfl) (m_call hm45 41 (.agg (bs 1)) rfl (run_pone rfl) (one_any _) (fun w46 hm47 => ?_))
    simp only [nz1, nz2, nz3]
    refine lst (wanted_none rfl) (m_call hm47 42 (.agg (bs den)) rfl (run_fAdd rfl rfl rfl) (addu_g ds 1 den (h2 ▸ f_lt (fM_lt _ _)) (by decide) h3 _) (fun w48 hm49 => ?_))
    simp only [nz1, nz2, nz3]
    refine lst (wanted_none rfl) (m_alloc (c := bs 0) (T := 23) hm49 8 rfl (run_alN rfl) (fun g50 w51 (hm52 : Mm w w51 [(g2, pt 0 0 0 0, 25), (g8, bs (upY s), 23), (g38, bs sq, 23), (g50, bs 0, 23)]) => ?_))
    simp only [nz1, nz2, nz3]
    refine lst (wanted_none rfl) (m_store 3 23 _ _ (bs den) (old := bs 0) hm52 rfl rfl rfl rfl rfl (by rw [bs_sz]; exact info_b) ((bs_sz _).trans (bs_sz _).symm) (bs_one _) (fun w53 (hm54 : Mm w w53 [(g2, pt 0 0 0 0, 25), (g8, bs (upY s), 23), (g38, bs sq, 23), (g50, bs den, 23)]) => ?_))
    refine wpList_nil ?_
    refine then_n (hK43 _ _ ?_)
    refine wp_seq_k (fun K55 hK55 => ?_)
    refine wp_mono (Q := fun e a' w' => e = Exit.normal ∧ ∃ g68 : Nat, a' = ⟨#[.string s, undef, .pointer (some ⟨g2, 0, none⟩), .bool false, .pointer (some ⟨g8, 0, none⟩), u0 0, .bool true, .pointer (some ⟨g38, 0, none⟩), .pointer (some ⟨g50, 0, none⟩), .pointer (some ⟨g68, 0, none⟩), .bool (rootOk (ra % PP)), .string s, .int .i64 ((s.size : Nat) : Int), .bool (decide (¬ s.size = 32)), undef, .int .i64 32, .bool (decide (32 < 32)), u0 2, u0 3, u0 4, u0 5, u0 6, u0 7, u0 8, .pointer (some ⟨g8, 31, none⟩), .int .u8 (((bt (n32 s)) 31 : Nat) : Int), .bool true, .pointer (some ⟨g8, 31, none⟩), .int .u8 (((bt (n32 s)) 31 : Nat) : Int), .int .u8 (((bt (n32 s) 31 % 128) : Nat) : Int), .pointer (some ⟨g8, 31, none⟩), .agg (bs (upY s)), .bool (decide ((upY s) < PP)), .bool (decide (¬ ((upY s) < PP))), undef, .agg (bs (upY s)), .agg (bs (upY s)), .agg (bs sq), .agg (bs dN), .agg (bs sq), .agg (bs ds), .agg (bs 1), .agg (bs den), .tuple #[.agg (bs xv), .bool (rootOk (ra % PP))], .agg (bs sq), .agg (bs 1), .agg (bs nu), .agg (bs den), .agg (bs di), .agg (bs ra), .tuple #[.agg (bs xv), .bool (rootOk (ra % PP))], .agg (bs xv), .bool (rootOk (ra % PP)), undef, undef, undef, undef, undef, undef, undef, undef, undef, undef, undef, undef, undef, undef, undef, undef, undef, undef, undef, undef, undef], []⟩ ∧ Mm w w' [(g2, pt 0 0 0 0, 25), (g8, bs (upY s), 23), (g38, bs sq, 23), (g50, bs den, 23), (g68, bs xv, 23)]) ?_ ?_
    · have hm56 := hm54.drew
      refine wp_region_held_drew (S := fun w' => Sym.Blk w' g38 (bs sq) 23 ∧ Sym.Blk w' g50 (bs den) 23) (by kernel_rfl) (⟨hm56.at 2 rfl, hm56.at 3 rfl⟩) (fun _ => ?_)
      generalize w53.drew = w57 at *
      refine Sym.take_at 0 44 (.agg (bs sq)) rfl rfl (by kernel_rfl) (by kernel_rfl) (by kernel_rfl) (fun _ _ _ h => nomatch h.1) rfl (fun _ hw => run_row rfl rfl hw.1 Tryd.underlying23 rfl (by rw [bs_sz]; exact info_b)) (⟨hm56.at 2 rfl, hm56.at 3 rfl⟩) ?_
      simp only [nz1, nz2, nz3]
      refine Sym.take_at 3 47 (.agg (bs den)) rfl rfl (by kernel_rfl) (by kernel_rfl) (by kernel_rfl) (fun _ _ _ h => nomatch h.1) rfl (fun _ hw => run_row rfl rfl hw.2 Tryd.underlying23 rfl (by rw [bs_sz]; exact info_b)) (⟨hm56.at 2 rfl, hm56.at 3 rfl⟩) ?_
      simp only [nz1, nz2, nz3]
      refine two_ready 1 10 (by kernel_rfl) ?_ ?_
      · refine opd rfl rfl (m_call hm56 45 (.agg (bs 1)) rfl (run_pone rfl) (one_any _) (fun w58 hm59 => ?_))
        refine ⟨⟨hm59.at 2 rfl, hm59.at 3 rfl⟩, ?_⟩
        simp only [nz1, nz2, nz3]
        refine two_ready 2 10 (by kernel_rfl) ?_ ?_
        · refine opd rfl rfl (m_call hm59 46 (.agg (bs nu)) rfl (run_fSub rfl rfl rfl) (subu_g sq 1 nu (h1 ▸ f_lt (fM_lt _ _)) (by decide) h4 _) (fun w60 hm61 => ?_))
          refine ⟨⟨hm61.at 2 rfl, hm61.at 3 rfl⟩, ?_⟩
          simp only [nz1, nz2, nz3]
          refine two_ready 4 10 (by kernel_rfl) ?_ ?_
          · refine opd rfl rfl (m_call hm61 48 (.agg (bs di)) rfl (run_fInv rfl rfl) (invu_g den di (h3 ▸ f_lt (fA_lt _ _)) h5 _) (fun w62 hm63 => ?_))
            refine ⟨⟨hm63.at 2 rfl, hm63.at 3 rfl⟩, ?_⟩
            simp only [nz1, nz2, nz3]
            refine two_ready 5 10 (by kernel_rfl) ?_ ?_
            · refine opd rfl rfl (m_call hm63 49 (.agg (bs ra)) rfl (run_fMul rfl rfl rfl) (mulu_g nu di ra (h4 ▸ f_lt (fS_lt _ _)) (h5 ▸ f_lt (fI_lt _)) h6 _) (fun w64 hm65 => ?_))
              refine ⟨⟨hm65.at 2 rfl, hm65.at 3 rfl⟩, ?_⟩
              simp only [nz1, nz2, nz3]
              refine two_ready 6 10 (by kernel_rfl) ?_ ?_
              · refine opd rfl rfl (m_call hm65 50 (.tuple #[.agg (bs xv), .bool (rootOk (ra % PP))]) rfl (run_fRoot rfl rfl) (rootu_g ra xv (h6 ▸ f_lt (fM_lt _ _)) h7 _) (fun w66 hm67 => ?_))
                refine ⟨⟨hm67.at 2 rfl, hm67.at 3 rfl⟩, ?_⟩
                simp only [nz1, nz2, nz3]
                refine Sym.take_at 7 43 (.tuple #[.agg (bs xv), .bool (rootOk (ra % PP))]) rfl rfl (by kernel_rfl) (by kernel_rfl) (by kernel_rfl) (fun _ _ _ h => nomatch h.1) rfl (fun _ hw => run_mv rfl rfl) (⟨hm67.at 2 rfl, hm67.at 3 rfl⟩) ?_
                simp only [nz1, nz2, nz3]
                refine Sym.take_at 8 51 (.agg (bs xv)) rfl rfl (by kernel_rfl) (by kernel_rfl) (by kernel_rfl) (fun _ _ _ h => nomatch h.1) rfl (fun _ hw => run_ex rfl rfl rfl) (⟨hm67.at 2 rfl, hm67.at 3 rfl⟩) ?_
                simp only [nz1, nz2, nz3]
                refine Sym.take_at 9 52 (.bool (rootOk (ra % PP))) rfl rfl (by kernel_rfl) (by kernel_rfl) (by kernel_rfl) (fun _ _ _ h => nomatch h.1) rfl (fun _ hw => run_ex rfl rfl rfl) (⟨hm67.at 2 rfl, hm67.at 3 rfl⟩) ?_
                simp only [nz1, nz2, nz3]
                refine one_ready 10 (by kernel_rfl) ?_
                refine opd rfl rfl (m_alloc (c := bs 0) (T := 23) hm67 9 rfl (run_alN rfl) (fun g68 w69 hm70 => ?_))
                refine ⟨⟨hm70.at 2 rfl, hm70.at 3 rfl⟩, ?_⟩
                simp only [nz1, nz2, nz3]
                refine one_ready 11 (by kernel_rfl) ?_
                refine opd rfl rfl (m_store 4 23 _ _ (bs xv) (old := bs 0) hm70 rfl rfl rfl rfl rfl (by rw [bs_sz]; exact info_b) ((bs_sz _).trans (bs_sz _).symm) (bs_one _) (fun w71 hm72 => ?_))
                refine ⟨⟨hm72.at 2 rfl, hm72.at 3 rfl⟩, ?_⟩
                refine one_ready 12 (by kernel_rfl) ?_
                refine opd rfl rfl (w_value 10 (.bool (rootOk (ra % PP))) rfl (run_as rfl rfl) ⟨⟨hm72.at 2 rfl, hm72.at 3 rfl⟩, ?_⟩)
                simp only [nz1, nz2, nz3]
                refine wpAnyH_done (by kernel_rfl) ?_ _
                exact ⟨rfl, g68, rfl, hm72⟩
              · refine opd rfl rfl (m_alloc (c := bs 0) (T := 23) hm65 9 rfl (run_alN rfl) (fun g73 w74 hm75 => ?_))
                refine ⟨⟨hm75.at 2 rfl, hm75.at 3 rfl⟩, ?_⟩
                simp only [nz1, nz2, nz3]
                refine one_ready 6 (by kernel_rfl) ?_
                refine opd rfl rfl (m_call hm75 50 (.tuple #[.agg (bs xv), .bool (rootOk (ra % PP))]) rfl (run_fRoot rfl rfl) (rootu_g ra xv (h6 ▸ f_lt (fM_lt _ _)) h7 _) (fun w76 hm77 => ?_))
                refine ⟨⟨hm77.at 2 rfl, hm77.at 3 rfl⟩, ?_⟩
                simp only [nz1, nz2, nz3]
                refine Sym.take_at 7 43 (.tuple #[.agg (bs xv), .bool (rootOk (ra % PP))]) rfl rfl (by kernel_rfl) (by kernel_rfl) (by kernel_rfl) (fun _ _ _ h => nomatch h.1) rfl (fun _ hw => run_mv rfl rfl) (⟨hm77.at 2 rfl, hm77.at 3 rfl⟩) ?_
                simp only [nz1, nz2, nz3]
                refine Sym.take_at 8 51 (.agg (bs xv)) rfl rfl (by kernel_rfl) (by kernel_rfl) (by kernel_rfl) (fun _ _ _ h => nomatch h.1) rfl (fun _ hw => run_ex rfl rfl rfl) (⟨hm77.at 2 rfl, hm77.at 3 rfl⟩) ?_
                simp only [nz1, nz2, nz3]
                refine Sym.take_at 9 52 (.bool (rootOk (ra % PP))) rfl rfl (by kernel_rfl) (by kernel_rfl) (by kernel_rfl) (fun _ _ _ h => nomatch h.1) rfl (fun _ hw => run_ex rfl rfl rfl) (⟨hm77.at 2 rfl, hm77.at 3 rfl⟩) ?_
                simp only [nz1, nz2, nz3]
                refine one_ready 11 (by kernel_rfl) ?_
                refine opd rfl rfl (m_store 4 23 _ _ (bs xv) (old := bs 0) hm77 rfl rfl rfl rfl rfl (by rw [bs_sz]; exact info_b) ((bs_sz _).trans (bs_sz _).symm) (bs_one _) (fun w78 hm79 => ?_))
                refine ⟨⟨hm79.at 2 rfl, hm79.at 3 rfl⟩, ?_⟩
                refine one_ready 12 (by kernel_rfl) ?_
                refine opd rfl rfl (w_value 10 (.bool (rootOk (ra % PP))) rfl (run_as rfl rfl) ⟨⟨hm79.at 2 rfl, hm79.at 3 rfl⟩, ?_⟩)
                simp only [nz1, nz2, nz3]
                refine wpAnyH_done (by kernel_rfl) ?_ _
                exact ⟨rfl, g73, rfl, hm79⟩
            · refine opd rfl rfl (m_alloc (c := bs 0) (T := 23) hm63 9 rfl (run_alN rfl) (fun g80 w81 hm82 => ?_))
              refine ⟨⟨hm82.at 2 rfl, hm82.at 3 rfl⟩, ?_⟩
              simp only [nz1, nz2, nz3]
              refine one_ready 5 (by kernel_rfl) ?_
              refine opd rfl rfl (m_call hm82 49 (.agg (bs ra)) rfl (run_fMul rfl rfl rfl) (mulu_g nu di ra (h4 ▸ f_lt (fS_lt _ _)) (h5 ▸ f_lt (fI_lt _)) h6 _) (fun w83 hm84 => ?_))
              refine ⟨⟨hm84.at 2 rfl, hm84.at 3 rfl⟩, ?_⟩
              simp only [nz1, nz2, nz3]
              refine one_ready 6 (by kernel_rfl) ?_
              refine opd rfl rfl (m_call hm84 50 (.tuple #[.agg (bs xv), .bool (rootOk (ra % PP))]) rfl (run_fRoot rfl rfl) (rootu_g ra xv (h6 ▸ f_lt (fM_lt _ _)) h7 _) (fun w85 hm86 => ?_))
              refine ⟨⟨hm86.at 2 rfl, hm86.at 3 rfl⟩, ?_⟩
              simp only [nz1, nz2, nz3]
              refine Sym.take_at 7 43 (.tuple #[.agg (bs xv), .bool (rootOk (ra % PP))]) rfl rfl (by kernel_rfl) (by kernel_rfl) (by kernel_rfl) (fun _ _ _ h => nomatch h.1) rfl (fun _ hw => run_mv rfl rfl) (⟨hm86.at 2 rfl, hm86.at 3 rfl⟩) ?_
              simp only [nz1, nz2, nz3]
              refine Sym.take_at 8 51 (.agg (bs xv)) rfl rfl (by kernel_rfl) (by kernel_rfl) (by kernel_rfl) (fun _ _ _ h => nomatch h.1) rfl (fun _ hw => run_ex rfl rfl rfl) (⟨hm86.at 2 rfl, hm86.at 3 rfl⟩) ?_
              simp only [nz1, nz2, nz3]
              refine Sym.take_at 9 52 (.bool (rootOk (ra % PP))) rfl rfl (by kernel_rfl) (by kernel_rfl) (by kernel_rfl) (fun _ _ _ h => nomatch h.1) rfl (fun _ hw => run_ex rfl rfl rfl) (⟨hm86.at 2 rfl, hm86.at 3 rfl⟩) ?_
              simp only [nz1, nz2, nz3]
              refine one_ready 11 (by kernel_rfl) ?_
              refine opd rfl rfl (m_store 4 23 _ _ (bs xv) (old := bs 0) hm86 rfl rfl rfl rfl rfl (by rw [bs_sz]; exact info_b) ((bs_sz _).trans (bs_sz _).symm) (bs_one _) (fun w87 hm88 => ?_))
              refine ⟨⟨hm88.at 2 rfl, hm88.at 3 rfl⟩, ?_⟩
              refine one_ready 12 (by kernel_rfl) ?_
              refine opd rfl rfl (w_value 10 (.bool (rootOk (ra % PP))) rfl (run_as rfl rfl) ⟨⟨hm88.at 2 rfl, hm88.at 3 rfl⟩, ?_⟩)
              simp only [nz1, nz2, nz3]
              refine wpAnyH_done (by kernel_rfl) ?_ _
              exact ⟨rfl, g80, rfl, hm88⟩
          · refine opd rfl rfl (m_alloc (c := bs 0) (T := 23) hm61 9 rfl (run_alN rfl) (fun g89 w90 hm91 => ?_))
            refine ⟨⟨hm91.at 2 rfl, hm91.at 3 rfl⟩, ?_⟩
            simp only [nz1, nz2, nz3]
            refine one_ready 4 (by kernel_rfl) ?_
            refine opd rfl rfl (m_call hm91 48 (.agg (bs di)) rfl (run_fInv rfl rfl) (invu_g den di (h3 ▸ f_lt (fA_lt _ _)) h5 _) (fun w92 hm93 => ?_))
            refine ⟨⟨hm93.at 2 rfl, hm93.at 3 rfl⟩, ?_⟩
            simp only [nz1, nz2, nz3]
            refine one_ready 5 (by kernel_rfl) ?_
            refine opd rfl rfl (m_call hm93 49 (.agg (bs ra)) rfl (run_fMul rfl rfl rfl) (mulu_g nu di ra (h4 ▸ f_lt (fS_lt _ _)) (h5 ▸ f_lt (fI_lt _)) h6 _) (fun w94 hm95 => ?_))
            refine ⟨⟨hm95.at 2 rfl, hm95.at 3 rfl⟩, ?_⟩
            simp only [nz1, nz2, nz3]
            refine one_ready 6 (by kernel_rfl) ?_
            refine opd rfl rfl (m_call hm95 50 (.tuple #[.agg (bs xv), .bool (rootOk (ra % PP))]) rfl (run_fRoot rfl rfl) (rootu_g ra xv (h6 ▸ f_lt (fM_lt _ _)) h7 _) (fun w96 hm97 => ?_))
            refine ⟨⟨hm97.at 2 rfl, hm97.at 3 rfl⟩, ?_⟩
            simp only [nz1, nz2, nz3]
            refine Sym.take_at 7 43 (.tuple #[.agg (bs xv), .bool (rootOk (ra % PP))]) rfl rfl (by kernel_rfl) (by kernel_rfl) (by kernel_rfl) (fun _ _ _ h => nomatch h.1) rfl (fun _ hw => run_mv rfl rfl) (⟨hm97.at 2 rfl, hm97.at 3 rfl⟩) ?_
            simp only [nz1, nz2, nz3]
            refine Sym.take_at 8 51 (.agg (bs xv)) rfl rfl (by kernel_rfl) (by kernel_rfl) (by kernel_rfl) (fun _ _ _ h => nomatch h.1) rfl (fun _ hw => run_ex rfl rfl rfl) (⟨hm97.at 2 rfl, hm97.at 3 rfl⟩) ?_
            simp only [nz1, nz2, nz3]
            refine Sym.take_at 9 52 (.bool (rootOk (ra % PP))) rfl rfl (by kernel_rfl) (by kernel_rfl) (by kernel_rfl) (fun _ _ _ h => nomatch h.1) rfl (fun _ hw => run_ex rfl rfl rfl) (⟨hm97.at 2 rfl, hm97.at 3 rfl⟩) ?_
            simp only [nz1, nz2, nz3]
            refine one_ready 11 (by kernel_rfl) ?_
            refine opd rfl rfl (m_store 4 23 _ _ (bs xv) (old := bs 0) hm97 rfl rfl rfl rfl rfl (by rw [bs_sz]; exact info_b) ((bs_sz _).trans (bs_sz _).symm) (bs_one _) (fun w98 hm99 => ?_))
            refine ⟨⟨hm99.at 2 rfl, hm99.at 3 rfl⟩, ?_⟩
            refine one_ready 12 (by kernel_rfl) ?_
            refine opd rfl rfl (w_value 10 (.bool (rootOk (ra % PP))) rfl (run_as rfl rfl) ⟨⟨hm99.at 2 rfl, hm99.at 3 rfl⟩, ?_⟩)
            simp only [nz1, nz2, nz3]
            refine wpAnyH_done (by kernel_rfl) ?_ _
            exact ⟨rfl, g89, rfl, hm99⟩
        · refine opd rfl rfl (m_alloc (c := bs 0) (T := 23) hm59 9 rfl (run_alN rfl) (fun g100 w101 hm102 => ?_))
          refine ⟨⟨hm102.at 2 rfl, hm102.at 3 rfl⟩, ?_⟩
          simp only [nz1, nz2, nz3]
          refine one_ready 2 (by kernel_rfl) ?_
          refine opd rfl rfl (m_call hm102 46 (.agg (bs nu)) rfl (run_fSub rfl rfl rfl) (subu_g sq 1 nu (h1 ▸ f_lt (fM_lt _ _)) (by decide) h4 _) (fun w103 hm104 => ?_))
          refine ⟨⟨hm104.at 2 rfl, hm104.at 3 rfl⟩, ?_⟩
          simp only [nz1, nz2, nz3]
          refine one_ready 4 (by kernel_rfl) ?_
          refine opd rfl rfl (m_call hm104 48 (.agg (bs di)) rfl (run_fInv rfl rfl) (invu_g den di (h3 ▸ f_lt (fA_lt _ _)) h5 _) (fun w105 hm106 => ?_))
          refine ⟨⟨hm106.at 2 rfl, hm106.at 3 rfl⟩, ?_⟩
          simp only [nz1, nz2, nz3]
          refine one_ready 5 (by kernel_rfl) ?_
          refine opd rfl rfl (m_call hm106 49 (.agg (bs ra)) rfl (run_fMul rfl rfl rfl) (mulu_g nu di ra (h4 ▸ f_lt (fS_lt _ _)) (h5 ▸ f_lt (fI_lt _)) h6 _) (fun w107 hm108 => ?_))
          refine ⟨⟨hm108.at 2 rfl, hm108.at 3 rfl⟩, ?_⟩
          simp only [nz1, nz2, nz3]
          refine one_ready 6 (by kernel_rfl) ?_
          refine opd rfl rfl (m_call hm108 50 (.tuple #[.agg (bs xv), .bool (rootOk (ra % PP))]) rfl (run_fRoot rfl rfl) (rootu_g ra xv (h6 ▸ f_lt (fM_lt _ _)) h7 _) (fun w109 hm110 => ?_))
          refine ⟨⟨hm110.at 2 rfl, hm110.at 3 rfl⟩, ?_⟩
          simp only [nz1, nz2, nz3]
          refine Sym.take_at 7 43 (.tuple #[.agg (bs xv), .bool (rootOk (ra % PP))]) rfl rfl (by kernel_rfl) (by kernel_rfl) (by kernel_rfl) (fun _ _ _ h => nomatch h.1) rfl (fun _ hw => run_mv rfl rfl) (⟨hm110.at 2 rfl, hm110.at 3 rfl⟩) ?_
          simp only [nz1, nz2, nz3]
          refine Sym.take_at 8 51 (.agg (bs xv)) rfl rfl (by kernel_rfl) (by kernel_rfl) (by kernel_rfl) (fun _ _ _ h => nomatch h.1) rfl (fun _ hw => run_ex rfl rfl rfl) (⟨hm110.at 2 rfl, hm110.at 3 rfl⟩) ?_
          simp only [nz1, nz2, nz3]
          refine Sym.take_at 9 52 (.bool (rootOk (ra % PP))) rfl rfl (by kernel_rfl) (by kernel_rfl) (by kernel_rfl) (fun _ _ _ h => nomatch h.1) rfl (fun _ hw => run_ex rfl rfl rfl) (⟨hm110.at 2 rfl, hm110.at 3 rfl⟩) ?_
          simp only [nz1, nz2, nz3]
          refine one_ready 11 (by kernel_rfl) ?_
          refine opd rfl rfl (m_store 4 23 _ _ (bs xv) (old := bs 0) hm110 rfl rfl rfl rfl rfl (by rw [bs_sz]; exact info_b) ((bs_sz _).trans (bs_sz _).symm) (bs_one _) (fun w111 hm112 => ?_))
          refine ⟨⟨hm112.at 2 rfl, hm112.at 3 rfl⟩, ?_⟩
          refine one_ready 12 (by kernel_rfl) ?_
          refine opd rfl rfl (w_value 10 (.bool (rootOk (ra % PP))) rfl (run_as rfl rfl) ⟨⟨hm112.at 2 rfl, hm112.at 3 rfl⟩, ?_⟩)
          simp only [nz1, nz2, nz3]
          refine wpAnyH_done (by kernel_rfl) ?_ _
          exact ⟨rfl, g100, rfl, hm112⟩
      · refine opd rfl rfl (m_alloc (c := bs 0) (T := 23) hm56 9 rfl (run_alN rfl) (fun g113 w114 hm115 => ?_))
        refine ⟨⟨hm115.at 2 rfl, hm115.at 3 rfl⟩, ?_⟩
        simp only [nz1, nz2, nz3]
        refine one_ready 1 (by kernel_rfl) ?_
        refine opd rfl rfl (m_call hm115 45 (.agg (bs 1)) rfl (run_pone rfl) (one_any _) (fun w116 hm117 => ?_))
        refine ⟨⟨hm117.at 2 rfl, hm117.at 3 rfl⟩, ?_⟩
        simp only [nz1, nz2, nz3]
        refine one_ready 2 (by kernel_rfl) ?_
        refine opd rfl rfl (m_call hm117 46 (.agg (bs nu)) rfl (run_fSub rfl rfl rfl) (subu_g sq 1 nu (h1 ▸ f_lt (fM_lt _ _)) (by decide) h4 _) (fun w118 hm119 => ?_))
        refine ⟨⟨hm119.at 2 rfl, hm119.at 3 rfl⟩, ?_⟩
        simp only [nz1, nz2, nz3]
        refine one_ready 4 (by kernel_rfl) ?_
        refine opd rfl rfl (m_call hm119 48 (.agg (bs di)) rfl (run_fInv rfl rfl) (invu_g den di (h3 ▸ f_lt (fA_lt _ _)) h5 _) (fun w120 hm121 => ?_))
        refine ⟨⟨hm121.at 2 rfl, hm121.at 3 rfl⟩, ?_⟩
        simp only [nz1, nz2, nz3]
        refine one_ready 5 (by kernel_rfl) ?_
        refine opd rfl rfl (m_call hm121 49 (.agg (bs ra)) rfl (run_fMul rfl rfl rfl) (mulu_g nu di ra (h4 ▸ f_lt (fS_lt _ _)) (h5 ▸ f_lt (fI_lt _)) h6 _) (fun w122 hm123 => ?_))
        refine ⟨⟨hm123.at 2 rfl, hm123.at 3 rfl⟩, ?_⟩
        simp only [nz1, nz2, nz3]
        refine one_ready 6 (by kernel_rfl) ?_
        refine opd rfl rfl (m_call hm123 50 (.tuple #[.agg (bs xv), .bool (rootOk (ra % PP))]) rfl (run_fRoot rfl rfl) (rootu_g ra xv (h6 ▸ f_lt (fM_lt _ _)) h7 _) (fun w124 hm125 => ?_))
        refine ⟨⟨hm125.at 2 rfl, hm125.at 3 rfl⟩, ?_⟩
        simp only [nz1, nz2, nz3]
        refine Sym.take_at 7 43 (.tuple #[.agg (bs xv), .bool (rootOk (ra % PP))]) rfl rfl (by kernel_rfl) (by kernel_rfl) (by kernel_rfl) (fun _ _ _ h => nomatch h.1) rfl (fun _ hw => run_mv rfl rfl) (⟨hm125.at 2 rfl, hm125.at 3 rfl⟩) ?_
        simp only [nz1, nz2, nz3]
        refine Sym.take_at 8 51 (.agg (bs xv)) rfl rfl (by kernel_rfl) (by kernel_rfl) (by kernel_rfl) (fun _ _ _ h => nomatch h.1) rfl (fun _ hw => run_ex rfl rfl rfl) (⟨hm125.at 2 rfl, hm125.at 3 rfl⟩) ?_
        simp only [nz1, nz2, nz3]
        refine Sym.take_at 9 52 (.bool (rootOk (ra % PP))) rfl rfl (by kernel_rfl) (by kernel_rfl) (by kernel_rfl) (fun _ _ _ h => nomatch h.1) rfl (fun _ hw => run_ex rfl rfl rfl) (⟨hm125.at 2 rfl, hm125.at 3 rfl⟩) ?_
        simp only [nz1, nz2, nz3]
        refine one_ready 11 (by kernel_rfl) ?_
        refine opd rfl rfl (m_store 4 23 _ _ (bs xv) (old := bs 0) hm125 rfl rfl rfl rfl rfl (by rw [bs_sz]; exact info_b) ((bs_sz _).trans (bs_sz _).symm) (bs_one _) (fun w126 hm127 => ?_))
        refine ⟨⟨hm127.at 2 rfl, hm127.at 3 rfl⟩, ?_⟩
        refine one_ready 12 (by kernel_rfl) ?_
        refine opd rfl rfl (w_value 10 (.bool (rootOk (ra % PP))) rfl (run_as rfl rfl) ⟨⟨hm127.at 2 rfl, hm127.at 3 rfl⟩, ?_⟩)
        simp only [nz1, nz2, nz3]
        refine wpAnyH_done (by kernel_rfl) ?_ _
        exact ⟨rfl, g113, rfl, hm127⟩
    clear hm54
    rintro _ _ w128 ⟨rfl, g68, rfl, hm129⟩
    rw [show ((.bool (rootOk (ra % PP))) : Value) = .bool false from by rw [hok]]
    refine then_n (hK55 _ _ ?_)
    refine wp_seq_k (fun K130 hK130 => ?_)
    refine wp_seq_k (fun K131 hK131 => ?_)
    refine wp_region_lit ?_
    refine lv 53 (.bool false) rfl rfl (run_mv rfl rfl) ?_
    simp only [nz1, nz2, nz3]
    refine lv 54 (.bool true) rfl rfl (r_not false rfl rfl) ?_
    simp only [nz1, nz2, nz3]
    refine lv 55 (.bool true) rfl rfl (run_mv rfl rfl) ?_
    simp only [nz1, nz2, nz3]
    refine lst_skip 56 rfl rfl ?_
    simp only [nz1, nz2, nz3]
    refine lst_skip 57 rfl rfl ?_
    simp only [nz1, nz2, nz3]
    refine lst_skip 58 rfl rfl ?_
    simp only [nz1, nz2, nz3]
    refine lst_skip 59 rfl rfl ?_
    simp only [nz1, nz2, nz3]
    refine lst_skip 60 rfl rfl ?_
    simp only [nz1, nz2, nz3]
    refine lst_skip 61 rfl rfl ?_
    simp only [nz1, nz2, nz3]
    refine lv 62 (.bool true) rfl rfl (run_pick rfl rfl rfl) ?_
    simp only [nz1, nz2, nz3]
    refine wpList_nil ?_
    refine then_n (hK131 _ _ ?_)
    refine cond_t rfl ?_
    refine wp_seq_k (fun K132 hK132 => ?_)
    refine wp_region_lit ?_
    refine lv 63 (.agg (pt 0 0 0 0)) rfl rfl (by unfold execOp; go_simp; rfl) ?_
    simp only [nz1, nz2, nz3]
    refine lst (wanted_none rfl) (m_store 0 25 _ _ (pt 0 0 0 0) (old := pt 0 0 0 0) hm129 rfl rfl rfl rfl rfl (by rw [pt_sz]; exact info_p) ((pt_sz _ _ _ _).trans (pt_sz _ _ _ _).symm) (pt_one _ _ _ _) (fun w133 (hm134 : Mm w w133 [(g2, pt 0 0 0 0, 25), (g8, bs (upY s), 23), (g38, bs sq, 23), (g50, bs den, 23), (g68, bs xv, 23)]) => ?_))
    refine lv 3 (.bool false) rfl rfl (run_as rfl rfl) ?_
    simp only [nz1, nz2, nz3]
    refine wpList_nil ?_
    refine then_n (hK132 _ _ ?_)
    refine wp_ret ?_
    refine then_r ?_
    exact ⟨rfl, .tuple #[.agg (pt 0 0 0 0), .bool false], res_ct rfl rfl (hm134.at 0 rfl) Tryd.underlying25 rfl (by rw [pt_sz]; exact info_p) rfl, ⟨rfl, hm134.below⟩⟩
set_option maxHeartbeats 4000000 in
set_option maxRecDepth 100000 in
theorem un_zero (s : ByteArray) (sq ds den nu di ra xv : Nat) (h1 : fM (upY s) (upY s) = sq) (h2 : fM dN sq = ds) (h3 : fA ds 1 = den) (h4 : fS sq 1 = nu) (h5 : fI den = di) (h6 : fM nu di = ra) (h7 : rootV (ra % PP) = xv) (hs : s.size = 32) (ho : 127 < bt (n32 s) 31) (hc : upY s < PP) (hok : rootOk (ra % PP) = true) (hz : xv = 0) (w : World) (hd : DD w) : Calls Tryd.prog 10 #[.string s] w (fun e w' => e = .returned (.tuple #[.agg (pt 0 0 0 0), .bool false]) ∧ Below w.heap.size w w') := by
  go_enter Tryd.func10, Tryd.ntmps10
  have hm0 := Mm.nil w
  refine wp_seq_k (fun K1 hK1 => ?_)
  refine wp_region_lit ?_
  refine lst (wanted_none rfl) (m_alloc (c := pt 0 0 0 0) (T := 25) hm0 2 rfl (al_P rfl) (fun g2 w3 (hm4 : Mm w w3 [(g2, pt 0 0 0 0, 25)]) => ?_))
  simp only [nz1, nz2, nz3]
  refine lv 3 (.bool false) rfl rfl (run_as rfl rfl) ?_
  simp only [nz1, nz2, nz3]
  refine wpList_nil ?_
  refine then_n (hK1 _ _ ?_)
  refine wp_seq_k (fun K5 hK5 => ?_)
  refine wp_seq_k (fun K6 hK6 => ?_)
  refine wp_region_lit ?_
  refine lv 11 (.string s) rfl rfl (run_mv rfl rfl) ?_
  simp only [nz1, nz2, nz3]
  refine lv 12 (.int .i64 ((s.size : Nat) : Int)) rfl rfl (r_len rfl Tryd.underlying9 rfl) ?_
  simp only [nz1, nz2, nz3]
  refine lv 13 (.bool (decide (¬ s.size = 32))) rfl rfl (r_neq s.size 32 rfl rfl rfl) ?_
  simp only [nz1, nz2, nz3]
  refine wpList_nil ?_
  refine then_n (hK6 _ _ ?_)
  refine cond_df (¬ s.size = 32) rfl (fun hn => hn hs) ?_
  refine wp_skip ?_
  refine then_n (hK5 _ _ ?_)
  refine wp_seq_k (fun K7 hK7 => ?_)
  refine wp_region_lit ?_
  refine lst (wanted_none rfl) (m_alloc (c := bs 0) (T := 23) hm4 4 rfl (run_alN rfl) (fun g8 w9 (hm10 : Mm w w9 [(g2, pt 0 0 0 0, 25), (g8, bs 0, 23)]) => ?_))
  simp only [nz1, nz2, nz3]
  refine wpList_nil ?_
  refine then_n (hK7 _ _ ?_)
  refine wp_seq_k (fun K11 hK11 => ?_)
  refine wp_seq_k (fun K12 hK12 => ?_)
  refine wp_region_lit ?_
  refine lv 15 (.int .i64 0) rfl rfl (run_mv rfl rfl) ?_
  simp only [nz1, nz2, nz3]
  refine wpList_nil ?_
  have hm13 : Mm w w9 [(g2, pt 0 0 0 0, 25), (g8, rowOf .u8 (pb (sb s) 0) 32, 23)] := by rw [show (rowOf .u8 (pb (sb s) 0) 32 : Array Value) = bs 0 from pb_none _]; exact hm10
  refine then_n (hK12 _ _ ?_)
  refine wp_block ?_
  refine wp_loop_n (fun n' a' w' => ∃ (k : Nat) (u0 : Nat → Value), n' = 32 - k ∧ (k ≤ 32) ∧ a' = ⟨#[.string s, undef, .pointer (some ⟨g2, 0, none⟩), .bool false, .pointer (some ⟨g8, 0, none⟩), u0 0, undef, undef, undef, undef, undef, .string s, .int .i64 ((s.size : Nat) : Int), .bool (decide (¬ s.size = 32)), undef, .int .i64 ((k : Nat) : Int), u0 1, u0 2, u0 3, u0 4, u0 5, u0 6, u0 7, u0 8, undef, undef, undef, undef, undef, undef, undef, undef, undef, undef, undef, undef, undef, undef, undef, undef, undef, undef, undef, undef, undef, undef, undef, undef, undef, undef, undef, undef, undef, undef, undef, undef, undef, undef, undef, undef, undef, undef, undef, undef, undef, undef, undef, undef, undef, undef, undef, undef, undef, undef], []⟩ ∧ Mm w w' [(g2, pt 0 0 0 0, 25), (g8, rowOf .u8 (pb (sb s) k) 32, 23)]) ⟨0, (fun qq => List.getD [undef, undef, undef, undef, undef, undef, undef, undef, undef] qq undef), rfl, (by omega), rfl, hm13⟩ ?_
  clear hm13
  rintro _ _ w14 ⟨k, u0, hn0, hk, rfl, hm15⟩ R16 hR16
  refine wp_seq_k (fun K17 hK17 => ?_)
  refine wp_region_lit ?_
  refine lv 16 (.bool (decide (k < 32))) rfl rfl (r_lss k 32 rfl rfl rfl) ?_
  simp only [nz1, nz2, nz3]
  refine wpList_nil ?_
  refine then_n (hK17 _ _ ?_)
  refine wp_seq_k (fun K18 hK18 => ?_)
  refine cond_d (k < 32) rfl (fun hc19 => ?_) (fun hc19 => ?_)
  · refine wp_skip ?_
    refine then_n (hK18 _ _ ?_)
    refine wp_seq_k (fun K20 hK20 => ?_)
    refine wp_block ?_
    refine wp_seq_k (fun K21 hK21 => ?_)
    refine wp_region_lit ?_
    refine lv 17 (.int .i64 ((k : Nat) : Int)) rfl rfl (run_mv rfl rfl) ?_
    simp only [nz1, nz2, nz3]
    refine lv 5 (.int .i64 ((k : Nat) : Int)) rfl rfl (run_as rfl rfl) ?_
    simp only [nz1, nz2, nz3]
    refine wpList_nil ?_
    refine then_n (hK21 _ _ ?_)
    refine wp_region_lit ?_
    refine lv 18 (.int .i64 ((k : Nat) : Int)) rfl rfl (run_mv rfl rfl) ?_
    simp only [nz1, nz2, nz3]
    refine lv 19 (.string s) rfl rfl (run_mv rfl rfl) ?_
    simp only [nz1, nz2, nz3]
    refine lv 20 (.int .i64 ((k : Nat) : Int)) rfl rfl (run_mv rfl rfl) ?_
    simp only [nz1, nz2, nz3]
    refine lv 21 (.int .u8 (((sb s k) : Nat) : Int)) rfl rfl (r_char k (sb s k) (by omega) (sb_at s k _) Tryd.underlying9 rfl rfl rfl) ?_
    simp only [nz1, nz2, nz3]
    refine lv 22 (.pointer (some ⟨g8, k, none⟩)) rfl rfl (r_ix g8 k (by omega) Tryd.underlying23 one_u8 rfl rfl rfl) ?_
    simp only [nz1, nz2, nz3]
    refine lst (wanted_none rfl) (m_put 1 (new := rowOf .u8 (up (pb (sb s) k) k (sb s k)) 32) k (.int .u8 (((sb s k) : Nat) : Int)) (old := rowOf .u8 (pb (sb s) k) 32) hm15 rfl rfl (p_cell (n := 32) (f := (pb (sb s) k)) g8 k (sb s k) (by omega) (hm15.at 1 rfl) rfl one_u8 rfl rfl) (rowOf_set _ _ _ _ _) (fun w22 (hm23 : Mm w w22 [(g2, pt 0 0 0 0, 25), (g8, rowOf .u8 (up (pb (sb s) k) k (sb s k)) 32, 23)]) => ?_))
    refine wpList_nil ?_
    have hm24 : Mm w w22 [(g2, pt 0 0 0 0, 25), (g8, rowOf .u8 (pb (sb s) (k + 1)) 32, 23)] := by rw [show (rowOf .u8 (pb (sb s) (k + 1)) 32 : Array Value) = rowOf .u8 (up (pb (sb s) k) k (sb s k)) 32 from by rw [pb_up]]; exact hm23
    refine blk_n ?_
    refine then_n (hK20 _ _ ?_)
    refine wp_region_lit ?_
    refine lv 23 (.int .i64 (((k + 1) : Nat) : Int)) rfl rfl (r_add k 1 (show (k + 1) < 9223372036854775808 from by omega) rfl rfl rfl) ?_
    simp only [nz1, nz2, nz3]
    refine lv 15 (.int .i64 (((k + 1) : Nat) : Int)) rfl rfl (run_mv rfl rfl) ?_
    simp only [nz1, nz2, nz3]
    refine wpList_nil ?_
    refine then_n (hR16 _ _ _ ⟨(k + 1), (fun qq => List.getD [.int .i64 ((k : Nat) : Int), .bool (decide (k < 32)), .int .i64 ((k : Nat) : Int), .int .i64 ((k : Nat) : Int), .string s, .int .i64 ((k : Nat) : Int), .int .u8 (((sb s k) : Nat) : Int), .pointer (some ⟨g8, k, none⟩), .int .i64 (((k + 1) : Nat) : Int)] qq undef), rfl, (by omega), rfl, hm24⟩ ?_)
    omega
  · obtain rfl : k = 32 := by omega
    have hm25 : Mm w w14 [(g2, pt 0 0 0 0, 25), (g8, bs (n32 s), 23)] := by rw [show (bs (n32 s) : Array Value) = rowOf .u8 (pb (sb s) 32) 32 from n32_row s]; exact hm15
    refine wp_exit ?_
    refine then_x ?_
    refine then_x ?_
    refine blk_x ?_
    refine then_n (hK11 _ _ ?_)
    refine wp_seq_k (fun K26 hK26 => ?_)
    refine wp_region_lit ?_
    refine lv 24 (.pointer (some ⟨g8, 31, none⟩)) rfl rfl (r_ix g8 31 (by decide) Tryd.underlying23 one_u8 rfl rfl rfl) ?_
    simp only [nz1, nz2, nz3]
    refine lv 25 (.int .u8 (((bt (n32 s)) 31 : Nat) : Int)) rfl rfl (r_cell (f := (bt (n32 s))) (n := 32) g8 31 (by decide) (hm25.at 1 rfl) Tryd.underlying5 rfl rfl) ?_
    simp only [nz1, nz2, nz3]
    refine lv 26 (.bool (decide (127 < (bt (n32 s)) 31))) rfl rfl (r_gtr ((bt (n32 s)) 31) 127 rfl rfl rfl) ?_
    simp only [nz1, nz2, nz3]
    refine lv 6 (.bool (decide (127 < (bt (n32 s)) 31))) rfl rfl (run_as rfl rfl) ?_
    simp only [nz1, nz2, nz3]
    refine wpList_nil ?_
    rw [show ((.bool (decide (127 < (bt (n32 s)) 31))) : Value) = .bool true from by rw [decide_eq_true ho]]
    refine then_n (hK26 _ _ ?_)
    refine wp_seq_k (fun K27 hK27 => ?_)
    refine wp_region_lit ?_
    refine lv 27 (.pointer (some ⟨g8, 31, none⟩)) rfl rfl (r_ix g8 31 (by decide) Tryd.underlying23 one_u8 rfl rfl rfl) ?_
    simp only [nz1, nz2, nz3]
    refine lv 28 (.int .u8 (((bt (n32 s)) 31 : Nat) : Int)) rfl rfl (r_cell (f := (bt (n32 s))) (n := 32) g8 31 (by decide) (hm25.at 1 rfl) Tryd.underlying5 rfl rfl) ?_
    simp only [nz1, nz2, nz3]
    refine lv 29 (.int .u8 (((bt (n32 s) 31 % 128) : Nat) : Int)) rfl rfl (r_andx ((bt (n32 s)) 31) 127 8 (bt (n32 s) 31 % 128) (by decide) (bt_lt _ _) (by decide) (show _ &&& (2 ^ 7 - 1) = _ from Nat.and_two_pow_sub_one_eq_mod _ 7) rfl rfl rfl) ?_
    simp only [nz1, nz2, nz3]
    refine lv 30 (.pointer (some ⟨g8, 31, none⟩)) rfl rfl (r_ix g8 31 (by decide) Tryd.underlying23 one_u8 rfl rfl rfl) ?_
    simp only [nz1, nz2, nz3]
    refine lst (wanted_none rfl) (m_put 1 (new := rowOf .u8 (up (bt (n32 s)) 31 (bt (n32 s) 31 % 128)) 32) 31 (.int .u8 (((bt (n32 s) 31 % 128) : Nat) : Int)) (old := bs (n32 s)) hm25 rfl rfl (p_cell (n := 32) (f := (bt (n32 s))) g8 31 (bt (n32 s) 31 % 128) (by decide) (hm25.at 1 rfl) rfl one_u8 rfl rfl) (rowOf_set _ _ _ _ _) (fun w28 (hm29 : Mm w w28 [(g2, pt 0 0 0 0, 25), (g8, rowOf .u8 (up (bt (n32 s)) 31 (bt (n32 s) 31 % 128)) 32, 23)]) => ?_))
    refine wpList_nil ?_
    have hm30 : Mm w w28 [(g2, pt 0 0 0 0, 25), (g8, bs (upY s), 23)] := by rw [show (bs (upY s) : Array Value) = rowOf .u8 (up (bt (n32 s)) 31 (bt (n32 s) 31 % 128)) 32 from cut_bit _]; exact hm29
    refine then_n (hK27 _ _ ?_)
    refine wp_seq_k (fun K31 hK31 => ?_)
    refine wp_seq_k (fun K32 hK32 => ?_)
    refine wp_region_lit ?_
    refine lv 31 (.agg (bs (upY s))) rfl rfl (run_row rfl rfl (hm30.at 1 rfl) Tryd.underlying23 rfl (by rw [bs_sz]; exact info_b)) ?_
    simp only [nz1, nz2, nz3]
    refine lst (wanted_none rfl) (m_call hm30 32 (.bool (decide ((upY s) < PP))) rfl (run_fCanon rfl rfl) (canon_any (upY s) (upY_lt s) _) (fun w33 hm34 => ?_))
    simp only [nz1, nz2, nz3]
    refine lv 33 (.bool (decide (¬ ((upY s) < PP)))) rfl rfl (r_notD ((upY s) < PP) rfl rfl) ?_
    simp only [nz1, nz2, nz3]
    refine wpList_nil ?_
    refine then_n (hK32 _ _ ?_)
    refine cond_df (¬ ((upY s) < PP)) rfl (fun hn => hn hc) ?_
    refine wp_skip ?_
    refine then_n (hK31 _ _ ?_)
    refine wp_seq_k (fun K35 hK35 => ?_)
    refine wp_region_lit ?_
    refine lv 35 (.agg (bs (upY s))) rfl rfl (run_row rfl rfl (hm34.at 1 rfl) Tryd.underlying23 rfl (by rw [bs_sz]; exact info_b)) ?_
    simp only [nz1, nz2, nz3]
    refine lv 36 (.agg (bs (upY s))) rfl rfl (run_row rfl rfl (hm34.at 1 rfl) Tryd.underlying23 rfl (by rw [bs_sz]; exact info_b)) ?_
    simp only [nz1, nz2, nz3]
    refine lst (wanted_none rfl) (m_call hm34 37 (.agg (bs sq)) rfl (run_fMul rfl rfl rfl) (mulu_g (upY s) (upY s) sq (upY_lt s) (upY_lt s) h1 _) (fun w36 hm37 => ?_))
    simp only [nz1, nz2, nz3]
    refine lst (wanted_none rfl) (m_alloc (c := bs 0) (T := 23) hm37 7 rfl (run_alN rfl) (fun g38 w39 (hm40 : Mm w w39 [(g2, pt 0 0 0 0, 25), (g8, bs (upY s), 23), (g38, bs 0, 23)]) => ?_))
    simp only [nz1, nz2, nz3]
    refine lst (wanted_none rfl) (m_store 2 23 _ _ (bs sq) (old := bs 0) hm40 rfl rfl rfl rfl rfl (by rw [bs_sz]; exact info_b) ((bs_sz _).trans (bs_sz _).symm) (bs_one _) (fun w41 (hm42 : Mm w w41 [(g2, pt 0 0 0 0, 25), (g8, bs (upY s), 23), (g38, bs sq, 23)]) => ?_))
    refine wpList_nil ?_
    refine then_n (hK35 _ _ ?_)
    refine wp_seq_k (fun K43 hK43 => ?_)
    refine wp_region_lit ?_
    refine lv 38 (.agg (bs dN)) rfl rfl (run_row rfl rfl (kept hd hm42.below) Tryd.underlying23 rfl (by rw [bs_sz]; exact info_b)) ?_
    simp only [nz1, nz2, nz3]
    refine lv 39 (.agg (bs sq)) rfl rfl (run_row rfl rfl (hm42.at 2 rfl) Tryd.underlying23 rfl (by rw [bs_sz]; exact info_b)) ?_
    simp only [nz1, nz2, nz3]
    refine lst (wanted_none rfl) (m_call hm42 40 (.agg (bs ds)) rfl (run_fMul rfl rfl rfl) (mulu_g dN sq ds dN_lt (h1 ▸ f_lt (fM_lt _ _)) h2 _) (fun w44 hm45 => ?_))
    simp only [nz1, nz2, nz3]
    refine lst (wanted_none rfl) (m_call hm45 41 (.agg (bs 1)) rfl (run_pone rfl) (one_any _) (fun w46 hm47 => ?_))
    simp only [nz1, nz2, nz3]
    refine lst (wanted_none rfl) (m_call hm47 42 (.agg (bs den)) rfl (run_fAdd rfl rfl rfl) (addu_g ds 1 den (h2 ▸ f_lt (fM_lt _ _)) (by decide) h3 _) (fun w48 hm49 => ?_))
    simp only [nz1, nz2, nz3]
    refine lst (wanted_none rfl) (m_alloc (c := bs 0) (T := 23) hm49 8 rfl (run_alN rfl) (fun g50 w51 (hm52 : Mm w w51 [(g2, pt 0 0 0 0, 25), (g8, bs (upY s), 23), (g38, bs sq, 23), (g50, bs 0, 23)]) => ?_))
    simp only [nz1, nz2, nz3]
    refine lst (wanted_none rfl) (m_store 3 23 _ _ (bs den) (old := bs 0) hm52 rfl rfl rfl rfl rfl (by rw [bs_sz]; exact info_b) ((bs_sz _).trans (bs_sz _).symm) (bs_one _) (fun w53 (hm54 : Mm w w53 [(g2, pt 0 0 0 0, 25), (g8, bs (upY s), 23), (g38, bs sq, 23), (g50, bs den, 23)]) => ?_))
    refine wpList_nil ?_
    refine then_n (hK43 _ _ ?_)
    refine wp_seq_k (fun K55 hK55 => ?_)
    refine wp_mono (Q := fun e a' w' => e = Exit.normal ∧ ∃ g68 : Nat, a' = ⟨#[.string s, undef, .pointer (some ⟨g2, 0, none⟩), .bool false, .pointer (some ⟨g8, 0, none⟩), u0 0, .bool true, .pointer (some ⟨g38, 0, none⟩), .pointer (some ⟨g50, 0, none⟩), .pointer (some ⟨g68, 0, none⟩), .bool (rootOk (ra % PP)), .string s, .int .i64 ((s.size : Nat) : Int), .bool (decide (¬ s.size = 32)), undef, .int .i64 32, .bool (decide (32 < 32)), u0 2, u0 3, u0 4, u0 5, u0 6, u0 7, u0 8, .pointer (some ⟨g8, 31, none⟩), .int .u8 (((bt (n32 s)) 31 : Nat) : Int), .bool true, .pointer (some ⟨g8, 31, none⟩), .int .u8 (((bt (n32 s)) 31 : Nat) : Int), .int .u8 (((bt (n32 s) 31 % 128) : Nat) : Int), .pointer (some ⟨g8, 31, none⟩), .agg (bs (upY s)), .bool (decide ((upY s) < PP)), .bool (decide (¬ ((upY s) < PP))), undef, .agg (bs (upY s)), .agg (bs (upY s)), .agg (bs sq), .agg (bs dN), .agg (bs sq), .agg (bs ds), .agg (bs 1), .agg (bs den), .tuple #[.agg (bs xv), .bool (rootOk (ra % PP))], .agg (bs sq), .agg (bs 1), .agg (bs nu), .agg (bs den), .agg (bs di), .agg (bs ra), .tuple #[.agg (bs xv), .bool (rootOk (ra % PP))], .agg (bs xv), .bool (rootOk (ra % PP)), undef, undef, undef, undef, undef, undef, undef, undef, undef, undef, undef, undef, undef, undef, undef, undef, undef, undef, undef, undef, undef], []⟩ ∧ Mm w w' [(g2, pt 0 0 0 0, 25), (g8, bs (upY s), 23), (g38, bs sq, 23), (g50, bs den, 23), (g68, bs xv, 23)]) ?_ ?_
    · have hm56 := hm54.drew
      refine wp_region_held_drew (S := fun w' => Sym.Blk w' g38 (bs sq) 23 ∧ Sym.Blk w' g50 (bs den) 23) (by kernel_rfl) (⟨hm56.at 2 rfl, hm56.at 3 rfl⟩) (fun _ => ?_)
      generalize w53.drew = w57 at *
      refine Sym.take_at 0 44 (.agg (bs sq)) rfl rfl (by kernel_rfl) (by kernel_rfl) (by kernel_rfl) (fun _ _ _ h => nomatch h.1) rfl (fun _ hw => run_row rfl rfl hw.1 Tryd.underlying23 rfl (by rw [bs_sz]; exact info_b)) (⟨hm56.at 2 rfl, hm56.at 3 rfl⟩) ?_
      simp only [nz1, nz2, nz3]
      refine Sym.take_at 3 47 (.agg (bs den)) rfl rfl (by kernel_rfl) (by kernel_rfl) (by kernel_rfl) (fun _ _ _ h => nomatch h.1) rfl (fun _ hw => run_row rfl rfl hw.2 Tryd.underlying23 rfl (by rw [bs_sz]; exact info_b)) (⟨hm56.at 2 rfl, hm56.at 3 rfl⟩) ?_
      simp only [nz1, nz2, nz3]
      refine two_ready 1 10 (by kernel_rfl) ?_ ?_
      · refine opd rfl rfl (m_call hm56 45 (.agg (bs 1)) rfl (run_pone rfl) (one_any _) (fun w58 hm59 => ?_))
        refine ⟨⟨hm59.at 2 rfl, hm59.at 3 rfl⟩, ?_⟩
        simp only [nz1, nz2, nz3]
        refine two_ready 2 10 (by kernel_rfl) ?_ ?_
        · refine opd rfl rfl (m_call hm59 46 (.agg (bs nu)) rfl (run_fSub rfl rfl rfl) (subu_g sq 1 nu (h1 ▸ f_lt (fM_lt _ _)) (by decide) h4 _) (fun w60 hm61 => ?_))
          refine ⟨⟨hm61.at 2 rfl, hm61.at 3 rfl⟩, ?_⟩
          simp only [nz1, nz2, nz3]
          refine two_ready 4 10 (by kernel_rfl) ?_ ?_
          · refine opd rfl rfl (m_call hm61 48 (.agg (bs di)) rfl (run_fInv rfl rfl) (invu_g den di (h3 ▸ f_lt (fA_lt _ _)) h5 _) (fun w62 hm63 => ?_))
            refine ⟨⟨hm63.at 2 rfl, hm63.at 3 rfl⟩, ?_⟩
            simp only [nz1, nz2, nz3]
            refine two_ready 5 10 (by kernel_rfl) ?_ ?_
            · refine opd rfl rfl (m_call hm63 49 (.agg (bs ra)) rfl (run_fMul rfl rfl rfl) (mulu_g nu di ra (h4 ▸ f_lt (fS_lt _ _)) (h5 ▸ f_lt (fI_lt _)) h6 _) (fun w64 hm65 => ?_))
              refine ⟨⟨hm65.at 2 rfl, hm65.at 3 rfl⟩, ?_⟩
              simp only [nz1, nz2, nz3]
              refine two_ready 6 10 (by kernel_rfl) ?_ ?_
              · refine opd rfl rfl (m_call hm65 50 (.tuple #[.agg (bs xv), .bool (rootOk (ra % PP))]) rfl (run_fRoot rfl rfl) (rootu_g ra xv (h6 ▸ f_lt (fM_lt _ _)) h7 _) (fun w66 hm67 => ?_))
                refine ⟨⟨hm67.at 2 rfl, hm67.at 3 rfl⟩, ?_⟩
                simp only [nz1, nz2, nz3]
                refine Sym.take_at 7 43 (.tuple #[.agg (bs xv), .bool (rootOk (ra % PP))]) rfl rfl (by kernel_rfl) (by kernel_rfl) (by kernel_rfl) (fun _ _ _ h => nomatch h.1) rfl (fun _ hw => run_mv rfl rfl) (⟨hm67.at 2 rfl, hm67.at 3 rfl⟩) ?_
                simp only [nz1, nz2, nz3]
                refine Sym.take_at 8 51 (.agg (bs xv)) rfl rfl (by kernel_rfl) (by kernel_rfl) (by kernel_rfl) (fun _ _ _ h => nomatch h.1) rfl (fun _ hw => run_ex rfl rfl rfl) (⟨hm67.at 2 rfl, hm67.at 3 rfl⟩) ?_
                simp only [nz1, nz2, nz3]
                refine Sym.take_at 9 52 (.bool (rootOk (ra % PP))) rfl rfl (by kernel_rfl) (by kernel_rfl) (by kernel_rfl) (fun _ _ _ h => nomatch h.1) rfl (fun _ hw => run_ex rfl rfl rfl) (⟨hm67.at 2 rfl, hm67.at 3 rfl⟩) ?_
                simp only [nz1, nz2, nz3]
                refine one_ready 10 (by kernel_rfl) ?_
                refine opd rfl rfl (m_alloc (c := bs 0) (T := 23) hm67 9 rfl (run_alN rfl) (fun g68 w69 hm70 => ?_))
                refine ⟨⟨hm70.at 2 rfl, hm70.at 3 rfl⟩, ?_⟩
                simp only [nz1, nz2, nz3]
                refine one_ready 11 (by kernel_rfl) ?_
                refine opd rfl rfl (m_store 4 23 _ _ (bs xv) (old := bs 0) hm70 rfl rfl rfl rfl rfl (by rw [bs_sz]; exact info_b) ((bs_sz _).trans (bs_sz _).symm) (bs_one _) (fun w71 hm72 => ?_))
                refine ⟨⟨hm72.at 2 rfl, hm72.at 3 rfl⟩, ?_⟩
                refine one_ready 12 (by kernel_rfl) ?_
                refine opd rfl rfl (w_value 10 (.bool (rootOk (ra % PP))) rfl (run_as rfl rfl) ⟨⟨hm72.at 2 rfl, hm72.at 3 rfl⟩, ?_⟩)
                simp only [nz1, nz2, nz3]
                refine wpAnyH_done (by kernel_rfl) ?_ _
                exact ⟨rfl, g68, rfl, hm72⟩
              · refine opd rfl rfl (m_alloc (c := bs 0) (T := 23) hm65 9 rfl (run_alN rfl) (fun g73 w74 hm75 => ?_))
                refine ⟨⟨hm75.at 2 rfl, hm75.at 3 rfl⟩, ?_⟩
                simp only [nz1, nz2, nz3]
                refine one_ready 6 (by kernel_rfl) ?_
                refine opd rfl rfl (m_call hm75 50 (.tuple #[.agg (bs xv), .bool (rootOk (ra % PP))]) rfl (run_fRoot rfl rfl) (rootu_g ra xv (h6 ▸ f_lt (fM_lt _ _)) h7 _) (fun w76 hm77 => ?_))
                refine ⟨⟨hm77.at 2 rfl, hm77.at 3 rfl⟩, ?_⟩
                simp only [nz1, nz2, nz3]
                refine Sym.take_at 7 43 (.tuple #[.agg (bs xv), .bool (rootOk (ra % PP))]) rfl rfl (by kernel_rfl) (by kernel_rfl) (by kernel_rfl) (fun _ _ _ h => nomatch h.1) rfl (fun _ hw => run_mv rfl rfl) (⟨hm77.at 2 rfl, hm77.at 3 rfl⟩) ?_
                simp only [nz1, nz2, nz3]
                refine Sym.take_at 8 51 (.agg (bs xv)) rfl rfl (by kernel_rfl) (by kernel_rfl) (by kernel_rfl) (fun _ _ _ h => nomatch h.1) rfl (fun _ hw => run_ex rfl rfl rfl) (⟨hm77.at 2 rfl, hm77.at 3 rfl⟩) ?_
                simp only [nz1, nz2, nz3]
                refine Sym.take_at 9 52 (.bool (rootOk (ra % PP))) rfl rfl (by kernel_rfl) (by kernel_rfl) (by kernel_rfl) (fun _ _ _ h => nomatch h.1) rfl (fun _ hw => run_ex rfl rfl rfl) (⟨hm77.at 2 rfl, hm77.at 3 rfl⟩) ?_
                simp only [nz1, nz2, nz3]
                refine one_ready 11 (by kernel_rfl) ?_
                refine opd rfl rfl (m_store 4 23 _ _ (bs xv) (old := bs 0) hm77 rfl rfl rfl rfl rfl (by rw [bs_sz]; exact info_b) ((bs_sz _).trans (bs_sz _).symm) (bs_one _) (fun w78 hm79 => ?_))
                refine ⟨⟨hm79.at 2 rfl, hm79.at 3 rfl⟩, ?_⟩
                refine one_ready 12 (by kernel_rfl) ?_
                refine opd rfl rfl (w_value 10 (.bool (rootOk (ra % PP))) rfl (run_as rfl rfl) ⟨⟨hm79.at 2 rfl, hm79.at 3 rfl⟩, ?_⟩)
                simp only [nz1, nz2, nz3]
                refine wpAnyH_done (by kernel_rfl) ?_ _
                exact ⟨rfl, g73, rfl, hm79⟩
            · refine opd rfl rfl (m_alloc (c := bs 0) (T := 23) hm63 9 rfl (run_alN rfl) (fun g80 w81 hm82 => ?_))
              refine ⟨⟨hm82.at 2 rfl, hm82.at 3 rfl⟩, ?_⟩
              simp only [nz1, nz2, nz3]
              refine one_ready 5 (by kernel_rfl) ?_
              refine opd rfl rfl (m_call hm82 49 (.agg (bs ra)) rfl (run_fMul rfl rfl rfl) (mulu_g nu di ra (h4 ▸ f_lt (fS_lt _ _)) (h5 ▸ f_lt (fI_lt _)) h6 _) (fun w83 hm84 => ?_))
              refine ⟨⟨hm84.at 2 rfl, hm84.at 3 rfl⟩, ?_⟩
              simp only [nz1, nz2, nz3]
              refine one_ready 6 (by kernel_rfl) ?_
              refine opd rfl rfl (m_call hm84 50 (.tuple #[.agg (bs xv), .bool (rootOk (ra % PP))]) rfl (run_fRoot rfl rfl) (rootu_g ra xv (h6 ▸ f_lt (fM_lt _ _)) h7 _) (fun w85 hm86 => ?_))
              refine ⟨⟨hm86.at 2 rfl, hm86.at 3 rfl⟩, ?_⟩
              simp only [nz1, nz2, nz3]
              refine Sym.take_at 7 43 (.tuple #[.agg (bs xv), .bool (rootOk (ra % PP))]) rfl rfl (by kernel_rfl) (by kernel_rfl) (by kernel_rfl) (fun _ _ _ h => nomatch h.1) rfl (fun _ hw => run_mv rfl rfl) (⟨hm86.at 2 rfl, hm86.at 3 rfl⟩) ?_
              simp only [nz1, nz2, nz3]
              refine Sym.take_at 8 51 (.agg (bs xv)) rfl rfl (by kernel_rfl) (by kernel_rfl) (by kernel_rfl) (fun _ _ _ h => nomatch h.1) rfl (fun _ hw => run_ex rfl rfl rfl) (⟨hm86.at 2 rfl, hm86.at 3 rfl⟩) ?_
              simp only [nz1, nz2, nz3]
              refine Sym.take_at 9 52 (.bool (rootOk (ra % PP))) rfl rfl (by kernel_rfl) (by kernel_rfl) (by kernel_rfl) (fun _ _ _ h => nomatch h.1) rfl (fun _ hw => run_ex rfl rfl rfl) (⟨hm86.at 2 rfl, hm86.at 3 rfl⟩) ?_
              simp only [nz1, nz2, nz3]
              refine one_ready 11 (by kernel_rfl) ?_
              refine opd rfl rfl (m_store 4 23 _ _ (bs xv) (old := bs 0) hm86 rfl rfl rfl rfl rfl (by rw [bs_sz]; exact info_b) ((bs_sz _).trans (bs_sz _).symm) (bs_one _) (fun w87 hm88 => ?_))
              refine ⟨⟨hm88.at 2 rfl, hm88.at 3 rfl⟩, ?_⟩
              refine one_ready 12 (by kernel_rfl) ?_
              refine opd rfl rfl (w_value 10 (.bool (rootOk (ra % PP))) rfl (run_as rfl rfl) ⟨⟨hm88.at 2 rfl, hm88.at 3 rfl⟩, ?_⟩)
              simp only [nz1, nz2, nz3]
              refine wpAnyH_done (by kernel_rfl) ?_ _
              exact ⟨rfl, g80, rfl, hm88⟩
          · refine opd rfl rfl (m_alloc (c := bs 0) (T := 23) hm61 9 rfl (run_alN rfl) (fun g89 w90 hm91 => ?_))
            refine ⟨⟨hm91.at 2 rfl, hm91.at 3 rfl⟩, ?_⟩
            simp only [nz1, nz2, nz3]
            refine one_ready 4 (by kernel_rfl) ?_
            refine opd rfl rfl (m_call hm91 48 (.agg (bs di)) rfl (run_fInv rfl rfl) (invu_g den di (h3 ▸ f_lt (fA_lt _ _)) h5 _) (fun w92 hm93 => ?_))
            refine ⟨⟨hm93.at 2 rfl, hm93.at 3 rfl⟩, ?_⟩
            simp only [nz1, nz2, nz3]
            refine one_ready 5 (by kernel_rfl) ?_
            refine opd rfl rfl (m_call hm93 49 (.agg (bs ra)) rfl (run_fMul rfl rfl rfl) (mulu_g nu di ra (h4 ▸ f_lt (fS_lt _ _)) (h5 ▸ f_lt (fI_lt _)) h6 _) (fun w94 hm95 => ?_))
            refine ⟨⟨hm95.at 2 rfl, hm95.at 3 rfl⟩, ?_⟩
            simp only [nz1, nz2, nz3]
            refine one_ready 6 (by kernel_rfl) ?_
            refine opd rfl rfl (m_call hm95 50 (.tuple #[.agg (bs xv), .bool (rootOk (ra % PP))]) rfl (run_fRoot rfl rfl) (rootu_g ra xv (h6 ▸ f_lt (fM_lt _ _)) h7 _) (fun w96 hm97 => ?_))
            refine ⟨⟨hm97.at 2 rfl, hm97.at 3 rfl⟩, ?_⟩
            simp only [nz1, nz2, nz3]
            refine Sym.take_at 7 43 (.tuple #[.agg (bs xv), .bool (rootOk (ra % PP))]) rfl rfl (by kernel_rfl) (by kernel_rfl) (by kernel_rfl) (fun _ _ _ h => nomatch h.1) rfl (fun _ hw => run_mv rfl rfl) (⟨hm97.at 2 rfl, hm97.at 3 rfl⟩) ?_
            simp only [nz1, nz2, nz3]
            refine Sym.take_at 8 51 (.agg (bs xv)) rfl rfl (by kernel_rfl) (by kernel_rfl) (by kernel_rfl) (fun _ _ _ h => nomatch h.1) rfl (fun _ hw => run_ex rfl rfl rfl) (⟨hm97.at 2 rfl, hm97.at 3 rfl⟩) ?_
            simp only [nz1, nz2, nz3]
            refine Sym.take_at 9 52 (.bool (rootOk (ra % PP))) rfl rfl (by kernel_rfl) (by kernel_rfl) (by kernel_rfl) (fun _ _ _ h => nomatch h.1) rfl (fun _ hw => run_ex rfl rfl rfl) (⟨hm97.at 2 rfl, hm97.at 3 rfl⟩) ?_
            simp only [nz1, nz2, nz3]
            refine one_ready 11 (by kernel_rfl) ?_
            refine opd rfl rfl (m_store 4 23 _ _ (bs xv) (old := bs 0) hm97 rfl rfl rfl rfl rfl (by rw [bs_sz]; exact info_b) ((bs_sz _).trans (bs_sz _).symm) (bs_one _) (fun w98 hm99 => ?_))
            refine ⟨⟨hm99.at 2 rfl, hm99.at 3 rfl⟩, ?_⟩
            refine one_ready 12 (by kernel_rfl) ?_
            refine opd rfl rfl (w_value 10 (.bool (rootOk (ra % PP))) rfl (run_as rfl rfl) ⟨⟨hm99.at 2 rfl, hm99.at 3 rfl⟩, ?_⟩)
            simp only [nz1, nz2, nz3]
            refine wpAnyH_done (by kernel_rfl) ?_ _
            exact ⟨rfl, g89, rfl, hm99⟩
        · refine opd rfl rfl (m_alloc (c := bs 0) (T := 23) hm59 9 rfl (run_alN rfl) (fun g100 w101 hm102 => ?_))
          refine ⟨⟨hm102.at 2 rfl, hm102.at 3 rfl⟩, ?_⟩
          simp only [nz1, nz2, nz3]
          refine one_ready 2 (by kernel_rfl) ?_
          refine opd rfl rfl (m_call hm102 46 (.agg (bs nu)) rfl (run_fSub rfl rfl rfl) (subu_g sq 1 nu (h1 ▸ f_lt (fM_lt _ _)) (by decide) h4 _) (fun w103 hm104 => ?_))
          refine ⟨⟨hm104.at 2 rfl, hm104.at 3 rfl⟩, ?_⟩
          simp only [nz1, nz2, nz3]
          refine one_ready 4 (by kernel_rfl) ?_
          refine opd rfl rfl (m_call hm104 48 (.agg (bs di)) rfl (run_fInv rfl rfl) (invu_g den di (h3 ▸ f_lt (fA_lt _ _)) h5 _) (fun w105 hm106 => ?_))
          refine ⟨⟨hm106.at 2 rfl, hm106.at 3 rfl⟩, ?_⟩
          simp only [nz1, nz2, nz3]
          refine one_ready 5 (by kernel_rfl) ?_
          refine opd rfl rfl (m_call hm106 49 (.agg (bs ra)) rfl (run_fMul rfl rfl rfl) (mulu_g nu di ra (h4 ▸ f_lt (fS_lt _ _)) (h5 ▸ f_lt (fI_lt _)) h6 _) (fun w107 hm108 => ?_))
          refine ⟨⟨hm108.at 2 rfl, hm108.at 3 rfl⟩, ?_⟩
          simp only [nz1, nz2, nz3]
          refine one_ready 6 (by kernel_rfl) ?_
          refine opd rfl rfl (m_call hm108 50 (.tuple #[.agg (bs xv), .bool (rootOk (ra % PP))]) rfl (run_fRoot rfl rfl) (rootu_g ra xv (h6 ▸ f_lt (fM_lt _ _)) h7 _) (fun w109 hm110 => ?_))
          refine ⟨⟨hm110.at 2 rfl, hm110.at 3 rfl⟩, ?_⟩
          simp only [nz1, nz2, nz3]
          refine Sym.take_at 7 43 (.tuple #[.agg (bs xv), .bool (rootOk (ra % PP))]) rfl rfl (by kernel_rfl) (by kernel_rfl) (by kernel_rfl) (fun _ _ _ h => nomatch h.1) rfl (fun _ hw => run_mv rfl rfl) (⟨hm110.at 2 rfl, hm110.at 3 rfl⟩) ?_
          simp only [nz1, nz2, nz3]
          refine Sym.take_at 8 51 (.agg (bs xv)) rfl rfl (by kernel_rfl) (by kernel_rfl) (by kernel_rfl) (fun _ _ _ h => nomatch h.1) rfl (fun _ hw => run_ex rfl rfl rfl) (⟨hm110.at 2 rfl, hm110.at 3 rfl⟩) ?_
          simp only [nz1, nz2, nz3]
          refine Sym.take_at 9 52 (.bool (rootOk (ra % PP))) rfl rfl (by kernel_rfl) (by kernel_rfl) (by kernel_rfl) (fun _ _ _ h => nomatch h.1) rfl (fun _ hw => run_ex rfl rfl rfl) (⟨hm110.at 2 rfl, hm110.at 3 rfl⟩) ?_
          simp only [nz1, nz2, nz3]
          refine one_ready 11 (by kernel_rfl) ?_
          refine opd rfl rfl (m_store 4 23 _ _ (bs xv) (old := bs 0) hm110 rfl rfl rfl rfl rfl (by rw [bs_sz]; exact info_b) ((bs_sz _).trans (bs_sz _).symm) (bs_one _) (fun w111 hm112 => ?_))
          refine ⟨⟨hm112.at 2 rfl, hm112.at 3 rfl⟩, ?_⟩
          refine one_ready 12 (by kernel_rfl) ?_
          refine opd rfl rfl (w_value 10 (.bool (rootOk (ra % PP))) rfl (run_as rfl rfl) ⟨⟨hm112.at 2 rfl, hm112.at 3 rfl⟩, ?_⟩)
          simp only [nz1, nz2, nz3]
          refine wpAnyH_done (by kernel_rfl) ?_ _
          exact ⟨rfl, g100, rfl, hm112⟩
      · refine opd rfl rfl (m_alloc (c := bs 0) (T := 23) hm56 9 rfl (run_alN rfl) (fun g113 w114 hm115 => ?_))
        refine ⟨⟨hm115.at 2 rfl, hm115.at 3 rfl⟩, ?_⟩
        simp only [nz1, nz2, nz3]
        refine one_ready 1 (by kernel_rfl) ?_
        refine opd rfl rfl (m_call hm115 45 (.agg (bs 1)) rfl (run_pone rfl) (one_any _) (fun w116 hm117 => ?_))
        refine ⟨⟨hm117.at 2 rfl, hm117.at 3 rfl⟩, ?_⟩
        simp only [nz1, nz2, nz3]
        refine one_ready 2 (by kernel_rfl) ?_
        refine opd rfl rfl (m_call hm117 46 (.agg (bs nu)) rfl (run_fSub rfl rfl rfl) (subu_g sq 1 nu (h1 ▸ f_lt (fM_lt _ _)) (by decide) h4 _) (fun w118 hm119 => ?_))
        refine ⟨⟨hm119.at 2 rfl, hm119.at 3 rfl⟩, ?_⟩
        simp only [nz1, nz2, nz3]
        refine one_ready 4 (by kernel_rfl) ?_
        refine opd rfl rfl (m_call hm119 48 (.agg (bs di)) rfl (run_fInv rfl rfl) (invu_g den di (h3 ▸ f_lt (fA_lt _ _)) h5 _) (fun w120 hm121 => ?_))
        refine ⟨⟨hm121.at 2 rfl, hm121.at 3 rfl⟩, ?_⟩
        simp only [nz1, nz2, nz3]
        refine one_ready 5 (by kernel_rfl) ?_
        refine opd rfl rfl (m_call hm121 49 (.agg (bs ra)) rfl (run_fMul rfl rfl rfl) (mulu_g nu di ra (h4 ▸ f_lt (fS_lt _ _)) (h5 ▸ f_lt (fI_lt _)) h6 _) (fun w122 hm123 => ?_))
        refine ⟨⟨hm123.at 2 rfl, hm123.at 3 rfl⟩, ?_⟩
        simp only [nz1, nz2, nz3]
        refine one_ready 6 (by kernel_rfl) ?_
        refine opd rfl rfl (m_call hm123 50 (.tuple #[.agg (bs xv), .bool (rootOk (ra % PP))]) rfl (run_fRoot rfl rfl) (rootu_g ra xv (h6 ▸ f_lt (fM_lt _ _)) h7 _) (fun w124 hm125 => ?_))
        refine ⟨⟨hm125.at 2 rfl, hm125.at 3 rfl⟩, ?_⟩
        simp only [nz1, nz2, nz3]
        refine Sym.take_at 7 43 (.tuple #[.agg (bs xv), .bool (rootOk (ra % PP))]) rfl rfl (by kernel_rfl) (by kernel_rfl) (by kernel_rfl) (fun _ _ _ h => nomatch h.1) rfl (fun _ hw => run_mv rfl rfl) (⟨hm125.at 2 rfl, hm125.at 3 rfl⟩) ?_
        simp only [nz1, nz2, nz3]
        refine Sym.take_at 8 51 (.agg (bs xv)) rfl rfl (by kernel_rfl) (by kernel_rfl) (by kernel_rfl) (fun _ _ _ h => nomatch h.1) rfl (fun _ hw => run_ex rfl rfl rfl) (⟨hm125.at 2 rfl, hm125.at 3 rfl⟩) ?_
        simp only [nz1, nz2, nz3]
        refine Sym.take_at 9 52 (.bool (rootOk (ra % PP))) rfl rfl (by kernel_rfl) (by kernel_rfl) (by kernel_rfl) (fun _ _ _ h => nomatch h.1) rfl (fun _ hw => run_ex rfl rfl rfl) (⟨hm125.at 2 rfl, hm125.at 3 rfl⟩) ?_
        simp only [nz1, nz2, nz3]
        refine one_ready 11 (by kernel_rfl) ?_
        refine opd rfl rfl (m_store 4 23 _ _ (bs xv) (old := bs 0) hm125 rfl rfl rfl rfl rfl (by rw [bs_sz]; exact info_b) ((bs_sz _).trans (bs_sz _).symm) (bs_one _) (fun w126 hm127 => ?_))
        refine ⟨⟨hm127.at 2 rfl, hm127.at 3 rfl⟩, ?_⟩
        refine one_ready 12 (by kernel_rfl) ?_
        refine opd rfl rfl (w_value 10 (.bool (rootOk (ra % PP))) rfl (run_as rfl rfl) ⟨⟨hm127.at 2 rfl, hm127.at 3 rfl⟩, ?_⟩)
        simp only [nz1, nz2, nz3]
        refine wpAnyH_done (by kernel_rfl) ?_ _
        exact ⟨rfl, g113, rfl, hm127⟩
    clear hm54
    rintro _ _ w128 ⟨rfl, g68, rfl, hm129⟩
    rw [show ((.bool (rootOk (ra % PP))) : Value) = .bool true from by rw [hok]]
    refine then_n (hK55 _ _ ?_)
    refine wp_seq_k (fun K130 hK130 => ?_)
    refine wp_seq_k (fun K131 hK131 => ?_)
    refine wp_region_lit ?_
    refine lv 53 (.bool true) rfl rfl (run_mv rfl rfl) ?_
    simp only [nz1, nz2, nz3]
    refine lv 54 (.bool false) rfl rfl (r_not true rfl rfl) ?_
    simp only [nz1, nz2, nz3]
    refine lv 55 (.bool false) rfl rfl (run_mv rfl rfl) ?_
    simp only [nz1, nz2, nz3]
    refine lst rfl (w_value 56 (.bool true) rfl (run_mv rfl rfl) ?_)
    simp only [nz1, nz2, nz3]
    refine lst rfl (w_value 57 (.bool true) rfl (run_mv rfl rfl) ?_)
    simp only [nz1, nz2, nz3]
    refine lst rfl (w_value 58 (.agg (bs xv)) rfl (run_row rfl rfl (hm129.at 4 rfl) Tryd.underlying23 rfl (by rw [bs_sz]; exact info_b)) ?_)
    simp only [nz1, nz2, nz3]
    refine lst rfl (w_value 59 (.agg (bs 0)) rfl (by unfold execOp; go_simp; rfl) ?_)
    simp only [nz1, nz2, nz3]
    refine lst rfl (w_value 60 (.bool true) rfl (run_eqlM xv 0 (h7 ▸ rootu_lt _) (by decide) true (decide_eq_true hz) rfl rfl rfl) ?_)
    simp only [nz1, nz2, nz3]
    refine lst rfl (w_value 61 (.bool true) rfl (run_pick rfl rfl rfl) ?_)
    simp only [nz1, nz2, nz3]
    refine lv 62 (.bool true) rfl rfl (run_pickf rfl rfl rfl) ?_
    simp only [nz1, nz2, nz3]
    refine wpList_nil ?_
    refine then_n (hK131 _ _ ?_)
    refine cond_t rfl ?_
    refine wp_seq_k (fun K132 hK132 => ?_)
    refine wp_region_lit ?_
    refine lv 63 (.agg (pt 0 0 0 0)) rfl rfl (by unfold execOp; go_simp; rfl) ?_
    simp only [nz1, nz2, nz3]
    refine lst (wanted_none rfl) (m_store 0 25 _ _ (pt 0 0 0 0) (old := pt 0 0 0 0) hm129 rfl rfl rfl rfl rfl (by rw [pt_sz]; exact info_p) ((pt_sz _ _ _ _).trans (pt_sz _ _ _ _).symm) (pt_one _ _ _ _) (fun w133 (hm134 : Mm w w133 [(g2, pt 0 0 0 0, 25), (g8, bs (upY s), 23), (g38, bs sq, 23), (g50, bs den, 23), (g68, bs xv, 23)]) => ?_))
    refine lv 3 (.bool false) rfl rfl (run_as rfl rfl) ?_
    simp only [nz1, nz2, nz3]
    refine wpList_nil ?_
    refine then_n (hK132 _ _ ?_)
    refine wp_ret ?_
    refine then_r ?_
    exact ⟨rfl, .tuple #[.agg (pt 0 0 0 0), .bool false], res_ct rfl rfl (hm134.at 0 rfl) Tryd.underlying25 rfl (by rw [pt_sz]; exact info_p) rfl, ⟨rfl, hm134.below⟩⟩
set_option maxHeartbeats 4000000 in
set_option maxRecDepth 100000 in
theorem un_odd (s : ByteArray) (sq ds den nu di ra xv : Nat) (h1 : fM (upY s) (upY s) = sq) (h2 : fM dN sq = ds) (h3 : fA ds 1 = den) (h4 : fS sq 1 = nu) (h5 : fI den = di) (h6 : fM nu di = ra) (h7 : rootV (ra % PP) = xv) (hs : s.size = 32) (ho : 127 < bt (n32 s) 31) (hc : upY s < PP) (hok : rootOk (ra % PP) = true) (hz : ¬ xv = 0) (w : World) (hd : DD w) : Calls Tryd.prog 10 #[.string s] w (fun e w' => e = .returned (.tuple #[.agg (pt (fN (xv)) (upY s) 1 (fM (fN (xv)) (upY s))), .bool true]) ∧ Below w.heap.size w w') := by
  go_enter Tryd.func10, Tryd.ntmps10
  have hm0 := Mm.nil w
  refine wp_seq_k (fun K1 hK1 => ?_)
  refine wp_region_lit ?_
  refine lst (wanted_none rfl) (m_alloc (c := pt 0 0 0 0) (T := 25) hm0 2 rfl (al_P rfl) (fun g2 w3 (hm4 : Mm w w3 [(g2, pt 0 0 0 0, 25)]) => ?_))
  simp only [nz1, nz2, nz3]
  refine lv 3 (.bool false) rfl rfl (run_as rfl rfl) ?_
  simp only [nz1, nz2, nz3]
  refine wpList_nil ?_
  refine then_n (hK1 _ _ ?_)
  refine wp_seq_k (fun K5 hK5 => ?_)
  refine wp_seq_k (fun K6 hK6 => ?_)
  refine wp_region_lit ?_
  refine lv 11 (.string s) rfl rfl (run_mv rfl rfl) ?_
  simp only [nz1, nz2, nz3]
  refine lv 12 (.int .i64 ((s.size : Nat) : Int)) rfl rfl (r_len rfl Tryd.underlying9 rfl) ?_
  simp only [nz1, nz2, nz3]
  refine lv 13 (.bool (decide (¬ s.size = 32))) rfl rfl (r_neq s.size 32 rfl rfl rfl) ?_
  simp only [nz1, nz2, nz3]
  refine wpList_nil ?_
  refine then_n (hK6 _ _ ?_)
  refine cond_df (¬ s.size = 32) rfl (fun hn => hn hs) ?_
  refine wp_skip ?_
  refine then_n (hK5 _ _ ?_)
  refine wp_seq_k (fun K7 hK7 => ?_)
  refine wp_region_lit ?_
  refine lst (wanted_none rfl) (m_alloc (c := bs 0) (T := 23) hm4 4 rfl (run_alN rfl) (fun g8 w9 (hm10 : Mm w w9 [(g2, pt 0 0 0 0, 25), (g8, bs 0, 23)]) => ?_))
  simp only [nz1, nz2, nz3]
  refine wpList_nil ?_
  refine then_n (hK7 _ _ ?_)
  refine wp_seq_k (fun K11 hK11 => ?_)
  refine wp_seq_k (fun K12 hK12 => ?_)
  refine wp_region_lit ?_
  refine lv 15 (.int .i64 0) rfl rfl (run_mv rfl rfl) ?_
  simp only [nz1, nz2, nz3]
  refine wpList_nil ?_
  have hm13 : Mm w w9 [(g2, pt 0 0 0 0, 25), (g8, rowOf .u8 (pb (sb s) 0) 32, 23)] := by rw [show (rowOf .u8 (pb (sb s) 0) 32 : Array Value) = bs 0 from pb_none _]; exact hm10
  refine then_n (hK12 _ _ ?_)
  refine wp_block ?_
  refine wp_loop_n (fun n' a' w' => ∃ (k : Nat) (u0 : Nat → Value), n' = 32 - k ∧ (k ≤ 32) ∧ a' = ⟨#[.string s, undef, .pointer (some ⟨g2, 0, none⟩), .bool false, .pointer (some ⟨g8, 0, none⟩), u0 0, undef, undef, undef, undef, undef, .string s, .int .i64 ((s.size : Nat) : Int), .bool (decide (¬ s.size = 32)), undef, .int .i64 ((k : Nat) : Int), u0 1, u0 2, u0 3, u0 4, u0 5, u0 6, u0 7, u0 8, undef, undef, undef, undef, undef, undef, undef, undef, undef, undef, undef, undef, undef, undef, undef, undef, undef, undef, undef, undef, undef, undef, undef, undef, undef, undef, undef, undef, undef, undef, undef, undef, undef, undef, undef, undef, undef, undef, undef, undef, undef, undef, undef, undef, undef, undef, undef, undef, undef, undef], []⟩ ∧ Mm w w' [(g2, pt 0 0 0 0, 25), (g8, rowOf .u8 (pb (sb s) k) 32, 23)]) ⟨0, (fun qq => List.getD [undef, undef, undef, undef, undef, undef, undef, undef, undef] qq undef), rfl, (by omega), rfl, hm13⟩ ?_
  clear hm13
  rintro _ _ w14 ⟨k, u0, hn0, hk, rfl, hm15⟩ R16 hR16
  refine wp_seq_k (fun K17 hK17 => ?_)
  refine wp_region_lit ?_
  refine lv 16 (.bool (decide (k < 32))) rfl rfl (r_lss k 32 rfl rfl rfl) ?_
  simp only [nz1, nz2, nz3]
  refine wpList_nil ?_
  refine then_n (hK17 _ _ ?_)
  refine wp_seq_k (fun K18 hK18 => ?_)
  refine cond_d (k < 32) rfl (fun hc19 => ?_) (fun hc19 => ?_)
  · refine wp_skip ?_
    refine then_n (hK18 _ _ ?_)
    refine wp_seq_k (fun K20 hK20 => ?_)
    refine wp_block ?_
    refine wp_seq_k (fun K21 hK21 => ?_)
    refine wp_region_lit ?_
    refine lv 17 (.int .i64 ((k : Nat) : Int)) rfl rfl (run_mv rfl rfl) ?_
    simp only [nz1, nz2, nz3]
    refine lv 5 (.int .i64 ((k : Nat) : Int)) rfl rfl (run_as rfl rfl) ?_
    simp only [nz1, nz2, nz3]
    refine wpList_nil ?_
    refine then_n (hK21 _ _ ?_)
    refine wp_region_lit ?_
    refine lv 18 (.int .i64 ((k : Nat) : Int)) rfl rfl (run_mv rfl rfl) ?_
    simp only [nz1, nz2, nz3]
    refine lv 19 (.string s) rfl rfl (run_mv rfl rfl) ?_
    simp only [nz1, nz2, nz3]
    refine lv 20 (.int .i64 ((k : Nat) : Int)) rfl rfl (run_mv rfl rfl) ?_
    simp only [nz1, nz2, nz3]
    refine lv 21 (.int .u8 (((sb s k) : Nat) : Int)) rfl rfl (r_char k (sb s k) (by omega) (sb_at s k _) Tryd.underlying9 rfl rfl rfl) ?_
    simp only [nz1, nz2, nz3]
    refine lv 22 (.pointer (some ⟨g8, k, none⟩)) rfl rfl (r_ix g8 k (by omega) Tryd.underlying23 one_u8 rfl rfl rfl) ?_
    simp only [nz1, nz2, nz3]
    refine lst (wanted_none rfl) (m_put 1 (new := rowOf .u8 (up (pb (sb s) k) k (sb s k)) 32) k (.int .u8 (((sb s k) : Nat) : Int)) (old := rowOf .u8 (pb (sb s) k) 32) hm15 rfl rfl (p_cell (n := 32) (f := (pb (sb s) k)) g8 k (sb s k) (by omega) (hm15.at 1 rfl) rfl one_u8 rfl rfl) (rowOf_set _ _ _ _ _) (fun w22 (hm23 : Mm w w22 [(g2, pt 0 0 0 0, 25), (g8, rowOf .u8 (up (pb (sb s) k) k (sb s k)) 32, 23)]) => ?_))
    refine wpList_nil ?_
    have hm24 : Mm w w22 [(g2, pt 0 0 0 0, 25), (g8, rowOf .u8 (pb (sb s) (k + 1)) 32, 23)] := by rw [show (rowOf .u8 (pb (sb s) (k + 1)) 32 : Array Value) = rowOf .u8 (up (pb (sb s) k) k (sb s k)) 32 from by rw [pb_up]]; exact hm23
    refine blk_n ?_
    refine then_n (hK20 _ _ ?_)
    refine wp_region_lit ?_
    refine lv 23 (.int .i64 (((k + 1) : Nat) : Int)) rfl rfl (r_add k 1 (show (k + 1) < 9223372036854775808 from by omega) rfl rfl rfl) ?_
    simp only [nz1, nz2, nz3]
    refine lv 15 (.int .i64 (((k + 1) : Nat) : Int)) rfl rfl (run_mv rfl rfl) ?_
    simp only [nz1, nz2, nz3]
    refine wpList_nil ?_
    refine then_n (hR16 _ _ _ ⟨(k + 1), (fun qq => List.getD [.int .i64 ((k : Nat) : Int), .bool (decide (k < 32)), .int .i64 ((k : Nat) : Int), .int .i64 ((k : Nat) : Int), .string s, .int .i64 ((k : Nat) : Int), .int .u8 (((sb s k) : Nat) : Int), .pointer (some ⟨g8, k, none⟩), .int .i64 (((k + 1) : Nat) : Int)] qq undef), rfl, (by omega), rfl, hm24⟩ ?_)
    omega
  · obtain rfl : k = 32 := by omega
    have hm25 : Mm w w14 [(g2, pt 0 0 0 0, 25), (g8, bs (n32 s), 23)] := by rw [show (bs (n32 s) : Array Value) = rowOf .u8 (pb (sb s) 32) 32 from n32_row s]; exact hm15
    refine wp_exit ?_
    refine then_x ?_
    refine then_x ?_
    refine blk_x ?_
    refine then_n (hK11 _ _ ?_)
    refine wp_seq_k (fun K26 hK26 => ?_)
    refine wp_region_lit ?_
    refine lv 24 (.pointer (some ⟨g8, 31, none⟩)) rfl rfl (r_ix g8 31 (by decide) Tryd.underlying23 one_u8 rfl rfl rfl) ?_
    simp only [nz1, nz2, nz3]
    refine lv 25 (.int .u8 (((bt (n32 s)) 31 : Nat) : Int)) rfl rfl (r_cell (f := (bt (n32 s))) (n := 32) g8 31 (by decide) (hm25.at 1 rfl) Tryd.underlying5 rfl rfl) ?_
    simp only [nz1, nz2, nz3]
    refine lv 26 (.bool (decide (127 < (bt (n32 s)) 31))) rfl rfl (r_gtr ((bt (n32 s)) 31) 127 rfl rfl rfl) ?_
    simp only [nz1, nz2, nz3]
    refine lv 6 (.bool (decide (127 < (bt (n32 s)) 31))) rfl rfl (run_as rfl rfl) ?_
    simp only [nz1, nz2, nz3]
    refine wpList_nil ?_
    rw [show ((.bool (decide (127 < (bt (n32 s)) 31))) : Value) = .bool true from by rw [decide_eq_true ho]]
    refine then_n (hK26 _ _ ?_)
    refine wp_seq_k (fun K27 hK27 => ?_)
    refine wp_region_lit ?_
    refine lv 27 (.pointer (some ⟨g8, 31, none⟩)) rfl rfl (r_ix g8 31 (by decide) Tryd.underlying23 one_u8 rfl rfl rfl) ?_
    simp only [nz1, nz2, nz3]
    refine lv 28 (.int .u8 (((bt (n32 s)) 31 : Nat) : Int)) rfl rfl (r_cell (f := (bt (n32 s))) (n := 32) g8 31 (by decide) (hm25.at 1 rfl) Tryd.underlying5 rfl rfl) ?_
    simp only [nz1, nz2, nz3]
    refine lv 29 (.int .u8 (((bt (n32 s) 31 % 128) : Nat) : Int)) rfl rfl (r_andx ((bt (n32 s)) 31) 127 8 (bt (n32 s) 31 % 128) (by decide) (bt_lt _ _) (by decide) (show _ &&& (2 ^ 7 - 1) = _ from Nat.and_two_pow_sub_one_eq_mod _ 7) rfl rfl rfl) ?_
    simp only [nz1, nz2, nz3]
    refine lv 30 (.pointer (some ⟨g8, 31, none⟩)) rfl rfl (r_ix g8 31 (by decide) Tryd.underlying23 one_u8 rfl rfl rfl) ?_
    simp only [nz1, nz2, nz3]
    refine lst (wanted_none rfl) (m_put 1 (new := rowOf .u8 (up (bt (n32 s)) 31 (bt (n32 s) 31 % 128)) 32) 31 (.int .u8 (((bt (n32 s) 31 % 128) : Nat) : Int)) (old := bs (n32 s)) hm25 rfl rfl (p_cell (n := 32) (f := (bt (n32 s))) g8 31 (bt (n32 s) 31 % 128) (by decide) (hm25.at 1 rfl) rfl one_u8 rfl rfl) (rowOf_set _ _ _ _ _) (fun w28 (hm29 : Mm w w28 [(g2, pt 0 0 0 0, 25), (g8, rowOf .u8 (up (bt (n32 s)) 31 (bt (n32 s) 31 % 128)) 32, 23)]) => ?_))
    refine wpList_nil ?_
    have hm30 : Mm w w28 [(g2, pt 0 0 0 0, 25), (g8, bs (upY s), 23)] := by rw [show (bs (upY s) : Array Value) = rowOf .u8 (up (bt (n32 s)) 31 (bt (n32 s) 31 % 128)) 32 from cut_bit _]; exact hm29
    refine then_n (hK27 _ _ ?_)
    refine wp_seq_k (fun K31 hK31 => ?_)
    refine wp_seq_k (fun K32 hK32 => ?_)
    refine wp_region_lit ?_
    refine lv 31 (.agg (bs (upY s))) rfl rfl (run_row rfl rfl (hm30.at 1 rfl) Tryd.underlying23 rfl (by rw [bs_sz]; exact info_b)) ?_
    simp only [nz1, nz2, nz3]
    refine lst (wanted_none rfl) (m_call hm30 32 (.bool (decide ((upY s) < PP))) rfl (run_fCanon rfl rfl) (canon_any (upY s) (upY_lt s) _) (fun w33 hm34 => ?_))
    simp only [nz1, nz2, nz3]
    refine lv 33 (.bool (decide (¬ ((upY s) < PP)))) rfl rfl (r_notD ((upY s) < PP) rfl rfl) ?_
    simp only [nz1, nz2, nz3]
    refine wpList_nil ?_
    refine then_n (hK32 _ _ ?_)
    refine cond_df (¬ ((upY s) < PP)) rfl (fun hn => hn hc) ?_
    refine wp_skip ?_
    refine then_n (hK31 _ _ ?_)
    refine wp_seq_k (fun K35 hK35 => ?_)
    refine wp_region_lit ?_
    refine lv 35 (.agg (bs (upY s))) rfl rfl (run_row rfl rfl (hm34.at 1 rfl) Tryd.underlying23 rfl (by rw [bs_sz]; exact info_b)) ?_
    simp only [nz1, nz2, nz3]
    refine lv 36 (.agg (bs (upY s))) rfl rfl (run_row rfl rfl (hm34.at 1 rfl) Tryd.underlying23 rfl (by rw [bs_sz]; exact info_b)) ?_
    simp only [nz1, nz2, nz3]
    refine lst (wanted_none rfl) (m_call hm34 37 (.agg (bs sq)) rfl (run_fMul rfl rfl rfl) (mulu_g (upY s) (upY s) sq (upY_lt s) (upY_lt s) h1 _) (fun w36 hm37 => ?_))
    simp only [nz1, nz2, nz3]
    refine lst (wanted_none rfl) (m_alloc (c := bs 0) (T := 23) hm37 7 rfl (run_alN rfl) (fun g38 w39 (hm40 : Mm w w39 [(g2, pt 0 0 0 0, 25), (g8, bs (upY s), 23), (g38, bs 0, 23)]) => ?_))
    simp only [nz1, nz2, nz3]
    refine lst (wanted_none rfl) (m_store 2 23 _ _ (bs sq) (old := bs 0) hm40 rfl rfl rfl rfl rfl (by rw [bs_sz]; exact info_b) ((bs_sz _).trans (bs_sz _).symm) (bs_one _) (fun w41 (hm42 : Mm w w41 [(g2, pt 0 0 0 0, 25), (g8, bs (upY s), 23), (g38, bs sq, 23)]) => ?_))
    refine wpList_nil ?_
    refine then_n (hK35 _ _ ?_)
    refine wp_seq_k (fun K43 hK43 => ?_)
    refine wp_region_lit ?_
    refine lv 38 (.agg (bs dN)) rfl rfl (run_row rfl rfl (kept hd hm42.below) Tryd.underlying23 rfl (by rw [bs_sz]; exact info_b)) ?_
    simp only [nz1, nz2, nz3]
    refine lv 39 (.agg (bs sq)) rfl rfl (run_row rfl rfl (hm42.at 2 rfl) Tryd.underlying23 rfl (by rw [bs_sz]; exact info_b)) ?_
    simp only [nz1, nz2, nz3]
    refine lst (wanted_none rfl) (m_call hm42 40 (.agg (bs ds)) rfl (run_fMul rfl rfl rfl) (mulu_g dN sq ds dN_lt (h1 ▸ f_lt (fM_lt _ _)) h2 _) (fun w44 hm45 => ?_))
    simp only [nz1, nz2, nz3]
    refine lst (wanted_none rfl) (m_call hm45 41 (.agg (bs 1)) rfl (run_pone rfl) (one_any _) (fun w46 hm47 => ?_))
    simp only [nz1, nz2, nz3]
    refine lst (wanted_none rfl) (m_call hm47 42 (.agg (bs den)) rfl (run_fAdd rfl rfl rfl) (addu_g ds 1 den (h2 ▸ f_lt (fM_lt _ _)) (by decide) h3 _) (fun w48 hm49 => ?_))
    simp only [nz1, nz2, nz3]
    refine lst (wanted_none rfl) (m_alloc (c := bs 0) (T := 23) hm49 8 rfl (run_alN rfl) (fun g50 w51 (hm52 : Mm w w51 [(g2, pt 0 0 0 0, 25), (g8, bs (upY s), 23), (g38, bs sq, 23), (g50, bs 0, 23)]) => ?_))
    simp only [nz1, nz2, nz3]
    refine lst (wanted_none rfl) (m_store 3 23 _ _ (bs den) (old := bs 0) hm52 rfl rfl rfl rfl rfl (by rw [bs_sz]; exact info_b) ((bs_sz _).trans (bs_sz _).symm) (bs_one _) (fun w53 (hm54 : Mm w w53 [(g2, pt 0 0 0 0, 25), (g8, bs (upY s), 23), (g38, bs sq, 23), (g50, bs den, 23)]) => ?_))
    refine wpList_nil ?_
    refine then_n (hK43 _ _ ?_)
    refine wp_seq_k (fun K55 hK55 => ?_)
    refine wp_mono (Q := fun e a' w' => e = Exit.normal ∧ ∃ g68 : Nat, a' = ⟨#[.string s, undef, .pointer (some ⟨g2, 0, none⟩), .bool false, .pointer (some ⟨g8, 0, none⟩), u0 0, .bool true, .pointer (some ⟨g38, 0, none⟩), .pointer (some ⟨g50, 0, none⟩), .pointer (some ⟨g68, 0, none⟩), .bool (rootOk (ra % PP)), .string s, .int .i64 ((s.size : Nat) : Int), .bool (decide (¬ s.size = 32)), undef, .int .i64 32, .bool (decide (32 < 32)), u0 2, u0 3, u0 4, u0 5, u0 6, u0 7, u0 8, .pointer (some ⟨g8, 31, none⟩), .int .u8 (((bt (n32 s)) 31 : Nat) : Int), .bool true, .pointer (some ⟨g8, 31, none⟩), .int .u8 (((bt (n32 s)) 31 : Nat) : Int), .int .u8 (((bt (n32 s) 31 % 128) : Nat) : Int), .pointer (some ⟨g8, 31, none⟩), .agg (bs (upY s)), .bool (decide ((upY s) < PP)), .bool (decide (¬ ((upY s) < PP))), undef, .agg (bs (upY s)), .agg (bs (upY s)), .agg (bs sq), .agg (bs dN), .agg (bs sq), .agg (bs ds), .agg (bs 1), .agg (bs den), .tuple #[.agg (bs xv), .bool (rootOk (ra % PP))], .agg (bs sq), .agg (bs 1), .agg (bs nu), .agg (bs den), .agg (bs di), .agg (bs ra), .tuple #[.agg (bs xv), .bool (rootOk (ra % PP))], .agg (bs xv), .bool (rootOk (ra % PP)), undef, undef, undef, undef, undef, undef, undef, undef, undef, undef, undef, undef, undef, undef, undef, undef, undef, undef, undef, undef, undef], []⟩ ∧ Mm w w' [(g2, pt 0 0 0 0, 25), (g8, bs (upY s), 23), (g38, bs sq, 23), (g50, bs den, 23), (g68, bs xv, 23)]) ?_ ?_
    · have hm56 := hm54.drew
      refine wp_region_held_drew (S := fun w' => Sym.Blk w' g38 (bs sq) 23 ∧ Sym.Blk w' g50 (bs den) 23) (by kernel_rfl) (⟨hm56.at 2 rfl, hm56.at 3 rfl⟩) (fun _ => ?_)
      generalize w53.drew = w57 at *
      refine Sym.take_at 0 44 (.agg (bs sq)) rfl rfl (by kernel_rfl) (by kernel_rfl) (by kernel_rfl) (fun _ _ _ h => nomatch h.1) rfl (fun _ hw => run_row rfl rfl hw.1 Tryd.underlying23 rfl (by rw [bs_sz]; exact info_b)) (⟨hm56.at 2 rfl, hm56.at 3 rfl⟩) ?_
      simp only [nz1, nz2, nz3]
      refine Sym.take_at 3 47 (.agg (bs den)) rfl rfl (by kernel_rfl) (by kernel_rfl) (by kernel_rfl) (fun _ _ _ h => nomatch h.1) rfl (fun _ hw => run_row rfl rfl hw.2 Tryd.underlying23 rfl (by rw [bs_sz]; exact info_b)) (⟨hm56.at 2 rfl, hm56.at 3 rfl⟩) ?_
      simp only [nz1, nz2, nz3]
      refine two_ready 1 10 (by kernel_rfl) ?_ ?_
      · refine opd rfl rfl (m_call hm56 45 (.agg (bs 1)) rfl (run_pone rfl) (one_any _) (fun w58 hm59 => ?_))
        refine ⟨⟨hm59.at 2 rfl, hm59.at 3 rfl⟩, ?_⟩
        simp only [nz1, nz2, nz3]
        refine two_ready 2 10 (by kernel_rfl) ?_ ?_
        · refine opd rfl rfl (m_call hm59 46 (.agg (bs nu)) rfl (run_fSub rfl rfl rfl) (subu_g sq 1 nu (h1 ▸ f_lt (fM_lt _ _)) (by decide) h4 _) (fun w60 hm61 => ?_))
          refine ⟨⟨hm61.at 2 rfl, hm61.at 3 rfl⟩, ?_⟩
          simp only [nz1, nz2, nz3]
          refine two_ready 4 10 (by kernel_rfl) ?_ ?_
          · refine opd rfl rfl (m_call hm61 48 (.agg (bs di)) rfl (run_fInv rfl rfl) (invu_g den di (h3 ▸ f_lt (fA_lt _ _)) h5 _) (fun w62 hm63 => ?_))
            refine ⟨⟨hm63.at 2 rfl, hm63.at 3 rfl⟩, ?_⟩
            simp only [nz1, nz2, nz3]
            refine two_ready 5 10 (by kernel_rfl) ?_ ?_
            · refine opd rfl rfl (m_call hm63 49 (.agg (bs ra)) rfl (run_fMul rfl rfl rfl) (mulu_g nu di ra (h4 ▸ f_lt (fS_lt _ _)) (h5 ▸ f_lt (fI_lt _)) h6 _) (fun w64 hm65 => ?_))
              refine ⟨⟨hm65.at 2 rfl, hm65.at 3 rfl⟩, ?_⟩
              simp only [nz1, nz2, nz3]
              refine two_ready 6 10 (by kernel_rfl) ?_ ?_
              · refine opd rfl rfl (m_call hm65 50 (.tuple #[.agg (bs xv), .bool (rootOk (ra % PP))]) rfl (run_fRoot rfl rfl) (rootu_g ra xv (h6 ▸ f_lt (fM_lt _ _)) h7 _) (fun w66 hm67 => ?_))
                refine ⟨⟨hm67.at 2 rfl, hm67.at 3 rfl⟩, ?_⟩
                simp only [nz1, nz2, nz3]
                refine Sym.take_at 7 43 (.tuple #[.agg (bs xv), .bool (rootOk (ra % PP))]) rfl rfl (by kernel_rfl) (by kernel_rfl) (by kernel_rfl) (fun _ _ _ h => nomatch h.1) rfl (fun _ hw => run_mv rfl rfl) (⟨hm67.at 2 rfl, hm67.at 3 rfl⟩) ?_
                simp only [nz1, nz2, nz3]
                refine Sym.take_at 8 51 (.agg (bs xv)) rfl rfl (by kernel_rfl) (by kernel_rfl) (by kernel_rfl) (fun _ _ _ h => nomatch h.1) rfl (fun _ hw => run_ex rfl rfl rfl) (⟨hm67.at 2 rfl, hm67.at 3 rfl⟩) ?_
                simp only [nz1, nz2, nz3]
                refine Sym.take_at 9 52 (.bool (rootOk (ra % PP))) rfl rfl (by kernel_rfl) (by kernel_rfl) (by kernel_rfl) (fun _ _ _ h => nomatch h.1) rfl (fun _ hw => run_ex rfl rfl rfl) (⟨hm67.at 2 rfl, hm67.at 3 rfl⟩) ?_
                simp only [nz1, nz2, nz3]
                refine one_ready 10 (by kernel_rfl) ?_
                refine opd rfl rfl (m_alloc (c := bs 0) (T := 23) hm67 9 rfl (run_alN rfl) (fun g68 w69 hm70 => ?_))
                refine ⟨⟨hm70.at 2 rfl, hm70.at 3 rfl⟩, ?_⟩
                simp only [nz1, nz2, nz3]
                refine one_ready 11 (by kernel_rfl) ?_
                refine opd rfl rfl (m_store 4 23 _ _ (bs xv) (old := bs 0) hm70 rfl rfl rfl rfl rfl (by rw [bs_sz]; exact info_b) ((bs_sz _).trans (bs_sz _).symm) (bs_one _) (fun w71 hm72 => ?_))
                refine ⟨⟨hm72.at 2 rfl, hm72.at 3 rfl⟩, ?_⟩
                refine one_ready 12 (by kernel_rfl) ?_
                refine opd rfl rfl (w_value 10 (.bool (rootOk (ra % PP))) rfl (run_as rfl rfl) ⟨⟨hm72.at 2 rfl, hm72.at 3 rfl⟩, ?_⟩)
                simp only [nz1, nz2, nz3]
                refine wpAnyH_done (by kernel_rfl) ?_ _
                exact ⟨rfl, g68, rfl, hm72⟩
              · refine opd rfl rfl (m_alloc (c := bs 0) (T := 23) hm65 9 rfl (run_alN rfl) (fun g73 w74 hm75 => ?_))
                refine ⟨⟨hm75.at 2 rfl, hm75.at 3 rfl⟩, ?_⟩
                simp only [nz1, nz2, nz3]
                refine one_ready 6 (by kernel_rfl) ?_
                refine opd rfl rfl (m_call hm75 50 (.tuple #[.agg (bs xv), .bool (rootOk (ra % PP))]) rfl (run_fRoot rfl rfl) (rootu_g ra xv (h6 ▸ f_lt (fM_lt _ _)) h7 _) (fun w76 hm77 => ?_))
                refine ⟨⟨hm77.at 2 rfl, hm77.at 3 rfl⟩, ?_⟩
                simp only [nz1, nz2, nz3]
                refine Sym.take_at 7 43 (.tuple #[.agg (bs xv), .bool (rootOk (ra % PP))]) rfl rfl (by kernel_rfl) (by kernel_rfl) (by kernel_rfl) (fun _ _ _ h => nomatch h.1) rfl (fun _ hw => run_mv rfl rfl) (⟨hm77.at 2 rfl, hm77.at 3 rfl⟩) ?_
                simp only [nz1, nz2, nz3]
                refine Sym.take_at 8 51 (.agg (bs xv)) rfl rfl (by kernel_rfl) (by kernel_rfl) (by kernel_rfl) (fun _ _ _ h => nomatch h.1) rfl (fun _ hw => run_ex rfl rfl rfl) (⟨hm77.at 2 rfl, hm77.at 3 rfl⟩) ?_
                simp only [nz1, nz2, nz3]
                refine Sym.take_at 9 52 (.bool (rootOk (ra % PP))) rfl rfl (by kernel_rfl) (by kernel_rfl) (by kernel_rfl) (fun _ _ _ h => nomatch h.1) rfl (fun _ hw => run_ex rfl rfl rfl) (⟨hm77.at 2 rfl, hm77.at 3 rfl⟩) ?_
                simp only [nz1, nz2, nz3]
                refine one_ready 11 (by kernel_rfl) ?_
                refine opd rfl rfl (m_store 4 23 _ _ (bs xv) (old := bs 0) hm77 rfl rfl rfl rfl rfl (by rw [bs_sz]; exact info_b) ((bs_sz _).trans (bs_sz _).symm) (bs_one _) (fun w78 hm79 => ?_))
                refine ⟨⟨hm79.at 2 rfl, hm79.at 3 rfl⟩, ?_⟩
                refine one_ready 12 (by kernel_rfl) ?_
                refine opd rfl rfl (w_value 10 (.bool (rootOk (ra % PP))) rfl (run_as rfl rfl) ⟨⟨hm79.at 2 rfl, hm79.at 3 rfl⟩, ?_⟩)
                simp only [nz1, nz2, nz3]
                refine wpAnyH_done (by kernel_rfl) ?_ _
                exact ⟨rfl, g73, rfl, hm79⟩
            · refine opd rfl rfl (m_alloc (c := bs 0) (T := 23) hm63 9 rfl (run_alN rfl) (fun g80 w81 hm82 => ?_))
              refine ⟨⟨hm82.at 2 rfl, hm82.at 3 rfl⟩, ?_⟩
              simp only [nz1, nz2, nz3]
              refine one_ready 5 (by kernel_rfl) ?_
              refine opd rfl rfl (m_call hm82 49 (.agg (bs ra)) rfl (run_fMul rfl rfl rfl) (mulu_g nu di ra (h4 ▸ f_lt (fS_lt _ _)) (h5 ▸ f_lt (fI_lt _)) h6 _) (fun w83 hm84 => ?_))
              refine ⟨⟨hm84.at 2 rfl, hm84.at 3 rfl⟩, ?_⟩
              simp only [nz1, nz2, nz3]
              refine one_ready 6 (by kernel_rfl) ?_
              refine opd rfl rfl (m_call hm84 50 (.tuple #[.agg (bs xv), .bool (rootOk (ra % PP))]) rfl (run_fRoot rfl rfl) (rootu_g ra xv (h6 ▸ f_lt (fM_lt _ _)) h7 _) (fun w85 hm86 => ?_))
              refine ⟨⟨hm86.at 2 rfl, hm86.at 3 rfl⟩, ?_⟩
              simp only [nz1, nz2, nz3]
              refine Sym.take_at 7 43 (.tuple #[.agg (bs xv), .bool (rootOk (ra % PP))]) rfl rfl (by kernel_rfl) (by kernel_rfl) (by kernel_rfl) (fun _ _ _ h => nomatch h.1) rfl (fun _ hw => run_mv rfl rfl) (⟨hm86.at 2 rfl, hm86.at 3 rfl⟩) ?_
              simp only [nz1, nz2, nz3]
              refine Sym.take_at 8 51 (.agg (bs xv)) rfl rfl (by kernel_rfl) (by kernel_rfl) (by kernel_rfl) (fun _ _ _ h => nomatch h.1) rfl (fun _ hw => run_ex rfl rfl rfl) (⟨hm86.at 2 rfl, hm86.at 3 rfl⟩) ?_
              simp only [nz1, nz2, nz3]
              refine Sym.take_at 9 52 (.bool (rootOk (ra % PP))) rfl rfl (by kernel_rfl) (by kernel_rfl) (by kernel_rfl) (fun _ _ _ h => nomatch h.1) rfl (fun _ hw => run_ex rfl rfl rfl) (⟨hm86.at 2 rfl, hm86.at 3 rfl⟩) ?_
              simp only [nz1, nz2, nz3]
              refine one_ready 11 (by kernel_rfl) ?_
              refine opd rfl rfl (m_store 4 23 _ _ (bs xv) (old := bs 0) hm86 rfl rfl rfl rfl rfl (by rw [bs_sz]; exact info_b) ((bs_sz _).trans (bs_sz _).symm) (bs_one _) (fun w87 hm88 => ?_))
              refine ⟨⟨hm88.at 2 rfl, hm88.at 3 rfl⟩, ?_⟩
              refine one_ready 12 (by kernel_rfl) ?_
              refine opd rfl rfl (w_value 10 (.bool (rootOk (ra % PP))) rfl (run_as rfl rfl) ⟨⟨hm88.at 2 rfl, hm88.at 3 rfl⟩, ?_⟩)
              simp only [nz1, nz2, nz3]
              refine wpAnyH_done (by kernel_rfl) ?_ _
              exact ⟨rfl, g80, rfl, hm88⟩
          · refine opd rfl rfl (m_alloc (c := bs 0) (T := 23) hm61 9 rfl (run_alN rfl) (fun g89 w90 hm91 => ?_))
            refine ⟨⟨hm91.at 2 rfl, hm91.at 3 rfl⟩, ?_⟩
            simp only [nz1, nz2, nz3]
            refine one_ready 4 (by kernel_rfl) ?_
            refine opd rfl rfl (m_call hm91 48 (.agg (bs di)) rfl (run_fInv rfl rfl) (invu_g den di (h3 ▸ f_lt (fA_lt _ _)) h5 _) (fun w92 hm93 => ?_))
            refine ⟨⟨hm93.at 2 rfl, hm93.at 3 rfl⟩, ?_⟩
            simp only [nz1, nz2, nz3]
            refine one_ready 5 (by kernel_rfl) ?_
            refine opd rfl rfl (m_call hm93 49 (.agg (bs ra)) rfl (run_fMul rfl rfl rfl) (mulu_g nu di ra (h4 ▸ f_lt (fS_lt _ _)) (h5 ▸ f_lt (fI_lt _)) h6 _) (fun w94 hm95 => ?_))
            refine ⟨⟨hm95.at 2 rfl, hm95.at 3 rfl⟩, ?_⟩
            simp only [nz1, nz2, nz3]
            refine one_ready 6 (by kernel_rfl) ?_
            refine opd rfl rfl (m_call hm95 50 (.tuple #[.agg (bs xv), .bool (rootOk (ra % PP))]) rfl (run_fRoot rfl rfl) (rootu_g ra xv (h6 ▸ f_lt (fM_lt _ _)) h7 _) (fun w96 hm97 => ?_))
            refine ⟨⟨hm97.at 2 rfl, hm97.at 3 rfl⟩, ?_⟩
            simp only [nz1, nz2, nz3]
            refine Sym.take_at 7 43 (.tuple #[.agg (bs xv), .bool (rootOk (ra % PP))]) rfl rfl (by kernel_rfl) (by kernel_rfl) (by kernel_rfl) (fun _ _ _ h => nomatch h.1) rfl (fun _ hw => run_mv rfl rfl) (⟨hm97.at 2 rfl, hm97.at 3 rfl⟩) ?_
            simp only [nz1, nz2, nz3]
            refine Sym.take_at 8 51 (.agg (bs xv)) rfl rfl (by kernel_rfl) (by kernel_rfl) (by kernel_rfl) (fun _ _ _ h => nomatch h.1) rfl (fun _ hw => run_ex rfl rfl rfl) (⟨hm97.at 2 rfl, hm97.at 3 rfl⟩) ?_
            simp only [nz1, nz2, nz3]
            refine Sym.take_at 9 52 (.bool (rootOk (ra % PP))) rfl rfl (by kernel_rfl) (by kernel_rfl) (by kernel_rfl) (fun _ _ _ h => nomatch h.1) rfl (fun _ hw => run_ex rfl rfl rfl) (⟨hm97.at 2 rfl, hm97.at 3 rfl⟩) ?_
            simp only [nz1, nz2, nz3]
            refine one_ready 11 (by kernel_rfl) ?_
            refine opd rfl rfl (m_store 4 23 _ _ (bs xv) (old := bs 0) hm97 rfl rfl rfl rfl rfl (by rw [bs_sz]; exact info_b) ((bs_sz _).trans (bs_sz _).symm) (bs_one _) (fun w98 hm99 => ?_))
            refine ⟨⟨hm99.at 2 rfl, hm99.at 3 rfl⟩, ?_⟩
            refine one_ready 12 (by kernel_rfl) ?_
            refine opd rfl rfl (w_value 10 (.bool (rootOk (ra % PP))) rfl (run_as rfl rfl) ⟨⟨hm99.at 2 rfl, hm99.at 3 rfl⟩, ?_⟩)
            simp only [nz1, nz2, nz3]
            refine wpAnyH_done (by kernel_rfl) ?_ _
            exact ⟨rfl, g89, rfl, hm99⟩
        · refine opd rfl rfl (m_alloc (c := bs 0) (T := 23) hm59 9 rfl (run_alN rfl) (fun g100 w101 hm102 => ?_))
          refine ⟨⟨hm102.at 2 rfl, hm102.at 3 rfl⟩, ?_⟩
          simp only [nz1, nz2, nz3]
          refine one_ready 2 (by kernel_rfl) ?_
          refine opd rfl rfl (m_call hm102 46 (.agg (bs nu)) rfl (run_fSub rfl rfl rfl) (subu_g sq 1 nu (h1 ▸ f_lt (fM_lt _ _)) (by decide) h4 _) (fun w103 hm104 => ?_))
          refine ⟨⟨hm104.at 2 rfl, hm104.at 3 rfl⟩, ?_⟩
          simp only [nz1, nz2, nz3]
          refine one_ready 4 (by kernel_rfl) ?_
          refine opd rfl rfl (m_call hm104 48 (.agg (bs di)) rfl (run_fInv rfl rfl) (invu_g den di (h3 ▸ f_lt (fA_lt _ _)) h5 _) (fun w105 hm106 => ?_))
          refine ⟨⟨hm106.at 2 rfl, hm106.at 3 rfl⟩, ?_⟩
          simp only [nz1, nz2, nz3]
          refine one_ready 5 (by kernel_rfl) ?_
          refine opd rfl rfl (m_call hm106 49 (.agg (bs ra)) rfl (run_fMul rfl rfl rfl) (mulu_g nu di ra (h4 ▸ f_lt (fS_lt _ _)) (h5 ▸ f_lt (fI_lt _)) h6 _) (fun w107 hm108 => ?_))
          refine ⟨⟨hm108.at 2 rfl, hm108.at 3 rfl⟩, ?_⟩
          simp only [nz1, nz2, nz3]
          refine one_ready 6 (by kernel_rfl) ?_
          refine opd rfl rfl (m_call hm108 50 (.tuple #[.agg (bs xv), .bool (rootOk (ra % PP))]) rfl (run_fRoot rfl rfl) (rootu_g ra xv (h6 ▸ f_lt (fM_lt _ _)) h7 _) (fun w109 hm110 => ?_))
          refine ⟨⟨hm110.at 2 rfl, hm110.at 3 rfl⟩, ?_⟩
          simp only [nz1, nz2, nz3]
          refine Sym.take_at 7 43 (.tuple #[.agg (bs xv), .bool (rootOk (ra % PP))]) rfl rfl (by kernel_rfl) (by kernel_rfl) (by kernel_rfl) (fun _ _ _ h => nomatch h.1) rfl (fun _ hw => run_mv rfl rfl) (⟨hm110.at 2 rfl, hm110.at 3 rfl⟩) ?_
          simp only [nz1, nz2, nz3]
          refine Sym.take_at 8 51 (.agg (bs xv)) rfl rfl (by kernel_rfl) (by kernel_rfl) (by kernel_rfl) (fun _ _ _ h => nomatch h.1) rfl (fun _ hw => run_ex rfl rfl rfl) (⟨hm110.at 2 rfl, hm110.at 3 rfl⟩) ?_
          simp only [nz1, nz2, nz3]
          refine Sym.take_at 9 52 (.bool (rootOk (ra % PP))) rfl rfl (by kernel_rfl) (by kernel_rfl) (by kernel_rfl) (fun _ _ _ h => nomatch h.1) rfl (fun _ hw => run_ex rfl rfl rfl) (⟨hm110.at 2 rfl, hm110.at 3 rfl⟩) ?_
          simp only [nz1, nz2, nz3]
          refine one_ready 11 (by kernel_rfl) ?_
          refine opd rfl rfl (m_store 4 23 _ _ (bs xv) (old := bs 0) hm110 rfl rfl rfl rfl rfl (by rw [bs_sz]; exact info_b) ((bs_sz _).trans (bs_sz _).symm) (bs_one _) (fun w111 hm112 => ?_))
          refine ⟨⟨hm112.at 2 rfl, hm112.at 3 rfl⟩, ?_⟩
          refine one_ready 12 (by kernel_rfl) ?_
          refine opd rfl rfl (w_value 10 (.bool (rootOk (ra % PP))) rfl (run_as rfl rfl) ⟨⟨hm112.at 2 rfl, hm112.at 3 rfl⟩, ?_⟩)
          simp only [nz1, nz2, nz3]
          refine wpAnyH_done (by kernel_rfl) ?_ _
          exact ⟨rfl, g100, rfl, hm112⟩
      · refine opd rfl rfl (m_alloc (c := bs 0) (T := 23) hm56 9 rfl (run_alN rfl) (fun g113 w114 hm115 => ?_))
        refine ⟨⟨hm115.at 2 rfl, hm115.at 3 rfl⟩, ?_⟩
        simp only [nz1, nz2, nz3]
        refine one_ready 1 (by kernel_rfl) ?_
        refine opd rfl rfl (m_call hm115 45 (.agg (bs 1)) rfl (run_pone rfl) (one_any _) (fun w116 hm117 => ?_))
        refine ⟨⟨hm117.at 2 rfl, hm117.at 3 rfl⟩, ?_⟩
        simp only [nz1, nz2, nz3]
        refine one_ready 2 (by kernel_rfl) ?_
        refine opd rfl rfl (m_call hm117 46 (.agg (bs nu)) rfl (run_fSub rfl rfl rfl) (subu_g sq 1 nu (h1 ▸ f_lt (fM_lt _ _)) (by decide) h4 _) (fun w118 hm119 => ?_))
        refine ⟨⟨hm119.at 2 rfl, hm119.at 3 rfl⟩, ?_⟩
        simp only [nz1, nz2, nz3]
        refine one_ready 4 (by kernel_rfl) ?_
        refine opd rfl rfl (m_call hm119 48 (.agg (bs di)) rfl (run_fInv rfl rfl) (invu_g den di (h3 ▸ f_lt (fA_lt _ _)) h5 _) (fun w120 hm121 => ?_))
        refine ⟨⟨hm121.at 2 rfl, hm121.at 3 rfl⟩, ?_⟩
        simp only [nz1, nz2, nz3]
        refine one_ready 5 (by kernel_rfl) ?_
        refine opd rfl rfl (m_call hm121 49 (.agg (bs ra)) rfl (run_fMul rfl rfl rfl) (mulu_g nu di ra (h4 ▸ f_lt (fS_lt _ _)) (h5 ▸ f_lt (fI_lt _)) h6 _) (fun w122 hm123 => ?_))
        refine ⟨⟨hm123.at 2 rfl, hm123.at 3 rfl⟩, ?_⟩
        simp only [nz1, nz2, nz3]
        refine one_ready 6 (by kernel_rfl) ?_
        refine opd rfl rfl (m_call hm123 50 (.tuple #[.agg (bs xv), .bool (rootOk (ra % PP))]) rfl (run_fRoot rfl rfl) (rootu_g ra xv (h6 ▸ f_lt (fM_lt _ _)) h7 _) (fun w124 hm125 => ?_))
        refine ⟨⟨hm125.at 2 rfl, hm125.at 3 rfl⟩, ?_⟩
        simp only [nz1, nz2, nz3]
        refine Sym.take_at 7 43 (.tuple #[.agg (bs xv), .bool (rootOk (ra % PP))]) rfl rfl (by kernel_rfl) (by kernel_rfl) (by kernel_rfl) (fun _ _ _ h => nomatch h.1) rfl (fun _ hw => run_mv rfl rfl) (⟨hm125.at 2 rfl, hm125.at 3 rfl⟩) ?_
        simp only [nz1, nz2, nz3]
        refine Sym.take_at 8 51 (.agg (bs xv)) rfl rfl (by kernel_rfl) (by kernel_rfl) (by kernel_rfl) (fun _ _ _ h => nomatch h.1) rfl (fun _ hw => run_ex rfl rfl rfl) (⟨hm125.at 2 rfl, hm125.at 3 rfl⟩) ?_
        simp only [nz1, nz2, nz3]
        refine Sym.take_at 9 52 (.bool (rootOk (ra % PP))) rfl rfl (by kernel_rfl) (by kernel_rfl) (by kernel_rfl) (fun _ _ _ h => nomatch h.1) rfl (fun _ hw => run_ex rfl rfl rfl) (⟨hm125.at 2 rfl, hm125.at 3 rfl⟩) ?_
        simp only [nz1, nz2, nz3]
        refine one_ready 11 (by kernel_rfl) ?_
        refine opd rfl rfl (m_store 4 23 _ _ (bs xv) (old := bs 0) hm125 rfl rfl rfl rfl rfl (by rw [bs_sz]; exact info_b) ((bs_sz _).trans (bs_sz _).symm) (bs_one _) (fun w126 hm127 => ?_))
        refine ⟨⟨hm127.at 2 rfl, hm127.at 3 rfl⟩, ?_⟩
        refine one_ready 12 (by kernel_rfl) ?_
        refine opd rfl rfl (w_value 10 (.bool (rootOk (ra % PP))) rfl (run_as rfl rfl) ⟨⟨hm127.at 2 rfl, hm127.at 3 rfl⟩, ?_⟩)
        simp only [nz1, nz2, nz3]
        refine wpAnyH_done (by kernel_rfl) ?_ _
        exact ⟨rfl, g113, rfl, hm127⟩
    clear hm54
    rintro _ _ w128 ⟨rfl, g68, rfl, hm129⟩
    rw [show ((.bool (rootOk (ra % PP))) : Value) = .bool true from by rw [hok]]
    refine then_n (hK55 _ _ ?_)
    refine wp_seq_k (fun K130 hK130 => ?_)
    refine wp_seq_k (fun K131 hK131 => ?_)
    refine wp_region_lit ?_
    refine lv 53 (.bool true) rfl rfl (run_mv rfl rfl) ?_
    simp only [nz1, nz2, nz3]
    refine lv 54 (.bool false) rfl rfl (r_not true rfl rfl) ?_
    simp only [nz1, nz2, nz3]
    refine lv 55 (.bool false) rfl rfl (run_mv rfl rfl) ?_
    simp only [nz1, nz2, nz3]
    refine lst rfl (w_value 56 (.bool true) rfl (run_mv rfl rfl) ?_)
    simp only [nz1, nz2, nz3]
    refine lst rfl (w_value 57 (.bool true) rfl (run_mv rfl rfl) ?_)
    simp only [nz1, nz2, nz3]
    refine lst rfl (w_value 58 (.agg (bs xv)) rfl (run_row rfl rfl (hm129.at 4 rfl) Tryd.underlying23 rfl (by rw [bs_sz]; exact info_b)) ?_)
    simp only [nz1, nz2, nz3]
    refine lst rfl (w_value 59 (.agg (bs 0)) rfl (by unfold execOp; go_simp; rfl) ?_)
    simp only [nz1, nz2, nz3]
    refine lst rfl (w_value 60 (.bool false) rfl (run_eqlM xv 0 (h7 ▸ rootu_lt _) (by decide) false (decide_eq_false hz) rfl rfl rfl) ?_)
    simp only [nz1, nz2, nz3]
    refine lst rfl (w_value 61 (.bool false) rfl (run_pick rfl rfl rfl) ?_)
    simp only [nz1, nz2, nz3]
    refine lv 62 (.bool false) rfl rfl (run_pickf rfl rfl rfl) ?_
    simp only [nz1, nz2, nz3]
    refine wpList_nil ?_
    refine then_n (hK131 _ _ ?_)
    refine cond_f rfl ?_
    refine wp_skip ?_
    refine then_n (hK130 _ _ ?_)
    refine wp_seq_k (fun K132 hK132 => ?_)
    refine wp_seq_k (fun K133 hK133 => ?_)
    refine wp_region_lit ?_
    refine lv 64 (.bool true) rfl rfl (run_mv rfl rfl) ?_
    simp only [nz1, nz2, nz3]
    refine wpList_nil ?_
    refine then_n (hK133 _ _ ?_)
    refine cond_t rfl ?_
    refine wp_region_lit ?_
    refine lv 65 (.agg (bs xv)) rfl rfl (run_row rfl rfl (hm129.at 4 rfl) Tryd.underlying23 rfl (by rw [bs_sz]; exact info_b)) ?_
    simp only [nz1, nz2, nz3]
    refine lst (wanted_none rfl) (m_call hm129 66 (.agg (bs (fN xv))) rfl (run_fNeg rfl rfl) (neg_f xv (h7 ▸ rootu_lt _) _) (fun w134 hm135 => ?_))
    simp only [nz1, nz2, nz3]
    refine lst (wanted_none rfl) (m_store 4 23 _ _ (bs (fN xv)) (old := bs xv) hm135 rfl rfl rfl rfl rfl (by rw [bs_sz]; exact info_b) ((bs_sz _).trans (bs_sz _).symm) (bs_one _) (fun w136 (hm137 : Mm w w136 [(g2, pt 0 0 0 0, 25), (g8, bs (upY s), 23), (g38, bs sq, 23), (g50, bs den, 23), (g68, bs (fN xv), 23)]) => ?_))
    refine wpList_nil ?_
    refine then_n (hK132 _ _ ?_)
    refine wp_seq_k (fun K138 hK138 => ?_)
    have hm139 := hm137.drew
    refine wp_region_held_drew (S := fun w' => Sym.Blk w' g68 (bs (fN xv)) 23 ∧ Sym.Blk w' g8 (bs (upY s)) 23) (by kernel_rfl) (⟨hm139.at 4 rfl, hm139.at 1 rfl⟩) (fun _ => ?_)
    generalize w136.drew = w140 at *
    refine tk 0 67 (.agg (bs (fN xv))) rfl rfl (fun _ hw => run_row rfl rfl hw.1 Tryd.underlying23 rfl (by rw [bs_sz]; exact info_b)) (⟨hm139.at 4 rfl, hm139.at 1 rfl⟩) ?_
    simp only [nz1, nz2, nz3]
    refine tk 1 68 (.agg (bs (upY s))) rfl rfl (fun _ hw => run_row rfl rfl hw.2 Tryd.underlying23 rfl (by rw [bs_sz]; exact info_b)) (⟨hm139.at 4 rfl, hm139.at 1 rfl⟩) ?_
    simp only [nz1, nz2, nz3]
    refine tk 3 70 (.agg (bs (fN xv))) rfl rfl (fun _ hw => run_row rfl rfl hw.1 Tryd.underlying23 rfl (by rw [bs_sz]; exact info_b)) (⟨hm139.at 4 rfl, hm139.at 1 rfl⟩) ?_
    simp only [nz1, nz2, nz3]
    refine tk 4 71 (.agg (bs (upY s))) rfl rfl (fun _ hw => run_row rfl rfl hw.2 Tryd.underlying23 rfl (by rw [bs_sz]; exact info_b)) (⟨hm139.at 4 rfl, hm139.at 1 rfl⟩) ?_
    simp only [nz1, nz2, nz3]
    refine one_ready 2 (by kernel_rfl) ?_
    refine opd rfl (wanted_none rfl) (m_call hm139 69 (.agg (bs 1)) rfl (run_pone rfl) (one_any _) (fun w141 hm142 => ?_))
    refine ⟨⟨hm142.at 4 rfl, hm142.at 1 rfl⟩, ?_⟩
    simp only [nz1, nz2, nz3]
    refine one_ready 5 (by kernel_rfl) ?_
    refine opd rfl (wanted_none rfl) (m_call hm142 72 (.agg (bs (fM (fN xv) (upY s)))) rfl (run_fMul rfl rfl rfl) (mul_f (fN xv) (upY s) (f_lt (fN_lt _)) (upY_lt s) _) (fun w143 hm144 => ?_))
    refine ⟨⟨hm144.at 4 rfl, hm144.at 1 rfl⟩, ?_⟩
    simp only [nz1, nz2, nz3]
    refine tk 6 73 (.agg (pt (fN xv) (upY s) 1 (fM (fN xv) (upY s)))) rfl rfl (fun _ hw => run_bdP (fN xv) (upY s) 1 (fM (fN xv) (upY s)) rfl rfl rfl rfl rfl) (⟨hm144.at 4 rfl, hm144.at 1 rfl⟩) ?_
    simp only [nz1, nz2, nz3]
    refine one_ready 7 (by kernel_rfl) ?_
    refine opd rfl (wanted_none rfl) (m_store 0 25 _ _ (pt (fN xv) (upY s) 1 (fM (fN xv) (upY s))) (old := pt 0 0 0 0) hm144 rfl rfl rfl rfl rfl (by rw [pt_sz]; exact info_p) ((pt_sz _ _ _ _).trans (pt_sz _ _ _ _).symm) (pt_one _ _ _ _) (fun w145 (hm146 : Mm w w145 [(g2, pt (fN xv) (upY s) 1 (fM (fN xv) (upY s)), 25), (g8, bs (upY s), 23), (g38, bs sq, 23), (g50, bs den, 23), (g68, bs (fN xv), 23)]) => ?_))
    refine ⟨⟨hm146.at 4 rfl, hm146.at 1 rfl⟩, ?_⟩
    refine one_ready 8 (by kernel_rfl) ?_
    refine opd rfl (wanted_none rfl) (w_value 3 (.bool true) rfl (run_as rfl rfl) ⟨⟨hm146.at 4 rfl, hm146.at 1 rfl⟩, ?_⟩)
    simp only [nz1, nz2, nz3]
    refine wpAnyH_done (by kernel_rfl) ?_ _
    refine then_n (hK138 _ _ ?_)
    refine wp_ret ?_
    exact ⟨rfl, .tuple #[.agg (pt (fN xv) (upY s) 1 (fM (fN xv) (upY s))), .bool true], res_ct rfl rfl (hm146.at 0 rfl) Tryd.underlying25 rfl (by rw [pt_sz]; exact info_p) rfl, ⟨rfl, hm146.below⟩⟩
set_option maxHeartbeats 4000000 in
set_option maxRecDepth 100000 in
theorem un_canon_e (s : ByteArray) (hs : s.size = 32) (ho : ¬ 127 < bt (n32 s) 31) (hc : ¬ upY s < PP) (w : World) : Calls Tryd.prog 10 #[.string s] w (fun e w' => e = .returned (.tuple #[.agg (pt 0 0 0 0), .bool false]) ∧ Below w.heap.size w w') := by
  go_enter Tryd.func10, Tryd.ntmps10
  have hm0 := Mm.nil w
  refine wp_seq_k (fun K1 hK1 => ?_)
  refine wp_region_lit ?_
  refine lst (wanted_none rfl) (m_alloc (c := pt 0 0 0 0) (T := 25) hm0 2 rfl (al_P rfl) (fun g2 w3 (hm4 : Mm w w3 [(g2, pt 0 0 0 0, 25)]) => ?_))
  simp only [nz1, nz2, nz3]
  refine lv 3 (.bool false) rfl rfl (run_as rfl rfl) ?_
  simp only [nz1, nz2, nz3]
  refine wpList_nil ?_
  refine then_n (hK1 _ _ ?_)
  refine wp_seq_k (fun K5 hK5 => ?_)
  refine wp_seq_k (fun K6 hK6 => ?_)
  refine wp_region_lit ?_
  refine lv 11 (.string s) rfl rfl (run_mv rfl rfl) ?_
  simp only [nz1, nz2, nz3]
  refine lv 12 (.int .i64 ((s.size : Nat) : Int)) rfl rfl (r_len rfl Tryd.underlying9 rfl) ?_
  simp only [nz1, nz2, nz3]
  refine lv 13 (.bool (decide (¬ s.size = 32))) rfl rfl (r_neq s.size 32 rfl rfl rfl) ?_
  simp only [nz1, nz2, nz3]
  refine wpList_nil ?_
  refine then_n (hK6 _ _ ?_)
  refine cond_df (¬ s.size = 32) rfl (fun hn => hn hs) ?_
  refine wp_skip ?_
  refine then_n (hK5 _ _ ?_)
  refine wp_seq_k (fun K7 hK7 => ?_)
  refine wp_region_lit ?_
  refine lst (wanted_none rfl) (m_alloc (c := bs 0) (T := 23) hm4 4 rfl (run_alN rfl) (fun g8 w9 (hm10 : Mm w w9 [(g2, pt 0 0 0 0, 25), (g8, bs 0, 23)]) => ?_))
  simp only [nz1, nz2, nz3]
  refine wpList_nil ?_
  refine then_n (hK7 _ _ ?_)
  refine wp_seq_k (fun K11 hK11 => ?_)
  refine wp_seq_k (fun K12 hK12 => ?_)
  refine wp_region_lit ?_
  refine lv 15 (.int .i64 0) rfl rfl (run_mv rfl rfl) ?_
  simp only [nz1, nz2, nz3]
  refine wpList_nil ?_
  have hm13 : Mm w w9 [(g2, pt 0 0 0 0, 25), (g8, rowOf .u8 (pb (sb s) 0) 32, 23)] := by rw [show (rowOf .u8 (pb (sb s) 0) 32 : Array Value) = bs 0 from pb_none _]; exact hm10
  refine then_n (hK12 _ _ ?_)
  refine wp_block ?_
  refine wp_loop_n (fun n' a' w' => ∃ (k : Nat) (u0 : Nat → Value), n' = 32 - k ∧ (k ≤ 32) ∧ a' = ⟨#[.string s, undef, .pointer (some ⟨g2, 0, none⟩), .bool false, .pointer (some ⟨g8, 0, none⟩), u0 0, undef, undef, undef, undef, undef, .string s, .int .i64 ((s.size : Nat) : Int), .bool (decide (¬ s.size = 32)), undef, .int .i64 ((k : Nat) : Int), u0 1, u0 2, u0 3, u0 4, u0 5, u0 6, u0 7, u0 8, undef, undef, undef, undef, undef, undef, undef, undef, undef, undef, undef, undef, undef, undef, undef, undef, undef, undef, undef, undef, undef, undef, undef, undef, undef, undef, undef, undef, undef, undef, undef, undef, undef, undef, undef, undef, undef, undef, undef, undef, undef, undef, undef, undef, undef, undef, undef, undef, undef, undef], []⟩ ∧ Mm w w' [(g2, pt 0 0 0 0, 25), (g8, rowOf .u8 (pb (sb s) k) 32, 23)]) ⟨0, (fun qq => List.getD [undef, undef, undef, undef, undef, undef, undef, undef, undef] qq undef), rfl, (by omega), rfl, hm13⟩ ?_
  clear hm13
  rintro _ _ w14 ⟨k, u0, hn0, hk, rfl, hm15⟩ R16 hR16
  refine wp_seq_k (fun K17 hK17 => ?_)
  refine wp_region_lit ?_
  refine lv 16 (.bool (decide (k < 32))) rfl rfl (r_lss k 32 rfl rfl rfl) ?_
  simp only [nz1, nz2, nz3]
  refine wpList_nil ?_
  refine then_n (hK17 _ _ ?_)
  refine wp_seq_k (fun K18 hK18 => ?_)
  refine cond_d (k < 32) rfl (fun hc19 => ?_) (fun hc19 => ?_)
  · refine wp_skip ?_
    refine then_n (hK18 _ _ ?_)
    refine wp_seq_k (fun K20 hK20 => ?_)
    refine wp_block ?_
    refine wp_seq_k (fun K21 hK21 => ?_)
    refine wp_region_lit ?_
    refine lv 17 (.int .i64 ((k : Nat) : Int)) rfl rfl (run_mv rfl rfl) ?_
    simp only [nz1, nz2, nz3]
    refine lv 5 (.int .i64 ((k : Nat) : Int)) rfl rfl (run_as rfl rfl) ?_
    simp only [nz1, nz2, nz3]
    refine wpList_nil ?_
    refine then_n (hK21 _ _ ?_)
    refine wp_region_lit ?_
    refine lv 18 (.int .i64 ((k : Nat) : Int)) rfl rfl (run_mv rfl rfl) ?_
    simp only [nz1, nz2, nz3]
    refine lv 19 (.string s) rfl rfl (run_mv rfl rfl) ?_
    simp only [nz1, nz2, nz3]
    refine lv 20 (.int .i64 ((k : Nat) : Int)) rfl rfl (run_mv rfl rfl) ?_
    simp only [nz1, nz2, nz3]
    refine lv 21 (.int .u8 (((sb s k) : Nat) : Int)) rfl rfl (r_char k (sb s k) (by omega) (sb_at s k _) Tryd.underlying9 rfl rfl rfl) ?_
    simp only [nz1, nz2, nz3]
    refine lv 22 (.pointer (some ⟨g8, k, none⟩)) rfl rfl (r_ix g8 k (by omega) Tryd.underlying23 one_u8 rfl rfl rfl) ?_
    simp only [nz1, nz2, nz3]
    refine lst (wanted_none rfl) (m_put 1 (new := rowOf .u8 (up (pb (sb s) k) k (sb s k)) 32) k (.int .u8 (((sb s k) : Nat) : Int)) (old := rowOf .u8 (pb (sb s) k) 32) hm15 rfl rfl (p_cell (n := 32) (f := (pb (sb s) k)) g8 k (sb s k) (by omega) (hm15.at 1 rfl) rfl one_u8 rfl rfl) (rowOf_set _ _ _ _ _) (fun w22 (hm23 : Mm w w22 [(g2, pt 0 0 0 0, 25), (g8, rowOf .u8 (up (pb (sb s) k) k (sb s k)) 32, 23)]) => ?_))
    refine wpList_nil ?_
    have hm24 : Mm w w22 [(g2, pt 0 0 0 0, 25), (g8, rowOf .u8 (pb (sb s) (k + 1)) 32, 23)] := by rw [show (rowOf .u8 (pb (sb s) (k + 1)) 32 : Array Value) = rowOf .u8 (up (pb (sb s) k) k (sb s k)) 32 from by rw [pb_up]]; exact hm23
    refine blk_n ?_
    refine then_n (hK20 _ _ ?_)
    refine wp_region_lit ?_
    refine lv 23 (.int .i64 (((k + 1) : Nat) : Int)) rfl rfl (r_add k 1 (show (k + 1) < 9223372036854775808 from by omega) rfl rfl rfl) ?_
    simp only [nz1, nz2, nz3]
    refine lv 15 (.int .i64 (((k + 1) : Nat) : Int)) rfl rfl (run_mv rfl rfl) ?_
    simp only [nz1, nz2, nz3]
    refine wpList_nil ?_
    refine then_n (hR16 _ _ _ ⟨(k + 1), (fun qq => List.getD [.int .i64 ((k : Nat) : Int), .bool (decide (k < 32)), .int .i64 ((k : Nat) : Int), .int .i64 ((k : Nat) : Int), .string s, .int .i64 ((k : Nat) : Int), .int .u8 (((sb s k) : Nat) : Int), .pointer (some ⟨g8, k, none⟩), .int .i64 (((k + 1) : Nat) : Int)] qq undef), rfl, (by omega), rfl, hm24⟩ ?_)
    omega
  · obtain rfl : k = 32 := by omega
    have hm25 : Mm w w14 [(g2, pt 0 0 0 0, 25), (g8, bs (n32 s), 23)] := by rw [show (bs (n32 s) : Array Value) = rowOf .u8 (pb (sb s) 32) 32 from n32_row s]; exact hm15
    refine wp_exit ?_
    refine then_x ?_
    refine then_x ?_
    refine blk_x ?_
    refine then_n (hK11 _ _ ?_)
    refine wp_seq_k (fun K26 hK26 => ?_)
    refine wp_region_lit ?_
    refine lv 24 (.pointer (some ⟨g8, 31, none⟩)) rfl rfl (r_ix g8 31 (by decide) Tryd.underlying23 one_u8 rfl rfl rfl) ?_
    simp only [nz1, nz2, nz3]
    refine lv 25 (.int .u8 (((bt (n32 s)) 31 : Nat) : Int)) rfl rfl (r_cell (f := (bt (n32 s))) (n := 32) g8 31 (by decide) (hm25.at 1 rfl) Tryd.underlying5 rfl rfl) ?_
    simp only [nz1, nz2, nz3]
    refine lv 26 (.bool (decide (127 < (bt (n32 s)) 31))) rfl rfl (r_gtr ((bt (n32 s)) 31) 127 rfl rfl rfl) ?_
    simp only [nz1, nz2, nz3]
    refine lv 6 (.bool (decide (127 < (bt (n32 s)) 31))) rfl rfl (run_as rfl rfl) ?_
    simp only [nz1, nz2, nz3]
    refine wpList_nil ?_
    rw [show ((.bool (decide (127 < (bt (n32 s)) 31))) : Value) = .bool false from by rw [decide_eq_false ho]]
    refine then_n (hK26 _ _ ?_)
    refine wp_seq_k (fun K27 hK27 => ?_)
    refine wp_region_lit ?_
    refine lv 27 (.pointer (some ⟨g8, 31, none⟩)) rfl rfl (r_ix g8 31 (by decide) Tryd.underlying23 one_u8 rfl rfl rfl) ?_
    simp only [nz1, nz2, nz3]
    refine lv 28 (.int .u8 (((bt (n32 s)) 31 : Nat) : Int)) rfl rfl (r_cell (f := (bt (n32 s))) (n := 32) g8 31 (by decide) (hm25.at 1 rfl) Tryd.underlying5 rfl rfl) ?_
    simp only [nz1, nz2, nz3]
    refine lv 29 (.int .u8 (((bt (n32 s) 31 % 128) : Nat) : Int)) rfl rfl (r_andx ((bt (n32 s)) 31) 127 8 (bt (n32 s) 31 % 128) (by decide) (bt_lt _ _) (by decide) (show _ &&& (2 ^ 7 - 1) = _ from Nat.and_two_pow_sub_one_eq_mod _ 7) rfl rfl rfl) ?_
    simp only [nz1, nz2, nz3]
    refine lv 30 (.pointer (some ⟨g8, 31, none⟩)) rfl rfl (r_ix g8 31 (by decide) Tryd.underlying23 one_u8 rfl rfl rfl) ?_
    simp only [nz1, nz2, nz3]
    refine lst (wanted_none rfl) (m_put 1 (new := rowOf .u8 (up (bt (n32 s)) 31 (bt (n32 s) 31 % 128)) 32) 31 (.int .u8 (((bt (n32 s) 31 % 128) : Nat) : Int)) (old := bs (n32 s)) hm25 rfl rfl (p_cell (n := 32) (f := (bt (n32 s))) g8 31 (bt (n32 s) 31 % 128) (by decide) (hm25.at 1 rfl) rfl one_u8 rfl rfl) (rowOf_set _ _ _ _ _) (fun w28 (hm29 : Mm w w28 [(g2, pt 0 0 0 0, 25), (g8, rowOf .u8 (up (bt (n32 s)) 31 (bt (n32 s) 31 % 128)) 32, 23)]) => ?_))
    refine wpList_nil ?_
    have hm30 : Mm w w28 [(g2, pt 0 0 0 0, 25), (g8, bs (upY s), 23)] := by rw [show (bs (upY s) : Array Value) = rowOf .u8 (up (bt (n32 s)) 31 (bt (n32 s) 31 % 128)) 32 from cut_bit _]; exact hm29
    refine then_n (hK27 _ _ ?_)
    refine wp_seq_k (fun K31 hK31 => ?_)
    refine wp_seq_k (fun K32 hK32 => ?_)
    refine wp_region_lit ?_
    refine lv 31 (.agg (bs (upY s))) rfl rfl (run_row rfl rfl (hm30.at 1 rfl) Tryd.underlying23 rfl (by rw [bs_sz]; exact info_b)) ?_
    simp only [nz1, nz2, nz3]
    refine lst (wanted_none rfl) (m_call hm30 32 (.bool (decide ((upY s) < PP))) rfl (run_fCanon rfl rfl) (canon_any (upY s) (upY_lt s) _) (fun w33 hm34 => ?_))
    simp only [nz1, nz2, nz3]
    refine lv 33 (.bool (decide (¬ ((upY s) < PP)))) rfl rfl (r_notD ((upY s) < PP) rfl rfl) ?_
    simp only [nz1, nz2, nz3]
    refine wpList_nil ?_
    refine then_n (hK32 _ _ ?_)
    refine cond_dt (¬ ((upY s) < PP)) rfl hc ?_
    refine wp_seq_k (fun K35 hK35 => ?_)
    refine wp_region_lit ?_
    refine lv 34 (.agg (pt 0 0 0 0)) rfl rfl (by unfold execOp; go_simp; rfl) ?_
    simp only [nz1, nz2, nz3]
    refine lst (wanted_none rfl) (m_store 0 25 _ _ (pt 0 0 0 0) (old := pt 0 0 0 0) hm34 rfl rfl rfl rfl rfl (by rw [pt_sz]; exact info_p) ((pt_sz _ _ _ _).trans (pt_sz _ _ _ _).symm) (pt_one _ _ _ _) (fun w36 (hm37 : Mm w w36 [(g2, pt 0 0 0 0, 25), (g8, bs (upY s), 23)]) => ?_))
    refine lv 3 (.bool false) rfl rfl (run_as rfl rfl) ?_
    simp only [nz1, nz2, nz3]
    refine wpList_nil ?_
    refine then_n (hK35 _ _ ?_)
    refine wp_ret ?_
    refine then_r ?_
    exact ⟨rfl, .tuple #[.agg (pt 0 0 0 0), .bool false], res_ct rfl rfl (hm37.at 0 rfl) Tryd.underlying25 rfl (by rw [pt_sz]; exact info_p) rfl, ⟨rfl, hm37.below⟩⟩
set_option maxHeartbeats 4000000 in
set_option maxRecDepth 100000 in
theorem un_root_e (s : ByteArray) (sq ds den nu di ra xv : Nat) (h1 : fM (upY s) (upY s) = sq) (h2 : fM dN sq = ds) (h3 : fA ds 1 = den) (h4 : fS sq 1 = nu) (h5 : fI den = di) (h6 : fM nu di = ra) (h7 : rootV (ra % PP) = xv) (hs : s.size = 32) (ho : ¬ 127 < bt (n32 s) 31) (hc : upY s < PP) (hok : rootOk (ra % PP) = false) (w : World) (hd : DD w) : Calls Tryd.prog 10 #[.string s] w (fun e w' => e = .returned (.tuple #[.agg (pt 0 0 0 0), .bool false]) ∧ Below w.heap.size w w') := by
  go_enter Tryd.func10, Tryd.ntmps10
  have hm0 := Mm.nil w
  refine wp_seq_k (fun K1 hK1 => ?_)
  refine wp_region_lit ?_
  refine lst (wanted_none rfl) (m_alloc (c := pt 0 0 0 0) (T := 25) hm0 2 rfl (al_P rfl) (fun g2 w3 (hm4 : Mm w w3 [(g2, pt 0 0 0 0, 25)]) => ?_))
  simp only [nz1, nz2, nz3]
  refine lv 3 (.bool false) rfl rfl (run_as rfl rfl) ?_
  simp only [nz1, nz2, nz3]
  refine wpList_nil ?_
  refine then_n (hK1 _ _ ?_)
  refine wp_seq_k (fun K5 hK5 => ?_)
  refine wp_seq_k (fun K6 hK6 => ?_)
  refine wp_region_lit ?_
  refine lv 11 (.string s) rfl rfl (run_mv rfl rfl) ?_
  simp only [nz1, nz2, nz3]
  refine lv 12 (.int .i64 ((s.size : Nat) : Int)) rfl rfl (r_len rfl Tryd.underlying9 rfl) ?_
  simp only [nz1, nz2, nz3]
  refine lv 13 (.bool (decide (¬ s.size = 32))) rfl rfl (r_neq s.size 32 rfl rfl rfl) ?_
  simp only [nz1, nz2, nz3]
  refine wpList_nil ?_
  refine then_n (hK6 _ _ ?_)
  refine cond_df (¬ s.size = 32) rfl (fun hn => hn hs) ?_
  refine wp_skip ?_
  refine then_n (hK5 _ _ ?_)
  refine wp_seq_k (fun K7 hK7 => ?_)
  refine wp_region_lit ?_
  refine lst (wanted_none rfl) (m_alloc (c := bs 0) (T := 23) hm4 4 rfl (run_alN rfl) (fun g8 w9 (hm10 : Mm w w9 [(g2, pt 0 0 0 0, 25), (g8, bs 0, 23)]) => ?_))
  simp only [nz1, nz2, nz3]
  refine wpList_nil ?_
  refine then_n (hK7 _ _ ?_)
  refine wp_seq_k (fun K11 hK11 => ?_)
  refine wp_seq_k (fun K12 hK12 => ?_)
  refine wp_region_lit ?_
  refine lv 15 (.int .i64 0) rfl rfl (run_mv rfl rfl) ?_
  simp only [nz1, nz2, nz3]
  refine wpList_nil ?_
  have hm13 : Mm w w9 [(g2, pt 0 0 0 0, 25), (g8, rowOf .u8 (pb (sb s) 0) 32, 23)] := by rw [show (rowOf .u8 (pb (sb s) 0) 32 : Array Value) = bs 0 from pb_none _]; exact hm10
  refine then_n (hK12 _ _ ?_)
  refine wp_block ?_
  refine wp_loop_n (fun n' a' w' => ∃ (k : Nat) (u0 : Nat → Value), n' = 32 - k ∧ (k ≤ 32) ∧ a' = ⟨#[.string s, undef, .pointer (some ⟨g2, 0, none⟩), .bool false, .pointer (some ⟨g8, 0, none⟩), u0 0, undef, undef, undef, undef, undef, .string s, .int .i64 ((s.size : Nat) : Int), .bool (decide (¬ s.size = 32)), undef, .int .i64 ((k : Nat) : Int), u0 1, u0 2, u0 3, u0 4, u0 5, u0 6, u0 7, u0 8, undef, undef, undef, undef, undef, undef, undef, undef, undef, undef, undef, undef, undef, undef, undef, undef, undef, undef, undef, undef, undef, undef, undef, undef, undef, undef, undef, undef, undef, undef, undef, undef, undef, undef, undef, undef, undef, undef, undef, undef, undef, undef, undef, undef, undef, undef, undef, undef, undef, undef], []⟩ ∧ Mm w w' [(g2, pt 0 0 0 0, 25), (g8, rowOf .u8 (pb (sb s) k) 32, 23)]) ⟨0, (fun qq => List.getD [undef, undef, undef, undef, undef, undef, undef, undef, undef] qq undef), rfl, (by omega), rfl, hm13⟩ ?_
  clear hm13
  rintro _ _ w14 ⟨k, u0, hn0, hk, rfl, hm15⟩ R16 hR16
  refine wp_seq_k (fun K17 hK17 => ?_)
  refine wp_region_lit ?_
  refine lv 16 (.bool (decide (k < 32))) rfl rfl (r_lss k 32 rfl rfl rfl) ?_
  simp only [nz1, nz2, nz3]
  refine wpList_nil ?_
  refine then_n (hK17 _ _ ?_)
  refine wp_seq_k (fun K18 hK18 => ?_)
  refine cond_d (k < 32) rfl (fun hc19 => ?_) (fun hc19 => ?_)
  · refine wp_skip ?_
    refine then_n (hK18 _ _ ?_)
    refine wp_seq_k (fun K20 hK20 => ?_)
    refine wp_block ?_
    refine wp_seq_k (fun K21 hK21 => ?_)
    refine wp_region_lit ?_
    refine lv 17 (.int .i64 ((k : Nat) : Int)) rfl rfl (run_mv rfl rfl) ?_
    simp only [nz1, nz2, nz3]
    refine lv 5 (.int .i64 ((k : Nat) : Int)) rfl rfl (run_as rfl rfl) ?_
    simp only [nz1, nz2, nz3]
    refine wpList_nil ?_
    refine then_n (hK21 _ _ ?_)
    refine wp_region_lit ?_
    refine lv 18 (.int .i64 ((k : Nat) : Int)) rfl rfl (run_mv rfl rfl) ?_
    simp only [nz1, nz2, nz3]
    refine lv 19 (.string s) rfl rfl (run_mv rfl rfl) ?_
    simp only [nz1, nz2, nz3]
    refine lv 20 (.int .i64 ((k : Nat) : Int)) rfl rfl (run_mv rfl rfl) ?_
    simp only [nz1, nz2, nz3]
    refine lv 21 (.int .u8 (((sb s k) : Nat) : Int)) rfl rfl (r_char k (sb s k) (by omega) (sb_at s k _) Tryd.underlying9 rfl rfl rfl) ?_
    simp only [nz1, nz2, nz3]
    refine lv 22 (.pointer (some ⟨g8, k, none⟩)) rfl rfl (r_ix g8 k (by omega) Tryd.underlying23 one_u8 rfl rfl rfl) ?_
    simp only [nz1, nz2, nz3]
    refine lst (wanted_none rfl) (m_put 1 (new := rowOf .u8 (up (pb (sb s) k) k (sb s k)) 32) k (.int .u8 (((sb s k) : Nat) : Int)) (old := rowOf .u8 (pb (sb s) k) 32) hm15 rfl rfl (p_cell (n := 32) (f := (pb (sb s) k)) g8 k (sb s k) (by omega) (hm15.at 1 rfl) rfl one_u8 rfl rfl) (rowOf_set _ _ _ _ _) (fun w22 (hm23 : Mm w w22 [(g2, pt 0 0 0 0, 25), (g8, rowOf .u8 (up (pb (sb s) k) k (sb s k)) 32, 23)]) => ?_))
    refine wpList_nil ?_
    have hm24 : Mm w w22 [(g2, pt 0 0 0 0, 25), (g8, rowOf .u8 (pb (sb s) (k + 1)) 32, 23)] := by rw [show (rowOf .u8 (pb (sb s) (k + 1)) 32 : Array Value) = rowOf .u8 (up (pb (sb s) k) k (sb s k)) 32 from by rw [pb_up]]; exact hm23
    refine blk_n ?_
    refine then_n (hK20 _ _ ?_)
    refine wp_region_lit ?_
    refine lv 23 (.int .i64 (((k + 1) : Nat) : Int)) rfl rfl (r_add k 1 (show (k + 1) < 9223372036854775808 from by omega) rfl rfl rfl) ?_
    simp only [nz1, nz2, nz3]
    refine lv 15 (.int .i64 (((k + 1) : Nat) : Int)) rfl rfl (run_mv rfl rfl) ?_
    simp only [nz1, nz2, nz3]
    refine wpList_nil ?_
    refine then_n (hR16 _ _ _ ⟨(k + 1), (fun qq => List.getD [.int .i64 ((k : Nat) : Int), .bool (decide (k < 32)), .int .i64 ((k : Nat) : Int), .int .i64 ((k : Nat) : Int), .string s, .int .i64 ((k : Nat) : Int), .int .u8 (((sb s k) : Nat) : Int), .pointer (some ⟨g8, k, none⟩), .int .i64 (((k + 1) : Nat) : Int)] qq undef), rfl, (by omega), rfl, hm24⟩ ?_)
    omega
  · obtain rfl : k = 32 := by omega
    have hm25 : Mm w w14 [(g2, pt 0 0 0 0, 25), (g8, bs (n32 s), 23)] := by rw [show (bs (n32 s) : Array Value) = rowOf .u8 (pb (sb s) 32) 32 from n32_row s]; exact hm15
    refine wp_exit ?_
    refine then_x ?_
    refine then_x ?_
    refine blk_x ?_
    refine then_n (hK11 _ _ ?_)
    refine wp_seq_k (fun K26 hK26 => ?_)
    refine wp_region_lit ?_
    refine lv 24 (.pointer (some ⟨g8, 31, none⟩)) rfl rfl (r_ix g8 31 (by decide) Tryd.underlying23 one_u8 rfl rfl rfl) ?_
    simp only [nz1, nz2, nz3]
    refine lv 25 (.int .u8 (((bt (n32 s)) 31 : Nat) : Int)) rfl rfl (r_cell (f := (bt (n32 s))) (n := 32) g8 31 (by decide) (hm25.at 1 rfl) Tryd.underlying5 rfl rfl) ?_
    simp only [nz1, nz2, nz3]
    refine lv 26 (.bool (decide (127 < (bt (n32 s)) 31))) rfl rfl (r_gtr ((bt (n32 s)) 31) 127 rfl rfl rfl) ?_
    simp only [nz1, nz2, nz3]
    refine lv 6 (.bool (decide (127 < (bt (n32 s)) 31))) rfl rfl (run_as rfl rfl) ?_
    simp only [nz1, nz2, nz3]
    refine wpList_nil ?_
    rw [show ((.bool (decide (127 < (bt (n32 s)) 31))) : Value) = .bool false from by rw [decide_eq_false ho]]
    refine then_n (hK26 _ _ ?_)
    refine wp_seq_k (fun K27 hK27 => ?_)
    refine wp_region_lit ?_
    refine lv 27 (.pointer (some ⟨g8, 31, none⟩)) rfl rfl (r_ix g8 31 (by decide) Tryd.underlying23 one_u8 rfl rfl rfl) ?_
    simp only [nz1, nz2, nz3]
    refine lv 28 (.int .u8 (((bt (n32 s)) 31 : Nat) : Int)) rfl rfl (r_cell (f := (bt (n32 s))) (n := 32) g8 31 (by decide) (hm25.at 1 rfl) Tryd.underlying5 rfl rfl) ?_
    simp only [nz1, nz2, nz3]
    refine lv 29 (.int .u8 (((bt (n32 s) 31 % 128) : Nat) : Int)) rfl rfl (r_andx ((bt (n32 s)) 31) 127 8 (bt (n32 s) 31 % 128) (by decide) (bt_lt _ _) (by decide) (show _ &&& (2 ^ 7 - 1) = _ from Nat.and_two_pow_sub_one_eq_mod _ 7) rfl rfl rfl) ?_
    simp only [nz1, nz2, nz3]
    refine lv 30 (.pointer (some ⟨g8, 31, none⟩)) rfl rfl (r_ix g8 31 (by decide) Tryd.underlying23 one_u8 rfl rfl rfl) ?_
    simp only [nz1, nz2, nz3]
    refine lst (wanted_none rfl) (m_put 1 (new := rowOf .u8 (up (bt (n32 s)) 31 (bt (n32 s) 31 % 128)) 32) 31 (.int .u8 (((bt (n32 s) 31 % 128) : Nat) : Int)) (old := bs (n32 s)) hm25 rfl rfl (p_cell (n := 32) (f := (bt (n32 s))) g8 31 (bt (n32 s) 31 % 128) (by decide) (hm25.at 1 rfl) rfl one_u8 rfl rfl) (rowOf_set _ _ _ _ _) (fun w28 (hm29 : Mm w w28 [(g2, pt 0 0 0 0, 25), (g8, rowOf .u8 (up (bt (n32 s)) 31 (bt (n32 s) 31 % 128)) 32, 23)]) => ?_))
    refine wpList_nil ?_
    have hm30 : Mm w w28 [(g2, pt 0 0 0 0, 25), (g8, bs (upY s), 23)] := by rw [show (bs (upY s) : Array Value) = rowOf .u8 (up (bt (n32 s)) 31 (bt (n32 s) 31 % 128)) 32 from cut_bit _]; exact hm29
    refine then_n (hK27 _ _ ?_)
    refine wp_seq_k (fun K31 hK31 => ?_)
    refine wp_seq_k (fun K32 hK32 => ?_)
    refine wp_region_lit ?_
    refine lv 31 (.agg (bs (upY s))) rfl rfl (run_row rfl rfl (hm30.at 1 rfl) Tryd.underlying23 rfl (by rw [bs_sz]; exact info_b)) ?_
    simp only [nz1, nz2, nz3]
    refine lst (wanted_none rfl) (m_call hm30 32 (.bool (decide ((upY s) < PP))) rfl (run_fCanon rfl rfl) (canon_any (upY s) (upY_lt s) _) (fun w33 hm34 => ?_))
    simp only [nz1, nz2, nz3]
    refine lv 33 (.bool (decide (¬ ((upY s) < PP)))) rfl rfl (r_notD ((upY s) < PP) rfl rfl) ?_
    simp only [nz1, nz2, nz3]
    refine wpList_nil ?_
    refine then_n (hK32 _ _ ?_)
    refine cond_df (¬ ((upY s) < PP)) rfl (fun hn => hn hc) ?_
    refine wp_skip ?_
    refine then_n (hK31 _ _ ?_)
    refine wp_seq_k (fun K35 hK35 => ?_)
    refine wp_region_lit ?_
    refine lv 35 (.agg (bs (upY s))) rfl rfl (run_row rfl rfl (hm34.at 1 rfl) Tryd.underlying23 rfl (by rw [bs_sz]; exact info_b)) ?_
    simp only [nz1, nz2, nz3]
    refine lv 36 (.agg (bs (upY s))) rfl rfl (run_row rfl rfl (hm34.at 1 rfl) Tryd.underlying23 rfl (by rw [bs_sz]; exact info_b)) ?_
    simp only [nz1, nz2, nz3]
    refine lst (wanted_none rfl) (m_call hm34 37 (.agg (bs sq)) rfl (run_fMul rfl rfl rfl) (mulu_g (upY s) (upY s) sq (upY_lt s) (upY_lt s) h1 _) (fun w36 hm37 => ?_))
    simp only [nz1, nz2, nz3]
    refine lst (wanted_none rfl) (m_alloc (c := bs 0) (T := 23) hm37 7 rfl (run_alN rfl) (fun g38 w39 (hm40 : Mm w w39 [(g2, pt 0 0 0 0, 25), (g8, bs (upY s), 23), (g38, bs 0, 23)]) => ?_))
    simp only [nz1, nz2, nz3]
    refine lst (wanted_none rfl) (m_store 2 23 _ _ (bs sq) (old := bs 0) hm40 rfl rfl rfl rfl rfl (by rw [bs_sz]; exact info_b) ((bs_sz _).trans (bs_sz _).symm) (bs_one _) (fun w41 (hm42 : Mm w w41 [(g2, pt 0 0 0 0, 25), (g8, bs (upY s), 23), (g38, bs sq, 23)]) => ?_))
    refine wpList_nil ?_
    refine then_n (hK35 _ _ ?_)
    refine wp_seq_k (fun K43 hK43 => ?_)
    refine wp_region_lit ?_
    refine lv 38 (.agg (bs dN)) rfl rfl (run_row rfl rfl (kept hd hm42.below) Tryd.underlying23 rfl (by rw [bs_sz]; exact info_b)) ?_
    simp only [nz1, nz2, nz3]
    refine lv 39 (.agg (bs sq)) rfl rfl (run_row rfl rfl (hm42.at 2 rfl) Tryd.underlying23 rfl (by rw [bs_sz]; exact info_b)) ?_
    simp only [nz1, nz2, nz3]
    refine lst (wanted_none rfl) (m_call hm42 40 (.agg (bs ds)) rfl (run_fMul rfl rfl rfl) (mulu_g dN sq ds dN_lt (h1 ▸ f_lt (fM_lt _ _)) h2 _) (fun w44 hm45 => ?_))
    simp only [nz1, nz2, nz3]
    refine lst (wanted_none rfl) (m_call hm45 41 (.agg (bs 1)) rfl (run_pone rfl) (one_any _) (fun w46 hm47 => ?_))
    simp only [nz1, nz2, nz3]
    refine lst (wanted_none rfl) (m_call hm47 42 (.agg (bs den)) rfl (run_fAdd rfl rfl rfl) (addu_g ds 1 den (h2 ▸ f_lt (fM_lt _ _)) (by decide) h3 _) (fun w48 hm49 => ?_))
    simp only [nz1, nz2, nz3]
    refine lst (wanted_none rfl) (m_alloc (c := bs 0) (T := 23) hm49 8 rfl (run_alN rfl) (fun g50 w51 (hm52 : Mm w w51 [(g2, pt 0 0 0 0, 25), (g8, bs (upY s), 23), (g38, bs sq, 23), (g50, bs 0, 23)]) => ?_))
    simp only [nz1, nz2, nz3]
    refine lst (wanted_none rfl) (m_store 3 23 _ _ (bs den) (old := bs 0) hm52 rfl rfl rfl rfl rfl (by rw [bs_sz]; exact info_b) ((bs_sz _).trans (bs_sz _).symm) (bs_one _) (fun w53 (hm54 : Mm w w53 [(g2, pt 0 0 0 0, 25), (g8, bs (upY s), 23), (g38, bs sq, 23), (g50, bs den, 23)]) => ?_))
    refine wpList_nil ?_
    refine then_n (hK43 _ _ ?_)
    refine wp_seq_k (fun K55 hK55 => ?_)
    refine wp_mono (Q := fun e a' w' => e = Exit.normal ∧ ∃ g68 : Nat, a' = ⟨#[.string s, undef, .pointer (some ⟨g2, 0, none⟩), .bool false, .pointer (some ⟨g8, 0, none⟩), u0 0, .bool false, .pointer (some ⟨g38, 0, none⟩), .pointer (some ⟨g50, 0, none⟩), .pointer (some ⟨g68, 0, none⟩), .bool (rootOk (ra % PP)), .string s, .int .i64 ((s.size : Nat) : Int), .bool (decide (¬ s.size = 32)), undef, .int .i64 32, .bool (decide (32 < 32)), u0 2, u0 3, u0 4, u0 5, u0 6, u0 7, u0 8, .pointer (some ⟨g8, 31, none⟩), .int .u8 (((bt (n32 s)) 31 : Nat) : Int), .bool false, .pointer (some ⟨g8, 31, none⟩), .int .u8 (((bt (n32 s)) 31 : Nat) : Int), .int .u8 (((bt (n32 s) 31 % 128) : Nat) : Int), .pointer (some ⟨g8, 31, none⟩), .agg (bs (upY s)), .bool (decide ((upY s) < PP)), .bool (decide (¬ ((upY s) < PP))), undef, .agg (bs (upY s)), .agg (bs (upY s)), .agg (bs sq), .agg (bs dN), .agg (bs sq), .agg (bs ds), .agg (bs 1), .agg (bs den), .tuple #[.agg (bs xv), .bool (rootOk (ra % PP))], .agg (bs sq), .agg (bs 1), .agg (bs nu), .agg (bs den), .agg (bs di), .agg (bs ra), .tuple #[.agg (bs xv), .bool (rootOk (ra % PP))], .agg (bs xv), .bool (rootOk (ra % PP)), undef, undef, undef, undef, undef, undef, undef, undef, undef, undef, undef, undef, undef, undef, undef, undef, undef, undef, undef, undef, undef], []⟩ ∧ Mm w w' [(g2, pt 0 0 0 0, 25), (g8, bs (upY s), 23), (g38, bs sq, 23), (g50, bs den, 23), (g68, bs xv, 23)]) ?_ ?_
    · have hm56 := hm54.drew
      refine wp_region_held_drew (S := fun w' => Sym.Blk w' g38 (bs sq) 23 ∧ Sym.Blk w' g50 (bs den) 23) (by kernel_rfl) (⟨hm56.at 2 rfl, hm56.at 3 rfl⟩) (fun _ => ?_)
      generalize w53.drew = w57 at *
      refine Sym.take_at 0 44 (.agg (bs sq)) rfl rfl (by kernel_rfl) (by kernel_rfl) (by kernel_rfl) (fun _ _ _ h => nomatch h.1) rfl (fun _ hw => run_row rfl rfl hw.1 Tryd.underlying23 rfl (by rw [bs_sz]; exact info_b)) (⟨hm56.at 2 rfl, hm56.at 3 rfl⟩) ?_
      simp only [nz1, nz2, nz3]
      refine Sym.take_at 3 47 (.agg (bs den)) rfl rfl (by kernel_rfl) (by kernel_rfl) (by kernel_rfl) (fun _ _ _ h => nomatch h.1) rfl (fun _ hw => run_row rfl rfl hw.2 Tryd.underlying23 rfl (by rw [bs_sz]; exact info_b)) (⟨hm56.at 2 rfl, hm56.at 3 rfl⟩) ?_
      simp only [nz1, nz2, nz3]
      refine two_ready 1 10 (by kernel_rfl) ?_ ?_
      · refine opd rfl rfl (m_call hm56 45 (.agg (bs 1)) rfl (run_pone rfl) (one_any _) (fun w58 hm59 => ?_))
        refine ⟨⟨hm59.at 2 rfl, hm59.at 3 rfl⟩, ?_⟩
        simp only [nz1, nz2, nz3]
        refine two_ready 2 10 (by kernel_rfl) ?_ ?_
        · refine opd rfl rfl (m_call hm59 46 (.agg (bs nu)) rfl (run_fSub rfl rfl rfl) (subu_g sq 1 nu (h1 ▸ f_lt (fM_lt _ _)) (by decide) h4 _) (fun w60 hm61 => ?_))
          refine ⟨⟨hm61.at 2 rfl, hm61.at 3 rfl⟩, ?_⟩
          simp only [nz1, nz2, nz3]
          refine two_ready 4 10 (by kernel_rfl) ?_ ?_
          · refine opd rfl rfl (m_call hm61 48 (.agg (bs di)) rfl (run_fInv rfl rfl) (invu_g den di (h3 ▸ f_lt (fA_lt _ _)) h5 _) (fun w62 hm63 => ?_))
            refine ⟨⟨hm63.at 2 rfl, hm63.at 3 rfl⟩, ?_⟩
            simp only [nz1, nz2, nz3]
            refine two_ready 5 10 (by kernel_rfl) ?_ ?_
            · refine opd rfl rfl (m_call hm63 49 (.agg (bs ra)) rfl (run_fMul rfl rfl rfl) (mulu_g nu di ra (h4 ▸ f_lt (fS_lt _ _)) (h5 ▸ f_lt (fI_lt _)) h6 _) (fun w64 hm65 => ?_))
              refine ⟨⟨hm65.at 2 rfl, hm65.at 3 rfl⟩, ?_⟩
              simp only [nz1, nz2, nz3]
              refine two_ready 6 10 (by kernel_rfl) ?_ ?_
              · refine opd rfl rfl (m_call hm65 50 (.tuple #[.agg (bs xv), .bool (rootOk (ra % PP))]) rfl (run_fRoot rfl rfl) (rootu_g ra xv (h6 ▸ f_lt (fM_lt _ _)) h7 _) (fun w66 hm67 => ?_))
                refine ⟨⟨hm67.at 2 rfl, hm67.at 3 rfl⟩, ?_⟩
                simp only [nz1, nz2, nz3]
                refine Sym.take_at 7 43 (.tuple #[.agg (bs xv), .bool (rootOk (ra % PP))]) rfl rfl (by kernel_rfl) (by kernel_rfl) (by kernel_rfl) (fun _ _ _ h => nomatch h.1) rfl (fun _ hw => run_mv rfl rfl) (⟨hm67.at 2 rfl, hm67.at 3 rfl⟩) ?_
                simp only [nz1, nz2, nz3]
                refine Sym.take_at 8 51 (.agg (bs xv)) rfl rfl (by kernel_rfl) (by kernel_rfl) (by kernel_rfl) (fun _ _ _ h => nomatch h.1) rfl (fun _ hw => run_ex rfl rfl rfl) (⟨hm67.at 2 rfl, hm67.at 3 rfl⟩) ?_
                simp only [nz1, nz2, nz3]
                refine Sym.take_at 9 52 (.bool (rootOk (ra % PP))) rfl rfl (by kernel_rfl) (by kernel_rfl) (by kernel_rfl) (fun _ _ _ h => nomatch h.1) rfl (fun _ hw => run_ex rfl rfl rfl) (⟨hm67.at 2 rfl, hm67.at 3 rfl⟩) ?_
                simp only [nz1, nz2, nz3]
                refine one_ready 10 (by kernel_rfl) ?_
                refine opd rfl rfl (m_alloc (c := bs 0) (T := 23) hm67 9 rfl (run_alN rfl) (fun g68 w69 hm70 => ?_))
                refine ⟨⟨hm70.at 2 rfl, hm70.at 3 rfl⟩, ?_⟩
                simp only [nz1, nz2, nz3]
                refine one_ready 11 (by kernel_rfl) ?_
                refine opd rfl rfl (m_store 4 23 _ _ (bs xv) (old := bs 0) hm70 rfl rfl rfl rfl rfl (by rw [bs_sz]; exact info_b) ((bs_sz _).trans (bs_sz _).symm) (bs_one _) (fun w71 hm72 => ?_))
                refine ⟨⟨hm72.at 2 rfl, hm72.at 3 rfl⟩, ?_⟩
                refine one_ready 12 (by kernel_rfl) ?_
                refine opd rfl rfl (w_value 10 (.bool (rootOk (ra % PP))) rfl (run_as rfl rfl) ⟨⟨hm72.at 2 rfl, hm72.at 3 rfl⟩, ?_⟩)
                simp only [nz1, nz2, nz3]
                refine wpAnyH_done (by kernel_rfl) ?_ _
                exact ⟨rfl, g68, rfl, hm72⟩
              · refine opd rfl rfl (m_alloc (c := bs 0) (T := 23) hm65 9 rfl (run_alN rfl) (fun g73 w74 hm75 => ?_))
                refine ⟨⟨hm75.at 2 rfl, hm75.at 3 rfl⟩, ?_⟩
                simp only [nz1, nz2, nz3]
                refine one_ready 6 (by kernel_rfl) ?_
                refine opd rfl rfl (m_call hm75 50 (.tuple #[.agg (bs xv), .bool (rootOk (ra % PP))]) rfl (run_fRoot rfl rfl) (rootu_g ra xv (h6 ▸ f_lt (fM_lt _ _)) h7 _) (fun w76 hm77 => ?_))
                refine ⟨⟨hm77.at 2 rfl, hm77.at 3 rfl⟩, ?_⟩
                simp only [nz1, nz2, nz3]
                refine Sym.take_at 7 43 (.tuple #[.agg (bs xv), .bool (rootOk (ra % PP))]) rfl rfl (by kernel_rfl) (by kernel_rfl) (by kernel_rfl) (fun _ _ _ h => nomatch h.1) rfl (fun _ hw => run_mv rfl rfl) (⟨hm77.at 2 rfl, hm77.at 3 rfl⟩) ?_
                simp only [nz1, nz2, nz3]
                refine Sym.take_at 8 51 (.agg (bs xv)) rfl rfl (by kernel_rfl) (by kernel_rfl) (by kernel_rfl) (fun _ _ _ h => nomatch h.1) rfl (fun _ hw => run_ex rfl rfl rfl) (⟨hm77.at 2 rfl, hm77.at 3 rfl⟩) ?_
                simp only [nz1, nz2, nz3]
                refine Sym.take_at 9 52 (.bool (rootOk (ra % PP))) rfl rfl (by kernel_rfl) (by kernel_rfl) (by kernel_rfl) (fun _ _ _ h => nomatch h.1) rfl (fun _ hw => run_ex rfl rfl rfl) (⟨hm77.at 2 rfl, hm77.at 3 rfl⟩) ?_
                simp only [nz1, nz2, nz3]
                refine one_ready 11 (by kernel_rfl) ?_
                refine opd rfl rfl (m_store 4 23 _ _ (bs xv) (old := bs 0) hm77 rfl rfl rfl rfl rfl (by rw [bs_sz]; exact info_b) ((bs_sz _).trans (bs_sz _).symm) (bs_one _) (fun w78 hm79 => ?_))
                refine ⟨⟨hm79.at 2 rfl, hm79.at 3 rfl⟩, ?_⟩
                refine one_ready 12 (by kernel_rfl) ?_
                refine opd rfl rfl (w_value 10 (.bool (rootOk (ra % PP))) rfl (run_as rfl rfl) ⟨⟨hm79.at 2 rfl, hm79.at 3 rfl⟩, ?_⟩)
                simp only [nz1, nz2, nz3]
                refine wpAnyH_done (by kernel_rfl) ?_ _
                exact ⟨rfl, g73, rfl, hm79⟩
            · refine opd rfl rfl (m_alloc (c := bs 0) (T := 23) hm63 9 rfl (run_alN rfl) (fun g80 w81 hm82 => ?_))
              refine ⟨⟨hm82.at 2 rfl, hm82.at 3 rfl⟩, ?_⟩
              simp only [nz1, nz2, nz3]
              refine one_ready 5 (by kernel_rfl) ?_
              refine opd rfl rfl (m_call hm82 49 (.agg (bs ra)) rfl (run_fMul rfl rfl rfl) (mulu_g nu di ra (h4 ▸ f_lt (fS_lt _ _)) (h5 ▸ f_lt (fI_lt _)) h6 _) (fun w83 hm84 => ?_))
              refine ⟨⟨hm84.at 2 rfl, hm84.at 3 rfl⟩, ?_⟩
              simp only [nz1, nz2, nz3]
              refine one_ready 6 (by kernel_rfl) ?_
              refine opd rfl rfl (m_call hm84 50 (.tuple #[.agg (bs xv), .bool (rootOk (ra % PP))]) rfl (run_fRoot rfl rfl) (rootu_g ra xv (h6 ▸ f_lt (fM_lt _ _)) h7 _) (fun w85 hm86 => ?_))
              refine ⟨⟨hm86.at 2 rfl, hm86.at 3 rfl⟩, ?_⟩
              simp only [nz1, nz2, nz3]
              refine Sym.take_at 7 43 (.tuple #[.agg (bs xv), .bool (rootOk (ra % PP))]) rfl rfl (by kernel_rfl) (by kernel_rfl) (by kernel_rfl) (fun _ _ _ h => nomatch h.1) rfl (fun _ hw => run_mv rfl rfl) (⟨hm86.at 2 rfl, hm86.at 3 rfl⟩) ?_
              simp only [nz1, nz2, nz3]
              refine Sym.take_at 8 51 (.agg (bs xv)) rfl rfl (by kernel_rfl) (by kernel_rfl) (by kernel_rfl) (fun _ _ _ h => nomatch h.1) rfl (fun _ hw => run_ex rfl rfl rfl) (⟨hm86.at 2 rfl, hm86.at 3 rfl⟩) ?_
              simp only [nz1, nz2, nz3]
              refine Sym.take_at 9 52 (.bool (rootOk (ra % PP))) rfl rfl (by kernel_rfl) (by kernel_rfl) (by kernel_rfl) (fun _ _ _ h => nomatch h.1) rfl (fun _ hw => run_ex rfl rfl rfl) (⟨hm86.at 2 rfl, hm86.at 3 rfl⟩) ?_
              simp only [nz1, nz2, nz3]
              refine one_ready 11 (by kernel_rfl) ?_
              refine opd rfl rfl (m_store 4 23 _ _ (bs xv) (old := bs 0) hm86 rfl rfl rfl rfl rfl (by rw [bs_sz]; exact info_b) ((bs_sz _).trans (bs_sz _).symm) (bs_one _) (fun w87 hm88 => ?_))
              refine ⟨⟨hm88.at 2 rfl, hm88.at 3 rfl⟩, ?_⟩
              refine one_ready 12 (by kernel_rfl) ?_
              refine opd rfl rfl (w_value 10 (.bool (rootOk (ra % PP))) rfl (run_as rfl rfl) ⟨⟨hm88.at 2 rfl, hm88.at 3 rfl⟩, ?_⟩)
              simp only [nz1, nz2, nz3]
              refine wpAnyH_done (by kernel_rfl) ?_ _
              exact ⟨rfl, g80, rfl, hm88⟩
          · refine opd rfl rfl (m_alloc (c := bs 0) (T := 23) hm61 9 rfl (run_alN rfl) (fun g89 w90 hm91 => ?_))
            refine ⟨⟨hm91.at 2 rfl, hm91.at 3 rfl⟩, ?_⟩
            simp only [nz1, nz2, nz3]
            refine one_ready 4 (by kernel_rfl) ?_
            refine opd rfl rfl (m_call hm91 48 (.agg (bs di)) rfl (run_fInv rfl rfl) (invu_g den di (h3 ▸ f_lt (fA_lt _ _)) h5 _) (fun w92 hm93 => ?_))
            refine ⟨⟨hm93.at 2 rfl, hm93.at 3 rfl⟩, ?_⟩
            simp only [nz1, nz2, nz3]
            refine one_ready 5 (by kernel_rfl) ?_
            refine opd rfl rfl (m_call hm93 49 (.agg (bs ra)) rfl (run_fMul rfl rfl rfl) (mulu_g nu di ra (h4 ▸ f_lt (fS_lt _ _)) (h5 ▸ f_lt (fI_lt _)) h6 _) (fun w94 hm95 => ?_))
            refine ⟨⟨hm95.at 2 rfl, hm95.at 3 rfl⟩, ?_⟩
            simp only [nz1, nz2, nz3]
            refine one_ready 6 (by kernel_rfl) ?_
            refine opd rfl rfl (m_call hm95 50 (.tuple #[.agg (bs xv), .bool (rootOk (ra % PP))]) rfl (run_fRoot rfl rfl) (rootu_g ra xv (h6 ▸ f_lt (fM_lt _ _)) h7 _) (fun w96 hm97 => ?_))
            refine ⟨⟨hm97.at 2 rfl, hm97.at 3 rfl⟩, ?_⟩
            simp only [nz1, nz2, nz3]
            refine Sym.take_at 7 43 (.tuple #[.agg (bs xv), .bool (rootOk (ra % PP))]) rfl rfl (by kernel_rfl) (by kernel_rfl) (by kernel_rfl) (fun _ _ _ h => nomatch h.1) rfl (fun _ hw => run_mv rfl rfl) (⟨hm97.at 2 rfl, hm97.at 3 rfl⟩) ?_
            simp only [nz1, nz2, nz3]
            refine Sym.take_at 8 51 (.agg (bs xv)) rfl rfl (by kernel_rfl) (by kernel_rfl) (by kernel_rfl) (fun _ _ _ h => nomatch h.1) rfl (fun _ hw => run_ex rfl rfl rfl) (⟨hm97.at 2 rfl, hm97.at 3 rfl⟩) ?_
            simp only [nz1, nz2, nz3]
            refine Sym.take_at 9 52 (.bool (rootOk (ra % PP))) rfl rfl (by kernel_rfl) (by kernel_rfl) (by kernel_rfl) (fun _ _ _ h => nomatch h.1) rfl (fun _ hw => run_ex rfl rfl rfl) (⟨hm97.at 2 rfl, hm97.at 3 rfl⟩) ?_
            simp only [nz1, nz2, nz3]
            refine one_ready 11 (by kernel_rfl) ?_
            refine opd rfl rfl (m_store 4 23 _ _ (bs xv) (old := bs 0) hm97 rfl rfl rfl rfl rfl (by rw [bs_sz]; exact info_b) ((bs_sz _).trans (bs_sz _).symm) (bs_one _) (fun w98 hm99 => ?_))
            refine ⟨⟨hm99.at 2 rfl, hm99.at 3 rfl⟩, ?_⟩
            refine one_ready 12 (by kernel_rfl) ?_
            refine opd rfl rfl (w_value 10 (.bool (rootOk (ra % PP))) rfl (run_as rfl rfl) ⟨⟨hm99.at 2 rfl, hm99.at 3 rfl⟩, ?_⟩)
            simp only [nz1, nz2, nz3]
            refine wpAnyH_done (by kernel_rfl) ?_ _
            exact ⟨rfl, g89, rfl, hm99⟩
        · refine opd rfl rfl (m_alloc (c := bs 0) (T := 23) hm59 9 rfl (run_alN rfl) (fun g100 w101 hm102 => ?_))
          refine ⟨⟨hm102.at 2 rfl, hm102.at 3 rfl⟩, ?_⟩
          simp only [nz1, nz2, nz3]
          refine one_ready 2 (by kernel_rfl) ?_
          refine opd rfl rfl (m_call hm102 46 (.agg (bs nu)) rfl (run_fSub rfl rfl rfl) (subu_g sq 1 nu (h1 ▸ f_lt (fM_lt _ _)) (by decide) h4 _) (fun w103 hm104 => ?_))
          refine ⟨⟨hm104.at 2 rfl, hm104.at 3 rfl⟩, ?_⟩
          simp only [nz1, nz2, nz3]
          refine one_ready 4 (by kernel_rfl) ?_
          refine opd rfl rfl (m_call hm104 48 (.agg (bs di)) rfl (run_fInv rfl rfl) (invu_g den di (h3 ▸ f_lt (fA_lt _ _)) h5 _) (fun w105 hm106 => ?_))
          refine ⟨⟨hm106.at 2 rfl, hm106.at 3 rfl⟩, ?_⟩
          simp only [nz1, nz2, nz3]
          refine one_ready 5 (by kernel_rfl) ?_
          refine opd rfl rfl (m_call hm106 49 (.agg (bs ra)) rfl (run_fMul rfl rfl rfl) (mulu_g nu di ra (h4 ▸ f_lt (fS_lt _ _)) (h5 ▸ f_lt (fI_lt _)) h6 _) (fun w107 hm108 => ?_))
          refine ⟨⟨hm108.at 2 rfl, hm108.at 3 rfl⟩, ?_⟩
          simp only [nz1, nz2, nz3]
          refine one_ready 6 (by kernel_rfl) ?_
          refine opd rfl rfl (m_call hm108 50 (.tuple #[.agg (bs xv), .bool (rootOk (ra % PP))]) rfl (run_fRoot rfl rfl) (rootu_g ra xv (h6 ▸ f_lt (fM_lt _ _)) h7 _) (fun w109 hm110 => ?_))
          refine ⟨⟨hm110.at 2 rfl, hm110.at 3 rfl⟩, ?_⟩
          simp only [nz1, nz2, nz3]
          refine Sym.take_at 7 43 (.tuple #[.agg (bs xv), .bool (rootOk (ra % PP))]) rfl rfl (by kernel_rfl) (by kernel_rfl) (by kernel_rfl) (fun _ _ _ h => nomatch h.1) rfl (fun _ hw => run_mv rfl rfl) (⟨hm110.at 2 rfl, hm110.at 3 rfl⟩) ?_
          simp only [nz1, nz2, nz3]
          refine Sym.take_at 8 51 (.agg (bs xv)) rfl rfl (by kernel_rfl) (by kernel_rfl) (by kernel_rfl) (fun _ _ _ h => nomatch h.1) rfl (fun _ hw => run_ex rfl rfl rfl) (⟨hm110.at 2 rfl, hm110.at 3 rfl⟩) ?_
          simp only [nz1, nz2, nz3]
          refine Sym.take_at 9 52 (.bool (rootOk (ra % PP))) rfl rfl (by kernel_rfl) (by kernel_rfl) (by kernel_rfl) (fun _ _ _ h => nomatch h.1) rfl (fun _ hw => run_ex rfl rfl rfl) (⟨hm110.at 2 rfl, hm110.at 3 rfl⟩) ?_
          simp only [nz1, nz2, nz3]
          refine one_ready 11 (by kernel_rfl) ?_
          refine opd rfl rfl (m_store 4 23 _ _ (bs xv) (old := bs 0) hm110 rfl rfl rfl rfl rfl (by rw [bs_sz]; exact info_b) ((bs_sz _).trans (bs_sz _).symm) (bs_one _) (fun w111 hm112 => ?_))
          refine ⟨⟨hm112.at 2 rfl, hm112.at 3 rfl⟩, ?_⟩
          refine one_ready 12 (by kernel_rfl) ?_
          refine opd rfl rfl (w_value 10 (.bool (rootOk (ra % PP))) rfl (run_as rfl rfl) ⟨⟨hm112.at 2 rfl, hm112.at 3 rfl⟩, ?_⟩)
          simp only [nz1, nz2, nz3]
          refine wpAnyH_done (by kernel_rfl) ?_ _
          exact ⟨rfl, g100, rfl, hm112⟩
      · refine opd rfl rfl (m_alloc (c := bs 0) (T := 23) hm56 9 rfl (run_alN rfl) (fun g113 w114 hm115 => ?_))
        refine ⟨⟨hm115.at 2 rfl, hm115.at 3 rfl⟩, ?_⟩
        simp only [nz1, nz2, nz3]
        refine one_ready 1 (by kernel_rfl) ?_
        refine opd rfl rfl (m_call hm115 45 (.agg (bs 1)) rfl (run_pone rfl) (one_any _) (fun w116 hm117 => ?_))
        refine ⟨⟨hm117.at 2 rfl, hm117.at 3 rfl⟩, ?_⟩
        simp only [nz1, nz2, nz3]
        refine one_ready 2 (by kernel_rfl) ?_
        refine opd rfl rfl (m_call hm117 46 (.agg (bs nu)) rfl (run_fSub rfl rfl rfl) (subu_g sq 1 nu (h1 ▸ f_lt (fM_lt _ _)) (by decide) h4 _) (fun w118 hm119 => ?_))
        refine ⟨⟨hm119.at 2 rfl, hm119.at 3 rfl⟩, ?_⟩
        simp only [nz1, nz2, nz3]
        refine one_ready 4 (by kernel_rfl) ?_
        refine opd rfl rfl (m_call hm119 48 (.agg (bs di)) rfl (run_fInv rfl rfl) (invu_g den di (h3 ▸ f_lt (fA_lt _ _)) h5 _) (fun w120 hm121 => ?_))
        refine ⟨⟨hm121.at 2 rfl, hm121.at 3 rfl⟩, ?_⟩
        simp only [nz1, nz2, nz3]
        refine one_ready 5 (by kernel_rfl) ?_
        refine opd rfl rfl (m_call hm121 49 (.agg (bs ra)) rfl (run_fMul rfl rfl rfl) (mulu_g nu di ra (h4 ▸ f_lt (fS_lt _ _)) (h5 ▸ f_lt (fI_lt _)) h6 _) (fun w122 hm123 => ?_))
        refine ⟨⟨hm123.at 2 rfl, hm123.at 3 rfl⟩, ?_⟩
        simp only [nz1, nz2, nz3]
        refine one_ready 6 (by kernel_rfl) ?_
        refine opd rfl rfl (m_call hm123 50 (.tuple #[.agg (bs xv), .bool (rootOk (ra % PP))]) rfl (run_fRoot rfl rfl) (rootu_g ra xv (h6 ▸ f_lt (fM_lt _ _)) h7 _) (fun w124 hm125 => ?_))
        refine ⟨⟨hm125.at 2 rfl, hm125.at 3 rfl⟩, ?_⟩
        simp only [nz1, nz2, nz3]
        refine Sym.take_at 7 43 (.tuple #[.agg (bs xv), .bool (rootOk (ra % PP))]) rfl rfl (by kernel_rfl) (by kernel_rfl) (by kernel_rfl) (fun _ _ _ h => nomatch h.1) rfl (fun _ hw => run_mv rfl rfl) (⟨hm125.at 2 rfl, hm125.at 3 rfl⟩) ?_
        simp only [nz1, nz2, nz3]
        refine Sym.take_at 8 51 (.agg (bs xv)) rfl rfl (by kernel_rfl) (by kernel_rfl) (by kernel_rfl) (fun _ _ _ h => nomatch h.1) rfl (fun _ hw => run_ex rfl rfl rfl) (⟨hm125.at 2 rfl, hm125.at 3 rfl⟩) ?_
        simp only [nz1, nz2, nz3]
        refine Sym.take_at 9 52 (.bool (rootOk (ra % PP))) rfl rfl (by kernel_rfl) (by kernel_rfl) (by kernel_rfl) (fun _ _ _ h => nomatch h.1) rfl (fun _ hw => run_ex rfl rfl rfl) (⟨hm125.at 2 rfl, hm125.at 3 rfl⟩) ?_
        simp only [nz1, nz2, nz3]
        refine one_ready 11 (by kernel_rfl) ?_
        refine opd rfl rfl (m_store 4 23 _ _ (bs xv) (old := bs 0) hm125 rfl rfl rfl rfl rfl (by rw [bs_sz]; exact info_b) ((bs_sz _).trans (bs_sz _).symm) (bs_one _) (fun w126 hm127 => ?_))
        refine ⟨⟨hm127.at 2 rfl, hm127.at 3 rfl⟩, ?_⟩
        refine one_ready 12 (by kernel_rfl) ?_
        refine opd rfl rfl (w_value 10 (.bool (rootOk (ra % PP))) rfl (run_as rfl rfl) ⟨⟨hm127.at 2 rfl, hm127.at 3 rfl⟩, ?_⟩)
        simp only [nz1, nz2, nz3]
        refine wpAnyH_done (by kernel_rfl) ?_ _
        exact ⟨rfl, g113, rfl, hm127⟩
    clear hm54
    rintro _ _ w128 ⟨rfl, g68, rfl, hm129⟩
    rw [show ((.bool (rootOk (ra % PP))) : Value) = .bool false from by rw [hok]]
    refine then_n (hK55 _ _ ?_)
    refine wp_seq_k (fun K130 hK130 => ?_)
    refine wp_seq_k (fun K131 hK131 => ?_)
    refine wp_region_lit ?_
    refine lv 53 (.bool false) rfl rfl (run_mv rfl rfl) ?_
    simp only [nz1, nz2, nz3]
    refine lv 54 (.bool true) rfl rfl (r_not false rfl rfl) ?_
    simp only [nz1, nz2, nz3]
    refine lv 55 (.bool true) rfl rfl (run_mv rfl rfl) ?_
    simp only [nz1, nz2, nz3]
    refine lst_skip 56 rfl rfl ?_
    simp only [nz1, nz2, nz3]
    refine lst_skip 57 rfl rfl ?_
    simp only [nz1, nz2, nz3]
    refine lst_skip 58 rfl rfl ?_
    simp only [nz1, nz2, nz3]
    refine lst_skip 59 rfl rfl ?_
    simp only [nz1, nz2, nz3]
    refine lst_skip 60 rfl rfl ?_
    simp only [nz1, nz2, nz3]
    refine lst_skip 61 rfl rfl ?_
    simp only [nz1, nz2, nz3]
    refine lv 62 (.bool true) rfl rfl (run_pick rfl rfl rfl) ?_
    simp only [nz1, nz2, nz3]
    refine wpList_nil ?_
    refine then_n (hK131 _ _ ?_)
    refine cond_t rfl ?_
    refine wp_seq_k (fun K132 hK132 => ?_)
    refine wp_region_lit ?_
    refine lv 63 (.agg (pt 0 0 0 0)) rfl rfl (by unfold execOp; go_simp; rfl) ?_
    simp only [nz1, nz2, nz3]
    refine lst (wanted_none rfl) (m_store 0 25 _ _ (pt 0 0 0 0) (old := pt 0 0 0 0) hm129 rfl rfl rfl rfl rfl (by rw [pt_sz]; exact info_p) ((pt_sz _ _ _ _).trans (pt_sz _ _ _ _).symm) (pt_one _ _ _ _) (fun w133 (hm134 : Mm w w133 [(g2, pt 0 0 0 0, 25), (g8, bs (upY s), 23), (g38, bs sq, 23), (g50, bs den, 23), (g68, bs xv, 23)]) => ?_))
    refine lv 3 (.bool false) rfl rfl (run_as rfl rfl) ?_
    simp only [nz1, nz2, nz3]
    refine wpList_nil ?_
    refine then_n (hK132 _ _ ?_)
    refine wp_ret ?_
    refine then_r ?_
    exact ⟨rfl, .tuple #[.agg (pt 0 0 0 0), .bool false], res_ct rfl rfl (hm134.at 0 rfl) Tryd.underlying25 rfl (by rw [pt_sz]; exact info_p) rfl, ⟨rfl, hm134.below⟩⟩
set_option maxHeartbeats 4000000 in
set_option maxRecDepth 100000 in
theorem un_even (s : ByteArray) (sq ds den nu di ra xv : Nat) (h1 : fM (upY s) (upY s) = sq) (h2 : fM dN sq = ds) (h3 : fA ds 1 = den) (h4 : fS sq 1 = nu) (h5 : fI den = di) (h6 : fM nu di = ra) (h7 : rootV (ra % PP) = xv) (hs : s.size = 32) (ho : ¬ 127 < bt (n32 s) 31) (hc : upY s < PP) (hok : rootOk (ra % PP) = true) (w : World) (hd : DD w) : Calls Tryd.prog 10 #[.string s] w (fun e w' => e = .returned (.tuple #[.agg (pt (xv) (upY s) 1 (fM (xv) (upY s))), .bool true]) ∧ Below w.heap.size w w') := by
  go_enter Tryd.func10, Tryd.ntmps10
  have hm0 := Mm.nil w
  refine wp_seq_k (fun K1 hK1 => ?_)
  refine wp_region_lit ?_
  refine lst (wanted_none rfl) (m_alloc (c := pt 0 0 0 0) (T := 25) hm0 2 rfl (al_P rfl) (fun g2 w3 (hm4 : Mm w w3 [(g2, pt 0 0 0 0, 25)]) => ?_))
  simp only [nz1, nz2, nz3]
  refine lv 3 (.bool false) rfl rfl (run_as rfl rfl) ?_
  simp only [nz1, nz2, nz3]
  refine wpList_nil ?_
  refine then_n (hK1 _ _ ?_)
  refine wp_seq_k (fun K5 hK5 => ?_)
  refine wp_seq_k (fun K6 hK6 => ?_)
  refine wp_region_lit ?_
  refine lv 11 (.string s) rfl rfl (run_mv rfl rfl) ?_
  simp only [nz1, nz2, nz3]
  refine lv 12 (.int .i64 ((s.size : Nat) : Int)) rfl rfl (r_len rfl Tryd.underlying9 rfl) ?_
  simp only [nz1, nz2, nz3]
  refine lv 13 (.bool (decide (¬ s.size = 32))) rfl rfl (r_neq s.size 32 rfl rfl rfl) ?_
  simp only [nz1, nz2, nz3]
  refine wpList_nil ?_
  refine then_n (hK6 _ _ ?_)
  refine cond_df (¬ s.size = 32) rfl (fun hn => hn hs) ?_
  refine wp_skip ?_
  refine then_n (hK5 _ _ ?_)
  refine wp_seq_k (fun K7 hK7 => ?_)
  refine wp_region_lit ?_
  refine lst (wanted_none rfl) (m_alloc (c := bs 0) (T := 23) hm4 4 rfl (run_alN rfl) (fun g8 w9 (hm10 : Mm w w9 [(g2, pt 0 0 0 0, 25), (g8, bs 0, 23)]) => ?_))
  simp only [nz1, nz2, nz3]
  refine wpList_nil ?_
  refine then_n (hK7 _ _ ?_)
  refine wp_seq_k (fun K11 hK11 => ?_)
  refine wp_seq_k (fun K12 hK12 => ?_)
  refine wp_region_lit ?_
  refine lv 15 (.int .i64 0) rfl rfl (run_mv rfl rfl) ?_
  simp only [nz1, nz2, nz3]
  refine wpList_nil ?_
  have hm13 : Mm w w9 [(g2, pt 0 0 0 0, 25), (g8, rowOf .u8 (pb (sb s) 0) 32, 23)] := by rw [show (rowOf .u8 (pb (sb s) 0) 32 : Array Value) = bs 0 from pb_none _]; exact hm10
  refine then_n (hK12 _ _ ?_)
  refine wp_block ?_
  refine wp_loop_n (fun n' a' w' => ∃ (k : Nat) (u0 : Nat → Value), n' = 32 - k ∧ (k ≤ 32) ∧ a' = ⟨#[.string s, undef, .pointer (some ⟨g2, 0, none⟩), .bool false, .pointer (some ⟨g8, 0, none⟩), u0 0, undef, undef, undef, undef, undef, .string s, .int .i64 ((s.size : Nat) : Int), .bool (decide (¬ s.size = 32)), undef, .int .i64 ((k : Nat) : Int), u0 1, u0 2, u0 3, u0 4, u0 5, u0 6, u0 7, u0 8, undef, undef, undef, undef, undef, undef, undef, undef, undef, undef, undef, undef, undef, undef, undef, undef, undef, undef, undef, undef, undef, undef, undef, undef, undef, undef, undef, undef, undef, undef, undef, undef, undef, undef, undef, undef, undef, undef, undef, undef, undef, undef, undef, undef, undef, undef, undef, undef, undef, undef], []⟩ ∧ Mm w w' [(g2, pt 0 0 0 0, 25), (g8, rowOf .u8 (pb (sb s) k) 32, 23)]) ⟨0, (fun qq => List.getD [undef, undef, undef, undef, undef, undef, undef, undef, undef] qq undef), rfl, (by omega), rfl, hm13⟩ ?_
  clear hm13
  rintro _ _ w14 ⟨k, u0, hn0, hk, rfl, hm15⟩ R16 hR16
  refine wp_seq_k (fun K17 hK17 => ?_)
  refine wp_region_lit ?_
  refine lv 16 (.bool (decide (k < 32))) rfl rfl (r_lss k 32 rfl rfl rfl) ?_
  simp only [nz1, nz2, nz3]
  refine wpList_nil ?_
  refine then_n (hK17 _ _ ?_)
  refine wp_seq_k (fun K18 hK18 => ?_)
  refine cond_d (k < 32) rfl (fun hc19 => ?_) (fun hc19 => ?_)
  · refine wp_skip ?_
    refine then_n (hK18 _ _ ?_)
    refine wp_seq_k (fun K20 hK20 => ?_)
    refine wp_block ?_
    refine wp_seq_k (fun K21 hK21 => ?_)
    refine wp_region_lit ?_
    refine lv 17 (.int .i64 ((k : Nat) : Int)) rfl rfl (run_mv rfl rfl) ?_
    simp only [nz1, nz2, nz3]
    refine lv 5 (.int .i64 ((k : Nat) : Int)) rfl rfl (run_as rfl rfl) ?_
    simp only [nz1, nz2, nz3]
    refine wpList_nil ?_
    refine then_n (hK21 _ _ ?_)
    refine wp_region_lit ?_
    refine lv 18 (.int .i64 ((k : Nat) : Int)) rfl rfl (run_mv rfl rfl) ?_
    simp only [nz1, nz2, nz3]
    refine lv 19 (.string s) rfl rfl (run_mv rfl rfl) ?_
    simp only [nz1, nz2, nz3]
    refine lv 20 (.int .i64 ((k : Nat) : Int)) rfl rfl (run_mv rfl rfl) ?_
    simp only [nz1, nz2, nz3]
    refine lv 21 (.int .u8 (((sb s k) : Nat) : Int)) rfl rfl (r_char k (sb s k) (by omega) (sb_at s k _) Tryd.underlying9 rfl rfl rfl) ?_
    simp only [nz1, nz2, nz3]
    refine lv 22 (.pointer (some ⟨g8, k, none⟩)) rfl rfl (r_ix g8 k (by omega) Tryd.underlying23 one_u8 rfl rfl rfl) ?_
    simp only [nz1, nz2, nz3]
    refine lst (wanted_none rfl) (m_put 1 (new := rowOf .u8 (up (pb (sb s) k) k (sb s k)) 32) k (.int .u8 (((sb s k) : Nat) : Int)) (old := rowOf .u8 (pb (sb s) k) 32) hm15 rfl rfl (p_cell (n := 32) (f := (pb (sb s) k)) g8 k (sb s k) (by omega) (hm15.at 1 rfl) rfl one_u8 rfl rfl) (rowOf_set _ _ _ _ _) (fun w22 (hm23 : Mm w w22 [(g2, pt 0 0 0 0, 25), (g8, rowOf .u8 (up (pb (sb s) k) k (sb s k)) 32, 23)]) => ?_))
    refine wpList_nil ?_
    have hm24 : Mm w w22 [(g2, pt 0 0 0 0, 25), (g8, rowOf .u8 (pb (sb s) (k + 1)) 32, 23)] := by rw [show (rowOf .u8 (pb (sb s) (k + 1)) 32 : Array Value) = rowOf .u8 (up (pb (sb s) k) k (sb s k)) 32 from by rw [pb_up]]; exact hm23
    refine blk_n ?_
    refine then_n (hK20 _ _ ?_)
    refine wp_region_lit ?_
    refine lv 23 (.int .i64 (((k + 1) : Nat) : Int)) rfl rfl (r_add k 1 (show (k + 1) < 9223372036854775808 from by omega) rfl rfl rfl) ?_
    simp only [nz1, nz2, nz3]
    refine lv 15 (.int .i64 (((k + 1) : Nat) : Int)) rfl rfl (run_mv rfl rfl) ?_
    simp only [nz1, nz2, nz3]
    refine wpList_nil ?_
    refine then_n (hR16 _ _ _ ⟨(k + 1), (fun qq => List.getD [.int .i64 ((k : Nat) : Int), .bool (decide (k < 32)), .int .i64 ((k : Nat) : Int), .int .i64 ((k : Nat) : Int), .string s, .int .i64 ((k : Nat) : Int), .int .u8 (((sb s k) : Nat) : Int), .pointer (some ⟨g8, k, none⟩), .int .i64 (((k + 1) : Nat) : Int)] qq undef), rfl, (by omega), rfl, hm24⟩ ?_)
    omega
  · obtain rfl : k = 32 := by omega
    have hm25 : Mm w w14 [(g2, pt 0 0 0 0, 25), (g8, bs (n32 s), 23)] := by rw [show (bs (n32 s) : Array Value) = rowOf .u8 (pb (sb s) 32) 32 from n32_row s]; exact hm15
    refine wp_exit ?_
    refine then_x ?_
    refine then_x ?_
    refine blk_x ?_
    refine then_n (hK11 _ _ ?_)
    refine wp_seq_k (fun K26 hK26 => ?_)
    refine wp_region_lit ?_
    refine lv 24 (.pointer (some ⟨g8, 31, none⟩)) rfl rfl (r_ix g8 31 (by decide) Tryd.underlying23 one_u8 rfl rfl rfl) ?_
    simp only [nz1, nz2, nz3]
    refine lv 25 (.int .u8 (((bt (n32 s)) 31 : Nat) : Int)) rfl rfl (r_cell (f := (bt (n32 s))) (n := 32) g8 31 (by decide) (hm25.at 1 rfl) Tryd.underlying5 rfl rfl) ?_
    simp only [nz1, nz2, nz3]
    refine lv 26 (.bool (decide (127 < (bt (n32 s)) 31))) rfl rfl (r_gtr ((bt (n32 s)) 31) 127 rfl rfl rfl) ?_
    simp only [nz1, nz2, nz3]
    refine lv 6 (.bool (decide (127 < (bt (n32 s)) 31))) rfl rfl (run_as rfl rfl) ?_
    simp only [nz1, nz2, nz3]
    refine wpList_nil ?_
    rw [show ((.bool (decide (127 < (bt (n32 s)) 31))) : Value) = .bool false from by rw [decide_eq_false ho]]
    refine then_n (hK26 _ _ ?_)
    refine wp_seq_k (fun K27 hK27 => ?_)
    refine wp_region_lit ?_
    refine lv 27 (.pointer (some ⟨g8, 31, none⟩)) rfl rfl (r_ix g8 31 (by decide) Tryd.underlying23 one_u8 rfl rfl rfl) ?_
    simp only [nz1, nz2, nz3]
    refine lv 28 (.int .u8 (((bt (n32 s)) 31 : Nat) : Int)) rfl rfl (r_cell (f := (bt (n32 s))) (n := 32) g8 31 (by decide) (hm25.at 1 rfl) Tryd.underlying5 rfl rfl) ?_
    simp only [nz1, nz2, nz3]
    refine lv 29 (.int .u8 (((bt (n32 s) 31 % 128) : Nat) : Int)) rfl rfl (r_andx ((bt (n32 s)) 31) 127 8 (bt (n32 s) 31 % 128) (by decide) (bt_lt _ _) (by decide) (show _ &&& (2 ^ 7 - 1) = _ from Nat.and_two_pow_sub_one_eq_mod _ 7) rfl rfl rfl) ?_
    simp only [nz1, nz2, nz3]
    refine lv 30 (.pointer (some ⟨g8, 31, none⟩)) rfl rfl (r_ix g8 31 (by decide) Tryd.underlying23 one_u8 rfl rfl rfl) ?_
    simp only [nz1, nz2, nz3]
    refine lst (wanted_none rfl) (m_put 1 (new := rowOf .u8 (up (bt (n32 s)) 31 (bt (n32 s) 31 % 128)) 32) 31 (.int .u8 (((bt (n32 s) 31 % 128) : Nat) : Int)) (old := bs (n32 s)) hm25 rfl rfl (p_cell (n := 32) (f := (bt (n32 s))) g8 31 (bt (n32 s) 31 % 128) (by decide) (hm25.at 1 rfl) rfl one_u8 rfl rfl) (rowOf_set _ _ _ _ _) (fun w28 (hm29 : Mm w w28 [(g2, pt 0 0 0 0, 25), (g8, rowOf .u8 (up (bt (n32 s)) 31 (bt (n32 s) 31 % 128)) 32, 23)]) => ?_))
    refine wpList_nil ?_
    have hm30 : Mm w w28 [(g2, pt 0 0 0 0, 25), (g8, bs (upY s), 23)] := by rw [show (bs (upY s) : Array Value) = rowOf .u8 (up (bt (n32 s)) 31 (bt (n32 s) 31 % 128)) 32 from cut_bit _]; exact hm29
    refine then_n (hK27 _ _ ?_)
    refine wp_seq_k (fun K31 hK31 => ?_)
    refine wp_seq_k (fun K32 hK32 => ?_)
    refine wp_region_lit ?_
    refine lv 31 (.agg (bs (upY s))) rfl rfl (run_row rfl rfl (hm30.at 1 rfl) Tryd.underlying23 rfl (by rw [bs_sz]; exact info_b)) ?_
    simp only [nz1, nz2, nz3]
    refine lst (wanted_none rfl) (m_call hm30 32 (.bool (decide ((upY s) < PP))) rfl (run_fCanon rfl rfl) (canon_any (upY s) (upY_lt s) _) (fun w33 hm34 => ?_))
    simp only [nz1, nz2, nz3]
    refine lv 33 (.bool (decide (¬ ((upY s) < PP)))) rfl rfl (r_notD ((upY s) < PP) rfl rfl) ?_
    simp only [nz1, nz2, nz3]
    refine wpList_nil ?_
    refine then_n (hK32 _ _ ?_)
    refine cond_df (¬ ((upY s) < PP)) rfl (fun hn => hn hc) ?_
    refine wp_skip ?_
    refine then_n (hK31 _ _ ?_)
    refine wp_seq_k (fun K35 hK35 => ?_)
    refine wp_region_lit ?_
    refine lv 35 (.agg (bs (upY s))) rfl rfl (run_row rfl rfl (hm34.at 1 rfl) Tryd.underlying23 rfl (by rw [bs_sz]; exact info_b)) ?_
    simp only [nz1, nz2, nz3]
    refine lv 36 (.agg (bs (upY s))) rfl rfl (run_row rfl rfl (hm34.at 1 rfl) Tryd.underlying23 rfl (by rw [bs_sz]; exact info_b)) ?_
    simp only [nz1, nz2, nz3]
    refine lst (wanted_none rfl) (m_call hm34 37 (.agg (bs sq)) rfl (run_fMul rfl rfl rfl) (mulu_g (upY s) (upY s) sq (upY_lt s) (upY_lt s) h1 _) (fun w36 hm37 => ?_))
    simp only [nz1, nz2, nz3]
    refine lst (wanted_none rfl) (m_alloc (c := bs 0) (T := 23) hm37 7 rfl (run_alN rfl) (fun g38 w39 (hm40 : Mm w w39 [(g2, pt 0 0 0 0, 25), (g8, bs (upY s), 23), (g38, bs 0, 23)]) => ?_))
    simp only [nz1, nz2, nz3]
    refine lst (wanted_none rfl) (m_store 2 23 _ _ (bs sq) (old := bs 0) hm40 rfl rfl rfl rfl rfl (by rw [bs_sz]; exact info_b) ((bs_sz _).trans (bs_sz _).symm) (bs_one _) (fun w41 (hm42 : Mm w w41 [(g2, pt 0 0 0 0, 25), (g8, bs (upY s), 23), (g38, bs sq, 23)]) => ?_))
    refine wpList_nil ?_
    refine then_n (hK35 _ _ ?_)
    refine wp_seq_k (fun K43 hK43 => ?_)
    refine wp_region_lit ?_
    refine lv 38 (.agg (bs dN)) rfl rfl (run_row rfl rfl (kept hd hm42.below) Tryd.underlying23 rfl (by rw [bs_sz]; exact info_b)) ?_
    simp only [nz1, nz2, nz3]
    refine lv 39 (.agg (bs sq)) rfl rfl (run_row rfl rfl (hm42.at 2 rfl) Tryd.underlying23 rfl (by rw [bs_sz]; exact info_b)) ?_
    simp only [nz1, nz2, nz3]
    refine lst (wanted_none rfl) (m_call hm42 40 (.agg (bs ds)) rfl (run_fMul rfl rfl rfl) (mulu_g dN sq ds dN_lt (h1 ▸ f_lt (fM_lt _ _)) h2 _) (fun w44 hm45 => ?_))
    simp only [nz1, nz2, nz3]
    refine lst (wanted_none rfl) (m_call hm45 41 (.agg (bs 1)) rfl (run_pone rfl) (one_any _) (fun w46 hm47 => ?_))
    simp only [nz1, nz2, nz3]
    refine lst (wanted_none rfl) (m_call hm47 42 (.agg (bs den)) rfl (run_fAdd rfl rfl rfl) (addu_g ds 1 den (h2 ▸ f_lt (fM_lt _ _)) (by decide) h3 _) (fun w48 hm49 => ?_))
    simp only [nz1, nz2, nz3]
    refine lst (wanted_none rfl) (m_alloc (c := bs 0) (T := 23) hm49 8 rfl (run_alN rfl) (fun g50 w51 (hm52 : Mm w w51 [(g2, pt 0 0 0 0, 25), (g8, bs (upY s), 23), (g38, bs sq, 23), (g50, bs 0, 23)]) => ?_))
    simp only [nz1, nz2, nz3]
    refine lst (wanted_none rfl) (m_store 3 23 _ _ (bs den) (old := bs 0) hm52 rfl rfl rfl rfl rfl (by rw [bs_sz]; exact info_b) ((bs_sz _).trans (bs_sz _).symm) (bs_one _) (fun w53 (hm54 : Mm w w53 [(g2, pt 0 0 0 0, 25), (g8, bs (upY s), 23), (g38, bs sq, 23), (g50, bs den, 23)]) => ?_))
    refine wpList_nil ?_
    refine then_n (hK43 _ _ ?_)
    refine wp_seq_k (fun K55 hK55 => ?_)
    refine wp_mono (Q := fun e a' w' => e = Exit.normal ∧ ∃ g68 : Nat, a' = ⟨#[.string s, undef, .pointer (some ⟨g2, 0, none⟩), .bool false, .pointer (some ⟨g8, 0, none⟩), u0 0, .bool false, .pointer (some ⟨g38, 0, none⟩), .pointer (some ⟨g50, 0, none⟩), .pointer (some ⟨g68, 0, none⟩), .bool (rootOk (ra % PP)), .string s, .int .i64 ((s.size : Nat) : Int), .bool (decide (¬ s.size = 32)), undef, .int .i64 32, .bool (decide (32 < 32)), u0 2, u0 3, u0 4, u0 5, u0 6, u0 7, u0 8, .pointer (some ⟨g8, 31, none⟩), .int .u8 (((bt (n32 s)) 31 : Nat) : Int), .bool false, .pointer (some ⟨g8, 31, none⟩), .int .u8 (((bt (n32 s)) 31 : Nat) : Int), .int .u8 (((bt (n32 s) 31 % 128) : Nat) : Int), .pointer (some ⟨g8, 31, none⟩), .agg (bs (upY s)), .bool (decide ((upY s) < PP)), .bool (decide (¬ ((upY s) < PP))), undef, .agg (bs (upY s)), .agg (bs (upY s)), .agg (bs sq), .agg (bs dN), .agg (bs sq), .agg (bs ds), .agg (bs 1), .agg (bs den), .tuple #[.agg (bs xv), .bool (rootOk (ra % PP))], .agg (bs sq), .agg (bs 1), .agg (bs nu), .agg (bs den), .agg (bs di), .agg (bs ra), .tuple #[.agg (bs xv), .bool (rootOk (ra % PP))], .agg (bs xv), .bool (rootOk (ra % PP)), undef, undef, undef, undef, undef, undef, undef, undef, undef, undef, undef, undef, undef, undef, undef, undef, undef, undef, undef, undef, undef], []⟩ ∧ Mm w w' [(g2, pt 0 0 0 0, 25), (g8, bs (upY s), 23), (g38, bs sq, 23), (g50, bs den, 23), (g68, bs xv, 23)]) ?_ ?_
    · have hm56 := hm54.drew
      refine wp_region_held_drew (S := fun w' => Sym.Blk w' g38 (bs sq) 23 ∧ Sym.Blk w' g50 (bs den) 23) (by kernel_rfl) (⟨hm56.at 2 rfl, hm56.at 3 rfl⟩) (fun _ => ?_)
      generalize w53.drew = w57 at *
      refine Sym.take_at 0 44 (.agg (bs sq)) rfl rfl (by kernel_rfl) (by kernel_rfl) (by kernel_rfl) (fun _ _ _ h => nomatch h.1) rfl (fun _ hw => run_row rfl rfl hw.1 Tryd.underlying23 rfl (by rw [bs_sz]; exact info_b)) (⟨hm56.at 2 rfl, hm56.at 3 rfl⟩) ?_
      simp only [nz1, nz2, nz3]
      refine Sym.take_at 3 47 (.agg (bs den)) rfl rfl (by kernel_rfl) (by kernel_rfl) (by kernel_rfl) (fun _ _ _ h => nomatch h.1) rfl (fun _ hw => run_row rfl rfl hw.2 Tryd.underlying23 rfl (by rw [bs_sz]; exact info_b)) (⟨hm56.at 2 rfl, hm56.at 3 rfl⟩) ?_
      simp only [nz1, nz2, nz3]
      refine two_ready 1 10 (by kernel_rfl) ?_ ?_
      · refine opd rfl rfl (m_call hm56 45 (.agg (bs 1)) rfl (run_pone rfl) (one_any _) (fun w58 hm59 => ?_))
        refine ⟨⟨hm59.at 2 rfl, hm59.at 3 rfl⟩, ?_⟩
        simp only [nz1, nz2, nz3]
        refine two_ready 2 10 (by kernel_rfl) ?_ ?_
        · refine opd rfl rfl (m_call hm59 46 (.agg (bs nu)) rfl (run_fSub rfl rfl rfl) (subu_g sq 1 nu (h1 ▸ f_lt (fM_lt _ _)) (by decide) h4 _) (fun w60 hm61 => ?_))
          refine ⟨⟨hm61.at 2 rfl, hm61.at 3 rfl⟩, ?_⟩
          simp only [nz1, nz2, nz3]
          refine two_ready 4 10 (by kernel_rfl) ?_ ?_
          · refine opd rfl rfl (m_call hm61 48 (.agg (bs di)) rfl (run_fInv rfl rfl) (invu_g den di (h3 ▸ f_lt (fA_lt _ _)) h5 _) (fun w62 hm63 => ?_))
            refine ⟨⟨hm63.at 2 rfl, hm63.at 3 rfl⟩, ?_⟩
            simp only [nz1, nz2, nz3]
            refine two_ready 5 10 (by kernel_rfl) ?_ ?_
            · refine opd rfl rfl (m_call hm63 49 (.agg (bs ra)) rfl (run_fMul rfl rfl rfl) (mulu_g nu di ra (h4 ▸ f_lt (fS_lt _ _)) (h5 ▸ f_lt (fI_lt _)) h6 _) (fun w64 hm65 => ?_))
              refine ⟨⟨hm65.at 2 rfl, hm65.at 3 rfl⟩, ?_⟩
              simp only [nz1, nz2, nz3]
              refine two_ready 6 10 (by kernel_rfl) ?_ ?_
              · refine opd rfl rfl (m_call hm65 50 (.tuple #[.agg (bs xv), .bool (rootOk (ra % PP))]) rfl (run_fRoot rfl rfl) (rootu_g ra xv (h6 ▸ f_lt (fM_lt _ _)) h7 _) (fun w66 hm67 => ?_))
                refine ⟨⟨hm67.at 2 rfl, hm67.at 3 rfl⟩, ?_⟩
                simp only [nz1, nz2, nz3]
                refine Sym.take_at 7 43 (.tuple #[.agg (bs xv), .bool (rootOk (ra % PP))]) rfl rfl (by kernel_rfl) (by kernel_rfl) (by kernel_rfl) (fun _ _ _ h => nomatch h.1) rfl (fun _ hw => run_mv rfl rfl) (⟨hm67.at 2 rfl, hm67.at 3 rfl⟩) ?_
                simp only [nz1, nz2, nz3]
                refine Sym.take_at 8 51 (.agg (bs xv)) rfl rfl (by kernel_rfl) (by kernel_rfl) (by kernel_rfl) (fun _ _ _ h => nomatch h.1) rfl (fun _ hw => run_ex rfl rfl rfl) (⟨hm67.at 2 rfl, hm67.at 3 rfl⟩) ?_
                simp only [nz1, nz2, nz3]
                refine Sym.take_at 9 52 (.bool (rootOk (ra % PP))) rfl rfl (by kernel_rfl) (by kernel_rfl) (by kernel_rfl) (fun _ _ _ h => nomatch h.1) rfl (fun _ hw => run_ex rfl rfl rfl) (⟨hm67.at 2 rfl, hm67.at 3 rfl⟩) ?_
                simp only [nz1, nz2, nz3]
                refine one_ready 10 (by kernel_rfl) ?_
                refine opd rfl rfl (m_alloc (c := bs 0) (T := 23) hm67 9 rfl (run_alN rfl) (fun g68 w69 hm70 => ?_))
                refine ⟨⟨hm70.at 2 rfl, hm70.at 3 rfl⟩, ?_⟩
                simp only [nz1, nz2, nz3]
                refine one_ready 11 (by kernel_rfl) ?_
                refine opd rfl rfl (m_store 4 23 _ _ (bs xv) (old := bs 0) hm70 rfl rfl rfl rfl rfl (by rw [bs_sz]; exact info_b) ((bs_sz _).trans (bs_sz _).symm) (bs_one _) (fun w71 hm72 => ?_))
                refine ⟨⟨hm72.at 2 rfl, hm72.at 3 rfl⟩, ?_⟩
                refine one_ready 12 (by kernel_rfl) ?_
                refine opd rfl rfl (w_value 10 (.bool (rootOk (ra % PP))) rfl (run_as rfl rfl) ⟨⟨hm72.at 2 rfl, hm72.at 3 rfl⟩, ?_⟩)
                simp only [nz1, nz2, nz3]
                refine wpAnyH_done (by kernel_rfl) ?_ _
                exact ⟨rfl, g68, rfl, hm72⟩
              · refine opd rfl rfl (m_alloc (c := bs 0) (T := 23) hm65 9 rfl (run_alN rfl) (fun g73 w74 hm75 => ?_))
                refine ⟨⟨hm75.at 2 rfl, hm75.at 3 rfl⟩, ?_⟩
                simp only [nz1, nz2, nz3]
                refine one_ready 6 (by kernel_rfl) ?_
                refine opd rfl rfl (m_call hm75 50 (.tuple #[.agg (bs xv), .bool (rootOk (ra % PP))]) rfl (run_fRoot rfl rfl) (rootu_g ra xv (h6 ▸ f_lt (fM_lt _ _)) h7 _) (fun w76 hm77 => ?_))
                refine ⟨⟨hm77.at 2 rfl, hm77.at 3 rfl⟩, ?_⟩
                simp only [nz1, nz2, nz3]
                refine Sym.take_at 7 43 (.tuple #[.agg (bs xv), .bool (rootOk (ra % PP))]) rfl rfl (by kernel_rfl) (by kernel_rfl) (by kernel_rfl) (fun _ _ _ h => nomatch h.1) rfl (fun _ hw => run_mv rfl rfl) (⟨hm77.at 2 rfl, hm77.at 3 rfl⟩) ?_
                simp only [nz1, nz2, nz3]
                refine Sym.take_at 8 51 (.agg (bs xv)) rfl rfl (by kernel_rfl) (by kernel_rfl) (by kernel_rfl) (fun _ _ _ h => nomatch h.1) rfl (fun _ hw => run_ex rfl rfl rfl) (⟨hm77.at 2 rfl, hm77.at 3 rfl⟩) ?_
                simp only [nz1, nz2, nz3]
                refine Sym.take_at 9 52 (.bool (rootOk (ra % PP))) rfl rfl (by kernel_rfl) (by kernel_rfl) (by kernel_rfl) (fun _ _ _ h => nomatch h.1) rfl (fun _ hw => run_ex rfl rfl rfl) (⟨hm77.at 2 rfl, hm77.at 3 rfl⟩) ?_
                simp only [nz1, nz2, nz3]
                refine one_ready 11 (by kernel_rfl) ?_
                refine opd rfl rfl (m_store 4 23 _ _ (bs xv) (old := bs 0) hm77 rfl rfl rfl rfl rfl (by rw [bs_sz]; exact info_b) ((bs_sz _).trans (bs_sz _).symm) (bs_one _) (fun w78 hm79 => ?_))
                refine ⟨⟨hm79.at 2 rfl, hm79.at 3 rfl⟩, ?_⟩
                refine one_ready 12 (by kernel_rfl) ?_
                refine opd rfl rfl (w_value 10 (.bool (rootOk (ra % PP))) rfl (run_as rfl rfl) ⟨⟨hm79.at 2 rfl, hm79.at 3 rfl⟩, ?_⟩)
                simp only [nz1, nz2, nz3]
                refine wpAnyH_done (by kernel_rfl) ?_ _
                exact ⟨rfl, g73, rfl, hm79⟩
            · refine opd rfl rfl (m_alloc (c := bs 0) (T := 23) hm63 9 rfl (run_alN rfl) (fun g80 w81 hm82 => ?_))
              refine ⟨⟨hm82.at 2 rfl, hm82.at 3 rfl⟩, ?_⟩
              simp only [nz1, nz2, nz3]
              refine one_ready 5 (by kernel_rfl) ?_
              refine opd rfl rfl (m_call hm82 49 (.agg (bs ra)) rfl (run_fMul rfl rfl rfl) (mulu_g nu di ra (h4 ▸ f_lt (fS_lt _ _)) (h5 ▸ f_lt (fI_lt _)) h6 _) (fun w83 hm84 => ?_))
              refine ⟨⟨hm84.at 2 rfl, hm84.at 3 rfl⟩, ?_⟩
              simp only [nz1, nz2, nz3]
              refine one_ready 6 (by kernel_rfl) ?_
              refine opd rfl rfl (m_call hm84 50 (.tuple #[.agg (bs xv), .bool (rootOk (ra % PP))]) rfl (run_fRoot rfl rfl) (rootu_g ra xv (h6 ▸ f_lt (fM_lt _ _)) h7 _) (fun w85 hm86 => ?_))
              refine ⟨⟨hm86.at 2 rfl, hm86.at 3 rfl⟩, ?_⟩
              simp only [nz1, nz2, nz3]
              refine Sym.take_at 7 43 (.tuple #[.agg (bs xv), .bool (rootOk (ra % PP))]) rfl rfl (by kernel_rfl) (by kernel_rfl) (by kernel_rfl) (fun _ _ _ h => nomatch h.1) rfl (fun _ hw => run_mv rfl rfl) (⟨hm86.at 2 rfl, hm86.at 3 rfl⟩) ?_
              simp only [nz1, nz2, nz3]
              refine Sym.take_at 8 51 (.agg (bs xv)) rfl rfl (by kernel_rfl) (by kernel_rfl) (by kernel_rfl) (fun _ _ _ h => nomatch h.1) rfl (fun _ hw => run_ex rfl rfl rfl) (⟨hm86.at 2 rfl, hm86.at 3 rfl⟩) ?_
              simp only [nz1, nz2, nz3]
              refine Sym.take_at 9 52 (.bool (rootOk (ra % PP))) rfl rfl (by kernel_rfl) (by kernel_rfl) (by kernel_rfl) (fun _ _ _ h => nomatch h.1) rfl (fun _ hw => run_ex rfl rfl rfl) (⟨hm86.at 2 rfl, hm86.at 3 rfl⟩) ?_
              simp only [nz1, nz2, nz3]
              refine one_ready 11 (by kernel_rfl) ?_
              refine opd rfl rfl (m_store 4 23 _ _ (bs xv) (old := bs 0) hm86 rfl rfl rfl rfl rfl (by rw [bs_sz]; exact info_b) ((bs_sz _).trans (bs_sz _).symm) (bs_one _) (fun w87 hm88 => ?_))
              refine ⟨⟨hm88.at 2 rfl, hm88.at 3 rfl⟩, ?_⟩
              refine one_ready 12 (by kernel_rfl) ?_
              refine opd rfl rfl (w_value 10 (.bool (rootOk (ra % PP))) rfl (run_as rfl rfl) ⟨⟨hm88.at 2 rfl, hm88.at 3 rfl⟩, ?_⟩)
              simp only [nz1, nz2, nz3]
              refine wpAnyH_done (by kernel_rfl) ?_ _
              exact ⟨rfl, g80, rfl, hm88⟩
          · refine opd rfl rfl (m_alloc (c := bs 0) (T := 23) hm61 9 rfl (run_alN rfl) (fun g89 w90 hm91 => ?_))
            refine ⟨⟨hm91.at 2 rfl, hm91.at 3 rfl⟩, ?_⟩
            simp only [nz1, nz2, nz3]
            refine one_ready 4 (by kernel_rfl) ?_
            refine opd rfl rfl (m_call hm91 48 (.agg (bs di)) rfl (run_fInv rfl rfl) (invu_g den di (h3 ▸ f_lt (fA_lt _ _)) h5 _) (fun w92 hm93 => ?_))
            refine ⟨⟨hm93.at 2 rfl, hm93.at 3 rfl⟩, ?_⟩
            simp only [nz1, nz2, nz3]
            refine one_ready 5 (by kernel_rfl) ?_
            refine opd rfl rfl (m_call hm93 49 (.agg (bs ra)) rfl (run_fMul rfl rfl rfl) (mulu_g nu di ra (h4 ▸ f_lt (fS_lt _ _)) (h5 ▸ f_lt (fI_lt _)) h6 _) (fun w94 hm95 => ?_))
            refine ⟨⟨hm95.at 2 rfl, hm95.at 3 rfl⟩, ?_⟩
            simp only [nz1, nz2, nz3]
            refine one_ready 6 (by kernel_rfl) ?_
            refine opd rfl rfl (m_call hm95 50 (.tuple #[.agg (bs xv), .bool (rootOk (ra % PP))]) rfl (run_fRoot rfl rfl) (rootu_g ra xv (h6 ▸ f_lt (fM_lt _ _)) h7 _) (fun w96 hm97 => ?_))
            refine ⟨⟨hm97.at 2 rfl, hm97.at 3 rfl⟩, ?_⟩
            simp only [nz1, nz2, nz3]
            refine Sym.take_at 7 43 (.tuple #[.agg (bs xv), .bool (rootOk (ra % PP))]) rfl rfl (by kernel_rfl) (by kernel_rfl) (by kernel_rfl) (fun _ _ _ h => nomatch h.1) rfl (fun _ hw => run_mv rfl rfl) (⟨hm97.at 2 rfl, hm97.at 3 rfl⟩) ?_
            simp only [nz1, nz2, nz3]
            refine Sym.take_at 8 51 (.agg (bs xv)) rfl rfl (by kernel_rfl) (by kernel_rfl) (by kernel_rfl) (fun _ _ _ h => nomatch h.1) rfl (fun _ hw => run_ex rfl rfl rfl) (⟨hm97.at 2 rfl, hm97.at 3 rfl⟩) ?_
            simp only [nz1, nz2, nz3]
            refine Sym.take_at 9 52 (.bool (rootOk (ra % PP))) rfl rfl (by kernel_rfl) (by kernel_rfl) (by kernel_rfl) (fun _ _ _ h => nomatch h.1) rfl (fun _ hw => run_ex rfl rfl rfl) (⟨hm97.at 2 rfl, hm97.at 3 rfl⟩) ?_
            simp only [nz1, nz2, nz3]
            refine one_ready 11 (by kernel_rfl) ?_
            refine opd rfl rfl (m_store 4 23 _ _ (bs xv) (old := bs 0) hm97 rfl rfl rfl rfl rfl (by rw [bs_sz]; exact info_b) ((bs_sz _).trans (bs_sz _).symm) (bs_one _) (fun w98 hm99 => ?_))
            refine ⟨⟨hm99.at 2 rfl, hm99.at 3 rfl⟩, ?_⟩
            refine one_ready 12 (by kernel_rfl) ?_
            refine opd rfl rfl (w_value 10 (.bool (rootOk (ra % PP))) rfl (run_as rfl rfl) ⟨⟨hm99.at 2 rfl, hm99.at 3 rfl⟩, ?_⟩)
            simp only [nz1, nz2, nz3]
            refine wpAnyH_done (by kernel_rfl) ?_ _
            exact ⟨rfl, g89, rfl, hm99⟩
        · refine opd rfl rfl (m_alloc (c := bs 0) (T := 23) hm59 9 rfl (run_alN rfl) (fun g100 w101 hm102 => ?_))
          refine ⟨⟨hm102.at 2 rfl, hm102.at 3 rfl⟩, ?_⟩
          simp only [nz1, nz2, nz3]
          refine one_ready 2 (by kernel_rfl) ?_
          refine opd rfl rfl (m_call hm102 46 (.agg (bs nu)) rfl (run_fSub rfl rfl rfl) (subu_g sq 1 nu (h1 ▸ f_lt (fM_lt _ _)) (by decide) h4 _) (fun w103 hm104 => ?_))
          refine ⟨⟨hm104.at 2 rfl, hm104.at 3 rfl⟩, ?_⟩
          simp only [nz1, nz2, nz3]
          refine one_ready 4 (by kernel_rfl) ?_
          refine opd rfl rfl (m_call hm104 48 (.agg (bs di)) rfl (run_fInv rfl rfl) (invu_g den di (h3 ▸ f_lt (fA_lt _ _)) h5 _) (fun w105 hm106 => ?_))
          refine ⟨⟨hm106.at 2 rfl, hm106.at 3 rfl⟩, ?_⟩
          simp only [nz1, nz2, nz3]
          refine one_ready 5 (by kernel_rfl) ?_
          refine opd rfl rfl (m_call hm106 49 (.agg (bs ra)) rfl (run_fMul rfl rfl rfl) (mulu_g nu di ra (h4 ▸ f_lt (fS_lt _ _)) (h5 ▸ f_lt (fI_lt _)) h6 _) (fun w107 hm108 => ?_))
          refine ⟨⟨hm108.at 2 rfl, hm108.at 3 rfl⟩, ?_⟩
          simp only [nz1, nz2, nz3]
          refine one_ready 6 (by kernel_rfl) ?_
          refine opd rfl rfl (m_call hm108 50 (.tuple #[.agg (bs xv), .bool (rootOk (ra % PP))]) rfl (run_fRoot rfl rfl) (rootu_g ra xv (h6 ▸ f_lt (fM_lt _ _)) h7 _) (fun w109 hm110 => ?_))
          refine ⟨⟨hm110.at 2 rfl, hm110.at 3 rfl⟩, ?_⟩
          simp only [nz1, nz2, nz3]
          refine Sym.take_at 7 43 (.tuple #[.agg (bs xv), .bool (rootOk (ra % PP))]) rfl rfl (by kernel_rfl) (by kernel_rfl) (by kernel_rfl) (fun _ _ _ h => nomatch h.1) rfl (fun _ hw => run_mv rfl rfl) (⟨hm110.at 2 rfl, hm110.at 3 rfl⟩) ?_
          simp only [nz1, nz2, nz3]
          refine Sym.take_at 8 51 (.agg (bs xv)) rfl rfl (by kernel_rfl) (by kernel_rfl) (by kernel_rfl) (fun _ _ _ h => nomatch h.1) rfl (fun _ hw => run_ex rfl rfl rfl) (⟨hm110.at 2 rfl, hm110.at 3 rfl⟩) ?_
          simp only [nz1, nz2, nz3]
          refine Sym.take_at 9 52 (.bool (rootOk (ra % PP))) rfl rfl (by kernel_rfl) (by kernel_rfl) (by kernel_rfl) (fun _ _ _ h => nomatch h.1) rfl (fun _ hw => run_ex rfl rfl rfl) (⟨hm110.at 2 rfl, hm110.at 3 rfl⟩) ?_
          simp only [nz1, nz2, nz3]
          refine one_ready 11 (by kernel_rfl) ?_
          refine opd rfl rfl (m_store 4 23 _ _ (bs xv) (old := bs 0) hm110 rfl rfl rfl rfl rfl (by rw [bs_sz]; exact info_b) ((bs_sz _).trans (bs_sz _).symm) (bs_one _) (fun w111 hm112 => ?_))
          refine ⟨⟨hm112.at 2 rfl, hm112.at 3 rfl⟩, ?_⟩
          refine one_ready 12 (by kernel_rfl) ?_
          refine opd rfl rfl (w_value 10 (.bool (rootOk (ra % PP))) rfl (run_as rfl rfl) ⟨⟨hm112.at 2 rfl, hm112.at 3 rfl⟩, ?_⟩)
          simp only [nz1, nz2, nz3]
          refine wpAnyH_done (by kernel_rfl) ?_ _
          exact ⟨rfl, g100, rfl, hm112⟩
      · refine opd rfl rfl (m_alloc (c := bs 0) (T := 23) hm56 9 rfl (run_alN rfl) (fun g113 w114 hm115 => ?_))
        refine ⟨⟨hm115.at 2 rfl, hm115.at 3 rfl⟩, ?_⟩
        simp only [nz1, nz2, nz3]
        refine one_ready 1 (by kernel_rfl) ?_
        refine opd rfl rfl (m_call hm115 45 (.agg (bs 1)) rfl (run_pone rfl) (one_any _) (fun w116 hm117 => ?_))
        refine ⟨⟨hm117.at 2 rfl, hm117.at 3 rfl⟩, ?_⟩
        simp only [nz1, nz2, nz3]
        refine one_ready 2 (by kernel_rfl) ?_
        refine opd rfl rfl (m_call hm117 46 (.agg (bs nu)) rfl (run_fSub rfl rfl rfl) (subu_g sq 1 nu (h1 ▸ f_lt (fM_lt _ _)) (by decide) h4 _) (fun w118 hm119 => ?_))
        refine ⟨⟨hm119.at 2 rfl, hm119.at 3 rfl⟩, ?_⟩
        simp only [nz1, nz2, nz3]
        refine one_ready 4 (by kernel_rfl) ?_
        refine opd rfl rfl (m_call hm119 48 (.agg (bs di)) rfl (run_fInv rfl rfl) (invu_g den di (h3 ▸ f_lt (fA_lt _ _)) h5 _) (fun w120 hm121 => ?_))
        refine ⟨⟨hm121.at 2 rfl, hm121.at 3 rfl⟩, ?_⟩
        simp only [nz1, nz2, nz3]
        refine one_ready 5 (by kernel_rfl) ?_
        refine opd rfl rfl (m_call hm121 49 (.agg (bs ra)) rfl (run_fMul rfl rfl rfl) (mulu_g nu di ra (h4 ▸ f_lt (fS_lt _ _)) (h5 ▸ f_lt (fI_lt _)) h6 _) (fun w122 hm123 => ?_))
        refine ⟨⟨hm123.at 2 rfl, hm123.at 3 rfl⟩, ?_⟩
        simp only [nz1, nz2, nz3]
        refine one_ready 6 (by kernel_rfl) ?_
        refine opd rfl rfl (m_call hm123 50 (.tuple #[.agg (bs xv), .bool (rootOk (ra % PP))]) rfl (run_fRoot rfl rfl) (rootu_g ra xv (h6 ▸ f_lt (fM_lt _ _)) h7 _) (fun w124 hm125 => ?_))
        refine ⟨⟨hm125.at 2 rfl, hm125.at 3 rfl⟩, ?_⟩
        simp only [nz1, nz2, nz3]
        refine Sym.take_at 7 43 (.tuple #[.agg (bs xv), .bool (rootOk (ra % PP))]) rfl rfl (by kernel_rfl) (by kernel_rfl) (by kernel_rfl) (fun _ _ _ h => nomatch h.1) rfl (fun _ hw => run_mv rfl rfl) (⟨hm125.at 2 rfl, hm125.at 3 rfl⟩) ?_
        simp only [nz1, nz2, nz3]
        refine Sym.take_at 8 51 (.agg (bs xv)) rfl rfl (by kernel_rfl) (by kernel_rfl) (by kernel_rfl) (fun _ _ _ h => nomatch h.1) rfl (fun _ hw => run_ex rfl rfl rfl) (⟨hm125.at 2 rfl, hm125.at 3 rfl⟩) ?_
        simp only [nz1, nz2, nz3]
        refine Sym.take_at 9 52 (.bool (rootOk (ra % PP))) rfl rfl (by kernel_rfl) (by kernel_rfl) (by kernel_rfl) (fun _ _ _ h => nomatch h.1) rfl (fun _ hw => run_ex rfl rfl rfl) (⟨hm125.at 2 rfl, hm125.at 3 rfl⟩) ?_
        simp only [nz1, nz2, nz3]
        refine one_ready 11 (by kernel_rfl) ?_
        refine opd rfl rfl (m_store 4 23 _ _ (bs xv) (old := bs 0) hm125 rfl rfl rfl rfl rfl (by rw [bs_sz]; exact info_b) ((bs_sz _).trans (bs_sz _).symm) (bs_one _) (fun w126 hm127 => ?_))
        refine ⟨⟨hm127.at 2 rfl, hm127.at 3 rfl⟩, ?_⟩
        refine one_ready 12 (by kernel_rfl) ?_
        refine opd rfl rfl (w_value 10 (.bool (rootOk (ra % PP))) rfl (run_as rfl rfl) ⟨⟨hm127.at 2 rfl, hm127.at 3 rfl⟩, ?_⟩)
        simp only [nz1, nz2, nz3]
        refine wpAnyH_done (by kernel_rfl) ?_ _
        exact ⟨rfl, g113, rfl, hm127⟩
    clear hm54
    rintro _ _ w128 ⟨rfl, g68, rfl, hm129⟩
    rw [show ((.bool (rootOk (ra % PP))) : Value) = .bool true from by rw [hok]]
    refine then_n (hK55 _ _ ?_)
    refine wp_seq_k (fun K130 hK130 => ?_)
    refine wp_seq_k (fun K131 hK131 => ?_)
    refine wp_region_lit ?_
    refine lv 53 (.bool true) rfl rfl (run_mv rfl rfl) ?_
    simp only [nz1, nz2, nz3]
    refine lv 54 (.bool false) rfl rfl (r_not true rfl rfl) ?_
    simp only [nz1, nz2, nz3]
    refine lv 55 (.bool false) rfl rfl (run_mv rfl rfl) ?_
    simp only [nz1, nz2, nz3]
    refine lst rfl (w_value 56 (.bool false) rfl (run_mv rfl rfl) ?_)
    simp only [nz1, nz2, nz3]
    refine lst rfl (w_value 57 (.bool false) rfl (run_mv rfl rfl) ?_)
    simp only [nz1, nz2, nz3]
    refine lst_skip 58 rfl rfl ?_
    simp only [nz1, nz2, nz3]
    refine lst_skip 59 rfl rfl ?_
    simp only [nz1, nz2, nz3]
    refine lst_skip 60 rfl rfl ?_
    simp only [nz1, nz2, nz3]
    refine lst rfl (w_value 61 (.bool false) rfl (run_pickf rfl rfl rfl) ?_)
    simp only [nz1, nz2, nz3]
    refine lv 62 (.bool false) rfl rfl (run_pickf rfl rfl rfl) ?_
    simp only [nz1, nz2, nz3]
    refine wpList_nil ?_
    refine then_n (hK131 _ _ ?_)
    refine cond_f rfl ?_
    refine wp_skip ?_
    refine then_n (hK130 _ _ ?_)
    refine wp_seq_k (fun K132 hK132 => ?_)
    refine wp_seq_k (fun K133 hK133 => ?_)
    refine wp_region_lit ?_
    refine lv 64 (.bool false) rfl rfl (run_mv rfl rfl) ?_
    simp only [nz1, nz2, nz3]
    refine wpList_nil ?_
    refine then_n (hK133 _ _ ?_)
    refine cond_f rfl ?_
    refine wp_skip ?_
    refine then_n (hK132 _ _ ?_)
    refine wp_seq_k (fun K134 hK134 => ?_)
    have hm135 := hm129.drew
    refine wp_region_held_drew (S := fun w' => Sym.Blk w' g68 (bs xv) 23 ∧ Sym.Blk w' g8 (bs (upY s)) 23) (by kernel_rfl) (⟨hm135.at 4 rfl, hm135.at 1 rfl⟩) (fun _ => ?_)
    generalize w128.drew = w136 at *
    refine tk 0 67 (.agg (bs xv)) rfl rfl (fun _ hw => run_row rfl rfl hw.1 Tryd.underlying23 rfl (by rw [bs_sz]; exact info_b)) (⟨hm135.at 4 rfl, hm135.at 1 rfl⟩) ?_
    simp only [nz1, nz2, nz3]
    refine tk 1 68 (.agg (bs (upY s))) rfl rfl (fun _ hw => run_row rfl rfl hw.2 Tryd.underlying23 rfl (by rw [bs_sz]; exact info_b)) (⟨hm135.at 4 rfl, hm135.at 1 rfl⟩) ?_
    simp only [nz1, nz2, nz3]
    refine tk 3 70 (.agg (bs xv)) rfl rfl (fun _ hw => run_row rfl rfl hw.1 Tryd.underlying23 rfl (by rw [bs_sz]; exact info_b)) (⟨hm135.at 4 rfl, hm135.at 1 rfl⟩) ?_
    simp only [nz1, nz2, nz3]
    refine tk 4 71 (.agg (bs (upY s))) rfl rfl (fun _ hw => run_row rfl rfl hw.2 Tryd.underlying23 rfl (by rw [bs_sz]; exact info_b)) (⟨hm135.at 4 rfl, hm135.at 1 rfl⟩) ?_
    simp only [nz1, nz2, nz3]
    refine one_ready 2 (by kernel_rfl) ?_
    refine opd rfl (wanted_none rfl) (m_call hm135 69 (.agg (bs 1)) rfl (run_pone rfl) (one_any _) (fun w137 hm138 => ?_))
    refine ⟨⟨hm138.at 4 rfl, hm138.at 1 rfl⟩, ?_⟩
    simp only [nz1, nz2, nz3]
    refine one_ready 5 (by kernel_rfl) ?_
    refine opd rfl (wanted_none rfl) (m_call hm138 72 (.agg (bs (fM xv (upY s)))) rfl (run_fMul rfl rfl rfl) (mul_f xv (upY s) (h7 ▸ rootu_lt _) (upY_lt s) _) (fun w139 hm140 => ?_))
    refine ⟨⟨hm140.at 4 rfl, hm140.at 1 rfl⟩, ?_⟩
    simp only [nz1, nz2, nz3]
    refine tk 6 73 (.agg (pt xv (upY s) 1 (fM xv (upY s)))) rfl rfl (fun _ hw => run_bdP xv (upY s) 1 (fM xv (upY s)) rfl rfl rfl rfl rfl) (⟨hm140.at 4 rfl, hm140.at 1 rfl⟩) ?_
    simp only [nz1, nz2, nz3]
    refine one_ready 7 (by kernel_rfl) ?_
    refine opd rfl (wanted_none rfl) (m_store 0 25 _ _ (pt xv (upY s) 1 (fM xv (upY s))) (old := pt 0 0 0 0) hm140 rfl rfl rfl rfl rfl (by rw [pt_sz]; exact info_p) ((pt_sz _ _ _ _).trans (pt_sz _ _ _ _).symm) (pt_one _ _ _ _) (fun w141 (hm142 : Mm w w141 [(g2, pt xv (upY s) 1 (fM xv (upY s)), 25), (g8, bs (upY s), 23), (g38, bs sq, 23), (g50, bs den, 23), (g68, bs xv, 23)]) => ?_))
    refine ⟨⟨hm142.at 4 rfl, hm142.at 1 rfl⟩, ?_⟩
    refine one_ready 8 (by kernel_rfl) ?_
    refine opd rfl (wanted_none rfl) (w_value 3 (.bool true) rfl (run_as rfl rfl) ⟨⟨hm142.at 4 rfl, hm142.at 1 rfl⟩, ?_⟩)
    simp only [nz1, nz2, nz3]
    refine wpAnyH_done (by kernel_rfl) ?_ _
    refine then_n (hK134 _ _ ?_)
    refine wp_ret ?_
    exact ⟨rfl, .tuple #[.agg (pt xv (upY s) 1 (fM xv (upY s))), .bool true], res_ct rfl rfl (hm142.at 0 rfl) Tryd.underlying25 rfl (by rw [pt_sz]; exact info_p) rfl, ⟨rfl, hm142.below⟩⟩
end Go.Proofs.YtfpphinnngblgaaDoor.Fld
