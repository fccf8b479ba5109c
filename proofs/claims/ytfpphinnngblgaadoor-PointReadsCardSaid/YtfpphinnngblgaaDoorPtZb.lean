/- Layer 5: a point out of its bytes, the document's, in parts. Layer 5: a point out of its bytes, the document's, in parts. -/
import Derived.Test.YtfpphinnngblgaaDoorPtZa
namespace Go.Proofs.YtfpphinnngblgaaDoor.Fld
open Go.RowKit Go.Lib
open Go.Proofs.YtfpphinnngblgaaDoor.Num (val up val_congr val_add val_lt val_up val_digits val_word)
open Go.Proofs.YtfpphinnngblgaaDoor.Arr Go.Proofs.YtfpphinnngblgaaDoor.Sym Go.Proofs.YtfpphinnngblgaaDoor.Sx

set_option maxHeartbeats 16000000 in
set_option maxRecDepth 100000 in
theorem run_root_o (s : ByteArray) (sq ds den nu di ra xv : Nat) (h1 : fM (upY s) (upY s) = sq) (h2 : fM dN sq = ds) (h3 : fA ds 1 = den) (h4 : fS sq 1 = nu) (h5 : fI den = di) (h6 : fM nu di = ra) (h7 : rootV (ra % PP) = xv) (hs : s.size = 32) (ho : 127 < bt (n32 s) 31) (hc : upY s < PP) (hok : rootOk (ra % PP) = false) (w : World) : Calls Tryd.prog 11 #[.string s] w (fun e w' => e = .returned (.tuple #[.agg (pt 0 0 0 0), .bool false]) ∧ Below w.heap.size w w') := by
  go_enter Tryd.func11, Tryd.ntmps11
  have hm0 := Mm.nil w
  refine wp_seq_k (fun K1 hK1 => ?_)
  refine wp_region_lit ?_
  refine lst (wanted_none rfl) (m_alloc (c := pt 0 0 0 0) (T := 25) hm0 2 rfl (al_P rfl) (fun g2 w3 (hm4 : Mm w w3 [(g2, pt 0 0 0 0, 25)]) => ?_))
  simp only [nz1, nz2, nz3]
  refine lv 3 (.bool false) rfl rfl (run_as rfl rfl) ?_
  simp only [nz1, nz2, nz3]
  refine wpList_nil ?_
  refine then_n (hK1 _ _ ?_)
  refine wp_seq_k (fun K5 hK5 => ?_)
  refine wp_seq_k (fun K6 hK6 => ?_)
  refine wp_region_lit ?_
  refine lv 13 (.string s) rfl rfl (run_mv rfl rfl) ?_
  simp only [nz1, nz2, nz3]
  refine lv 14 (.int .i64 ((s.size : Nat) : Int)) rfl rfl (r_len rfl Tryd.underlying9 rfl) ?_
  simp only [nz1, nz2, nz3]
  refine lv 15 (.bool (decide (¬ s.size = 32))) rfl rfl (r_neq s.size 32 rfl rfl rfl) ?_
  simp only [nz1, nz2, nz3]
  refine wpList_nil ?_
  refine then_n (hK6 _ _ ?_)
  refine cond_df (¬ s.size = 32) rfl (fun hn => hn hs) ?_
  refine wp_skip ?_
  refine then_n (hK5 _ _ ?_)
  refine wp_seq_k (fun K7 hK7 => ?_)
  refine wp_region_lit ?_
  refine lst (wanted_none rfl) (m_alloc (c := bs 0) (T := 23) hm4 4 rfl (run_alN rfl) (fun g8 w9 (hm10 : Mm w w9 [(g2, pt 0 0 0 0, 25), (g8, bs 0, 23)]) => ?_))
  simp only [nz1, nz2, nz3]
  refine wpList_nil ?_
  refine then_n (hK7 _ _ ?_)
  refine wp_seq_k (fun K11 hK11 => ?_)
  refine wp_seq_k (fun K12 hK12 => ?_)
  refine wp_region_lit ?_
  refine lv 5 (.int .i64 0) rfl rfl (run_as rfl rfl) ?_
  simp only [nz1, nz2, nz3]
  refine wpList_nil ?_
  have hm13 : Mm w w9 [(g2, pt 0 0 0 0, 25), (g8, rowOf .u8 (pb (sb s) 0) 32, 23)] := by rw [show (rowOf .u8 (pb (sb s) 0) 32 : Array Value) = bs 0 from pb_none _]; exact hm10
  refine then_n (hK12 _ _ ?_)
  refine wp_block ?_
  refine wp_loop_n (fun n' a' w' => ∃ (k : Nat) (u0 : Nat → Value), n' = 32 - k ∧ (k ≤ 32) ∧ a' = ⟨#[.string s, undef, .pointer (some ⟨g2, 0, none⟩), .bool false, .pointer (some ⟨g8, 0, none⟩), .int .i64 ((k : Nat) : Int), undef, undef, undef, undef, undef, undef, undef, .string s, .int .i64 ((s.size : Nat) : Int), .bool (decide (¬ s.size = 32)), undef, u0 0, u0 1, u0 2, u0 3, u0 4, u0 5, u0 6, u0 7, u0 8, undef, undef, undef, undef, undef, undef, undef, undef, undef, undef, undef, undef, undef, undef, undef, undef, undef, undef, undef, undef, undef, undef, undef, undef, undef, undef, undef, undef, undef, undef, undef, undef, undef, undef, undef, undef, undef, undef, undef, undef, undef, undef, undef, undef, undef, undef, undef, undef, undef, undef, undef, undef, undef, undef], []⟩ ∧ Mm w w' [(g2, pt 0 0 0 0, 25), (g8, rowOf .u8 (pb (sb s) k) 32, 23)]) ⟨0, (fun qq => List.getD [undef, undef, undef, undef, undef, undef, undef, undef, undef] qq undef), rfl, (by omega), rfl, hm13⟩ ?_
  clear hm13
  rintro _ _ w14 ⟨k, u0, hn0, hk, rfl, hm15⟩ R16 hR16
  refine wp_seq_k (fun K17 hK17 => ?_)
  refine wp_seq_k (fun K18 hK18 => ?_)
  refine wp_region_lit ?_
  refine lv 17 (.int .i64 ((k : Nat) : Int)) rfl rfl (run_mv rfl rfl) ?_
  simp only [nz1, nz2, nz3]
  refine lv 18 (.bool (decide (k < 32))) rfl rfl (r_lss k 32 rfl rfl rfl) ?_
  simp only [nz1, nz2, nz3]
  refine wpList_nil ?_
  refine then_n (hK18 _ _ ?_)
  refine cond_d (k < 32) rfl (fun hc19 => ?_) (fun hc19 => ?_)
  · refine wp_skip ?_
    refine then_n (hK17 _ _ ?_)
    refine wp_seq_k (fun K20 hK20 => ?_)
    refine wp_block ?_
    refine wp_region_lit ?_
    refine lv 21 (.int .i64 ((k : Nat) : Int)) rfl rfl (run_mv rfl rfl) ?_
    simp only [nz1, nz2, nz3]
    refine lv 22 (.string s) rfl rfl (run_mv rfl rfl) ?_
    simp only [nz1, nz2, nz3]
    refine lv 23 (.int .i64 ((k : Nat) : Int)) rfl rfl (run_mv rfl rfl) ?_
    simp only [nz1, nz2, nz3]
    refine lv 24 (.int .u8 (((sb s k) : Nat) : Int)) rfl rfl (r_char k (sb s k) (by omega) (sb_at s k _) Tryd.underlying9 rfl rfl rfl) ?_
    simp only [nz1, nz2, nz3]
    refine lv 25 (.pointer (some ⟨g8, k, none⟩)) rfl rfl (r_ix g8 k (by omega) Tryd.underlying23 one_u8 rfl rfl rfl) ?_
    simp only [nz1, nz2, nz3]
    refine lst (wanted_none rfl) (m_put 1 (new := rowOf .u8 (up (pb (sb s) k) k (sb s k)) 32) k (.int .u8 (((sb s k) : Nat) : Int)) (old := rowOf .u8 (pb (sb s) k) 32) hm15 rfl rfl (p_cell (n := 32) (f := (pb (sb s) k)) g8 k (sb s k) (by omega) (hm15.at 1 rfl) rfl one_u8 rfl rfl) (rowOf_set _ _ _ _ _) (fun w21 (hm22 : Mm w w21 [(g2, pt 0 0 0 0, 25), (g8, rowOf .u8 (up (pb (sb s) k) k (sb s k)) 32, 23)]) => ?_))
    refine wpList_nil ?_
    have hm23 : Mm w w21 [(g2, pt 0 0 0 0, 25), (g8, rowOf .u8 (pb (sb s) (k + 1)) 32, 23)] := by rw [show (rowOf .u8 (pb (sb s) (k + 1)) 32 : Array Value) = rowOf .u8 (up (pb (sb s) k) k (sb s k)) 32 from by rw [pb_up]]; exact hm22
    refine blk_n ?_
    refine then_n (hK20 _ _ ?_)
    refine wp_region_lit ?_
    refine lv 19 (.int .i64 ((k : Nat) : Int)) rfl rfl (run_mv rfl rfl) ?_
    simp only [nz1, nz2, nz3]
    refine lv 20 (.int .i64 (((k + 1) : Nat) : Int)) rfl rfl (r_add k 1 (show (k + 1) < 9223372036854775808 from by omega) rfl rfl rfl) ?_
    simp only [nz1, nz2, nz3]
    refine lv 5 (.int .i64 (((k + 1) : Nat) : Int)) rfl rfl (run_as rfl rfl) ?_
    simp only [nz1, nz2, nz3]
    refine wpList_nil ?_
    refine then_n (hR16 _ _ _ ⟨(k + 1), (fun qq => List.getD [.int .i64 ((k : Nat) : Int), .bool (decide (k < 32)), .int .i64 ((k : Nat) : Int), .int .i64 (((k + 1) : Nat) : Int), .int .i64 ((k : Nat) : Int), .string s, .int .i64 ((k : Nat) : Int), .int .u8 (((sb s k) : Nat) : Int), .pointer (some ⟨g8, k, none⟩)] qq undef), rfl, (by omega), rfl, hm23⟩ ?_)
    omega
  · obtain rfl : k = 32 := by omega
    have hm24 : Mm w w14 [(g2, pt 0 0 0 0, 25), (g8, bs (n32 s), 23)] := by rw [show (bs (n32 s) : Array Value) = rowOf .u8 (pb (sb s) 32) 32 from n32_row s]; exact hm15
    refine wp_exit ?_
    refine then_x ?_
    refine then_x ?_
    refine blk_x ?_
    refine then_n (hK11 _ _ ?_)
    refine wp_seq_k (fun K25 hK25 => ?_)
    refine wp_region_lit ?_
    refine lv 26 (.pointer (some ⟨g8, 31, none⟩)) rfl rfl (r_ix g8 31 (by decide) Tryd.underlying23 one_u8 rfl rfl rfl) ?_
    simp only [nz1, nz2, nz3]
    refine lv 27 (.int .u8 (((bt (n32 s)) 31 : Nat) : Int)) rfl rfl (r_cell (f := (bt (n32 s))) (n := 32) g8 31 (by decide) (hm24.at 1 rfl) Tryd.underlying5 rfl rfl) ?_
    simp only [nz1, nz2, nz3]
    refine lv 28 (.int .u8 (((((bt (n32 s)) 31) / 2 ^ 7) : Nat) : Int)) rfl rfl (r_shr ((bt (n32 s)) 31) 7 (by decide) rfl rfl rfl) ?_
    simp only [nz1, nz2, nz3]
    refine lv 6 (.int .u8 (((((bt (n32 s)) 31) / 2 ^ 7) : Nat) : Int)) rfl rfl (run_as rfl rfl) ?_
    simp only [nz1, nz2, nz3]
    refine wpList_nil ?_
    rw [show ((.int .u8 (((((bt (n32 s)) 31) / 2 ^ 7) : Nat) : Int)) : Value) = .int .u8 1 from by rw [odd1 s ho]; rfl]
    refine then_n (hK25 _ _ ?_)
    refine wp_seq_k (fun K26 hK26 => ?_)
    refine wp_region_lit ?_
    refine lv 29 (.pointer (some ⟨g8, 31, none⟩)) rfl rfl (r_ix g8 31 (by decide) Tryd.underlying23 one_u8 rfl rfl rfl) ?_
    simp only [nz1, nz2, nz3]
    refine lv 30 (.int .u8 (((bt (n32 s)) 31 : Nat) : Int)) rfl rfl (r_cell (f := (bt (n32 s))) (n := 32) g8 31 (by decide) (hm24.at 1 rfl) Tryd.underlying5 rfl rfl) ?_
    simp only [nz1, nz2, nz3]
    refine lv 31 (.int .u8 (((bt (n32 s) 31 % 128) : Nat) : Int)) rfl rfl (r_andx ((bt (n32 s)) 31) 127 8 (bt (n32 s) 31 % 128) (by decide) (bt_lt _ _) (by decide) (show _ &&& (2 ^ 7 - 1) = _ from Nat.and_two_pow_sub_one_eq_mod _ 7) rfl rfl rfl) ?_
    simp only [nz1, nz2, nz3]
    refine lv 32 (.pointer (some ⟨g8, 31, none⟩)) rfl rfl (r_ix g8 31 (by decide) Tryd.underlying23 one_u8 rfl rfl rfl) ?_
    simp only [nz1, nz2, nz3]
    refine lst (wanted_none rfl) (m_put 1 (new := rowOf .u8 (up (bt (n32 s)) 31 (bt (n32 s) 31 % 128)) 32) 31 (.int .u8 (((bt (n32 s) 31 % 128) : Nat) : Int)) (old := bs (n32 s)) hm24 rfl rfl (p_cell (n := 32) (f := (bt (n32 s))) g8 31 (bt (n32 s) 31 % 128) (by decide) (hm24.at 1 rfl) rfl one_u8 rfl rfl) (rowOf_set _ _ _ _ _) (fun w27 (hm28 : Mm w w27 [(g2, pt 0 0 0 0, 25), (g8, rowOf .u8 (up (bt (n32 s)) 31 (bt (n32 s) 31 % 128)) 32, 23)]) => ?_))
    refine wpList_nil ?_
    have hm29 : Mm w w27 [(g2, pt 0 0 0 0, 25), (g8, bs (upY s), 23)] := by rw [show (bs (upY s) : Array Value) = rowOf .u8 (up (bt (n32 s)) 31 (bt (n32 s) 31 % 128)) 32 from cut_bit _]; exact hm28
    refine then_n (hK26 _ _ ?_)
    refine wp_seq_k (fun K30 hK30 => ?_)
    refine wp_seq_k (fun K31 hK31 => ?_)
    refine wp_region_lit ?_
    refine lv 33 (.agg (bs (upY s))) rfl rfl (run_row rfl rfl (hm29.at 1 rfl) Tryd.underlying23 rfl (by rw [bs_sz]; exact info_b)) ?_
    simp only [nz1, nz2, nz3]
    refine lst (wanted_none rfl) (m_call hm29 34 (.bool (decide ((upY s) < PP))) rfl (run_gCanon rfl rfl) (rcanon_any (upY s) (upY_lt s) _) (fun w32 hm33 => ?_))
    simp only [nz1, nz2, nz3]
    refine lv 35 (.bool (decide (¬ ((upY s) < PP)))) rfl rfl (r_notD ((upY s) < PP) rfl rfl) ?_
    simp only [nz1, nz2, nz3]
    refine wpList_nil ?_
    refine then_n (hK31 _ _ ?_)
    refine cond_df (¬ ((upY s) < PP)) rfl (fun hn => hn hc) ?_
    refine wp_skip ?_
    refine then_n (hK30 _ _ ?_)
    refine wp_seq_k (fun K34 hK34 => ?_)
    refine wp_region_lit ?_
    refine lv 37 (.agg (bs 1)) rfl rfl (by unfold execOp; go_simp; rfl) ?_
    simp only [nz1, nz2, nz3]
    refine lst (wanted_none rfl) (m_alloc (c := bs 0) (T := 23) hm33 7 rfl (run_alN rfl) (fun g35 w36 (hm37 : Mm w w36 [(g2, pt 0 0 0 0, 25), (g8, bs (upY s), 23), (g35, bs 0, 23)]) => ?_))
    simp only [nz1, nz2, nz3]
    refine lst (wanted_none rfl) (m_store 2 23 _ _ (bs 1) (old := bs 0) hm37 rfl rfl rfl rfl rfl (by rw [bs_sz]; exact info_b) ((bs_sz _).trans (bs_sz _).symm) (bs_one _) (fun w38 (hm39 : Mm w w38 [(g2, pt 0 0 0 0, 25), (g8, bs (upY s), 23), (g35, bs 1, 23)]) => ?_))
    refine wpList_nil ?_
    refine then_n (hK34 _ _ ?_)
    refine wp_seq_k (fun K40 hK40 => ?_)
    refine wp_region_lit ?_
    refine lv 38 (.agg (bs (upY s))) rfl rfl (run_row rfl rfl (hm39.at 1 rfl) Tryd.underlying23 rfl (by rw [bs_sz]; exact info_b)) ?_
    simp only [nz1, nz2, nz3]
    refine lv 39 (.agg (bs (upY s))) rfl rfl (run_row rfl rfl (hm39.at 1 rfl) Tryd.underlying23 rfl (by rw [bs_sz]; exact info_b)) ?_
    simp only [nz1, nz2, nz3]
    refine lst (wanted_none rfl) (m_call hm39 40 (.agg (bs sq)) rfl (run_gMul rfl rfl rfl) (rmul_g (upY s) (upY s) sq (upY_lt s) (upY_lt s) h1 _) (fun w41 hm42 => ?_))
    simp only [nz1, nz2, nz3]
    refine lst (wanted_none rfl) (m_alloc (c := bs 0) (T := 23) hm42 8 rfl (run_alN rfl) (fun g43 w44 (hm45 : Mm w w44 [(g2, pt 0 0 0 0, 25), (g8, bs (upY s), 23), (g35, bs 1, 23), (g43, bs 0, 23)]) => ?_))
    simp only [nz1, nz2, nz3]
    refine lst (wanted_none rfl) (m_store 3 23 _ _ (bs sq) (old := bs 0) hm45 rfl rfl rfl rfl rfl (by rw [bs_sz]; exact info_b) ((bs_sz _).trans (bs_sz _).symm) (bs_one _) (fun w46 (hm47 : Mm w w46 [(g2, pt 0 0 0 0, 25), (g8, bs (upY s), 23), (g35, bs 1, 23), (g43, bs sq, 23)]) => ?_))
    refine wpList_nil ?_
    refine then_n (hK40 _ _ ?_)
    refine wp_seq_k (fun K48 hK48 => ?_)
    refine wp_region_lit ?_
    refine lv 41 (.agg (bs sq)) rfl rfl (run_row rfl rfl (hm47.at 3 rfl) Tryd.underlying23 rfl (by rw [bs_sz]; exact info_b)) ?_
    simp only [nz1, nz2, nz3]
    refine lv 42 (.agg (bs 1)) rfl rfl (run_row rfl rfl (hm47.at 2 rfl) Tryd.underlying23 rfl (by rw [bs_sz]; exact info_b)) ?_
    simp only [nz1, nz2, nz3]
    refine lst (wanted_none rfl) (m_call hm47 43 (.agg (bs nu)) rfl (run_gSub rfl rfl rfl) (rsub_g sq 1 nu (h1 ▸ f_lt (fM_lt _ _)) (by decide) h4 _) (fun w49 hm50 => ?_))
    simp only [nz1, nz2, nz3]
    refine lst (wanted_none rfl) (m_alloc (c := bs 0) (T := 23) hm50 9 rfl (run_alN rfl) (fun g51 w52 (hm53 : Mm w w52 [(g2, pt 0 0 0 0, 25), (g8, bs (upY s), 23), (g35, bs 1, 23), (g43, bs sq, 23), (g51, bs 0, 23)]) => ?_))
    simp only [nz1, nz2, nz3]
    refine lst (wanted_none rfl) (m_store 4 23 _ _ (bs nu) (old := bs 0) hm53 rfl rfl rfl rfl rfl (by rw [bs_sz]; exact info_b) ((bs_sz _).trans (bs_sz _).symm) (bs_one _) (fun w54 (hm55 : Mm w w54 [(g2, pt 0 0 0 0, 25), (g8, bs (upY s), 23), (g35, bs 1, 23), (g43, bs sq, 23), (g51, bs nu, 23)]) => ?_))
    refine wpList_nil ?_
    refine then_n (hK48 _ _ ?_)
    refine wp_seq_k (fun K56 hK56 => ?_)
    refine wp_mono (Q := fun e a' w' => e = Exit.normal ∧ ∃ g65 : Nat, a' = ⟨#[.string s, undef, .pointer (some ⟨g2, 0, none⟩), .bool false, .pointer (some ⟨g8, 0, none⟩), .int .i64 32, .int .u8 1, .pointer (some ⟨g35, 0, none⟩), .pointer (some ⟨g43, 0, none⟩), .pointer (some ⟨g51, 0, none⟩), .pointer (some ⟨g65, 0, none⟩), undef, undef, .string s, .int .i64 ((s.size : Nat) : Int), .bool (decide (¬ s.size = 32)), undef, .int .i64 32, .bool (decide (32 < 32)), u0 2, u0 3, u0 4, u0 5, u0 6, u0 7, u0 8, .pointer (some ⟨g8, 31, none⟩), .int .u8 (((bt (n32 s)) 31 : Nat) : Int), .int .u8 1, .pointer (some ⟨g8, 31, none⟩), .int .u8 (((bt (n32 s)) 31 : Nat) : Int), .int .u8 (((bt (n32 s) 31 % 128) : Nat) : Int), .pointer (some ⟨g8, 31, none⟩), .agg (bs (upY s)), .bool (decide ((upY s) < PP)), .bool (decide (¬ ((upY s) < PP))), undef, .agg (bs 1), .agg (bs (upY s)), .agg (bs (upY s)), .agg (bs sq), .agg (bs sq), .agg (bs 1), .agg (bs nu), .agg (bs dN), .agg (bs sq), .agg (bs ds), .agg (bs 1), .agg (bs den), undef, undef, undef, undef, undef, undef, undef, undef, undef, undef, undef, undef, undef, undef, undef, undef, undef, undef, undef, undef, undef, undef, undef, undef, undef, undef, undef, undef, undef, undef, undef], []⟩ ∧ Mm w w' [(g2, pt 0 0 0 0, 25), (g8, bs (upY s), 23), (g35, bs 1, 23), (g43, bs sq, 23), (g51, bs nu, 23), (g65, bs den, 23)]) ?_ ?_
    · have hm57 := hm55.drew
      refine wp_region_held_drew (S := fun w' => Sym.Blk w' g43 (bs sq) 23 ∧ Sym.Blk w' g35 (bs 1) 23) (by kernel_rfl) (⟨hm57.at 3 rfl, hm57.at 2 rfl⟩) (fun _ => ?_)
      generalize w54.drew = w58 at *
      refine Sym.take_at 1 45 (.agg (bs sq)) rfl rfl (by kernel_rfl) (by kernel_rfl) (by kernel_rfl) (fun _ _ _ h => nomatch h.1) rfl (fun _ hw => run_row rfl rfl hw.1 Tryd.underlying23 rfl (by rw [bs_sz]; exact info_b)) (⟨hm57.at 3 rfl, hm57.at 2 rfl⟩) ?_
      simp only [nz1, nz2, nz3]
      refine Sym.take_at 3 47 (.agg (bs 1)) rfl rfl (by kernel_rfl) (by kernel_rfl) (by kernel_rfl) (fun _ _ _ h => nomatch h.1) rfl (fun _ hw => run_row rfl rfl hw.2 Tryd.underlying23 rfl (by rw [bs_sz]; exact info_b)) (⟨hm57.at 3 rfl, hm57.at 2 rfl⟩) ?_
      simp only [nz1, nz2, nz3]
      refine two_ready 0 5 (by kernel_rfl) ?_ ?_
      · refine opd rfl rfl (m_call hm57 44 (.agg (bs dN)) rfl (run_factor rfl) (factor_any _) (fun w59 hm60 => ?_))
        refine ⟨⟨hm60.at 3 rfl, hm60.at 2 rfl⟩, ?_⟩
        simp only [nz1, nz2, nz3]
        refine two_ready 2 5 (by kernel_rfl) ?_ ?_
        · refine opd rfl rfl (m_call hm60 46 (.agg (bs ds)) rfl (run_gMul rfl rfl rfl) (rmul_g dN sq ds dN_lt (h1 ▸ f_lt (fM_lt _ _)) h2 _) (fun w61 hm62 => ?_))
          refine ⟨⟨hm62.at 3 rfl, hm62.at 2 rfl⟩, ?_⟩
          simp only [nz1, nz2, nz3]
          refine two_ready 4 5 (by kernel_rfl) ?_ ?_
          · refine opd rfl rfl (m_call hm62 48 (.agg (bs den)) rfl (run_gAdd rfl rfl rfl) (radd_g ds 1 den (h2 ▸ f_lt (fM_lt _ _)) (by decide) h3 _) (fun w63 hm64 => ?_))
            refine ⟨⟨hm64.at 3 rfl, hm64.at 2 rfl⟩, ?_⟩
            simp only [nz1, nz2, nz3]
            refine one_ready 5 (by kernel_rfl) ?_
            refine opd rfl rfl (m_alloc (c := bs 0) (T := 23) hm64 10 rfl (run_alN rfl) (fun g65 w66 hm67 => ?_))
            refine ⟨⟨hm67.at 3 rfl, hm67.at 2 rfl⟩, ?_⟩
            simp only [nz1, nz2, nz3]
            refine one_ready 6 (by kernel_rfl) ?_
            refine opd rfl rfl (m_store 5 23 _ _ (bs den) (old := bs 0) hm67 rfl rfl rfl rfl rfl (by rw [bs_sz]; exact info_b) ((bs_sz _).trans (bs_sz _).symm) (bs_one _) (fun w68 hm69 => ?_))
            refine ⟨⟨hm69.at 3 rfl, hm69.at 2 rfl⟩, ?_⟩
            refine wpAnyH_done (by kernel_rfl) ?_ _
            exact ⟨rfl, g65, rfl, hm69⟩
          · refine opd rfl rfl (m_alloc (c := bs 0) (T := 23) hm62 10 rfl (run_alN rfl) (fun g70 w71 hm72 => ?_))
            refine ⟨⟨hm72.at 3 rfl, hm72.at 2 rfl⟩, ?_⟩
            simp only [nz1, nz2, nz3]
            refine one_ready 4 (by kernel_rfl) ?_
            refine opd rfl rfl (m_call hm72 48 (.agg (bs den)) rfl (run_gAdd rfl rfl rfl) (radd_g ds 1 den (h2 ▸ f_lt (fM_lt _ _)) (by decide) h3 _) (fun w73 hm74 => ?_))
            refine ⟨⟨hm74.at 3 rfl, hm74.at 2 rfl⟩, ?_⟩
            simp only [nz1, nz2, nz3]
            refine one_ready 6 (by kernel_rfl) ?_
            refine opd rfl rfl (m_store 5 23 _ _ (bs den) (old := bs 0) hm74 rfl rfl rfl rfl rfl (by rw [bs_sz]; exact info_b) ((bs_sz _).trans (bs_sz _).symm) (bs_one _) (fun w75 hm76 => ?_))
            refine ⟨⟨hm76.at 3 rfl, hm76.at 2 rfl⟩, ?_⟩
            refine wpAnyH_done (by kernel_rfl) ?_ _
            exact ⟨rfl, g70, rfl, hm76⟩
        · refine opd rfl rfl (m_alloc (c := bs 0) (T := 23) hm60 10 rfl (run_alN rfl) (fun g77 w78 hm79 => ?_))
          refine ⟨⟨hm79.at 3 rfl, hm79.at 2 rfl⟩, ?_⟩
          simp only [nz1, nz2, nz3]
          refine one_ready 2 (by kernel_rfl) ?_
          refine opd rfl rfl (m_call hm79 46 (.agg (bs ds)) rfl (run_gMul rfl rfl rfl) (rmul_g dN sq ds dN_lt (h1 ▸ f_lt (fM_lt _ _)) h2 _) (fun w80 hm81 => ?_))
          refine ⟨⟨hm81.at 3 rfl, hm81.at 2 rfl⟩, ?_⟩
          simp only [nz1, nz2, nz3]
          refine one_ready 4 (by kernel_rfl) ?_
          refine opd rfl rfl (m_call hm81 48 (.agg (bs den)) rfl (run_gAdd rfl rfl rfl) (radd_g ds 1 den (h2 ▸ f_lt (fM_lt _ _)) (by decide) h3 _) (fun w82 hm83 => ?_))
          refine ⟨⟨hm83.at 3 rfl, hm83.at 2 rfl⟩, ?_⟩
          simp only [nz1, nz2, nz3]
          refine one_ready 6 (by kernel_rfl) ?_
          refine opd rfl rfl (m_store 5 23 _ _ (bs den) (old := bs 0) hm83 rfl rfl rfl rfl rfl (by rw [bs_sz]; exact info_b) ((bs_sz _).trans (bs_sz _).symm) (bs_one _) (fun w84 hm85 => ?_))
          refine ⟨⟨hm85.at 3 rfl, hm85.at 2 rfl⟩, ?_⟩
          refine wpAnyH_done (by kernel_rfl) ?_ _
          exact ⟨rfl, g77, rfl, hm85⟩
      · refine opd rfl rfl (m_alloc (c := bs 0) (T := 23) hm57 10 rfl (run_alN rfl) (fun g86 w87 hm88 => ?_))
        refine ⟨⟨hm88.at 3 rfl, hm88.at 2 rfl⟩, ?_⟩
        simp only [nz1, nz2, nz3]
        refine one_ready 0 (by kernel_rfl) ?_
        refine opd rfl rfl (m_call hm88 44 (.agg (bs dN)) rfl (run_factor rfl) (factor_any _) (fun w89 hm90 => ?_))
        refine ⟨⟨hm90.at 3 rfl, hm90.at 2 rfl⟩, ?_⟩
        simp only [nz1, nz2, nz3]
        refine one_ready 2 (by kernel_rfl) ?_
        refine opd rfl rfl (m_call hm90 46 (.agg (bs ds)) rfl (run_gMul rfl rfl rfl) (rmul_g dN sq ds dN_lt (h1 ▸ f_lt (fM_lt _ _)) h2 _) (fun w91 hm92 => ?_))
        refine ⟨⟨hm92.at 3 rfl, hm92.at 2 rfl⟩, ?_⟩
        simp only [nz1, nz2, nz3]
        refine one_ready 4 (by kernel_rfl) ?_
        refine opd rfl rfl (m_call hm92 48 (.agg (bs den)) rfl (run_gAdd rfl rfl rfl) (radd_g ds 1 den (h2 ▸ f_lt (fM_lt _ _)) (by decide) h3 _) (fun w93 hm94 => ?_))
        refine ⟨⟨hm94.at 3 rfl, hm94.at 2 rfl⟩, ?_⟩
        simp only [nz1, nz2, nz3]
        refine one_ready 6 (by kernel_rfl) ?_
        refine opd rfl rfl (m_store 5 23 _ _ (bs den) (old := bs 0) hm94 rfl rfl rfl rfl rfl (by rw [bs_sz]; exact info_b) ((bs_sz _).trans (bs_sz _).symm) (bs_one _) (fun w95 hm96 => ?_))
        refine ⟨⟨hm96.at 3 rfl, hm96.at 2 rfl⟩, ?_⟩
        refine wpAnyH_done (by kernel_rfl) ?_ _
        exact ⟨rfl, g86, rfl, hm96⟩
    clear hm55
    rintro _ _ w97 ⟨rfl, g65, rfl, hm98⟩
    refine then_n (hK56 _ _ ?_)
    refine wp_seq_k (fun K99 hK99 => ?_)
    refine wp_mono (Q := fun e a' w' => e = Exit.normal ∧ ∃ g108 : Nat, a' = ⟨#[.string s, undef, .pointer (some ⟨g2, 0, none⟩), .bool false, .pointer (some ⟨g8, 0, none⟩), .int .i64 32, .int .u8 1, .pointer (some ⟨g35, 0, none⟩), .pointer (some ⟨g43, 0, none⟩), .pointer (some ⟨g51, 0, none⟩), .pointer (some ⟨g65, 0, none⟩), .pointer (some ⟨g108, 0, none⟩), .bool (rootOk (ra % PP)), .string s, .int .i64 ((s.size : Nat) : Int), .bool (decide (¬ s.size = 32)), undef, .int .i64 32, .bool (decide (32 < 32)), u0 2, u0 3, u0 4, u0 5, u0 6, u0 7, u0 8, .pointer (some ⟨g8, 31, none⟩), .int .u8 (((bt (n32 s)) 31 : Nat) : Int), .int .u8 1, .pointer (some ⟨g8, 31, none⟩), .int .u8 (((bt (n32 s)) 31 : Nat) : Int), .int .u8 (((bt (n32 s) 31 % 128) : Nat) : Int), .pointer (some ⟨g8, 31, none⟩), .agg (bs (upY s)), .bool (decide ((upY s) < PP)), .bool (decide (¬ ((upY s) < PP))), undef, .agg (bs 1), .agg (bs (upY s)), .agg (bs (upY s)), .agg (bs sq), .agg (bs sq), .agg (bs 1), .agg (bs nu), .agg (bs dN), .agg (bs sq), .agg (bs ds), .agg (bs 1), .agg (bs den), .tuple #[.agg (bs xv), .bool (rootOk (ra % PP))], .agg (bs nu), .agg (bs den), .agg (bs di), .agg (bs ra), .tuple #[.agg (bs xv), .bool (rootOk (ra % PP))], .agg (bs xv), .bool (rootOk (ra % PP)), undef, undef, undef, undef, undef, undef, undef, undef, undef, undef, undef, undef, undef, undef, undef, undef, undef, undef, undef, undef, undef, undef, undef], []⟩ ∧ Mm w w' [(g2, pt 0 0 0 0, 25), (g8, bs (upY s), 23), (g35, bs 1, 23), (g43, bs sq, 23), (g51, bs nu, 23), (g65, bs den, 23), (g108, bs xv, 23)]) ?_ ?_
    · have hm100 := hm98.drew
      refine wp_region_held_drew (S := fun w' => Sym.Blk w' g51 (bs nu) 23 ∧ Sym.Blk w' g65 (bs den) 23) (by kernel_rfl) (⟨hm100.at 4 rfl, hm100.at 5 rfl⟩) (fun _ => ?_)
      generalize w97.drew = w101 at *
      refine Sym.take_at 0 50 (.agg (bs nu)) rfl rfl (by kernel_rfl) (by kernel_rfl) (by kernel_rfl) (fun _ _ _ h => nomatch h.1) rfl (fun _ hw => run_row rfl rfl hw.1 Tryd.underlying23 rfl (by rw [bs_sz]; exact info_b)) (⟨hm100.at 4 rfl, hm100.at 5 rfl⟩) ?_
      simp only [nz1, nz2, nz3]
      refine Sym.take_at 1 51 (.agg (bs den)) rfl rfl (by kernel_rfl) (by kernel_rfl) (by kernel_rfl) (fun _ _ _ h => nomatch h.1) rfl (fun _ hw => run_row rfl rfl hw.2 Tryd.underlying23 rfl (by rw [bs_sz]; exact info_b)) (⟨hm100.at 4 rfl, hm100.at 5 rfl⟩) ?_
      simp only [nz1, nz2, nz3]
      refine two_ready 2 8 (by kernel_rfl) ?_ ?_
      · refine opd rfl rfl (m_call hm100 52 (.agg (bs di)) rfl (run_gInv rfl rfl) (rinv_g den di (h3 ▸ f_lt (fA_lt _ _)) h5 _) (fun w102 hm103 => ?_))
        refine ⟨⟨hm103.at 4 rfl, hm103.at 5 rfl⟩, ?_⟩
        simp only [nz1, nz2, nz3]
        refine two_ready 3 8 (by kernel_rfl) ?_ ?_
        · refine opd rfl rfl (m_call hm103 53 (.agg (bs ra)) rfl (run_gMul rfl rfl rfl) (rmul_g nu di ra (h4 ▸ f_lt (fS_lt _ _)) (h5 ▸ f_lt (fI_lt _)) h6 _) (fun w104 hm105 => ?_))
          refine ⟨⟨hm105.at 4 rfl, hm105.at 5 rfl⟩, ?_⟩
          simp only [nz1, nz2, nz3]
          refine two_ready 4 8 (by kernel_rfl) ?_ ?_
          · refine opd rfl rfl (m_call hm105 54 (.tuple #[.agg (bs xv), .bool (rootOk (ra % PP))]) rfl (run_gRoot rfl rfl) (rroot_g ra xv (h6 ▸ f_lt (fM_lt _ _)) h7 _) (fun w106 hm107 => ?_))
            refine ⟨⟨hm107.at 4 rfl, hm107.at 5 rfl⟩, ?_⟩
            simp only [nz1, nz2, nz3]
            refine Sym.take_at 5 49 (.tuple #[.agg (bs xv), .bool (rootOk (ra % PP))]) rfl rfl (by kernel_rfl) (by kernel_rfl) (by kernel_rfl) (fun _ _ _ h => nomatch h.1) rfl (fun _ hw => run_mv rfl rfl) (⟨hm107.at 4 rfl, hm107.at 5 rfl⟩) ?_
            simp only [nz1, nz2, nz3]
            refine Sym.take_at 6 55 (.agg (bs xv)) rfl rfl (by kernel_rfl) (by kernel_rfl) (by kernel_rfl) (fun _ _ _ h => nomatch h.1) rfl (fun _ hw => run_ex rfl rfl rfl) (⟨hm107.at 4 rfl, hm107.at 5 rfl⟩) ?_
            simp only [nz1, nz2, nz3]
            refine Sym.take_at 7 56 (.bool (rootOk (ra % PP))) rfl rfl (by kernel_rfl) (by kernel_rfl) (by kernel_rfl) (fun _ _ _ h => nomatch h.1) rfl (fun _ hw => run_ex rfl rfl rfl) (⟨hm107.at 4 rfl, hm107.at 5 rfl⟩) ?_
            simp only [nz1, nz2, nz3]
            refine one_ready 8 (by kernel_rfl) ?_
            refine opd rfl rfl (m_alloc (c := bs 0) (T := 23) hm107 11 rfl (run_alN rfl) (fun g108 w109 hm110 => ?_))
            refine ⟨⟨hm110.at 4 rfl, hm110.at 5 rfl⟩, ?_⟩
            simp only [nz1, nz2, nz3]
            refine one_ready 9 (by kernel_rfl) ?_
            refine opd rfl rfl (m_store 6 23 _ _ (bs xv) (old := bs 0) hm110 rfl rfl rfl rfl rfl (by rw [bs_sz]; exact info_b) ((bs_sz _).trans (bs_sz _).symm) (bs_one _) (fun w111 hm112 => ?_))
            refine ⟨⟨hm112.at 4 rfl, hm112.at 5 rfl⟩, ?_⟩
            refine one_ready 10 (by kernel_rfl) ?_
            refine opd rfl rfl (w_value 12 (.bool (rootOk (ra % PP))) rfl (run_as rfl rfl) ⟨⟨hm112.at 4 rfl, hm112.at 5 rfl⟩, ?_⟩)
            simp only [nz1, nz2, nz3]
            refine wpAnyH_done (by kernel_rfl) ?_ _
            exact ⟨rfl, g108, rfl, hm112⟩
          · refine opd rfl rfl (m_alloc (c := bs 0) (T := 23) hm105 11 rfl (run_alN rfl) (fun g113 w114 hm115 => ?_))
            refine ⟨⟨hm115.at 4 rfl, hm115.at 5 rfl⟩, ?_⟩
            simp only [nz1, nz2, nz3]
            refine one_ready 4 (by kernel_rfl) ?_
            refine opd rfl rfl (m_call hm115 54 (.tuple #[.agg (bs xv), .bool (rootOk (ra % PP))]) rfl (run_gRoot rfl rfl) (rroot_g ra xv (h6 ▸ f_lt (fM_lt _ _)) h7 _) (fun w116 hm117 => ?_))
            refine ⟨⟨hm117.at 4 rfl, hm117.at 5 rfl⟩, ?_⟩
            simp only [nz1, nz2, nz3]
            refine Sym.take_at 5 49 (.tuple #[.agg (bs xv), .bool (rootOk (ra % PP))]) rfl rfl (by kernel_rfl) (by kernel_rfl) (by kernel_rfl) (fun _ _ _ h => nomatch h.1) rfl (fun _ hw => run_mv rfl rfl) (⟨hm117.at 4 rfl, hm117.at 5 rfl⟩) ?_
            simp only [nz1, nz2, nz3]
            refine Sym.take_at 6 55 (.agg (bs xv)) rfl rfl (by kernel_rfl) (by kernel_rfl) (by kernel_rfl) (fun _ _ _ h => nomatch h.1) rfl (fun _ hw => run_ex rfl rfl rfl) (⟨hm117.at 4 rfl, hm117.at 5 rfl⟩) ?_
            simp only [nz1, nz2, nz3]
            refine Sym.take_at 7 56 (.bool (rootOk (ra % PP))) rfl rfl (by kernel_rfl) (by kernel_rfl) (by kernel_rfl) (fun _ _ _ h => nomatch h.1) rfl (fun _ hw => run_ex rfl rfl rfl) (⟨hm117.at 4 rfl, hm117.at 5 rfl⟩) ?_
            simp only [nz1, nz2, nz3]
            refine one_ready 9 (by kernel_rfl) ?_
            refine opd rfl rfl (m_store 6 23 _ _ (bs xv) (old := bs 0) hm117 rfl rfl rfl rfl rfl (by rw [bs_sz]; exact info_b) ((bs_sz _).trans (bs_sz _).symm) (bs_one _) (fun w118 hm119 => ?_))
            refine ⟨⟨hm119.at 4 rfl, hm119.at 5 rfl⟩, ?_⟩
            refine one_ready 10 (by kernel_rfl) ?_
            refine opd rfl rfl (w_value 12 (.bool (rootOk (ra % PP))) rfl (run_as rfl rfl) ⟨⟨hm119.at 4 rfl, hm119.at 5 rfl⟩, ?_⟩)
            simp only [nz1, nz2, nz3]
            refine wpAnyH_done (by kernel_rfl) ?_ _
            exact ⟨rfl, g113, rfl, hm119⟩
        · refine opd rfl rfl (m_alloc (c := bs 0) (T := 23) hm103 11 rfl (run_alN rfl) (fun g120 w121 hm122 => ?_))
          refine ⟨⟨hm122.at 4 rfl, hm122.at 5 rfl⟩, ?_⟩
          simp only [nz1, nz2, nz3]
          refine one_ready 3 (by kernel_rfl) ?_
          refine opd rfl rfl (m_call hm122 53 (.agg (bs ra)) rfl (run_gMul rfl rfl rfl) (rmul_g nu di ra (h4 ▸ f_lt (fS_lt _ _)) (h5 ▸ f_lt (fI_lt _)) h6 _) (fun w123 hm124 => ?_))
          refine ⟨⟨hm124.at 4 rfl, hm124.at 5 rfl⟩, ?_⟩
          simp only [nz1, nz2, nz3]
          refine one_ready 4 (by kernel_rfl) ?_
          refine opd rfl rfl (m_call hm124 54 (.tuple #[.agg (bs xv), .bool (rootOk (ra % PP))]) rfl (run_gRoot rfl rfl) (rroot_g ra xv (h6 ▸ f_lt (fM_lt _ _)) h7 _) (fun w125 hm126 => ?_))
          refine ⟨⟨hm126.at 4 rfl, hm126.at 5 rfl⟩, ?_⟩
          simp only [nz1, nz2, nz3]
          refine Sym.take_at 5 49 (.tuple #[.agg (bs xv), .bool (rootOk (ra % PP))]) rfl rfl (by kernel_rfl) (by kernel_rfl) (by kernel_rfl) (fun _ _ _ h => nomatch h.1) rfl (fun _ hw => run_mv rfl rfl) (⟨hm126.at 4 rfl, hm126.at 5 rfl⟩) ?_
          simp only [nz1, nz2, nz3]
          refine Sym.take_at 6 55 (.agg (bs xv)) rfl rfl (by kernel_rfl) (by kernel_rfl) (by kernel_rfl) (fun _ _ _ h => nomatch h.1) rfl (fun _ hw => run_ex rfl rfl rfl) (⟨hm126.at 4 rfl, hm126.at 5 rfl⟩) ?_
          simp only [nz1, nz2, nz3]
          refine Sym.take_at 7 56 (.bool (rootOk (ra % PP))) rfl rfl (by kernel_rfl) (by kernel_rfl) (by kernel_rfl) (fun _ _ _ h => nomatch h.1) rfl (fun _ hw => run_ex rfl rfl rfl) (⟨hm126.at 4 rfl, hm126.at 5 rfl⟩) ?_
          simp only [nz1, nz2, nz3]
          refine one_ready 9 (by kernel_rfl) ?_
          refine opd rfl rfl (m_store 6 23 _ _ (bs xv) (old := bs 0) hm126 rfl rfl rfl rfl rfl (by rw [bs_sz]; exact info_b) ((bs_sz _).trans (bs_sz _).symm) (bs_one _) (fun w127 hm128 => ?_))
          refine ⟨⟨hm128.at 4 rfl, hm128.at 5 rfl⟩, ?_⟩
          refine one_ready 10 (by kernel_rfl) ?_
          refine opd rfl rfl (w_value 12 (.bool (rootOk (ra % PP))) rfl (run_as rfl rfl) ⟨⟨hm128.at 4 rfl, hm128.at 5 rfl⟩, ?_⟩)
          simp only [nz1, nz2, nz3]
          refine wpAnyH_done (by kernel_rfl) ?_ _
          exact ⟨rfl, g120, rfl, hm128⟩
      · refine opd rfl rfl (m_alloc (c := bs 0) (T := 23) hm100 11 rfl (run_alN rfl) (fun g129 w130 hm131 => ?_))
        refine ⟨⟨hm131.at 4 rfl, hm131.at 5 rfl⟩, ?_⟩
        simp only [nz1, nz2, nz3]
        refine one_ready 2 (by kernel_rfl) ?_
        refine opd rfl rfl (m_call hm131 52 (.agg (bs di)) rfl (run_gInv rfl rfl) (rinv_g den di (h3 ▸ f_lt (fA_lt _ _)) h5 _) (fun w132 hm133 => ?_))
        refine ⟨⟨hm133.at 4 rfl, hm133.at 5 rfl⟩, ?_⟩
        simp only [nz1, nz2, nz3]
        refine one_ready 3 (by kernel_rfl) ?_
        refine opd rfl rfl (m_call hm133 53 (.agg (bs ra)) rfl (run_gMul rfl rfl rfl) (rmul_g nu di ra (h4 ▸ f_lt (fS_lt _ _)) (h5 ▸ f_lt (fI_lt _)) h6 _) (fun w134 hm135 => ?_))
        refine ⟨⟨hm135.at 4 rfl, hm135.at 5 rfl⟩, ?_⟩
        simp only [nz1, nz2, nz3]
        refine one_ready 4 (by kernel_rfl) ?_
        refine opd rfl rfl (m_call hm135 54 (.tuple #[.agg (bs xv), .bool (rootOk (ra % PP))]) rfl (run_gRoot rfl rfl) (rroot_g ra xv (h6 ▸ f_lt (fM_lt _ _)) h7 _) (fun w136 hm137 => ?_))
        refine ⟨⟨hm137.at 4 rfl, hm137.at 5 rfl⟩, ?_⟩
        simp only [nz1, nz2, nz3]
        refine Sym.take_at 5 49 (.tuple #[.agg (bs xv), .bool (rootOk (ra % PP))]) rfl rfl (by kernel_rfl) (by kernel_rfl) (by kernel_rfl) (fun _ _ _ h => nomatch h.1) rfl (fun _ hw => run_mv rfl rfl) (⟨hm137.at 4 rfl, hm137.at 5 rfl⟩) ?_
        simp only [nz1, nz2, nz3]
        refine Sym.take_at 6 55 (.agg (bs xv)) rfl rfl (by kernel_rfl) (by kernel_rfl) (by kernel_rfl) (fun _ _ _ h => nomatch h.1) rfl (fun _ hw => run_ex rfl rfl rfl) (⟨hm137.at 4 rfl, hm137.at 5 rfl⟩) ?_
        simp only [nz1, nz2, nz3]
        refine Sym.take_at 7 56 (.bool (rootOk (ra % PP))) rfl rfl (by kernel_rfl) (by kernel_rfl) (by kernel_rfl) (fun _ _ _ h => nomatch h.1) rfl (fun _ hw => run_ex rfl rfl rfl) (⟨hm137.at 4 rfl, hm137.at 5 rfl⟩) ?_
        simp only [nz1, nz2, nz3]
        refine one_ready 9 (by kernel_rfl) ?_
        refine opd rfl rfl (m_store 6 23 _ _ (bs xv) (old := bs 0) hm137 rfl rfl rfl rfl rfl (by rw [bs_sz]; exact info_b) ((bs_sz _).trans (bs_sz _).symm) (bs_one _) (fun w138 hm139 => ?_))
        refine ⟨⟨hm139.at 4 rfl, hm139.at 5 rfl⟩, ?_⟩
        refine one_ready 10 (by kernel_rfl) ?_
        refine opd rfl rfl (w_value 12 (.bool (rootOk (ra % PP))) rfl (run_as rfl rfl) ⟨⟨hm139.at 4 rfl, hm139.at 5 rfl⟩, ?_⟩)
        simp only [nz1, nz2, nz3]
        refine wpAnyH_done (by kernel_rfl) ?_ _
        exact ⟨rfl, g129, rfl, hm139⟩
    clear hm98
    rintro _ _ w140 ⟨rfl, g108, rfl, hm141⟩
    rw [show ((.bool (rootOk (ra % PP))) : Value) = .bool false from by rw [hok]]
    refine then_n (hK99 _ _ ?_)
    refine wp_seq_k (fun K142 hK142 => ?_)
    refine wp_seq_k (fun K143 hK143 => ?_)
    refine wp_region_lit ?_
    refine lv 57 (.bool false) rfl rfl (run_mv rfl rfl) ?_
    simp only [nz1, nz2, nz3]
    refine lv 58 (.bool true) rfl rfl (r_not false rfl rfl) ?_
    simp only [nz1, nz2, nz3]
    refine lv 59 (.bool true) rfl rfl (run_mv rfl rfl) ?_
    simp only [nz1, nz2, nz3]
    refine lst_skip 60 rfl rfl ?_
    simp only [nz1, nz2, nz3]
    refine lst_skip 61 rfl rfl ?_
    simp only [nz1, nz2, nz3]
    refine lst_skip 62 rfl rfl ?_
    simp only [nz1, nz2, nz3]
    refine lst_skip 63 rfl rfl ?_
    simp only [nz1, nz2, nz3]
    refine lst_skip 64 rfl rfl ?_
    simp only [nz1, nz2, nz3]
    refine lst_skip 65 rfl rfl ?_
    simp only [nz1, nz2, nz3]
    refine lst_skip 66 rfl rfl ?_
    simp only [nz1, nz2, nz3]
    refine lv 67 (.bool true) rfl rfl (run_pick rfl rfl rfl) ?_
    simp only [nz1, nz2, nz3]
    refine wpList_nil ?_
    refine then_n (hK143 _ _ ?_)
    refine cond_t rfl ?_
    refine wp_seq_k (fun K144 hK144 => ?_)
    refine wp_region_lit ?_
    refine lv 68 (.agg (pt 0 0 0 0)) rfl rfl (by unfold execOp; go_simp; rfl) ?_
    simp only [nz1, nz2, nz3]
    refine lst (wanted_none rfl) (m_store 0 25 _ _ (pt 0 0 0 0) (old := pt 0 0 0 0) hm141 rfl rfl rfl rfl rfl (by rw [pt_sz]; exact info_p) ((pt_sz _ _ _ _).trans (pt_sz _ _ _ _).symm) (pt_one _ _ _ _) (fun w145 (hm146 : Mm w w145 [(g2, pt 0 0 0 0, 25), (g8, bs (upY s), 23), (g35, bs 1, 23), (g43, bs sq, 23), (g51, bs nu, 23), (g65, bs den, 23), (g108, bs xv, 23)]) => ?_))
    refine lv 3 (.bool false) rfl rfl (run_as rfl rfl) ?_
    simp only [nz1, nz2, nz3]
    refine wpList_nil ?_
    refine then_n (hK144 _ _ ?_)
    refine wp_ret ?_
    refine then_r ?_
    exact ⟨rfl, .tuple #[.agg (pt 0 0 0 0), .bool false], res_ct rfl rfl (hm146.at 0 rfl) Tryd.underlying25 rfl (by rw [pt_sz]; exact info_p) rfl, ⟨rfl, hm146.below⟩⟩
end Go.Proofs.YtfpphinnngblgaaDoor.Fld

namespace Go.Proofs.YtfpphinnngblgaaDoor.Fld
open Go.RowKit Go.Lib
open Go.Proofs.YtfpphinnngblgaaDoor.Num (val up val_congr val_add val_lt val_up val_digits val_word)
open Go.Proofs.YtfpphinnngblgaaDoor.Arr Go.Proofs.YtfpphinnngblgaaDoor.Sym Go.Proofs.YtfpphinnngblgaaDoor.Sx

set_option maxHeartbeats 16000000 in
set_option maxRecDepth 100000 in
theorem run_zero (s : ByteArray) (sq ds den nu di ra xv : Nat) (h1 : fM (upY s) (upY s) = sq) (h2 : fM dN sq = ds) (h3 : fA ds 1 = den) (h4 : fS sq 1 = nu) (h5 : fI den = di) (h6 : fM nu di = ra) (h7 : rootV (ra % PP) = xv) (hs : s.size = 32) (ho : 127 < bt (n32 s) 31) (hc : upY s < PP) (hok : rootOk (ra % PP) = true) (hz : xv = 0) (w : World) : Calls Tryd.prog 11 #[.string s] w (fun e w' => e = .returned (.tuple #[.agg (pt 0 0 0 0), .bool false]) ∧ Below w.heap.size w w') := by
  go_enter Tryd.func11, Tryd.ntmps11
  have hm0 := Mm.nil w
  refine wp_seq_k (fun K1 hK1 => ?_)
  refine wp_region_lit ?_
  refine lst (wanted_none rfl) (m_alloc (c := pt 0 0 0 0) (T := 25) hm0 2 rfl (al_P rfl) (fun g2 w3 (hm4 : Mm w w3 [(g2, pt 0 0 0 0, 25)]) => ?_))
  simp only [nz1, nz2, nz3]
  refine lv 3 (.bool false) rfl rfl (run_as rfl rfl) ?_
  simp only [nz1, nz2, nz3]
  refine wpList_nil ?_
  refine then_n (hK1 _ _ ?_)
  refine wp_seq_k (fun K5 hK5 => ?_)
  refine wp_seq_k (fun K6 hK6 => ?_)
  refine wp_region_lit ?_
  refine lv 13 (.string s) rfl rfl (run_mv rfl rfl) ?_
  simp only [nz1, nz2, nz3]
  refine lv 14 (.int .i64 ((s.size : Nat) : Int)) rfl rfl (r_len rfl Tryd.underlying9 rfl) ?_
  simp only [nz1, nz2, nz3]
  refine lv 15 (.bool (decide (¬ s.size = 32))) rfl rfl (r_neq s.size 32 rfl rfl rfl) ?_
  simp only [nz1, nz2, nz3]
  refine wpList_nil ?_
  refine then_n (hK6 _ _ ?_)
  refine cond_df (¬ s.size = 32) rfl (fun hn => hn hs) ?_
  refine wp_skip ?_
  refine then_n (hK5 _ _ ?_)
  refine wp_seq_k (fun K7 hK7 => ?_)
  refine wp_region_lit ?_
  refine lst (wanted_none rfl) (m_alloc (c := bs 0) (T := 23) hm4 4 rfl (run_alN rfl) (fun g8 w9 (hm10 : Mm w w9 [(g2, pt 0 0 0 0, 25), (g8, bs 0, 23)]) => ?_))
  simp only [nz1, nz2, nz3]
  refine wpList_nil ?_
  refine then_n (hK7 _ _ ?_)
  refine wp_seq_k (fun K11 hK11 => ?_)
  refine wp_seq_k (fun K12 hK12 => ?_)
  refine wp_region_lit ?_
  refine lv 5 (.int .i64 0) rfl rfl (run_as rfl rfl) ?_
  simp only [nz1, nz2, nz3]
  refine wpList_nil ?_
  have hm13 : Mm w w9 [(g2, pt 0 0 0 0, 25), (g8, rowOf .u8 (pb (sb s) 0) 32, 23)] := by rw [show (rowOf .u8 (pb (sb s) 0) 32 : Array Value) = bs 0 from pb_none _]; exact hm10
  refine then_n (hK12 _ _ ?_)
  refine wp_block ?_
  refine wp_loop_n (fun n' a' w' => ∃ (k : Nat) (u0 : Nat → Value), n' = 32 - k ∧ (k ≤ 32) ∧ a' = ⟨#[.string s, undef, .pointer (some ⟨g2, 0, none⟩), .bool false, .pointer (some ⟨g8, 0, none⟩), .int .i64 ((k : Nat) : Int), undef, undef, undef, undef, undef, undef, undef, .string s, .int .i64 ((s.size : Nat) : Int), .bool (decide (¬ s.size = 32)), undef, u0 0, u0 1, u0 2, u0 3, u0 4, u0 5, u0 6, u0 7, u0 8, undef, undef, undef, undef, undef, undef, undef, undef, undef, undef, undef, undef, undef, undef, undef, undef, undef, undef, undef, undef, undef, undef, undef, undef, undef, undef, undef, undef, undef, undef, undef, undef, undef, undef, undef, undef, undef, undef, undef, undef, undef, undef, undef, undef, undef, undef, undef, undef, undef, undef, undef, undef, undef, undef], []⟩ ∧ Mm w w' [(g2, pt 0 0 0 0, 25), (g8, rowOf .u8 (pb (sb s) k) 32, 23)]) ⟨0, (fun qq => List.getD [undef, undef, undef, undef, undef, undef, undef, undef, undef] qq undef), rfl, (by omega), rfl, hm13⟩ ?_
  clear hm13
  rintro _ _ w14 ⟨k, u0, hn0, hk, rfl, hm15⟩ R16 hR16
  refine wp_seq_k (fun K17 hK17 => ?_)
  refine wp_seq_k (fun K18 hK18 => ?_)
  refine wp_region_lit ?_
  refine lv 17 (.int .i64 ((k : Nat) : Int)) rfl rfl (run_mv rfl rfl) ?_
  simp only [nz1, nz2, nz3]
  refine lv 18 (.bool (decide (k < 32))) rfl rfl (r_lss k 32 rfl rfl rfl) ?_
  simp only [nz1, nz2, nz3]
  refine wpList_nil ?_
  refine then_n (hK18 _ _ ?_)
  refine cond_d (k < 32) rfl (fun hc19 => ?_) (fun hc19 => ?_)
  · refine wp_skip ?_
    refine then_n (hK17 _ _ ?_)
    refine wp_seq_k (fun K20 hK20 => ?_)
    refine wp_block ?_
    refine wp_region_lit ?_
    refine lv 21 (.int .i64 ((k : Nat) : Int)) rfl rfl (run_mv rfl rfl) ?_
    simp only [nz1, nz2, nz3]
    refine lv 22 (.string s) rfl rfl (run_mv rfl rfl) ?_
    simp only [nz1, nz2, nz3]
    refine lv 23 (.int .i64 ((k : Nat) : Int)) rfl rfl (run_mv rfl rfl) ?_
    simp only [nz1, nz2, nz3]
    refine lv 24 (.int .u8 (((sb s k) : Nat) : Int)) rfl rfl (r_char k (sb s k) (by omega) (sb_at s k _) Tryd.underlying9 rfl rfl rfl) ?_
    simp only [nz1, nz2, nz3]
    refine lv 25 (.pointer (some ⟨g8, k, none⟩)) rfl rfl (r_ix g8 k (by omega) Tryd.underlying23 one_u8 rfl rfl rfl) ?_
    simp only [nz1, nz2, nz3]
    refine lst (wanted_none rfl) (m_put 1 (new := rowOf .u8 (up (pb (sb s) k) k (sb s k)) 32) k (.int .u8 (((sb s k) : Nat) : Int)) (old := rowOf .u8 (pb (sb s) k) 32) hm15 rfl rfl (p_cell (n := 32) (f := (pb (sb s) k)) g8 k (sb s k) (by omega) (hm15.at 1 rfl) rfl one_u8 rfl rfl) (rowOf_set _ _ _ _ _) (fun w21 (hm22 : Mm w w21 [(g2, pt 0 0 0 0, 25), (g8, rowOf .u8 (up (pb (sb s) k) k (sb s k)) 32, 23)]) => ?_))
    refine wpList_nil ?_
    have hm23 : Mm w w21 [(g2, pt 0 0 0 0, 25), (g8, rowOf .u8 (pb (sb s) (k + 1)) 32, 23)] := by rw [show (rowOf .u8 (pb (sb s) (k + 1)) 32 : Array Value) = rowOf .u8 (up (pb (sb s) k) k (sb s k)) 32 from by rw [pb_up]]; exact hm22
    refine blk_n ?_
    refine then_n (hK20 _ _ ?_)
    refine wp_region_lit ?_
    refine lv 19 (.int .i64 ((k : Nat) : Int)) rfl rfl (run_mv rfl rfl) ?_
    simp only [nz1, nz2, nz3]
    refine lv 20 (.int .i64 (((k + 1) : Nat) : Int)) rfl rfl (r_add k 1 (show (k + 1) < 9223372036854775808 from by omega) rfl rfl rfl) ?_
    simp only [nz1, nz2, nz3]
    refine lv 5 (.int .i64 (((k + 1) : Nat) : Int)) rfl rfl (run_as rfl rfl) ?_
    simp only [nz1, nz2, nz3]
    refine wpList_nil ?_
    refine then_n (hR16 _ _ _ ⟨(k + 1), (fun qq => List.getD [.int .i64 ((k : Nat) : Int), .bool (decide (k < 32)), .int .i64 ((k : Nat) : Int), .int .i64 (((k + 1) : Nat) : Int), .int .i64 ((k : Nat) : Int), .string s, .int .i64 ((k : Nat) : Int), .int .u8 (((sb s k) : Nat) : Int), .pointer (some ⟨g8, k, none⟩)] qq undef), rfl, (by omega), rfl, hm23⟩ ?_)
    omega
  · obtain rfl : k = 32 := by omega
    have hm24 : Mm w w14 [(g2, pt 0 0 0 0, 25), (g8, bs (n32 s), 23)] := by rw [show (bs (n32 s) : Array Value) = rowOf .u8 (pb (sb s) 32) 32 from n32_row s]; exact hm15
    refine wp_exit ?_
    refine then_x ?_
    refine then_x ?_
    refine blk_x ?_
    refine then_n (hK11 _ _ ?_)
    refine wp_seq_k (fun K25 hK25 => ?_)
    refine wp_region_lit ?_
    refine lv 26 (.pointer (some ⟨g8, 31, none⟩)) rfl rfl (r_ix g8 31 (by decide) Tryd.underlying23 one_u8 rfl rfl rfl) ?_
    simp only [nz1, nz2, nz3]
    refine lv 27 (.int .u8 (((bt (n32 s)) 31 : Nat) : Int)) rfl rfl (r_cell (f := (bt (n32 s))) (n := 32) g8 31 (by decide) (hm24.at 1 rfl) Tryd.underlying5 rfl rfl) ?_
    simp only [nz1, nz2, nz3]
    refine lv 28 (.int .u8 (((((bt (n32 s)) 31) / 2 ^ 7) : Nat) : Int)) rfl rfl (r_shr ((bt (n32 s)) 31) 7 (by decide) rfl rfl rfl) ?_
    simp only [nz1, nz2, nz3]
    refine lv 6 (.int .u8 (((((bt (n32 s)) 31) / 2 ^ 7) : Nat) : Int)) rfl rfl (run_as rfl rfl) ?_
    simp only [nz1, nz2, nz3]
    refine wpList_nil ?_
    rw [show ((.int .u8 (((((bt (n32 s)) 31) / 2 ^ 7) : Nat) : Int)) : Value) = .int .u8 1 from by rw [odd1 s ho]; rfl]
    refine then_n (hK25 _ _ ?_)
    refine wp_seq_k (fun K26 hK26 => ?_)
    refine wp_region_lit ?_
    refine lv 29 (.pointer (some ⟨g8, 31, none⟩)) rfl rfl (r_ix g8 31 (by decide) Tryd.underlying23 one_u8 rfl rfl rfl) ?_
    simp only [nz1, nz2, nz3]
    refine lv 30 (.int .u8 (((bt (n32 s)) 31 : Nat) : Int)) rfl rfl (r_cell (f := (bt (n32 s))) (n := 32) g8 31 (by decide) (hm24.at 1 rfl) Tryd.underlying5 rfl rfl) ?_
    simp only [nz1, nz2, nz3]
    refine lv 31 (.int .u8 (((bt (n32 s) 31 % 128) : Nat) : Int)) rfl rfl (r_andx ((bt (n32 s)) 31) 127 8 (bt (n32 s) 31 % 128) (by decide) (bt_lt _ _) (by decide) (show _ &&& (2 ^ 7 - 1) = _ from Nat.and_two_pow_sub_one_eq_mod _ 7) rfl rfl rfl) ?_
    simp only [nz1, nz2, nz3]
    refine lv 32 (.pointer (some ⟨g8, 31, none⟩)) rfl rfl (r_ix g8 31 (by decide) Tryd.underlying23 one_u8 rfl rfl rfl) ?_
    simp only [nz1, nz2, nz3]
    refine lst (wanted_none rfl) (m_put 1 (new := rowOf .u8 (up (bt (n32 s)) 31 (bt (n32 s) 31 % 128)) 32) 31 (.int .u8 (((bt (n32 s) 31 % 128) : Nat) : Int)) (old := bs (n32 s)) hm24 rfl rfl (p_cell (n := 32) (f := (bt (n32 s))) g8 31 (bt (n32 s) 31 % 128) (by decide) (hm24.at 1 rfl) rfl one_u8 rfl rfl) (rowOf_set _ _ _ _ _) (fun w27 (hm28 : Mm w w27 [(g2, pt 0 0 0 0, 25), (g8, rowOf .u8 (up (bt (n32 s)) 31 (bt (n32 s) 31 % 128)) 32, 23)]) => ?_))
    refine wpList_nil ?_
    have hm29 : Mm w w27 [(g2, pt 0 0 0 0, 25), (g8, bs (upY s), 23)] := by rw [show (bs (upY s) : Array Value) = rowOf .u8 (up (bt (n32 s)) 31 (bt (n32 s) 31 % 128)) 32 from cut_bit _]; exact hm28
    refine then_n (hK26 _ _ ?_)
    refine wp_seq_k (fun K30 hK30 => ?_)
    refine wp_seq_k (fun K31 hK31 => ?_)
    refine wp_region_lit ?_
    refine lv 33 (.agg (bs (upY s))) rfl rfl (run_row rfl rfl (hm29.at 1 rfl) Tryd.underlying23 rfl (by rw [bs_sz]; exact info_b)) ?_
    simp only [nz1, nz2, nz3]
    refine lst (wanted_none rfl) (m_call hm29 34 (.bool (decide ((upY s) < PP))) rfl (run_gCanon rfl rfl) (rcanon_any (upY s) (upY_lt s) _) (fun w32 hm33 => ?_))
    simp only [nz1, nz2, nz3]
    refine lv 35 (.bool (decide (¬ ((upY s) < PP)))) rfl rfl (r_notD ((upY s) < PP) rfl rfl) ?_
    simp only [nz1, nz2, nz3]
    refine wpList_nil ?_
    refine then_n (hK31 _ _ ?_)
    refine cond_df (¬ ((upY s) < PP)) rfl (fun hn => hn hc) ?_
    refine wp_skip ?_
    refine then_n (hK30 _ _ ?_)
    refine wp_seq_k (fun K34 hK34 => ?_)
    refine wp_region_lit ?_
    refine lv 37 (.agg (bs 1)) rfl rfl (by unfold execOp; go_simp; rfl) ?_
    simp only [nz1, nz2, nz3]
    refine lst (wanted_none rfl) (m_alloc (c := bs 0) (T := 23) hm33 7 rfl (run_alN rfl) (fun g35 w36 (hm37 : Mm w w36 [(g2, pt 0 0 0 0, 25), (g8, bs (upY s), 23), (g35, bs 0, 23)]) => ?_))
    simp only [nz1, nz2, nz3]
    refine lst (wanted_none rfl) (m_store 2 23 _ _ (bs 1) (old := bs 0) hm37 rfl rfl rfl rfl rfl (by rw [bs_sz]; exact info_b) ((bs_sz _).trans (bs_sz _).symm) (bs_one _) (fun w38 (hm39 : Mm w w38 [(g2, pt 0 0 0 0, 25), (g8, bs (upY s), 23), (g35, bs 1, 23)]) => ?_))
    refine wpList_nil ?_
    refine then_n (hK34 _ _ ?_)
    refine wp_seq_k (fun K40 hK40 => ?_)
    refine wp_region_lit ?_
    refine lv 38 (.agg (bs (upY s))) rfl rfl (run_row rfl rfl (hm39.at 1 rfl) Tryd.underlying23 rfl (by rw [bs_sz]; exact info_b)) ?_
    simp only [nz1, nz2, nz3]
    refine lv 39 (.agg (bs (upY s))) rfl rfl (run_row rfl rfl (hm39.at 1 rfl) Tryd.underlying23 rfl (by rw [bs_sz]; exact info_b)) ?_
    simp only [nz1, nz2, nz3]
    refine lst (wanted_none rfl) (m_call hm39 40 (.agg (bs sq)) rfl (run_gMul rfl rfl rfl) (rmul_g (upY s) (upY s) sq (upY_lt s) (upY_lt s) h1 _) (fun w41 hm42 => ?_))
    simp only [nz1, nz2, nz3]
    refine lst (wanted_none rfl) (m_alloc (c := bs 0) (T := 23) hm42 8 rfl (run_alN rfl) (fun g43 w44 (hm45 : Mm w w44 [(g2, pt 0 0 0 0, 25), (g8, bs (upY s), 23), (g35, bs 1, 23), (g43, bs 0, 23)]) => ?_))
    simp only [nz1, nz2, nz3]
    refine lst (wanted_none rfl) (m_store 3 23 _ _ (bs sq) (old := bs 0) hm45 rfl rfl rfl rfl rfl (by rw [bs_sz]; exact info_b) ((bs_sz _).trans (bs_sz _).symm) (bs_one _) (fun w46 (hm47 : Mm w w46 [(g2, pt 0 0 0 0, 25), (g8, bs (upY s), 23), (g35, bs 1, 23), (g43, bs sq, 23)]) => ?_))
    refine wpList_nil ?_
    refine then_n (hK40 _ _ ?_)
    refine wp_seq_k (fun K48 hK48 => ?_)
    refine wp_region_lit ?_
    refine lv 41 (.agg (bs sq)) rfl rfl (run_row rfl rfl (hm47.at 3 rfl) Tryd.underlying23 rfl (by rw [bs_sz]; exact info_b)) ?_
    simp only [nz1, nz2, nz3]
    refine lv 42 (.agg (bs 1)) rfl rfl (run_row rfl rfl (hm47.at 2 rfl) Tryd.underlying23 rfl (by rw [bs_sz]; exact info_b)) ?_
    simp only [nz1, nz2, nz3]
    refine lst (wanted_none rfl) (m_call hm47 43 (.agg (bs nu)) rfl (run_gSub rfl rfl rfl) (rsub_g sq 1 nu (h1 ▸ f_lt (fM_lt _ _)) (by decide) h4 _) (fun w49 hm50 => ?_))
    simp only [nz1, nz2, nz3]
    refine lst (wanted_none rfl) (m_alloc (c := bs 0) (T := 23) hm50 9 rfl (run_alN rfl) (fun g51 w52 (hm53 : Mm w w52 [(g2, pt 0 0 0 0, 25), (g8, bs (upY s), 23), (g35, bs 1, 23), (g43, bs sq, 23), (g51, bs 0, 23)]) => ?_))
    simp only [nz1, nz2, nz3]
    refine lst (wanted_none rfl) (m_store 4 23 _ _ (bs nu) (old := bs 0) hm53 rfl rfl rfl rfl rfl (by rw [bs_sz]; exact info_b) ((bs_sz _).trans (bs_sz _).symm) (bs_one _) (fun w54 (hm55 : Mm w w54 [(g2, pt 0 0 0 0, 25), (g8, bs (upY s), 23), (g35, bs 1, 23), (g43, bs sq, 23), (g51, bs nu, 23)]) => ?_))
    refine wpList_nil ?_
    refine then_n (hK48 _ _ ?_)
    refine wp_seq_k (fun K56 hK56 => ?_)
    refine wp_mono (Q := fun e a' w' => e = Exit.normal ∧ ∃ g65 : Nat, a' = ⟨#[.string s, undef, .pointer (some ⟨g2, 0, none⟩), .bool false, .pointer (some ⟨g8, 0, none⟩), .int .i64 32, .int .u8 1, .pointer (some ⟨g35, 0, none⟩), .pointer (some ⟨g43, 0, none⟩), .pointer (some ⟨g51, 0, none⟩), .pointer (some ⟨g65, 0, none⟩), undef, undef, .string s, .int .i64 ((s.size : Nat) : Int), .bool (decide (¬ s.size = 32)), undef, .int .i64 32, .bool (decide (32 < 32)), u0 2, u0 3, u0 4, u0 5, u0 6, u0 7, u0 8, .pointer (some ⟨g8, 31, none⟩), .int .u8 (((bt (n32 s)) 31 : Nat) : Int), .int .u8 1, .pointer (some ⟨g8, 31, none⟩), .int .u8 (((bt (n32 s)) 31 : Nat) : Int), .int .u8 (((bt (n32 s) 31 % 128) : Nat) : Int), .pointer (some ⟨g8, 31, none⟩), .agg (bs (upY s)), .bool (decide ((upY s) < PP)), .bool (decide (¬ ((upY s) < PP))), undef, .agg (bs 1), .agg (bs (upY s)), .agg (bs (upY s)), .agg (bs sq), .agg (bs sq), .agg (bs 1), .agg (bs nu), .agg (bs dN), .agg (bs sq), .agg (bs ds), .agg (bs 1), .agg (bs den), undef, undef, undef, undef, undef, undef, undef, undef, undef, undef, undef, undef, undef, undef, undef, undef, undef, undef, undef, undef, undef, undef, undef, undef, undef, undef, undef, undef, undef, undef, undef], []⟩ ∧ Mm w w' [(g2, pt 0 0 0 0, 25), (g8, bs (upY s), 23), (g35, bs 1, 23), (g43, bs sq, 23), (g51, bs nu, 23), (g65, bs den, 23)]) ?_ ?_
    · have hm57 := hm55.drew
      refine wp_region_held_drew (S := fun w' => Sym.Blk w' g43 (bs sq) 23 ∧ Sym.Blk w' g35 (bs 1) 23) (by kernel_rfl) (⟨hm57.at 3 rfl, hm57.at 2 rfl⟩) (fun _ => ?_)
      generalize w54.drew = w58 at *
      refine Sym.take_at 1 45 (.agg (bs sq)) rfl rfl (by kernel_rfl) (by kernel_rfl) (by kernel_rfl) (fun _ _ _ h => nomatch h.1) rfl (fun _ hw => run_row rfl rfl hw.1 Tryd.underlying23 rfl (by rw [bs_sz]; exact info_b)) (⟨hm57.at 3 rfl, hm57.at 2 rfl⟩) ?_
      simp only [nz1, nz2, nz3]
      refine Sym.take_at 3 47 (.agg (bs 1)) rfl rfl (by kernel_rfl) (by kernel_rfl) (by kernel_rfl) (fun _ _ _ h => nomatch h.1) rfl (fun _ hw => run_row rfl rfl hw.2 Tryd.underlying23 rfl (by rw [bs_sz]; exact info_b)) (⟨hm57.at 3 rfl, hm57.at 2 rfl⟩) ?_
      simp only [nz1, nz2, nz3]
      refine two_ready 0 5 (by kernel_rfl) ?_ ?_
      · refine opd rfl rfl (m_call hm57 44 (.agg (bs dN)) rfl (run_factor rfl) (factor_any _) (fun w59 hm60 => ?_))
        refine ⟨⟨hm60.at 3 rfl, hm60.at 2 rfl⟩, ?_⟩
        simp only [nz1, nz2, nz3]
        refine two_ready 2 5 (by kernel_rfl) ?_ ?_
        · refine opd rfl rfl (m_call hm60 46 (.agg (bs ds)) rfl (run_gMul rfl rfl rfl) (rmul_g dN sq ds dN_lt (h1 ▸ f_lt (fM_lt _ _)) h2 _) (fun w61 hm62 => ?_))
          refine ⟨⟨hm62.at 3 rfl, hm62.at 2 rfl⟩, ?_⟩
          simp only [nz1, nz2, nz3]
          refine two_ready 4 5 (by kernel_rfl) ?_ ?_
          · refine opd rfl rfl (m_call hm62 48 (.agg (bs den)) rfl (run_gAdd rfl rfl rfl) (radd_g ds 1 den (h2 ▸ f_lt (fM_lt _ _)) (by decide) h3 _) (fun w63 hm64 => ?_))
            refine ⟨⟨hm64.at 3 rfl, hm64.at 2 rfl⟩, ?_⟩
            simp only [nz1, nz2, nz3]
            refine one_ready 5 (by kernel_rfl) ?_
            refine opd rfl rfl (m_alloc (c := bs 0) (T := 23) hm64 10 rfl (run_alN rfl) (fun g65 w66 hm67 => ?_))
            refine ⟨⟨hm67.at 3 rfl, hm67.at 2 rfl⟩, ?_⟩
            simp only [nz1, nz2, nz3]
            refine one_ready 6 (by kernel_rfl) ?_
            refine opd rfl rfl (m_store 5 23 _ _ (bs den) (old := bs 0) hm67 rfl rfl rfl rfl rfl (by rw [bs_sz]; exact info_b) ((bs_sz _).trans (bs_sz _).symm) (bs_one _) (fun w68 hm69 => ?_))
            refine ⟨⟨hm69.at 3 rfl, hm69.at 2 rfl⟩, ?_⟩
            refine wpAnyH_done (by kernel_rfl) ?_ _
            exact ⟨rfl, g65, rfl, hm69⟩
          · refine opd rfl rfl (m_alloc (c := bs 0) (T := 23) hm62 10 rfl (run_alN rfl) (fun g70 w71 hm72 => ?_))
            refine ⟨⟨hm72.at 3 rfl, hm72.at 2 rfl⟩, ?_⟩
            simp only [nz1, nz2, nz3]
            refine one_ready 4 (by kernel_rfl) ?_
            refine opd rfl rfl (m_call hm72 48 (.agg (bs den)) rfl (run_gAdd rfl rfl rfl) (radd_g ds 1 den (h2 ▸ f_lt (fM_lt _ _)) (by decide) h3 _) (fun w73 hm74 => ?_))
            refine ⟨⟨hm74.at 3 rfl, hm74.at 2 rfl⟩, ?_⟩
            simp only [nz1, nz2, nz3]
            refine one_ready 6 (by kernel_rfl) ?_
            refine opd rfl rfl (m_store 5 23 _ _ (bs den) (old := bs 0) hm74 rfl rfl rfl rfl rfl (by rw [bs_sz]; exact info_b) ((bs_sz _).trans (bs_sz _).symm) (bs_one _) (fun w75 hm76 => ?_))
            refine ⟨⟨hm76.at 3 rfl, hm76.at 2 rfl⟩, ?_⟩
            refine wpAnyH_done (by kernel_rfl) ?_ _
            exact ⟨rfl, g70, rfl, hm76⟩
        · refine opd rfl rfl (m_alloc (c := bs 0) (T := 23) hm60 10 rfl (run_alN rfl) (fun g77 w78 hm79 => ?_))
          refine ⟨⟨hm79.at 3 rfl, hm79.at 2 rfl⟩, ?_⟩
          simp only [nz1, nz2, nz3]
          refine one_ready 2 (by kernel_rfl) ?_
          refine opd rfl rfl (m_call hm79 46 (.agg (bs ds)) rfl (run_gMul rfl rfl rfl) (rmul_g dN sq ds dN_lt (h1 ▸ f_lt (fM_lt _ _)) h2 _) (fun w80 hm81 => ?_))
          refine ⟨⟨hm81.at 3 rfl, hm81.at 2 rfl⟩, ?_⟩
          simp only [nz1, nz2, nz3]
          refine one_ready 4 (by kernel_rfl) ?_
          refine opd rfl rfl (m_call hm81 48 (.agg (bs den)) rfl (run_gAdd rfl rfl rfl) (radd_g ds 1 den (h2 ▸ f_lt (fM_lt _ _)) (by decide) h3 _) (fun w82 hm83 => ?_))
          refine ⟨⟨hm83.at 3 rfl, hm83.at 2 rfl⟩, ?_⟩
          simp only [nz1, nz2, nz3]
          refine one_ready 6 (by kernel_rfl) ?_
          refine opd rfl rfl (m_store 5 23 _ _ (bs den) (old := bs 0) hm83 rfl rfl rfl rfl rfl (by rw [bs_sz]; exact info_b) ((bs_sz _).trans (bs_sz _).symm) (bs_one _) (fun w84 hm85 => ?_))
          refine ⟨⟨hm85.at 3 rfl, hm85.at 2 rfl⟩, ?_⟩
          refine wpAnyH_done (by kernel_rfl) ?_ _
          exact ⟨rfl, g77, rfl, hm85⟩
      · refine opd rfl rfl (m_alloc (c := bs 0) (T := 23) hm57 10 rfl (run_alN rfl) (fun g86 w87 hm88 => ?_))
        refine ⟨⟨hm88.at 3 rfl, hm88.at 2 rfl⟩, ?_⟩
        simp only [nz1, nz2, nz3]
        refine one_ready 0 (by kernel_rfl) ?_
        refine opd rfl rfl (m_call hm88 44 (.agg (bs dN)) rfl (run_factor rfl) (factor_any _) (fun w89 hm90 => ?_))
        refine ⟨⟨hm90.at 3 rfl, hm90.at 2 rfl⟩, ?_⟩
        simp only [nz1, nz2, nz3]
        refine one_ready 2 (by kernel_rfl) ?_
        refine opd rfl rfl (m_call hm90 46 (.agg (bs ds)) rfl (run_gMul rfl rfl rfl) (rmul_g dN sq ds dN_lt (h1 ▸ f_lt (fM_lt _ _)) h2 _) (fun w91 hm92 => ?_))
        refine ⟨⟨hm92.at 3 rfl, hm92.at 2 rfl⟩, ?_⟩
        simp only [nz1, nz2, nz3]
        refine one_ready 4 (by kernel_rfl) ?_
        refine opd rfl rfl (m_call hm92 48 (.agg (bs den)) rfl (run_gAdd rfl rfl rfl) (radd_g ds 1 den (h2 ▸ f_lt (fM_lt _ _)) (by decide) h3 _) (fun w93 hm94 => ?_))
        refine ⟨⟨hm94.at 3 rfl, hm94.at 2 rfl⟩, ?_⟩
        simp only [nz1, nz2, nz3]
        refine one_ready 6 (by kernel_rfl) ?_
        refine opd rfl rfl (m_store 5 23 _ _ (bs den) (old := bs 0) hm94 rfl rfl rfl rfl rfl (by rw [bs_sz]; exact info_b) ((bs_sz _).trans (bs_sz _).symm) (bs_one _) (fun w95 hm96 => ?_))
        refine ⟨⟨hm96.at 3 rfl, hm96.at 2 rfl⟩, ?_⟩
        refine wpAnyH_done (by kernel_rfl) ?_ _
        exact ⟨rfl, g86, rfl, hm96⟩
    clear hm55
    rintro _ _ w97 ⟨rfl, g65, rfl, hm98⟩
    refine then_n (hK56 _ _ ?_)
    refine wp_seq_k (fun K99 hK99 => ?_)
    refine wp_mono (Q := fun e a' w' => e = Exit.normal ∧ ∃ g108 : Nat, a' = ⟨#[.string s, undef, .pointer (some ⟨g2, 0, none⟩), .bool false, .pointer (some ⟨g8, 0, none⟩), .int .i64 32, .int .u8 1, .pointer (some ⟨g35, 0, none⟩), .pointer (some ⟨g43, 0, none⟩), .pointer (some ⟨g51, 0, none⟩), .pointer (some ⟨g65, 0, none⟩), .pointer (some ⟨g108, 0, none⟩), .bool (rootOk (ra % PP)), .string s, .int .i64 ((s.size : Nat) : Int), .bool (decide (¬ s.size = 32)), undef, .int .i64 32, .bool (decide (32 < 32)), u0 2, u0 3, u0 4, u0 5, u0 6, u0 7, u0 8, .pointer (some ⟨g8, 31, none⟩), .int .u8 (((bt (n32 s)) 31 : Nat) : Int), .int .u8 1, .pointer (some ⟨g8, 31, none⟩), .int .u8 (((bt (n32 s)) 31 : Nat) : Int), .int .u8 (((bt (n32 s) 31 % 128) : Nat) : Int), .pointer (some ⟨g8, 31, none⟩), .agg (bs (upY s)), .bool (decide ((upY s) < PP)), .bool (decide (¬ ((upY s) < PP))), undef, .agg (bs 1), .agg (bs (upY s)), .agg (bs (upY s)), .agg (bs sq), .agg (bs sq), .agg (bs 1), .agg (bs nu), .agg (bs dN), .agg (bs sq), .agg (bs ds), .agg (bs 1), .agg (bs den), .tuple #[.agg (bs xv), .bool (rootOk (ra % PP))], .agg (bs nu), .agg (bs den), .agg (bs di), .agg (bs ra), .tuple #[.agg (bs xv), .bool (rootOk (ra % PP))], .agg (bs xv), .bool (rootOk (ra % PP)), undef, undef, undef, undef, undef, undef, undef, undef, undef, undef, undef, undef, undef, undef, undef, undef, undef, undef, undef, undef, undef, undef, undef], []⟩ ∧ Mm w w' [(g2, pt 0 0 0 0, 25), (g8, bs (upY s), 23), (g35, bs 1, 23), (g43, bs sq, 23), (g51, bs nu, 23), (g65, bs den, 23), (g108, bs xv, 23)]) ?_ ?_
    · have hm100 := hm98.drew
      refine wp_region_held_drew (S := fun w' => Sym.Blk w' g51 (bs nu) 23 ∧ Sym.Blk w' g65 (bs den) 23) (by kernel_rfl) (⟨hm100.at 4 rfl, hm100.at 5 rfl⟩) (fun _ => ?_)
      generalize w97.drew = w101 at *
      refine Sym.take_at 0 50 (.agg (bs nu)) rfl rfl (by kernel_rfl) (by kernel_rfl) (by kernel_rfl) (fun _ _ _ h => nomatch h.1) rfl (fun _ hw => run_row rfl rfl hw.1 Tryd.underlying23 rfl (by rw [bs_sz]; exact info_b)) (⟨hm100.at 4 rfl, hm100.at 5 rfl⟩) ?_
      simp only [nz1, nz2, nz3]
      refine Sym.take_at 1 51 (.agg (bs den)) rfl rfl (by kernel_rfl) (by kernel_rfl) (by kernel_rfl) (fun _ _ _ h => nomatch h.1) rfl (fun _ hw => run_row rfl rfl hw.2 Tryd.underlying23 rfl (by rw [bs_sz]; exact info_b)) (⟨hm100.at 4 rfl, hm100.at 5 rfl⟩) ?_
      simp only [nz1, nz2, nz3]
      refine two_ready 2 8 (by kernel_rfl) ?_ ?_
      · refine opd rfl rfl (m_call hm100 52 (.agg (bs di)) rfl (run_gInv rfl rfl) (rinv_g den di (h3 ▸ f_lt (fA_lt _ _)) h5 _) (fun w102 hm103 => ?_))
        refine ⟨⟨hm103.at 4 rfl, hm103.at 5 rfl⟩, ?_⟩
        simp only [nz1, nz2, nz3]
        refine two_ready 3 8 (by kernel_rfl) ?_ ?_
        · refine opd rfl rfl (m_call hm103 53 (.agg (bs ra)) rfl (run_gMul rfl rfl rfl) (rmul_g nu di ra (h4 ▸ f_lt (fS_lt _ _)) (h5 ▸ f_lt (fI_lt _)) h6 _) (fun w104 hm105 => ?_))
          refine ⟨⟨hm105.at 4 rfl, hm105.at 5 rfl⟩, ?_⟩
          simp only [nz1, nz2, nz3]
          refine two_ready 4 8 (by kernel_rfl) ?_ ?_
          · refine opd rfl rfl (m_call hm105 54 (.tuple #[.agg (bs xv), .bool (rootOk (ra % PP))]) rfl (run_gRoot rfl rfl) (rroot_g ra xv (h6 ▸ f_lt (fM_lt _ _)) h7 _) (fun w106 hm107 => ?_))
            refine ⟨⟨hm107.at 4 rfl, hm107.at 5 rfl⟩, ?_⟩
            simp only [nz1, nz2, nz3]
            refine Sym.take_at 5 49 (.tuple #[.agg (bs xv), .bool (rootOk (ra % PP))]) rfl rfl (by kernel_rfl) (by kernel_rfl) (by kernel_rfl) (fun _ _ _ h => nomatch h.1) rfl (fun _ hw => run_mv rfl rfl) (⟨hm107.at 4 rfl, hm107.at 5 rfl⟩) ?_
            simp only [nz1, nz2, nz3]
            refine Sym.take_at 6 55 (.agg (bs xv)) rfl rfl (by kernel_rfl) (by kernel_rfl) (by kernel_rfl) (fun _ _ _ h => nomatch h.1) rfl (fun _ hw => run_ex rfl rfl rfl) (⟨hm107.at 4 rfl, hm107.at 5 rfl⟩) ?_
            simp only [nz1, nz2, nz3]
            refine Sym.take_at 7 56 (.bool (rootOk (ra % PP))) rfl rfl (by kernel_rfl) (by kernel_rfl) (by kernel_rfl) (fun _ _ _ h => nomatch h.1) rfl (fun _ hw => run_ex rfl rfl rfl) (⟨hm107.at 4 rfl, hm107.at 5 rfl⟩) ?_
            simp only [nz1, nz2, nz3]
            refine one_ready 8 (by kernel_rfl) ?_
            refine opd rfl rfl (m_alloc (c := bs 0) (T := 23) hm107 11 rfl (run_alN rfl) (fun g108 w109 hm110 => ?_))
            refine ⟨⟨hm110.at 4 rfl, hm110.at 5 rfl⟩, ?_⟩
            simp only [nz1, nz2, nz3]
            refine one_ready 9 (by kernel_rfl) ?_
            refine opd rfl rfl (m_store 6 23 _ _ (bs xv) (old := bs 0) hm110 rfl rfl rfl rfl rfl (by rw [bs_sz]; exact info_b) ((bs_sz _).trans (bs_sz _).symm) (bs_one _) (fun w111 hm112 => ?_))
            refine ⟨⟨hm112.at 4 rfl, hm112.at 5 rfl⟩, ?_⟩
            refine one_ready 10 (by kernel_rfl) ?_
            refine opd rfl rfl (w_value 12 (.bool (rootOk (ra % PP))) rfl (run_as rfl rfl) ⟨⟨hm112.at 4 rfl, hm112.at 5 rfl⟩, ?_⟩)
            simp only [nz1, nz2, nz3]
            refine wpAnyH_done (by kernel_rfl) ?_ _
            exact ⟨rfl, g108, rfl, hm112⟩
          · refine opd rfl rfl (m_alloc (c := bs 0) (T := 23) hm105 11 rfl (run_alN rfl) (fun g113 w114 hm115 => ?_))
            refine ⟨⟨hm115.at 4 rfl, hm115.at 5 rfl⟩, ?_⟩
            simp only [nz1, nz2, nz3]
            refine one_ready 4 (by kernel_rfl) ?_
            refine opd rfl rfl (m_call hm115 54 (.tuple #[.agg (bs xv), .bool (rootOk (ra % PP))]) rfl (run_gRoot rfl rfl) (rroot_g ra xv (h6 ▸ f_lt (fM_lt _ _)) h7 _) (fun w116 hm117 => ?_))
            refine ⟨⟨hm117.at 4 rfl, hm117.at 5 rfl⟩, ?_⟩
            simp only [nz1, nz2, nz3]
            refine Sym.take_at 5 49 (.tuple #[.agg (bs xv), .bool (rootOk (ra % PP))]) rfl rfl (by kernel_rfl) (by kernel_rfl) (by kernel_rfl) (fun _ _ _ h => nomatch h.1) rfl (fun _ hw => run_mv rfl rfl) (⟨hm117.at 4 rfl, hm117.at 5 rfl⟩) ?_
            simp only [nz1, nz2, nz3]
            refine Sym.take_at 6 55 (.agg (bs xv)) rfl rfl (by kernel_rfl) (by kernel_rfl) (by kernel_rfl) (fun _ _ _ h => nomatch h.1) rfl (fun _ hw => run_ex rfl rfl rfl) (⟨hm117.at 4 rfl, hm117.at 5 rfl⟩) ?_
            simp only [nz1, nz2, nz3]
            refine Sym.take_at 7 56 (.bool (rootOk (ra % PP))) rfl rfl (by kernel_rfl) (by kernel_rfl) (by kernel_rfl) (fun _ _ _ h => nomatch h.1) rfl (fun _ hw => run_ex rfl rfl rfl) (⟨hm117.at 4 rfl, hm117.at 5 rfl⟩) ?_
            simp only [nz1, nz2, nz3]
            refine one_ready 9 (by kernel_rfl) ?_
            refine opd rfl rfl (m_store 6 23 _ _ (bs xv) (old := bs 0) hm117 rfl rfl rfl rfl rfl (by rw [bs_sz]; exact info_b) ((bs_sz _).trans (bs_sz _).symm) (bs_one _) (fun w118 hm119 => ?_))
            refine ⟨⟨hm119.at 4 rfl, hm119.at 5 rfl⟩, ?_⟩
            refine one_ready 10 (by kernel_rfl) ?_
            refine opd rfl rfl (w_value 12 (.bool (rootOk (ra % PP))) rfl (run_as rfl rfl) ⟨⟨hm119.at 4 rfl, hm119.at 5 rfl⟩, ?_⟩)
            simp only [nz1, nz2, nz3]
            refine wpAnyH_done (by kernel_rfl) ?_ _
            exact ⟨rfl, g113, rfl, hm119⟩
        · refine opd rfl rfl (m_alloc (c := bs 0) (T := 23) hm103 11 rfl (run_alN rfl) (fun g120 w121 hm122 => ?_))
          refine ⟨⟨hm122.at 4 rfl, hm122.at 5 rfl⟩, ?_⟩
          simp only [nz1, nz2, nz3]
          refine one_ready 3 (by kernel_rfl) ?_
          refine opd rfl rfl (m_call hm122 53 (.agg (bs ra)) rfl (run_gMul rfl rfl rfl) (rmul_g nu di ra (h4 ▸ f_lt (fS_lt _ _)) (h5 ▸ f_lt (fI_lt _)) h6 _) (fun w123 hm124 => ?_))
          refine ⟨⟨hm124.at 4 rfl, hm124.at 5 rfl⟩, ?_⟩
          simp only [nz1, nz2, nz3]
          refine one_ready 4 (by kernel_rfl) ?_
          refine opd rfl rfl (m_call hm124 54 (.tuple #[.agg (bs xv), .bool (rootOk (ra % PP))]) rfl (run_gRoot rfl rfl) (rroot_g ra xv (h6 ▸ f_lt (fM_lt _ _)) h7 _) (fun w125 hm126 => ?_))
          refine ⟨⟨hm126.at 4 rfl, hm126.at 5 rfl⟩, ?_⟩
          simp only [nz1, nz2, nz3]
          refine Sym.take_at 5 49 (.tuple #[.agg (bs xv), .bool (rootOk (ra % PP))]) rfl rfl (by kernel_rfl) (by kernel_rfl) (by kernel_rfl) (fun _ _ _ h => nomatch h.1) rfl (fun _ hw => run_mv rfl rfl) (⟨hm126.at 4 rfl, hm126.at 5 rfl⟩) ?_
          simp only [nz1, nz2, nz3]
          refine Sym.take_at 6 55 (.agg (bs xv)) rfl rfl (by kernel_rfl) (by kernel_rfl) (by kernel_rfl) (fun _ _ _ h => nomatch h.1) rfl (fun _ hw => run_ex rfl rfl rfl) (⟨hm126.at 4 rfl, hm126.at 5 rfl⟩) ?_
          simp only [nz1, nz2, nz3]
          refine Sym.take_at 7 56 (.bool (rootOk (ra % PP))) rfl rfl (by kernel_rfl) (by kernel_rfl) (by kernel_rfl) (fun _ _ _ h => nomatch h.1) rfl (fun _ hw => run_ex rfl rfl rfl) (⟨hm126.at 4 rfl, hm126.at 5 rfl⟩) ?_
          simp only [nz1, nz2, nz3]
          refine one_ready 9 (by kernel_rfl) ?_
          refine opd rfl rfl (m_store 6 23 _ _ (bs xv) (old := bs 0) hm126 rfl rfl rfl rfl rfl (by rw [bs_sz]; exact info_b) ((bs_sz _).trans (bs_sz _).symm) (bs_one _) (fun w127 hm128 => ?_))
          refine ⟨⟨hm128.at 4 rfl, hm128.at 5 rfl⟩, ?_⟩
          refine one_ready 10 (by kernel_rfl) ?_
          refine opd rfl rfl (w_value 12 (.bool (rootOk (ra % PP))) rfl (run_as rfl rfl) ⟨⟨hm128.at 4 rfl, hm128.at 5 rfl⟩, ?_⟩)
          simp only [nz1, nz2, nz3]
          refine wpAnyH_done (by kernel_rfl) ?_ _
          exact ⟨rfl, g120, rfl, hm128⟩
      · refine opd rfl rfl (m_alloc (c := bs 0) (T := 23) hm100 11 rfl (run_alN rfl) (fun g129 w130 hm131 => ?_))
        refine ⟨⟨hm131.at 4 rfl, hm131.at 5 rfl⟩, ?_⟩
        simp only [nz1, nz2, nz3]
        refine one_ready 2 (by kernel_rfl) ?_
        refine opd rfl rfl (m_call hm131 52 (.agg (bs di)) rfl (run_gInv rfl rfl) (rinv_g den di (h3 ▸ f_lt (fA_lt _ _)) h5 _) (fun w132 hm133 => ?_))
        refine ⟨⟨hm133.at 4 rfl, hm133.at 5 rfl⟩, ?_⟩
        simp only [nz1, nz2, nz3]
        refine one_ready 3 (by kernel_rfl) ?_
        refine opd rfl rfl (m_call hm133 53 (.agg (bs ra)) rfl (run_gMul rfl rfl rfl) (rmul_g nu di ra (h4 ▸ f_lt (fS_lt _ _)) (h5 ▸ f_lt (fI_lt _)) h6 _) (fun w134 hm135 => ?_))
        refine ⟨⟨hm135.at 4 rfl, hm135.at 5 rfl⟩, ?_⟩
        simp only [nz1, nz2, nz3]
        refine one_ready 4 (by kernel_rfl) ?_
        refine opd rfl rfl (m_call hm135 54 (.tuple #[.agg (bs xv), .bool (rootOk (ra % PP))]) rfl (run_gRoot rfl rfl) (rroot_g ra xv (h6 ▸ f_lt (fM_lt _ _)) h7 _) (fun w136 hm137 => ?_))
        refine ⟨⟨hm137.at 4 rfl, hm137.at 5 rfl⟩, ?_⟩
        simp only [nz1, nz2, nz3]
        refine Sym.take_at 5 49 (.tuple #[.agg (bs xv), .bool (rootOk (ra % PP))]) rfl rfl (by kernel_rfl) (by kernel_rfl) (by kernel_rfl) (fun _ _ _ h => nomatch h.1) rfl (fun _ hw => run_mv rfl rfl) (⟨hm137.at 4 rfl, hm137.at 5 rfl⟩) ?_
        simp only [nz1, nz2, nz3]
        refine Sym.take_at 6 55 (.agg (bs xv)) rfl rfl (by kernel_rfl) (by kernel_rfl) (by kernel_rfl) (fun _ _ _ h => nomatch h.1) rfl (fun _ hw => run_ex rfl rfl rfl) (⟨hm137.at 4 rfl, hm137.at 5 rfl⟩) ?_
        simp only [nz1, nz2, nz3]
        refine Sym.take_at 7 56 (.bool (rootOk (ra % PP))) rfl rfl (by kernel_rfl) (by kernel_rfl) (by kernel_rfl) (fun _ _ _ h => nomatch h.1) rfl (fun _ hw => run_ex rfl rfl rfl) (⟨hm137.at 4 rfl, hm137.at 5 rfl⟩) ?_
        simp only [nz1, nz2, nz3]
        refine one_ready 9 (by kernel_rfl) ?_
        refine opd rfl rfl (m_store 6 23 _ _ (bs xv) (old := bs 0) hm137 rfl rfl rfl rfl rfl (by rw [bs_sz]; exact info_b) ((bs_sz _).trans (bs_sz _).symm) (bs_one _) (fun w138 hm139 => ?_))
        refine ⟨⟨hm139.at 4 rfl, hm139.at 5 rfl⟩, ?_⟩
        refine one_ready 10 (by kernel_rfl) ?_
        refine opd rfl rfl (w_value 12 (.bool (rootOk (ra % PP))) rfl (run_as rfl rfl) ⟨⟨hm139.at 4 rfl, hm139.at 5 rfl⟩, ?_⟩)
        simp only [nz1, nz2, nz3]
        refine wpAnyH_done (by kernel_rfl) ?_ _
        exact ⟨rfl, g129, rfl, hm139⟩
    clear hm98
    rintro _ _ w140 ⟨rfl, g108, rfl, hm141⟩
    rw [show ((.bool (rootOk (ra % PP))) : Value) = .bool true from by rw [hok]]
    refine then_n (hK99 _ _ ?_)
    refine wp_seq_k (fun K142 hK142 => ?_)
    refine wp_seq_k (fun K143 hK143 => ?_)
    refine wp_region_lit ?_
    refine lv 57 (.bool true) rfl rfl (run_mv rfl rfl) ?_
    simp only [nz1, nz2, nz3]
    refine lv 58 (.bool false) rfl rfl (r_not true rfl rfl) ?_
    simp only [nz1, nz2, nz3]
    refine lv 59 (.bool false) rfl rfl (run_mv rfl rfl) ?_
    simp only [nz1, nz2, nz3]
    refine lst rfl (w_value 60 (.int .u8 1) rfl (run_mv rfl rfl) ?_)
    simp only [nz1, nz2, nz3]
    refine lst rfl (w_value 61 (.bool true) rfl (r_eqlx 1 1 true (by decide) rfl rfl rfl) ?_)
    simp only [nz1, nz2, nz3]
    refine lst rfl (w_value 62 (.bool true) rfl (run_mv rfl rfl) ?_)
    simp only [nz1, nz2, nz3]
    refine lst rfl (w_value 63 (.agg (bs xv)) rfl (run_row rfl rfl (hm141.at 6 rfl) Tryd.underlying23 rfl (by rw [bs_sz]; exact info_b)) ?_)
    simp only [nz1, nz2, nz3]
    refine lst rfl (w_value 64 (.agg (bs 0)) rfl (by unfold execOp; go_simp; rfl) ?_)
    simp only [nz1, nz2, nz3]
    refine lst rfl (w_value 65 (.bool true) rfl (run_eqlM xv 0 (h7 ▸ rootV_lt _) (by decide) true (decide_eq_true hz) rfl rfl rfl) ?_)
    simp only [nz1, nz2, nz3]
    refine lst rfl (w_value 66 (.bool true) rfl (run_pick rfl rfl rfl) ?_)
    simp only [nz1, nz2, nz3]
    refine lv 67 (.bool true) rfl rfl (run_pickf rfl rfl rfl) ?_
    simp only [nz1, nz2, nz3]
    refine wpList_nil ?_
    refine then_n (hK143 _ _ ?_)
    refine cond_t rfl ?_
    refine wp_seq_k (fun K144 hK144 => ?_)
    refine wp_region_lit ?_
    refine lv 68 (.agg (pt 0 0 0 0)) rfl rfl (by unfold execOp; go_simp; rfl) ?_
    simp only [nz1, nz2, nz3]
    refine lst (wanted_none rfl) (m_store 0 25 _ _ (pt 0 0 0 0) (old := pt 0 0 0 0) hm141 rfl rfl rfl rfl rfl (by rw [pt_sz]; exact info_p) ((pt_sz _ _ _ _).trans (pt_sz _ _ _ _).symm) (pt_one _ _ _ _) (fun w145 (hm146 : Mm w w145 [(g2, pt 0 0 0 0, 25), (g8, bs (upY s), 23), (g35, bs 1, 23), (g43, bs sq, 23), (g51, bs nu, 23), (g65, bs den, 23), (g108, bs xv, 23)]) => ?_))
    refine lv 3 (.bool false) rfl rfl (run_as rfl rfl) ?_
    simp only [nz1, nz2, nz3]
    refine wpList_nil ?_
    refine then_n (hK144 _ _ ?_)
    refine wp_ret ?_
    refine then_r ?_
    exact ⟨rfl, .tuple #[.agg (pt 0 0 0 0), .bool false], res_ct rfl rfl (hm146.at 0 rfl) Tryd.underlying25 rfl (by rw [pt_sz]; exact info_p) rfl, ⟨rfl, hm146.below⟩⟩
end Go.Proofs.YtfpphinnngblgaaDoor.Fld
