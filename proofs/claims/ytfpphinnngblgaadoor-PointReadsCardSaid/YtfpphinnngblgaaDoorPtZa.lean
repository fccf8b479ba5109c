/- Layer 5: a point out of its bytes. -/
import Derived.Test.YtfpphinnngblgaaDoorPtK
import Derived.Test.YtfpphinnngblgaaDoorPtRr
namespace Go.Proofs.YtfpphinnngblgaaDoor.Fld
open Go.RowKit Go.Lib
open Go.Proofs.YtfpphinnngblgaaDoor.Num (val up val_congr val_add val_lt val_up val_digits val_word)
open Go.Proofs.YtfpphinnngblgaaDoor.Arr Go.Proofs.YtfpphinnngblgaaDoor.Sym Go.Proofs.YtfpphinnngblgaaDoor.Sx

theorem radd_g (a b c : Nat) (ha : a < MM) (hb : b < MM) (h : fA a b = c) (w : World) : Calls Tryd.prog 38 #[.agg (bs a), .agg (bs b)] w (fun e w' => e = .returned (.agg (bs c)) ∧ Below w.heap.size w w') := by
  rw [← h]; exact radd_f a b ha hb w
theorem rsub_g (a b c : Nat) (ha : a < MM) (hb : b < MM) (h : fS a b = c) (w : World) : Calls Tryd.prog 37 #[.agg (bs a), .agg (bs b)] w (fun e w' => e = .returned (.agg (bs c)) ∧ Below w.heap.size w w') := by
  rw [← h]; exact rsub_f a b ha hb w
theorem rroot_g (a x : Nat) (ha : a < MM) (h : rootV (a % PP) = x) (w : World) : Calls Tryd.prog 40 #[.agg (bs a)] w (fun e w' => e = .returned (.tuple #[.agg (bs x), .bool (rootOk (a % PP))]) ∧ Below w.heap.size w w') := by
  rw [← h]; exact rroot_any a ha w
theorem r_eqlx {P : Program} {o : Oper} {a : Act} {w : World} {x y : Operand} {T T' : TypeId} {k : IntKind} (n m : Nat) (b : Bool) (hb : decide (n = m) = b) (ho : o.op = .binOp .eql T x y T') (hx : a.eval x = .int k (n : Int)) (hy : a.eval y = .int k (m : Int)) : (execOp a.eval o).run P w = .ok (.value (.bool b)) w := by
  rw [← hb]; exact r_eql n m ho hx hy
theorem odd1 (s : ByteArray) (h : 127 < bt (n32 s) 31) : bt (n32 s) 31 / 2 ^ 7 = 1 := by have := bt_lt (n32 s) 31; omega
theorem odd0 (s : ByteArray) (h : ¬ 127 < bt (n32 s) 31) : bt (n32 s) 31 / 2 ^ 7 = 0 := by omega
set_option maxHeartbeats 16000000 in
set_option maxRecDepth 100000 in
theorem run_len (s : ByteArray) (hs : ¬ s.size = 32) (w : World) : Calls Tryd.prog 11 #[.string s] w (fun e w' => e = .returned (.tuple #[.agg (pt 0 0 0 0), .bool false]) ∧ Below w.heap.size w w') := by
  go_enter Tryd.func11, Tryd.ntmps11
  have hm0 := Mm.nil w
  refine wp_seq_k (fun K1 hK1 => ?_)
  refine wp_region_lit ?_
  refine lst (wanted_none rfl) (m_alloc (c := pt 0 0 0 0) (T := 25) hm0 2 rfl (al_P rfl) (fun g2 w3 (hm4 : Mm w w3 [(g2, pt 0 0 0 0, 25)]) => ?_))
  simp only [nz1, nz2, nz3]
  refine lv 3 (.bool false) rfl rfl (run_as rfl rfl) ?_
  simp only [nz1, nz2, nz3]
  refine wpList_nil ?_
  refine then_n (hK1 _ _ ?_)
  refine wp_seq_k (fun K5 hK5 => ?_)
  refine wp_seq_k (fun K6 hK6 => ?_)
  refine wp_region_lit ?_
  refine lv 13 (.string s) rfl rfl (run_mv rfl rfl) ?_
  simp only [nz1, nz2, nz3]
  refine lv 14 (.int .i64 ((s.size : Nat) : Int)) rfl rfl (r_len rfl Tryd.underlying9 rfl) ?_
  simp only [nz1, nz2, nz3]
  refine lv 15 (.bool (decide (¬ s.size = 32))) rfl rfl (r_neq s.size 32 rfl rfl rfl) ?_
  simp only [nz1, nz2, nz3]
  refine wpList_nil ?_
  refine then_n (hK6 _ _ ?_)
  refine cond_dt (¬ s.size = 32) rfl hs ?_
  refine wp_seq_k (fun K7 hK7 => ?_)
  refine wp_region_lit ?_
  refine lv 16 (.agg (pt 0 0 0 0)) rfl rfl (by unfold execOp; go_simp; rfl) ?_
  simp only [nz1, nz2, nz3]
  refine lst (wanted_none rfl) (m_store 0 25 _ _ (pt 0 0 0 0) (old := pt 0 0 0 0) hm4 rfl rfl rfl rfl rfl (by rw [pt_sz]; exact info_p) ((pt_sz _ _ _ _).trans (pt_sz _ _ _ _).symm) (pt_one _ _ _ _) (fun w8 (hm9 : Mm w w8 [(g2, pt 0 0 0 0, 25)]) => ?_))
  refine lv 3 (.bool false) rfl rfl (run_as rfl rfl) ?_
  simp only [nz1, nz2, nz3]
  refine wpList_nil ?_
  refine then_n (hK7 _ _ ?_)
  refine wp_ret ?_
  refine then_r ?_
  exact ⟨rfl, .tuple #[.agg (pt 0 0 0 0), .bool false], res_ct rfl rfl (hm9.at 0 rfl) Tryd.underlying25 rfl (by rw [pt_sz]; exact info_p) rfl, ⟨rfl, hm9.below⟩⟩
set_option maxHeartbeats 16000000 in
set_option maxRecDepth 100000 in
theorem run_canon_o (s : ByteArray) (hs : s.size = 32) (ho : 127 < bt (n32 s) 31) (hc : ¬ upY s < PP) (w : World) : Calls Tryd.prog 11 #[.string s] w (fun e w' => e = .returned (.tuple #[.agg (pt 0 0 0 0), .bool false]) ∧ Below w.heap.size w w') := by
  go_enter Tryd.func11, Tryd.ntmps11
  have hm0 := Mm.nil w
  refine wp_seq_k (fun K1 hK1 => ?_)
  refine wp_region_lit ?_
  refine lst (wanted_none rfl) (m_alloc (c := pt 0 0 0 0) (T := 25) hm0 2 rfl (al_P rfl) (fun g2 w3 (hm4 : Mm w w3 [(g2, pt 0 0 0 0, 25)]) => ?_))
  simp only [nz1, nz2, nz3]
  refine lv 3 (.bool false) rfl rfl (run_as rfl rfl) ?_
  simp only [nz1, nz2, nz3]
  refine wpList_nil ?_
  refine then_n (hK1 _ _ ?_)
  refine wp_seq_k (fun K5 hK5 => ?_)
  refine wp_seq_k (fun K6 hK6 => ?_)
  refine wp_region_lit ?_
  refine lv 13 (.string s) rfl rfl (run_mv rfl rfl) ?_
  simp only [nz1, nz2, nz3]
  refine lv 14 (.int .i64 ((s.size : Nat) : Int)) rfl rfl (r_len rfl Tryd.underlying9 rfl) ?_
  simp only [nz1, nz2, nz3]
  refine lv 15 (.bool (decide (¬ s.size = 32))) rfl rfl (r_neq s.size 32 rfl rfl rfl) ?_
  simp only [nz1, nz2, nz3]
  refine wpList_nil ?_
  refine then_n (hK6 _ _ ?_)
  refine cond_df (¬ s.size = 32) rfl (fun hn => hn hs) ?_
  refine wp_skip ?_
  refine then_n (hK5 _ _ ?_)
  refine wp_seq_k (fun K7 hK7 => ?_)
  refine wp_region_lit ?_
  refine lst (wanted_none rfl) (m_alloc (c := bs 0) (T := 23) hm4 4 rfl (run_alN rfl) (fun g8 w9 (hm10 : Mm w w9 [(g2, pt 0 0 0 0, 25), (g8, bs 0, 23)]) => ?_))
  simp only [nz1, nz2, nz3]
  refine wpList_nil ?_
  refine then_n (hK7 _ _ ?_)
  refine wp_seq_k (fun K11 hK11 => ?_)
  refine wp_seq_k (fun K12 hK12 => ?_)
  refine wp_region_lit ?_
  refine lv 5 (.int .i64 0) rfl rfl (run_as rfl rfl) ?_
  simp only [nz1, nz2, nz3]
  refine wpList_nil ?_
  have hm13 : Mm w w9 [(g2, pt 0 0 0 0, 25), (g8, rowOf .u8 (pb (sb s) 0) 32, 23)] := by rw [show (rowOf .u8 (pb (sb s) 0) 32 : Array Value) = bs 0 from pb_none _]; exact hm10
  refine then_n (hK12 _ _ ?_)
  refine wp_block ?_
  refine wp_loop_n (fun n' a' w' => ∃ (k : Nat) (u0 : Nat → Value), n' = 32 - k ∧ (k ≤ 32) ∧ a' = ⟨#[.string s, undef, .pointer (some ⟨g2, 0, none⟩), .bool false, .pointer (some ⟨g8, 0, none⟩), .int .i64 ((k : Nat) : Int), undef, undef, undef, undef, undef, undef, undef, .string s, .int .i64 ((s.size : Nat) : Int), .bool (decide (¬ s.size = 32)), undef, u0 0, u0 1, u0 2, u0 3, u0 4, u0 5, u0 6, u0 7, u0 8, undef, undef, undef, undef, undef, undef, undef, undef, undef, undef, undef, undef, undef, undef, undef, undef, undef, undef, undef, undef, undef, undef, undef, undef, undef, undef, undef, undef, undef, undef, undef, undef, undef, undef, undef, undef, undef, undef, undef, undef, undef, undef, undef, undef, undef, undef, undef, undef, undef, undef, undef, undef, undef, undef], []⟩ ∧ Mm w w' [(g2, pt 0 0 0 0, 25), (g8, rowOf .u8 (pb (sb s) k) 32, 23)]) ⟨0, (fun qq => List.getD [undef, undef, undef, undef, undef, undef, undef, undef, undef] qq undef), rfl, (by omega), rfl, hm13⟩ ?_
  clear hm13
  rintro _ _ w14 ⟨k, u0, hn0, hk, rfl, hm15⟩ R16 hR16
  refine wp_seq_k (fun K17 hK17 => ?_)
  refine wp_seq_k (fun K18 hK18 => ?_)
  refine wp_region_lit ?_
  refine lv 17 (.int .i64 ((k : Nat) : Int)) rfl rfl (run_mv rfl rfl) ?_
  simp only [nz1, nz2, nz3]
  refine lv 18 (.bool (decide (k < 32))) rfl rfl (r_lss k 32 rfl rfl rfl) ?_
  simp only [nz1, nz2, nz3]
  refine wpList_nil ?_
  refine then_n (hK18 _ _ ?_)
  refine cond_d (k < 32) rfl (fun hc19 => ?_) (fun hc19 => ?_)
  · refine wp_skip ?_
    refine then_n (hK17 _ _ ?_)
    refine wp_seq_k (fun K20 hK20 => ?_)
    refine wp_block ?_
    refine wp_region_lit ?_
    refine lv 21 (.int .i64 ((k : Nat) : Int)) rfl rfl (run_mv rfl rfl) ?_
    simp only [nz1, nz2, nz3]
    refine lv 22 (.string s) rfl rfl (run_mv rfl rfl) ?_
    simp only [nz1, nz2, nz3]
    refine lv 23 (.int .i64 ((k : Nat) : Int)) rfl rfl (run_mv rfl rfl) ?_
    simp only [nz1, nz2, nz3]
    refine lv 24 (.int .u8 (((sb s k) : Nat) : Int)) rfl rfl (r_char k (sb s k) (by omega) (sb_at s k _) Tryd.underlying9 rfl rfl rfl) ?_
    simp only [nz1, nz2, nz3]
    refine lv 25 (.pointer (some ⟨g8, k, none⟩)) rfl rfl (r_ix g8 k (by omega) Tryd.underlying23 one_u8 rfl rfl rfl) ?_
    simp only [nz1, nz2, nz3]
    refine lst (wanted_none rfl) (m_put 1 (new := rowOf .u8 (up (pb (sb s) k) k (sb s k)) 32) k (.int .u8 (((sb s k) : Nat) : Int)) (old := rowOf .u8 (pb (sb s) k) 32) hm15 rfl rfl (p_cell (n := 32) (f := (pb (sb s) k)) g8 k (sb s k) (by omega) (hm15.at 1 rfl) rfl one_u8 rfl rfl) (rowOf_set _ _ _ _ _) (fun w21 (hm22 : Mm w w21 [(g2, pt 0 0 0 0, 25), (g8, rowOf .u8 (up (pb (sb s) k) k (sb s k)) 32, 23)]) => ?_))
    refine wpList_nil ?_
    have hm23 : Mm w w21 [(g2, pt 0 0 0 0, 25), (g8, rowOf .u8 (pb (sb s) (k + 1)) 32, 23)] := by rw [show (rowOf .u8 (pb (sb s) (k + 1)) 32 : Array Value) = rowOf .u8 (up (pb (sb s) k) k (sb s k)) 32 from by rw [pb_up]]; exact hm22
    refine blk_n ?_
    refine then_n (hK20 _ _ ?_)
    refine wp_region_lit ?_
    refine lv 19 (.int .i64 ((k : Nat) : Int)) rfl rfl (run_mv rfl rfl) ?_
    simp only [nz1, nz2, nz3]
    refine lv 20 (.int .i64 (((k + 1) : Nat) : Int)) rfl rfl (r_add k 1 (show (k + 1) < 9223372036854775808 from by omega) rfl rfl rfl) ?_
    simp only [nz1, nz2, nz3]
    refine lv 5 (.int .i64 (((k + 1) : Nat) : Int)) rfl rfl (run_as rfl rfl) ?_
    simp only [nz1, nz2, nz3]
    refine wpList_nil ?_
    refine then_n (hR16 _ _ _ ⟨(k + 1), (fun qq => List.getD [.int .i64 ((k : Nat) : Int), .bool (decide (k < 32)), .int .i64 ((k : Nat) : Int), .int .i64 (((k + 1) : Nat) : Int), .int .i64 ((k : Nat) : Int), .string s, .int .i64 ((k : Nat) : Int), .int .u8 (((sb s k) : Nat) : Int), .pointer (some ⟨g8, k, none⟩)] qq undef), rfl, (by omega), rfl, hm23⟩ ?_)
    omega
  · obtain rfl : k = 32 := by omega
    have hm24 : Mm w w14 [(g2, pt 0 0 0 0, 25), (g8, bs (n32 s), 23)] := by rw [show (bs (n32 s) : Array Value) = rowOf .u8 (pb (sb s) 32) 32 from n32_row s]; exact hm15
    refine wp_exit ?_
    refine then_x ?_
    refine then_x ?_
    refine blk_x ?_
    refine then_n (hK11 _ _ ?_)
    refine wp_seq_k (fun K25 hK25 => ?_)
    refine wp_region_lit ?_
    refine lv 26 (.pointer (some ⟨g8, 31, none⟩)) rfl rfl (r_ix g8 31 (by decide) Tryd.underlying23 one_u8 rfl rfl rfl) ?_
    simp only [nz1, nz2, nz3]
    refine lv 27 (.int .u8 (((bt (n32 s)) 31 : Nat) : Int)) rfl rfl (r_cell (f := (bt (n32 s))) (n := 32) g8 31 (by decide) (hm24.at 1 rfl) Tryd.underlying5 rfl rfl) ?_
    simp only [nz1, nz2, nz3]
    refine lv 28 (.int .u8 (((((bt (n32 s)) 31) / 2 ^ 7) : Nat) : Int)) rfl rfl (r_shr ((bt (n32 s)) 31) 7 (by decide) rfl rfl rfl) ?_
    simp only [nz1, nz2, nz3]
    refine lv 6 (.int .u8 (((((bt (n32 s)) 31) / 2 ^ 7) : Nat) : Int)) rfl rfl (run_as rfl rfl) ?_
    simp only [nz1, nz2, nz3]
    refine wpList_nil ?_
    rw [show ((.int .u8 (((((bt (n32 s)) 31) / 2 ^ 7) : Nat) : Int)) : Value) = .int .u8 1 from by rw [odd1 s ho]; rfl]
    refine then_n (hK25 _ _ ?_)
    refine wp_seq_k (fun K26 hK26 => ?_)
    refine wp_region_lit ?_
    refine lv 29 (.pointer (some ⟨g8, 31, none⟩)) rfl rfl (r_ix g8 31 (by decide) Tryd.underlying23 one_u8 rfl rfl rfl) ?_
    simp only [nz1, nz2, nz3]
    refine lv 30 (.int .u8 (((bt (n32 s)) 31 : Nat) : Int)) rfl rfl (r_cell (f := (bt (n32 s))) (n := 32) g8 31 (by decide) (hm24.at 1 rfl) Tryd.underlying5 rfl rfl) ?_
    simp only [nz1, nz2, nz3]
    refine lv 31 (.int .u8 (((bt (n32 s) 31 % 128) : Nat) : Int)) rfl rfl (r_andx ((bt (n32 s)) 31) 127 8 (bt (n32 s) 31 % 128) (by decide) (bt_lt _ _) (by decide) (show _ &&& (2 ^ 7 - 1) = _ from Nat.and_two_pow_sub_one_eq_mod _ 7) rfl rfl rfl) ?_
    simp only [nz1, nz2, nz3]
    refine lv 32 (.pointer (some ⟨g8, 31, none⟩)) rfl rfl (r_ix g8 31 (by decide) Tryd.underlying23 one_u8 rfl rfl rfl) ?_
    simp only [nz1, nz2, nz3]
    refine lst (wanted_none rfl) (m_put 1 (new := rowOf .u8 (up (bt (n32 s)) 31 (bt (n32 s) 31 % 128)) 32) 31 (.int .u8 (((bt (n32 s) 31 % 128) : Nat) : Int)) (old := bs (n32 s)) hm24 rfl rfl (p_cell (n := 32) (f := (bt (n32 s))) g8 31 (bt (n32 s) 31 % 128) (by decide) (hm24.at 1 rfl) rfl one_u8 rfl rfl) (rowOf_set _ _ _ _ _) (fun w27 (hm28 : Mm w w27 [(g2, pt 0 0 0 0, 25), (g8, rowOf .u8 (up (bt (n32 s)) 31 (bt (n32 s) 31 % 128)) 32, 23)]) => ?_))
    refine wpList_nil ?_
    have hm29 : Mm w w27 [(g2, pt 0 0 0 0, 25), (g8, bs (upY s), 23)] := by rw [show (bs (upY s) : Array Value) = rowOf .u8 (up (bt (n32 s)) 31 (bt (n32 s) 31 % 128)) 32 from cut_bit _]; exact hm28
    refine then_n (hK26 _ _ ?_)
    refine wp_seq_k (fun K30 hK30 => ?_)
    refine wp_seq_k (fun K31 hK31 => ?_)
    refine wp_region_lit ?_
    refine lv 33 (.agg (bs (upY s))) rfl rfl (run_row rfl rfl (hm29.at 1 rfl) Tryd.underlying23 rfl (by rw [bs_sz]; exact info_b)) ?_
    simp only [nz1, nz2, nz3]
    refine lst (wanted_none rfl) (m_call hm29 34 (.bool (decide ((upY s) < PP))) rfl (run_gCanon rfl rfl) (rcanon_any (upY s) (upY_lt s) _) (fun w32 hm33 => ?_))
    simp only [nz1, nz2, nz3]
    refine lv 35 (.bool (decide (¬ ((upY s) < PP)))) rfl rfl (r_notD ((upY s) < PP) rfl rfl) ?_
    simp only [nz1, nz2, nz3]
    refine wpList_nil ?_
    refine then_n (hK31 _ _ ?_)
    refine cond_dt (¬ ((upY s) < PP)) rfl hc ?_
    refine wp_seq_k (fun K34 hK34 => ?_)
    refine wp_region_lit ?_
    refine lv 36 (.agg (pt 0 0 0 0)) rfl rfl (by unfold execOp; go_simp; rfl) ?_
    simp only [nz1, nz2, nz3]
    refine lst (wanted_none rfl) (m_store 0 25 _ _ (pt 0 0 0 0) (old := pt 0 0 0 0) hm33 rfl rfl rfl rfl rfl (by rw [pt_sz]; exact info_p) ((pt_sz _ _ _ _).trans (pt_sz _ _ _ _).symm) (pt_one _ _ _ _) (fun w35 (hm36 : Mm w w35 [(g2, pt 0 0 0 0, 25), (g8, bs (upY s), 23)]) => ?_))
    refine lv 3 (.bool false) rfl rfl (run_as rfl rfl) ?_
    simp only [nz1, nz2, nz3]
    refine wpList_nil ?_
    refine then_n (hK34 _ _ ?_)
    refine wp_ret ?_
    refine then_r ?_
    exact ⟨rfl, .tuple #[.agg (pt 0 0 0 0), .bool false], res_ct rfl rfl (hm36.at 0 rfl) Tryd.underlying25 rfl (by rw [pt_sz]; exact info_p) rfl, ⟨rfl, hm36.below⟩⟩
set_option maxHeartbeats 16000000 in
set_option maxRecDepth 100000 in
theorem run_canon_e (s : ByteArray) (hs : s.size = 32) (ho : ¬ 127 < bt (n32 s) 31) (hc : ¬ upY s < PP) (w : World) : Calls Tryd.prog 11 #[.string s] w (fun e w' => e = .returned (.tuple #[.agg (pt 0 0 0 0), .bool false]) ∧ Below w.heap.size w w') := by
  go_enter Tryd.func11, Tryd.ntmps11
  have hm0 := Mm.nil w
  refine wp_seq_k (fun K1 hK1 => ?_)
  refine wp_region_lit ?_
  refine lst (wanted_none rfl) (m_alloc (c := pt 0 0 0 0) (T := 25) hm0 2 rfl (al_P rfl) (fun g2 w3 (hm4 : Mm w w3 [(g2, pt 0 0 0 0, 25)]) => ?_))
  simp only [nz1, nz2, nz3]
  refine lv 3 (.bool false) rfl rfl (run_as rfl rfl) ?_
  simp only [nz1, nz2, nz3]
  refine wpList_nil ?_
  refine then_n (hK1 _ _ ?_)
  refine wp_seq_k (fun K5 hK5 => ?_)
  refine wp_seq_k (fun K6 hK6 => ?_)
  refine wp_region_lit ?_
  refine lv 13 (.string s) rfl rfl (run_mv rfl rfl) ?_
  simp only [nz1, nz2, nz3]
  refine lv 14 (.int .i64 ((s.size : Nat) : Int)) rfl rfl (r_len rfl Tryd.underlying9 rfl) ?_
  simp only [nz1, nz2, nz3]
  refine lv 15 (.bool (decide (¬ s.size = 32))) rfl rfl (r_neq s.size 32 rfl rfl rfl) ?_
  simp only [nz1, nz2, nz3]
  refine wpList_nil ?_
  refine then_n (hK6 _ _ ?_)
  refine cond_df (¬ s.size = 32) rfl (fun hn => hn hs) ?_
  refine wp_skip ?_
  refine then_n (hK5 _ _ ?_)
  refine wp_seq_k (fun K7 hK7 => ?_)
  refine wp_region_lit ?_
  refine lst (wanted_none rfl) (m_alloc (c := bs 0) (T := 23) hm4 4 rfl (run_alN rfl) (fun g8 w9 (hm10 : Mm w w9 [(g2, pt 0 0 0 0, 25), (g8, bs 0, 23)]) => ?_))
  simp only [nz1, nz2, nz3]
  refine wpList_nil ?_
  refine then_n (hK7 _ _ ?_)
  refine wp_seq_k (fun K11 hK11 => ?_)
  refine wp_seq_k (fun K12 hK12 => ?_)
  refine wp_region_lit ?_
  refine lv 5 (.int .i64 0) rfl rfl (run_as rfl rfl) ?_
  simp only [nz1, nz2, nz3]
  refine wpList_nil ?_
  have hm13 : Mm w w9 [(g2, pt 0 0 0 0, 25), (g8, rowOf .u8 (pb (sb s) 0) 32, 23)] := by rw [show (rowOf .u8 (pb (sb s) 0) 32 : Array Value) = bs 0 from pb_none _]; exact hm10
  refine then_n (hK12 _ _ ?_)
  refine wp_block ?_
  refine wp_loop_n (fun n' a' w' => ∃ (k : Nat) (u0 : Nat → Value), n' = 32 - k ∧ (k ≤ 32) ∧ a' = ⟨#[.string s, undef, .pointer (some ⟨g2, 0, none⟩), .bool false, .pointer (some ⟨g8, 0, none⟩), .int .i64 ((k : Nat) : Int), undef, undef, undef, undef, undef, undef, undef, .string s, .int .i64 ((s.size : Nat) : Int), .bool (decide (¬ s.size = 32)), undef, u0 0, u0 1, u0 2, u0 3, u0 4, u0 5, u0 6, u0 7, u0 8, undef, undef, undef, undef, undef, undef, undef, undef, undef, undef, undef, undef, undef, undef, undef, undef, undef, undef, undef, undef, undef, undef, undef, undef, undef, undef, undef, undef, undef, undef, undef, undef, undef, undef, undef, undef, undef, undef, undef, undef, undef, undef, undef, undef, undef, undef, undef, undef, undef, undef, undef, undef, undef, undef], []⟩ ∧ Mm w w' [(g2, pt 0 0 0 0, 25), (g8, rowOf .u8 (pb (sb s) k) 32, 23)]) ⟨0, (fun qq => List.getD [undef, undef, undef, undef, undef, undef, undef, undef, undef] qq undef), rfl, (by omega), rfl, hm13⟩ ?_
  clear hm13
  rintro _ _ w14 ⟨k, u0, hn0, hk, rfl, hm15⟩ R16 hR16
  refine wp_seq_k (fun K17 hK17 => ?_)
  refine wp_seq_k (fun K18 hK18 => ?_)
  refine wp_region_lit ?_
  refine lv 17 (.int .i64 ((k : Nat) : Int)) rfl rfl (run_mv rfl rfl) ?_
  simp only [nz1, nz2, nz3]
  refine lv 18 (.bool (decide (k < 32))) rfl rfl (r_lss k 32 rfl rfl rfl) ?_
  simp only [nz1, nz2, nz3]
  refine wpList_nil ?_
  refine then_n (hK18 _ _ ?_)
  refine cond_d (k < 32) rfl (fun hc19 => ?_) (fun hc19 => ?_)
  · refine wp_skip ?_
    refine then_n (hK17 _ _ ?_)
    refine wp_seq_k (fun K20 hK20 => ?_)
    refine wp_block ?_
    refine wp_region_lit ?_
    refine lv 21 (.int .i64 ((k : Nat) : Int)) rfl rfl (run_mv rfl rfl) ?_
    simp only [nz1, nz2, nz3]
    refine lv 22 (.string s) rfl rfl (run_mv rfl rfl) ?_
    simp only [nz1, nz2, nz3]
    refine lv 23 (.int .i64 ((k : Nat) : Int)) rfl rfl (run_mv rfl rfl) ?_
    simp only [nz1, nz2, nz3]
    refine lv 24 (.int .u8 (((sb s k) : Nat) : Int)) rfl rfl (r_char k (sb s k) (by omega) (sb_at s k _) Tryd.underlying9 rfl rfl rfl) ?_
    simp only [nz1, nz2, nz3]
    refine lv 25 (.pointer (some ⟨g8, k, none⟩)) rfl rfl (r_ix g8 k (by omega) Tryd.underlying23 one_u8 rfl rfl rfl) ?_
    simp only [nz1, nz2, nz3]
    refine lst (wanted_none rfl) (m_put 1 (new := rowOf .u8 (up (pb (sb s) k) k (sb s k)) 32) k (.int .u8 (((sb s k) : Nat) : Int)) (old := rowOf .u8 (pb (sb s) k) 32) hm15 rfl rfl (p_cell (n := 32) (f := (pb (sb s) k)) g8 k (sb s k) (by omega) (hm15.at 1 rfl) rfl one_u8 rfl rfl) (rowOf_set _ _ _ _ _) (fun w21 (hm22 : Mm w w21 [(g2, pt 0 0 0 0, 25), (g8, rowOf .u8 (up (pb (sb s) k) k (sb s k)) 32, 23)]) => ?_))
    refine wpList_nil ?_
    have hm23 : Mm w w21 [(g2, pt 0 0 0 0, 25), (g8, rowOf .u8 (pb (sb s) (k + 1)) 32, 23)] := by rw [show (rowOf .u8 (pb (sb s) (k + 1)) 32 : Array Value) = rowOf .u8 (up (pb (sb s) k) k (sb s k)) 32 from by rw [pb_up]]; exact hm22
    refine blk_n ?_
    refine then_n (hK20 _ _ ?_)
    refine wp_region_lit ?_
    refine lv 19 (.int .i64 ((k : Nat) : Int)) rfl rfl (run_mv rfl rfl) ?_
    simp only [nz1, nz2, nz3]
    refine lv 20 (.int .i64 (((k + 1) : Nat) : Int)) rfl rfl (r_add k 1 (show (k + 1) < 9223372036854775808 from by omega) rfl rfl rfl) ?_
    simp only [nz1, nz2, nz3]
    refine lv 5 (.int .i64 (((k + 1) : Nat) : Int)) rfl rfl (run_as rfl rfl) ?_
    simp only [nz1, nz2, nz3]
    refine wpList_nil ?_
    refine then_n (hR16 _ _ _ ⟨(k + 1), (fun qq => List.getD [.int .i64 ((k : Nat) : Int), .bool (decide (k < 32)), .int .i64 ((k : Nat) : Int), .int .i64 (((k + 1) : Nat) : Int), .int .i64 ((k : Nat) : Int), .string s, .int .i64 ((k : Nat) : Int), .int .u8 (((sb s k) : Nat) : Int), .pointer (some ⟨g8, k, none⟩)] qq undef), rfl, (by omega), rfl, hm23⟩ ?_)
    omega
  · obtain rfl : k = 32 := by omega
    have hm24 : Mm w w14 [(g2, pt 0 0 0 0, 25), (g8, bs (n32 s), 23)] := by rw [show (bs (n32 s) : Array Value) = rowOf .u8 (pb (sb s) 32) 32 from n32_row s]; exact hm15
    refine wp_exit ?_
    refine then_x ?_
    refine then_x ?_
    refine blk_x ?_
    refine then_n (hK11 _ _ ?_)
    refine wp_seq_k (fun K25 hK25 => ?_)
    refine wp_region_lit ?_
    refine lv 26 (.pointer (some ⟨g8, 31, none⟩)) rfl rfl (r_ix g8 31 (by decide) Tryd.underlying23 one_u8 rfl rfl rfl) ?_
    simp only [nz1, nz2, nz3]
    refine lv 27 (.int .u8 (((bt (n32 s)) 31 : Nat) : Int)) rfl rfl (r_cell (f := (bt (n32 s))) (n := 32) g8 31 (by decide) (hm24.at 1 rfl) Tryd.underlying5 rfl rfl) ?_
    simp only [nz1, nz2, nz3]
    refine lv 28 (.int .u8 (((((bt (n32 s)) 31) / 2 ^ 7) : Nat) : Int)) rfl rfl (r_shr ((bt (n32 s)) 31) 7 (by decide) rfl rfl rfl) ?_
    simp only [nz1, nz2, nz3]
    refine lv 6 (.int .u8 (((((bt (n32 s)) 31) / 2 ^ 7) : Nat) : Int)) rfl rfl (run_as rfl rfl) ?_
    simp only [nz1, nz2, nz3]
    refine wpList_nil ?_
    rw [show ((.int .u8 (((((bt (n32 s)) 31) / 2 ^ 7) : Nat) : Int)) : Value) = .int .u8 0 from by rw [odd0 s ho]; rfl]
    refine then_n (hK25 _ _ ?_)
    refine wp_seq_k (fun K26 hK26 => ?_)
    refine wp_region_lit ?_
    refine lv 29 (.pointer (some ⟨g8, 31, none⟩)) rfl rfl (r_ix g8 31 (by decide) Tryd.underlying23 one_u8 rfl rfl rfl) ?_
    simp only [nz1, nz2, nz3]
    refine lv 30 (.int .u8 (((bt (n32 s)) 31 : Nat) : Int)) rfl rfl (r_cell (f := (bt (n32 s))) (n := 32) g8 31 (by decide) (hm24.at 1 rfl) Tryd.underlying5 rfl rfl) ?_
    simp only [nz1, nz2, nz3]
    refine lv 31 (.int .u8 (((bt (n32 s) 31 % 128) : Nat) : Int)) rfl rfl (r_andx ((bt (n32 s)) 31) 127 8 (bt (n32 s) 31 % 128) (by decide) (bt_lt _ _) (by decide) (show _ &&& (2 ^ 7 - 1) = _ from Nat.and_two_pow_sub_one_eq_mod _ 7) rfl rfl rfl) ?_
    simp only [nz1, nz2, nz3]
    refine lv 32 (.pointer (some ⟨g8, 31, none⟩)) rfl rfl (r_ix g8 31 (by decide) Tryd.underlying23 one_u8 rfl rfl rfl) ?_
    simp only [nz1, nz2, nz3]
    refine lst (wanted_none rfl) (m_put 1 (new := rowOf .u8 (up (bt (n32 s)) 31 (bt (n32 s) 31 % 128)) 32) 31 (.int .u8 (((bt (n32 s) 31 % 128) : Nat) : Int)) (old := bs (n32 s)) hm24 rfl rfl (p_cell (n := 32) (f := (bt (n32 s))) g8 31 (bt (n32 s) 31 % 128) (by decide) (hm24.at 1 rfl) rfl one_u8 rfl rfl) (rowOf_set _ _ _ _ _) (fun w27 (hm28 : Mm w w27 [(g2, pt 0 0 0 0, 25), (g8, rowOf .u8 (up (bt (n32 s)) 31 (bt (n32 s) 31 % 128)) 32, 23)]) => ?_))
    refine wpList_nil ?_
    have hm29 : Mm w w27 [(g2, pt 0 0 0 0, 25), (g8, bs (upY s), 23)] := by rw [show (bs (upY s) : Array Value) = rowOf .u8 (up (bt (n32 s)) 31 (bt (n32 s) 31 % 128)) 32 from cut_bit _]; exact hm28
    refine then_n (hK26 _ _ ?_)
    refine wp_seq_k (fun K30 hK30 => ?_)
    refine wp_seq_k (fun K31 hK31 => ?_)
    refine wp_region_lit ?_
    refine lv 33 (.agg (bs (upY s))) rfl rfl (run_row rfl rfl (hm29.at 1 rfl) Tryd.underlying23 rfl (by rw [bs_sz]; exact info_b)) ?_
    simp only [nz1, nz2, nz3]
    refine lst (wanted_none rfl) (m_call hm29 34 (.bool (decide ((upY s) < PP))) rfl (run_gCanon rfl rfl) (rcanon_any (upY s) (upY_lt s) _) (fun w32 hm33 => ?_))
    simp only [nz1, nz2, nz3]
    refine lv 35 (.bool (decide (¬ ((upY s) < PP)))) rfl rfl (r_notD ((upY s) < PP) rfl rfl) ?_
    simp only [nz1, nz2, nz3]
    refine wpList_nil ?_
    refine then_n (hK31 _ _ ?_)
    refine cond_dt (¬ ((upY s) < PP)) rfl hc ?_
    refine wp_seq_k (fun K34 hK34 => ?_)
    refine wp_region_lit ?_
    refine lv 36 (.agg (pt 0 0 0 0)) rfl rfl (by unfold execOp; go_simp; rfl) ?_
    simp only [nz1, nz2, nz3]
    refine lst (wanted_none rfl) (m_store 0 25 _ _ (pt 0 0 0 0) (old := pt 0 0 0 0) hm33 rfl rfl rfl rfl rfl (by rw [pt_sz]; exact info_p) ((pt_sz _ _ _ _).trans (pt_sz _ _ _ _).symm) (pt_one _ _ _ _) (fun w35 (hm36 : Mm w w35 [(g2, pt 0 0 0 0, 25), (g8, bs (upY s), 23)]) => ?_))
    refine lv 3 (.bool false) rfl rfl (run_as rfl rfl) ?_
    simp only [nz1, nz2, nz3]
    refine wpList_nil ?_
    refine then_n (hK34 _ _ ?_)
    refine wp_ret ?_
    refine then_r ?_
    exact ⟨rfl, .tuple #[.agg (pt 0 0 0 0), .bool false], res_ct rfl rfl (hm36.at 0 rfl) Tryd.underlying25 rfl (by rw [pt_sz]; exact info_p) rfl, ⟨rfl, hm36.below⟩⟩
end Go.Proofs.YtfpphinnngblgaaDoor.Fld
