/- Layer 5, the document's answers: so often. -/
import Derived.Test.YtfpphinnngblgaaDoorPtC
import Derived.Test.YtfpphinnngblgaaDoorPtD
import Derived.Test.YtfpphinnngblgaaDoorPtF
namespace Go.Proofs.YtfpphinnngblgaaDoor.Fld
open Go.RowKit Go.Lib
open Go.Proofs.YtfpphinnngblgaaDoor.Num (val up val_congr val_add val_lt val_up val_digits val_word)
open Go.Proofs.YtfpphinnngblgaaDoor.Arr Go.Proofs.YtfpphinnngblgaaDoor.Sym Go.Proofs.YtfpphinnngblgaaDoor.Sx

set_option maxHeartbeats 4000000 in
set_option maxRecDepth 100000 in
theorem rtimes_p (n : Nat) (p : Pn) (hp : p.ok) (w : World) : Calls Tryd.prog 24 #[.agg (bs n), .agg (pq p)] w (fun e w' => e = .returned (.agg (pq (timesP n p 256))) ∧ Below w.heap.size w w') := by
  go_enter Tryd.func24, Tryd.ntmps24
  have hm0 := Mm.nil w
  refine wp_seq_k (fun K1 hK1 => ?_)
  refine wp_region_lit ?_
  refine lst (wanted_none rfl) (m_alloc (c := bs n) (T := 23) hm0 2 rfl (run_box rfl rfl) (fun g2 w3 (hm4 : Mm w w3 [(g2, bs n, 23)]) => ?_))
  simp only [nz1, nz2, nz3]
  refine lst (wanted_none rfl) (m_alloc (c := pq p) (T := 25) hm4 3 rfl (run_box rfl rfl) (fun g5 w6 (hm7 : Mm w w6 [(g2, bs n, 23), (g5, pq p, 25)]) => ?_))
  simp only [nz1, nz2, nz3]
  refine lst (wanted_none rfl) (m_alloc (c := pt 0 0 0 0) (T := 25) hm7 4 rfl (al_P rfl) (fun g8 w9 (hm10 : Mm w w9 [(g2, bs n, 23), (g5, pq p, 25), (g8, pt 0 0 0 0, 25)]) => ?_))
  simp only [nz1, nz2, nz3]
  refine wpList_nil ?_
  refine then_n (hK1 _ _ ?_)
  refine wp_seq_k (fun K11 hK11 => ?_)
  refine wp_region_lit ?_
  refine lst (wanted_none rfl) (m_call hm10 7 (.agg (pq zeroP)) rfl (run_qZero rfl) (rzero_any _) (fun w12 hm13 => ?_))
  simp only [nz1, nz2, nz3]
  refine lst (wanted_none rfl) (m_alloc (c := pt 0 0 0 0) (T := 25) hm13 5 rfl (al_P rfl) (fun g14 w15 (hm16 : Mm w w15 [(g2, bs n, 23), (g5, pq p, 25), (g8, pt 0 0 0 0, 25), (g14, pt 0 0 0 0, 25)]) => ?_))
  simp only [nz1, nz2, nz3]
  refine lst (wanted_none rfl) (m_store 3 25 _ _ (pq zeroP) (old := pt 0 0 0 0) hm16 rfl rfl rfl rfl rfl (by rw [pq_sz]; exact info_p) ((pt_sz _ _ _ _).trans (pq_sz _).symm) (pq_one _) (fun w17 (hm18 : Mm w w17 [(g2, bs n, 23), (g5, pq p, 25), (g8, pt 0 0 0 0, 25), (g14, pq zeroP, 25)]) => ?_))
  refine wpList_nil ?_
  have hm19 : Mm w w17 [(g2, bs n, 23), (g5, pq p, 25), (g8, pt 0 0 0 0, 25), (g14, pq (timesP n p 0), 25)] := by rw [show (pq (timesP n p 0) : Array Value) = pq zeroP from rfl]; exact hm18
  refine then_n (hK11 _ _ ?_)
  refine wp_seq_k (fun K20 hK20 => ?_)
  refine wp_seq_k (fun K21 hK21 => ?_)
  refine wp_region_lit ?_
  refine lv 6 (.int .i64 255) rfl rfl (run_as rfl rfl) ?_
  simp only [nz1, nz2, nz3]
  refine wpList_nil ?_
  refine then_n (hK21 _ _ ?_)
  refine wp_block ?_
  refine wp_loop_n (fun n' a' w' => ∃ (k : Nat) (z : Int) (u0 : Nat → Value), n' = 256 - k ∧ (k ≤ 256) ∧ (z = 255 - (k : Int)) ∧ a' = ⟨#[.agg (bs n), .agg (pq p), .pointer (some ⟨g2, 0, none⟩), .pointer (some ⟨g5, 0, none⟩), .pointer (some ⟨g8, 0, none⟩), .pointer (some ⟨g14, 0, none⟩), .int .i64 (z), .agg (pq zeroP), u0 0, u0 1, u0 2, u0 3, u0 4, u0 5, u0 6, u0 7, u0 8, u0 9, u0 10, u0 11, u0 12, u0 13, u0 14, u0 15, u0 16, u0 17, u0 18, u0 19, undef], []⟩ ∧ Mm w w' [(g2, bs n, 23), (g5, pq p, 25), (g8, pt 0 0 0 0, 25), (g14, pq (timesP n p k), 25)]) ⟨0, 255, (fun qq => List.getD [undef, undef, undef, undef, undef, undef, undef, undef, undef, undef, undef, undef, undef, undef, undef, undef, undef, undef, undef, undef] qq undef), rfl, (by omega), (by decide), rfl, hm19⟩ ?_
  clear hm19
  rintro _ _ w22 ⟨k, z, u0, hn0, hk, hz, rfl, hm23⟩ R24 hR24
  refine wp_seq_k (fun K25 hK25 => ?_)
  refine wp_seq_k (fun K26 hK26 => ?_)
  refine wp_region_lit ?_
  refine lv 8 (.int .i64 (z)) rfl rfl (run_mv rfl rfl) ?_
  simp only [nz1, nz2, nz3]
  refine lv 9 (.bool (decide (((0 : Nat) : Int) ≤ z))) rfl rfl (r_geqZ (z) (((0 : Nat) : Int)) rfl rfl rfl) ?_
  simp only [nz1, nz2, nz3]
  refine wpList_nil ?_
  refine then_n (hK26 _ _ ?_)
  refine cond_d (((0 : Nat) : Int) ≤ z) rfl (fun hc27 => ?_) (fun hc27 => ?_)
  · obtain ⟨m, rfl⟩ : ∃ m : Nat, z = (m : Int) := ⟨(255 - k), by omega⟩
    obtain ⟨hkm, hm255⟩ : m = 255 - k ∧ m < 256 := by omega
    refine wp_skip ?_
    refine then_n (hK25 _ _ ?_)
    refine wp_seq_k (fun K28 hK28 => ?_)
    refine wp_block ?_
    refine wp_seq_k (fun K29 hK29 => ?_)
    refine wp_region_lit ?_
    refine lv 12 (.agg (pq (timesP n p k))) rfl rfl (run_row rfl rfl (hm23.at 3 rfl) Tryd.underlying25 rfl (by rw [pq_sz]; exact info_p)) ?_
    simp only [nz1, nz2, nz3]
    refine lv 13 (.agg (pq (timesP n p k))) rfl rfl (run_row rfl rfl (hm23.at 3 rfl) Tryd.underlying25 rfl (by rw [pq_sz]; exact info_p)) ?_
    simp only [nz1, nz2, nz3]
    refine lst (wanted_none rfl) (m_call hm23 14 (.agg (pq (addP (timesP n p k) (timesP n p k)))) rfl (run_qAdd rfl rfl rfl) (radd_p (timesP n p k) (timesP n p k) (timesP_ok _ _ _) (timesP_ok _ _ _) _) (fun w30 hm31 => ?_))
    simp only [nz1, nz2, nz3]
    refine lst (wanted_none rfl) (m_store 3 25 _ _ (pq (addP (timesP n p k) (timesP n p k))) (old := pq (timesP n p k)) hm31 rfl rfl rfl rfl rfl (by rw [pq_sz]; exact info_p) ((pq_sz _).trans (pq_sz _).symm) (pq_one _) (fun w32 (hm33 : Mm w w32 [(g2, bs n, 23), (g5, pq p, 25), (g8, pt 0 0 0 0, 25), (g14, pq (addP (timesP n p k) (timesP n p k)), 25)]) => ?_))
    refine wpList_nil ?_
    refine then_n (hK29 _ _ ?_)
    refine wp_seq_k (fun K34 hK34 => ?_)
    refine wp_region_lit ?_
    refine lv 15 (.int .i64 ((m : Nat) : Int)) rfl rfl (run_mv rfl rfl) ?_
    simp only [nz1, nz2, nz3]
    refine lv 16 (.int .i64 (((m / 8) : Nat) : Int)) rfl rfl (r_quo m 8 (show m < 9223372036854775808 from by omega) (by decide) rfl rfl rfl) ?_
    simp only [nz1, nz2, nz3]
    refine lv 17 (.pointer (some ⟨g2, (m / 8), none⟩)) rfl rfl (r_ix g2 (m / 8) (by omega) Tryd.underlying23 one_u8 rfl rfl rfl) ?_
    simp only [nz1, nz2, nz3]
    refine lv 18 (.int .u8 (((bt n) (m / 8) : Nat) : Int)) rfl rfl (r_cell (f := (bt n)) (n := 32) g2 (m / 8) (by omega) (hm33.at 0 rfl) Tryd.underlying5 rfl rfl) ?_
    simp only [nz1, nz2, nz3]
    refine lv 19 (.int .i64 ((m : Nat) : Int)) rfl rfl (run_mv rfl rfl) ?_
    simp only [nz1, nz2, nz3]
    refine lv 20 (.int .u64 ((m : Nat) : Int)) rfl rfl (r_conv (k' := .u64) m m some_i64 Tryd.underlying40 (wrap_nat (show m < 18446744073709551616 from by omega)) rfl rfl) ?_
    simp only [nz1, nz2, nz3]
    refine lv 21 (.int .u64 (((m % 8) : Nat) : Int)) rfl rfl (r_rem m 8 (show m < 18446744073709551616 from by omega) (by decide) rfl rfl rfl) ?_
    simp only [nz1, nz2, nz3]
    refine lv 22 (.int .u8 (((((bt n) (m / 8)) / 2 ^ (m % 8)) : Nat) : Int)) rfl rfl (r_shr ((bt n) (m / 8)) (m % 8) (show m % 8 ≤ 8 from by omega) rfl rfl rfl) ?_
    simp only [nz1, nz2, nz3]
    refine lv 23 (.int .u8 (((n / 2 ^ m % 2) : Nat) : Int)) rfl rfl (r_andx (((bt n) (m / 8)) / 2 ^ (m % 8)) 1 8 (n / 2 ^ m % 2) (by decide) (Nat.lt_of_le_of_lt (Nat.div_le_self _ _) (bt_lt _ _)) (by decide) (bit8 n m) rfl rfl rfl) ?_
    simp only [nz1, nz2, nz3]
    refine lv 24 (.bool (decide ((n / 2 ^ m % 2) = 1))) rfl rfl (r_eql (n / 2 ^ m % 2) 1 rfl rfl rfl) ?_
    simp only [nz1, nz2, nz3]
    refine wpList_nil ?_
    refine then_n (hK34 _ _ ?_)
    refine cond_d ((n / 2 ^ m % 2) = 1) rfl (fun hc35 => ?_) (fun hc35 => ?_)
    · refine wp_region_lit ?_
      refine lv 25 (.agg (pq (addP (timesP n p k) (timesP n p k)))) rfl rfl (run_row rfl rfl (hm33.at 3 rfl) Tryd.underlying25 rfl (by rw [pq_sz]; exact info_p)) ?_
      simp only [nz1, nz2, nz3]
      refine lv 26 (.agg (pq p)) rfl rfl (run_row rfl rfl (hm33.at 1 rfl) Tryd.underlying25 rfl (by rw [pq_sz]; exact info_p)) ?_
      simp only [nz1, nz2, nz3]
      refine lst (wanted_none rfl) (m_call hm33 27 (.agg (pq (addP (addP (timesP n p k) (timesP n p k)) p))) rfl (run_qAdd rfl rfl rfl) (radd_p (addP (timesP n p k) (timesP n p k)) p (addP_ok _ _) hp _) (fun w36 hm37 => ?_))
      simp only [nz1, nz2, nz3]
      refine lst (wanted_none rfl) (m_store 3 25 _ _ (pq (addP (addP (timesP n p k) (timesP n p k)) p)) (old := pq (addP (timesP n p k) (timesP n p k))) hm37 rfl rfl rfl rfl rfl (by rw [pq_sz]; exact info_p) ((pq_sz _).trans (pq_sz _).symm) (pq_one _) (fun w38 (hm39 : Mm w w38 [(g2, bs n, 23), (g5, pq p, 25), (g8, pt 0 0 0 0, 25), (g14, pq (addP (addP (timesP n p k) (timesP n p k)) p), 25)]) => ?_))
      refine wpList_nil ?_
      have hm40 : Mm w w38 [(g2, bs n, 23), (g5, pq p, 25), (g8, pt 0 0 0 0, 25), (g14, pq (timesP n p (k + 1)), 25)] := by rw [show (pq (timesP n p (k + 1)) : Array Value) = pq (addP (addP (timesP n p k) (timesP n p k)) p) from by rw [timesP, if_pos (by rw [← hkm]; exact hc35)]]; exact hm39
      refine blk_n ?_
      refine then_n (hK28 _ _ ?_)
      refine wp_region_lit ?_
      refine lv 10 (.int .i64 ((m : Nat) : Int)) rfl rfl (run_mv rfl rfl) ?_
      simp only [nz1, nz2, nz3]
      refine lv 11 (.int .i64 (((m : Nat) : Int) - 1)) rfl rfl (r_subZ ((m : Nat) : Int) ((1 : Nat) : Int) _ (IntWalk.i64_in _ (by omega)) rfl rfl rfl) ?_
      simp only [nz1, nz2, nz3]
      refine lv 6 (.int .i64 (((m : Nat) : Int) - 1)) rfl rfl (run_as rfl rfl) ?_
      simp only [nz1, nz2, nz3]
      refine wpList_nil ?_
      refine then_n (hR24 _ _ _ ⟨(k + 1), _, (fun qq => List.getD [.int .i64 ((m : Nat) : Int), .bool (decide (((0 : Nat) : Int) ≤ ((m : Nat) : Int))), .int .i64 ((m : Nat) : Int), .int .i64 (((m : Nat) : Int) - 1), .agg (pq (timesP n p k)), .agg (pq (timesP n p k)), .agg (pq (addP (timesP n p k) (timesP n p k))), .int .i64 ((m : Nat) : Int), .int .i64 (((m / 8) : Nat) : Int), .pointer (some ⟨g2, (m / 8), none⟩), .int .u8 (((bt n) (m / 8) : Nat) : Int), .int .i64 ((m : Nat) : Int), .int .u64 ((m : Nat) : Int), .int .u64 (((m % 8) : Nat) : Int), .int .u8 (((((bt n) (m / 8)) / 2 ^ (m % 8)) : Nat) : Int), .int .u8 (((n / 2 ^ m % 2) : Nat) : Int), .bool (decide ((n / 2 ^ m % 2) = 1)), .agg (pq (addP (timesP n p k) (timesP n p k))), .agg (pq p), .agg (pq (addP (addP (timesP n p k) (timesP n p k)) p))] qq undef), rfl, (by omega), (by omega), rfl, hm40⟩ ?_)
      omega
    · have hm41 : Mm w w32 [(g2, bs n, 23), (g5, pq p, 25), (g8, pt 0 0 0 0, 25), (g14, pq (timesP n p (k + 1)), 25)] := by rw [show (pq (timesP n p (k + 1)) : Array Value) = pq (addP (timesP n p k) (timesP n p k)) from by rw [timesP, if_neg (by rw [← hkm]; exact hc35)]]; exact hm33
      refine wp_skip ?_
      refine blk_n ?_
      refine then_n (hK28 _ _ ?_)
      refine wp_region_lit ?_
      refine lv 10 (.int .i64 ((m : Nat) : Int)) rfl rfl (run_mv rfl rfl) ?_
      simp only [nz1, nz2, nz3]
      refine lv 11 (.int .i64 (((m : Nat) : Int) - 1)) rfl rfl (r_subZ ((m : Nat) : Int) ((1 : Nat) : Int) _ (IntWalk.i64_in _ (by omega)) rfl rfl rfl) ?_
      simp only [nz1, nz2, nz3]
      refine lv 6 (.int .i64 (((m : Nat) : Int) - 1)) rfl rfl (run_as rfl rfl) ?_
      simp only [nz1, nz2, nz3]
      refine wpList_nil ?_
      refine then_n (hR24 _ _ _ ⟨(k + 1), _, (fun qq => List.getD [.int .i64 ((m : Nat) : Int), .bool (decide (((0 : Nat) : Int) ≤ ((m : Nat) : Int))), .int .i64 ((m : Nat) : Int), .int .i64 (((m : Nat) : Int) - 1), .agg (pq (timesP n p k)), .agg (pq (timesP n p k)), .agg (pq (addP (timesP n p k) (timesP n p k))), .int .i64 ((m : Nat) : Int), .int .i64 (((m / 8) : Nat) : Int), .pointer (some ⟨g2, (m / 8), none⟩), .int .u8 (((bt n) (m / 8) : Nat) : Int), .int .i64 ((m : Nat) : Int), .int .u64 ((m : Nat) : Int), .int .u64 (((m % 8) : Nat) : Int), .int .u8 (((((bt n) (m / 8)) / 2 ^ (m % 8)) : Nat) : Int), .int .u8 (((n / 2 ^ m % 2) : Nat) : Int), .bool (decide ((n / 2 ^ m % 2) = 1)), u0 17, u0 18, u0 19] qq undef), rfl, (by omega), (by omega), rfl, hm41⟩ ?_)
      omega
  · obtain rfl : k = 256 := by omega
    refine wp_exit ?_
    refine then_x ?_
    refine then_x ?_
    refine blk_x ?_
    refine then_n (hK20 _ _ ?_)
    refine wp_seq_k (fun K42 hK42 => ?_)
    refine wp_region_lit ?_
    refine lv 28 (.agg (pq (timesP n p 256))) rfl rfl (run_row rfl rfl (hm23.at 3 rfl) Tryd.underlying25 rfl (by rw [pq_sz]; exact info_p)) ?_
    simp only [nz1, nz2, nz3]
    refine lst (wanted_none rfl) (m_store 2 25 _ _ (pq (timesP n p 256)) (old := pt 0 0 0 0) hm23 rfl rfl rfl rfl rfl (by rw [pq_sz]; exact info_p) ((pt_sz _ _ _ _).trans (pq_sz _).symm) (pq_one _) (fun w43 (hm44 : Mm w w43 [(g2, bs n, 23), (g5, pq p, 25), (g8, pq (timesP n p 256), 25), (g14, pq (timesP n p 256), 25)]) => ?_))
    refine wpList_nil ?_
    refine then_n (hK42 _ _ ?_)
    refine wp_ret ?_
    exact ⟨rfl, .agg (pq (timesP n p 256)), res_c rfl rfl (hm44.at 2 rfl) Tryd.underlying25 rfl (by rw [pq_sz]; exact info_p), ⟨rfl, hm44.below⟩⟩
end Go.Proofs.YtfpphinnngblgaaDoor.Fld
