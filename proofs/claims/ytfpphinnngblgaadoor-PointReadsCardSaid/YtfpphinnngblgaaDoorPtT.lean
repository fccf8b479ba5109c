/- Layer 5: the document's example. -/
import Derived.Test.YtfpphinnngblgaaDoorPtQ
namespace Go.Proofs.YtfpphinnngblgaaDoor.Fld
open Go.RowKit Go.Lib
open Go.Proofs.YtfpphinnngblgaaDoor.Num (val up val_congr val_add val_lt val_up val_digits val_word)
open Go.Proofs.YtfpphinnngblgaaDoor.Arr Go.Proofs.YtfpphinnngblgaaDoor.Sym Go.Proofs.YtfpphinnngblgaaDoor.Sx

set_option maxHeartbeats 4000000 in
set_option maxRecDepth 100000 in
theorem awake5_any  (w : World) (hd : DD w) : Calls Tryd.prog 12 #[] w (fun e w' => e = .returned (.bool true) ∧ Below w.heap.size w w') := by
  go_enter Tryd.func12, Tryd.ntmps12
  have hm0 := Mm.nil w
  refine wp_seq_k (fun K1 hK1 => ?_)
  refine wp_region_lit ?_
  refine lv 0 (.bool false) rfl rfl (run_as rfl rfl) ?_
  simp only [nz1, nz2]
  refine wpList_nil ?_
  refine then_n (hK1 _ _ ?_)
  refine wp_seq_k (fun K2 hK2 => ?_)
  refine wp_region_lit ?_
  refine lst (wanted_none rfl) (m_call hm0 4 (.agg (pq baseP)) rfl (run_Base rfl) (base_any _ (kept hd hm0.below)) (fun w3 hm4 => ?_))
  simp only [nz1, nz2, nz3]
  refine lst (wanted_none rfl) (m_alloc (c := pt 0 0 0 0) (T := 25) hm4 1 rfl (al_P rfl) (fun g5 w6 (hm7 : Mm w w6 [(g5, pt 0 0 0 0, 25)]) => ?_))
  simp only [nz1, nz2, nz3]
  refine lst (wanted_none rfl) (m_store 0 25 _ _ (pq baseP) (old := pt 0 0 0 0) hm7 rfl rfl rfl rfl rfl (by rw [pq_sz]; exact info_p) ((pt_sz _ _ _ _).trans (pq_sz _).symm) (pq_one _) (fun w8 (hm9 : Mm w w8 [(g5, pq baseP, 25)]) => ?_))
  refine wpList_nil ?_
  refine then_n (hK2 _ _ ?_)
  refine wp_seq_k (fun K10 hK10 => ?_)
  refine wp_region_lit ?_
  refine lv 6 (.agg (pq baseP)) rfl rfl (run_row rfl rfl (hm9.at 0 rfl) Tryd.underlying25 rfl (by rw [pq_sz]; exact info_p)) ?_
  simp only [nz1, nz2, nz3]
  refine lv 7 (.agg (pq baseP)) rfl rfl (run_row rfl rfl (hm9.at 0 rfl) Tryd.underlying25 rfl (by rw [pq_sz]; exact info_p)) ?_
  simp only [nz1, nz2, nz3]
  refine lst (wanted_none rfl) (m_call hm9 8 (.agg (pq (addP baseP baseP))) rfl (run_pAdd rfl rfl rfl) (add_p baseP baseP (baseP_ok) (baseP_ok) _ (kept hd hm9.below)) (fun w11 hm12 => ?_))
  simp only [nz1, nz2, nz3]
  refine lst (wanted_none rfl) (m_call hm12 9 (.string (txt (bt sumN) 32)) rfl (run_pPack rfl rfl) (pack_c (addP baseP baseP) (addP_ok _ _) (txt (bt sumN) 32) pack_sum _) (fun w13 hm14 => ?_))
  simp only [nz1, nz2, nz3]
  refine lst (wanted_none rfl) (m_call hm14 10 (.tuple #[.agg (pq sumP), .bool true]) rfl (run_pUnpack rfl rfl) (un_at (txt (bt sumN) 32) sumP unP_sum _ (kept hd hm14.below)) (fun w15 hm16 => ?_))
  simp only [nz1, nz2, nz3]
  refine lv 5 (.tuple #[.agg (pq sumP), .bool true]) rfl rfl (run_mv rfl rfl) ?_
  simp only [nz1, nz2, nz3]
  refine lv 11 (.agg (pq sumP)) rfl rfl (run_ex rfl rfl rfl) ?_
  simp only [nz1, nz2, nz3]
  refine lv 12 (.bool true) rfl rfl (run_ex rfl rfl rfl) ?_
  simp only [nz1, nz2, nz3]
  refine lst (wanted_none rfl) (m_alloc (c := pt 0 0 0 0) (T := 25) hm16 2 rfl (al_P rfl) (fun g17 w18 (hm19 : Mm w w18 [(g5, pq baseP, 25), (g17, pt 0 0 0 0, 25)]) => ?_))
  simp only [nz1, nz2, nz3]
  refine lst (wanted_none rfl) (m_store 1 25 _ _ (pq sumP) (old := pt 0 0 0 0) hm19 rfl rfl rfl rfl rfl (by rw [pq_sz]; exact info_p) ((pt_sz _ _ _ _).trans (pq_sz _).symm) (pq_one _) (fun w20 (hm21 : Mm w w20 [(g5, pq baseP, 25), (g17, pq sumP, 25)]) => ?_))
  refine lv 3 (.bool true) rfl rfl (run_as rfl rfl) ?_
  simp only [nz1, nz2, nz3]
  refine wpList_nil ?_
  refine then_n (hK10 _ _ ?_)
  refine wp_seq_k (fun K22 hK22 => ?_)
  have hm23 := hm21.drew
  refine wp_region_held_drew (S := fun w' => Sym.Blk w' g5 (pq baseP) 25 ∧ Sym.Blk w' g17 (pq sumP) 25) (by kernel_rfl) (⟨hm23.at 0 rfl, hm23.at 1 rfl⟩) (fun _ => ?_)
  generalize w20.drew = w24 at *
  refine tk 0 13 (.agg (pq baseP)) rfl rfl (fun _ hw => run_row rfl rfl hw.1 Tryd.underlying25 rfl (by rw [pq_sz]; exact info_p)) (⟨hm23.at 0 rfl, hm23.at 1 rfl⟩) ?_
  simp only [nz1, nz2, nz3]
  refine one_ready 1 (by kernel_rfl) ?_
  refine opd rfl (wanted_none rfl) (m_call hm23 14 (.bool true) rfl (run_pOn rfl rfl) (on_c baseP (baseP_ok) on_base _ (kept hd hm23.below)) (fun w25 hm26 => ?_))
  refine ⟨⟨hm26.at 0 rfl, hm26.at 1 rfl⟩, ?_⟩
  simp only [nz1, nz2, nz3]
  refine tk 2 15 (.bool true) rfl rfl (fun _ hw => run_mv rfl rfl) (⟨hm26.at 0 rfl, hm26.at 1 rfl⟩) ?_
  simp only [nz1, nz2, nz3]
  refine Sym.take_at 3 16 (.bool true) rfl rfl (by kernel_rfl) (by kernel_rfl) (by kernel_rfl) (fun _ _ _ h => h) rfl (fun _ hw => run_mv rfl rfl) (⟨hm26.at 0 rfl, hm26.at 1 rfl⟩) ?_
  simp only [nz1, nz2, nz3]
  refine tk 4 17 (.bool true) rfl rfl (fun _ hw => run_pick rfl rfl rfl) (⟨hm26.at 0 rfl, hm26.at 1 rfl⟩) ?_
  simp only [nz1, nz2, nz3]
  refine tk 5 18 (.bool true) rfl rfl (fun _ hw => run_mv rfl rfl) (⟨hm26.at 0 rfl, hm26.at 1 rfl⟩) ?_
  simp only [nz1, nz2, nz3]
  refine Sym.take_at 6 19 (.agg (pq sumP)) rfl rfl (by kernel_rfl) (by kernel_rfl) (by kernel_rfl) (fun _ _ _ h => h) rfl (fun _ hw => run_row rfl rfl hw.2 Tryd.underlying25 rfl (by rw [pq_sz]; exact info_p)) (⟨hm26.at 0 rfl, hm26.at 1 rfl⟩) ?_
  simp only [nz1, nz2, nz3]
  refine Sym.take_at 7 20 (.agg (bs 2)) rfl rfl (by kernel_rfl) (by kernel_rfl) (by kernel_rfl) (fun _ _ _ h => h) rfl (fun _ hw => by unfold execOp; go_simp; rfl) (⟨hm26.at 0 rfl, hm26.at 1 rfl⟩) ?_
  simp only [nz1, nz2, nz3]
  refine Sym.take_at 8 21 (.agg (pq baseP)) rfl rfl (by kernel_rfl) (by kernel_rfl) (by kernel_rfl) (fun _ _ _ h => h) rfl (fun _ hw => run_row rfl rfl hw.1 Tryd.underlying25 rfl (by rw [pq_sz]; exact info_p)) (⟨hm26.at 0 rfl, hm26.at 1 rfl⟩) ?_
  simp only [nz1, nz2, nz3]
  refine one_ready 9 (by kernel_rfl) ?_
  refine opd rfl rfl (m_call hm26 22 (.agg (pq (timesP 2 baseP 256))) rfl (run_pTimes rfl rfl rfl) (times_p 2 baseP (baseP_ok) _ (kept hd hm26.below)) (fun w27 hm28 => ?_))
  refine ⟨⟨hm28.at 0 rfl, hm28.at 1 rfl⟩, ?_⟩
  simp only [nz1, nz2, nz3]
  refine one_ready 10 (by kernel_rfl) ?_
  refine opd rfl rfl (m_call hm28 23 (.bool true) rfl (run_pSame rfl rfl rfl) (same_c sumP (timesP 2 baseP 256) sumP_ok (timesP_ok _ _ _) true (decide_eq_true two_same) _) (fun w29 hm30 => ?_))
  refine ⟨⟨hm30.at 0 rfl, hm30.at 1 rfl⟩, ?_⟩
  simp only [nz1, nz2, nz3]
  refine tk 11 24 (.bool true) rfl rfl (fun _ hw => run_pick rfl rfl rfl) (⟨hm30.at 0 rfl, hm30.at 1 rfl⟩) ?_
  simp only [nz1, nz2, nz3]
  refine tk 12 25 (.bool true) rfl rfl (fun _ hw => run_mv rfl rfl) (⟨hm30.at 0 rfl, hm30.at 1 rfl⟩) ?_
  simp only [nz1, nz2, nz3]
  refine Sym.take_at 13 26 (.agg (pq baseP)) rfl rfl (by kernel_rfl) (by kernel_rfl) (by kernel_rfl) (fun _ _ _ h => h) rfl (fun _ hw => run_row rfl rfl hw.1 Tryd.underlying25 rfl (by rw [pq_sz]; exact info_p)) (⟨hm30.at 0 rfl, hm30.at 1 rfl⟩) ?_
  simp only [nz1, nz2, nz3]
  refine Sym.take_at 14 27 (.agg (pq baseP)) rfl rfl (by kernel_rfl) (by kernel_rfl) (by kernel_rfl) (fun _ _ _ h => h) rfl (fun _ hw => run_row rfl rfl hw.1 Tryd.underlying25 rfl (by rw [pq_sz]; exact info_p)) (⟨hm30.at 0 rfl, hm30.at 1 rfl⟩) ?_
  simp only [nz1, nz2, nz3]
  refine one_ready 15 (by kernel_rfl) ?_
  refine opd rfl rfl (m_call hm30 28 (.agg (pq (negP baseP))) rfl (run_pNeg rfl rfl) (neg_p baseP (baseP_ok) _) (fun w31 hm32 => ?_))
  refine ⟨⟨hm32.at 0 rfl, hm32.at 1 rfl⟩, ?_⟩
  simp only [nz1, nz2, nz3]
  refine one_ready 16 (by kernel_rfl) ?_
  refine opd rfl rfl (m_call hm32 29 (.agg (pq (addP baseP (negP baseP)))) rfl (run_pAdd rfl rfl rfl) (add_p baseP (negP baseP) (baseP_ok) (negP_ok _) _ (kept hd hm32.below)) (fun w33 hm34 => ?_))
  refine ⟨⟨hm34.at 0 rfl, hm34.at 1 rfl⟩, ?_⟩
  simp only [nz1, nz2, nz3]
  refine one_ready 17 (by kernel_rfl) ?_
  refine opd rfl rfl (m_call hm34 30 (.agg (pq zeroP)) rfl (run_pZero rfl) (zero_any _) (fun w35 hm36 => ?_))
  refine ⟨⟨hm36.at 0 rfl, hm36.at 1 rfl⟩, ?_⟩
  simp only [nz1, nz2, nz3]
  refine one_ready 18 (by kernel_rfl) ?_
  refine opd rfl rfl (m_call hm36 31 (.bool true) rfl (run_pSame rfl rfl rfl) (same_c (addP baseP (negP baseP)) zeroP (addP_ok _ _) (zeroP_ok) true (decide_eq_true neg_same) _) (fun w37 hm38 => ?_))
  refine ⟨⟨hm38.at 0 rfl, hm38.at 1 rfl⟩, ?_⟩
  simp only [nz1, nz2, nz3]
  refine tk 19 32 (.bool true) rfl rfl (fun _ hw => run_pick rfl rfl rfl) (⟨hm38.at 0 rfl, hm38.at 1 rfl⟩) ?_
  simp only [nz1, nz2, nz3]
  refine one_ready 20 (by kernel_rfl) ?_
  refine opd rfl (wanted_none rfl) (w_value 0 (.bool true) rfl (run_as rfl rfl) ⟨⟨hm38.at 0 rfl, hm38.at 1 rfl⟩, ?_⟩)
  simp only [nz1, nz2]
  refine wpAnyH_done (by kernel_rfl) ?_ _
  refine then_n (hK22 _ _ ?_)
  refine wp_ret ?_
  exact ⟨rfl, .bool true, res_t rfl rfl, ⟨rfl, hm38.below⟩⟩
end Go.Proofs.YtfpphinnngblgaaDoor.Fld
