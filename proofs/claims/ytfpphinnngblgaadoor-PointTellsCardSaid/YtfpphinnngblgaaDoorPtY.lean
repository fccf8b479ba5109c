/- Layer 5, the document's answers: a point's bytes. -/
import Derived.Test.YtfpphinnngblgaaDoorPtP
import Derived.Test.YtfpphinnngblgaaDoorPtR
namespace Go.Proofs.YtfpphinnngblgaaDoor.Fld
open Go.RowKit Go.Lib
open Go.Proofs.YtfpphinnngblgaaDoor.Num (val up val_congr val_add val_lt val_up val_digits val_word)
open Go.Proofs.YtfpphinnngblgaaDoor.Arr Go.Proofs.YtfpphinnngblgaaDoor.Sym Go.Proofs.YtfpphinnngblgaaDoor.Sx

theorem pk_or' (x y : Nat) (hy : y < PP) : bt y 31 ||| (bt x 0 % 2 * 2 ^ 7) = bt y 31 + 128 * (x % 2) := by
  rw [show bt x 0 % 2 * 2 ^ 7 = bt x 0 * 2 ^ 7 % 256 by omega]
  exact pk_or x y hy
set_option maxHeartbeats 4000000 in
set_option maxRecDepth 100000 in
theorem rpackG (p : Pn) (iz X Y : Nat) (hp : p.ok) (hI : fI p.z = iz) (hiz : iz < MM) (hX : fM p.x iz = X) (hY : fM p.y iz = Y) (hYl : Y < PP) (w : World) : Calls Tryd.prog 16 #[.agg (pq p)] w (fun e w' => e = .returned (.string (txt (bt (pkN X Y)) 32)) ∧ Below w.heap.size w w') := by
  go_enter Tryd.func16, Tryd.ntmps16
  have hm0 := Mm.nil w
  refine wp_seq_k (fun K1 hK1 => ?_)
  refine wp_region_lit ?_
  refine lst (wanted_none rfl) (m_alloc (c := pq p) (T := 25) hm0 1 rfl (run_box rfl rfl) (fun g2 w3 (hm4 : Mm w w3 [(g2, pq p, 25)]) => ?_))
  simp only [nz1, nz2, nz3]
  refine lv 2 (.string (⟨#[]⟩ : ByteArray)) rfl rfl (run_as rfl rfl) ?_
  simp only [nz1, nz2, nz3]
  refine wpList_nil ?_
  refine then_n (hK1 _ _ ?_)
  refine wp_seq_k (fun K5 hK5 => ?_)
  refine wp_region_lit ?_
  refine lv 6 (.pointer (some ⟨g2, 64, none⟩)) rfl rfl (r_f2 g2 rfl rfl) ?_
  simp only [nz1, nz2, nz3]
  refine lv 7 (.agg (bs p.z)) rfl rfl (r_c2 (x := p.x) (y := p.y) (z := p.z) (t := p.t) g2 (hm4.at 0 rfl) rfl rfl) ?_
  simp only [nz1, nz2, nz3]
  refine lst (wanted_none rfl) (m_call hm4 8 (.agg (bs iz)) rfl (run_gInv rfl rfl) (rinv_g p.z iz hp.z hI _) (fun w6 hm7 => ?_))
  simp only [nz1, nz2, nz3]
  refine lst (wanted_none rfl) (m_alloc (c := bs 0) (T := 23) hm7 3 rfl (run_alN rfl) (fun g8 w9 (hm10 : Mm w w9 [(g2, pq p, 25), (g8, bs 0, 23)]) => ?_))
  simp only [nz1, nz2, nz3]
  refine lst (wanted_none rfl) (m_store 1 23 _ _ (bs iz) (old := bs 0) hm10 rfl rfl rfl rfl rfl (by rw [bs_sz]; exact info_b) ((bs_sz _).trans (bs_sz _).symm) (bs_one _) (fun w11 (hm12 : Mm w w11 [(g2, pq p, 25), (g8, bs iz, 23)]) => ?_))
  refine wpList_nil ?_
  refine then_n (hK5 _ _ ?_)
  refine wp_seq_k (fun K13 hK13 => ?_)
  refine wp_mono (Q := fun e a' w' => e = Exit.normal ∧ ∃ g20 g23 : Nat, a' = ⟨#[.agg (pq p), .pointer (some ⟨g2, 0, none⟩), .string (⟨#[]⟩ : ByteArray), .pointer (some ⟨g8, 0, none⟩), .pointer (some ⟨g20, 0, none⟩), .pointer (some ⟨g23, 0, none⟩), .pointer (some ⟨g2, 64, none⟩), .agg (bs p.z), .agg (bs iz), .pointer (some ⟨g2, 0, none⟩), .agg (bs p.x), .agg (bs iz), .agg (bs X), .pointer (some ⟨g2, 32, none⟩), .agg (bs p.y), .agg (bs iz), .agg (bs Y), undef, undef, undef, undef, undef, undef, undef, undef, undef, undef], []⟩ ∧ Mm w w' [(g2, pq p, 25), (g8, bs iz, 23), (g20, bs X, 23), (g23, bs Y, 23)]) ?_ ?_
  · have hm14 := hm12.drew
    refine wp_region_held_drew (S := fun w' => Sym.Blk w' g2 (pq p) 25 ∧ Sym.Blk w' g8 (bs iz) 23) (by kernel_rfl) (⟨hm14.at 0 rfl, hm14.at 1 rfl⟩) (fun _ => ?_)
    generalize w11.drew = w15 at *
    refine Sym.take_at 0 9 (.pointer (some ⟨g2, 0, none⟩)) rfl rfl (by kernel_rfl) (by kernel_rfl) (by kernel_rfl) (fun _ _ _ h => nomatch h.1) rfl (fun _ hw => r_f0 g2 rfl rfl) (⟨hm14.at 0 rfl, hm14.at 1 rfl⟩) ?_
    simp only [nz1, nz2, nz3]
    refine Sym.take_at 1 10 (.agg (bs p.x)) rfl rfl (by kernel_rfl) (by kernel_rfl) (by kernel_rfl) (fun _ _ _ h => nomatch h.1) rfl (fun _ hw => r_c0 (x := p.x) (y := p.y) (z := p.z) (t := p.t) g2 hw.1 rfl rfl) (⟨hm14.at 0 rfl, hm14.at 1 rfl⟩) ?_
    simp only [nz1, nz2, nz3]
    refine Sym.take_at 2 11 (.agg (bs iz)) rfl rfl (by kernel_rfl) (by kernel_rfl) (by kernel_rfl) (fun _ _ _ h => nomatch h.1) rfl (fun _ hw => run_row rfl rfl hw.2 Tryd.underlying23 rfl (by rw [bs_sz]; exact info_b)) (⟨hm14.at 0 rfl, hm14.at 1 rfl⟩) ?_
    simp only [nz1, nz2, nz3]
    refine Sym.take_at 4 13 (.pointer (some ⟨g2, 32, none⟩)) rfl rfl (by kernel_rfl) (by kernel_rfl) (by kernel_rfl) (fun _ _ _ h => nomatch h.1) rfl (fun _ hw => r_f1 g2 rfl rfl) (⟨hm14.at 0 rfl, hm14.at 1 rfl⟩) ?_
    simp only [nz1, nz2, nz3]
    refine Sym.take_at 5 14 (.agg (bs p.y)) rfl rfl (by kernel_rfl) (by kernel_rfl) (by kernel_rfl) (fun _ _ _ h => nomatch h.1) rfl (fun _ hw => r_c1 (x := p.x) (y := p.y) (z := p.z) (t := p.t) g2 hw.1 rfl rfl) (⟨hm14.at 0 rfl, hm14.at 1 rfl⟩) ?_
    simp only [nz1, nz2, nz3]
    refine Sym.take_at 6 15 (.agg (bs iz)) rfl rfl (by kernel_rfl) (by kernel_rfl) (by kernel_rfl) (fun _ _ _ h => nomatch h.1) rfl (fun _ hw => run_row rfl rfl hw.2 Tryd.underlying23 rfl (by rw [bs_sz]; exact info_b)) (⟨hm14.at 0 rfl, hm14.at 1 rfl⟩) ?_
    simp only [nz1, nz2, nz3]
    refine three_ready 3 8 9 (by kernel_rfl) ?_ ?_ ?_
    · refine opd rfl rfl (m_call hm14 12 (.agg (bs X)) rfl (run_gMul rfl rfl rfl) (rmul_g p.x iz X hp.x hiz hX _) (fun w16 hm17 => ?_))
      refine ⟨⟨hm17.at 0 rfl, hm17.at 1 rfl⟩, ?_⟩
      simp only [nz1, nz2, nz3]
      refine three_ready 7 8 9 (by kernel_rfl) ?_ ?_ ?_
      · refine opd rfl rfl (m_call hm17 16 (.agg (bs Y)) rfl (run_gMul rfl rfl rfl) (rmul_g p.y iz Y hp.y hiz hY _) (fun w18 hm19 => ?_))
        refine ⟨⟨hm19.at 0 rfl, hm19.at 1 rfl⟩, ?_⟩
        simp only [nz1, nz2, nz3]
        refine two_ready 8 9 (by kernel_rfl) ?_ ?_
        · refine opd rfl rfl (m_alloc (c := bs 0) (T := 23) hm19 4 rfl (run_alN rfl) (fun g20 w21 hm22 => ?_))
          refine ⟨⟨hm22.at 0 rfl, hm22.at 1 rfl⟩, ?_⟩
          simp only [nz1, nz2, nz3]
          refine one_ready 9 (by kernel_rfl) ?_
          refine opd rfl rfl (m_alloc (c := bs 0) (T := 23) hm22 5 rfl (run_alN rfl) (fun g23 w24 hm25 => ?_))
          refine ⟨⟨hm25.at 0 rfl, hm25.at 1 rfl⟩, ?_⟩
          simp only [nz1, nz2, nz3]
          refine one_ready 10 (by kernel_rfl) ?_
          refine opd rfl rfl (m_store 2 23 _ _ (bs X) (old := bs 0) hm25 rfl rfl rfl rfl rfl (by rw [bs_sz]; exact info_b) ((bs_sz _).trans (bs_sz _).symm) (bs_one _) (fun w26 hm27 => ?_))
          refine ⟨⟨hm27.at 0 rfl, hm27.at 1 rfl⟩, ?_⟩
          refine one_ready 11 (by kernel_rfl) ?_
          refine opd rfl rfl (m_store 3 23 _ _ (bs Y) (old := bs 0) hm27 rfl rfl rfl rfl rfl (by rw [bs_sz]; exact info_b) ((bs_sz _).trans (bs_sz _).symm) (bs_one _) (fun w28 hm29 => ?_))
          refine ⟨⟨hm29.at 0 rfl, hm29.at 1 rfl⟩, ?_⟩
          refine wpAnyH_done (by kernel_rfl) ?_ _
          exact ⟨rfl, g20, g23, rfl, hm29⟩
        · refine opd rfl rfl (m_alloc (c := bs 0) (T := 23) hm19 5 rfl (run_alN rfl) (fun g30 w31 hm32 => ?_))
          refine ⟨⟨hm32.at 0 rfl, hm32.at 1 rfl⟩, ?_⟩
          simp only [nz1, nz2, nz3]
          refine one_ready 8 (by kernel_rfl) ?_
          refine opd rfl rfl (m_alloc (c := bs 0) (T := 23) hm32 4 rfl (run_alN rfl) (fun g33 w34 hm35 => ?_))
          refine ⟨⟨hm35.at 0 rfl, hm35.at 1 rfl⟩, ?_⟩
          simp only [nz1, nz2, nz3]
          refine one_ready 10 (by kernel_rfl) ?_
          refine opd rfl rfl (m_store 3 23 _ _ (bs X) (old := bs 0) hm35 rfl rfl rfl rfl rfl (by rw [bs_sz]; exact info_b) ((bs_sz _).trans (bs_sz _).symm) (bs_one _) (fun w36 hm37 => ?_))
          refine ⟨⟨hm37.at 0 rfl, hm37.at 1 rfl⟩, ?_⟩
          refine one_ready 11 (by kernel_rfl) ?_
          refine opd rfl rfl (m_store 2 23 _ _ (bs Y) (old := bs 0) hm37 rfl rfl rfl rfl rfl (by rw [bs_sz]; exact info_b) ((bs_sz _).trans (bs_sz _).symm) (bs_one _) (fun w38 hm39 => ?_))
          refine ⟨⟨hm39.at 0 rfl, hm39.at 1 rfl⟩, ?_⟩
          refine wpAnyH_done (by kernel_rfl) ?_ _
          exact ⟨rfl, g33, g30, rfl, (Mm.reorder hm39 [0, 1, 3, 2] (by decide) rfl)⟩
      · refine opd rfl rfl (m_alloc (c := bs 0) (T := 23) hm17 4 rfl (run_alN rfl) (fun g40 w41 hm42 => ?_))
        refine ⟨⟨hm42.at 0 rfl, hm42.at 1 rfl⟩, ?_⟩
        simp only [nz1, nz2, nz3]
        refine two_ready 7 9 (by kernel_rfl) ?_ ?_
        · refine opd rfl rfl (m_call hm42 16 (.agg (bs Y)) rfl (run_gMul rfl rfl rfl) (rmul_g p.y iz Y hp.y hiz hY _) (fun w43 hm44 => ?_))
          refine ⟨⟨hm44.at 0 rfl, hm44.at 1 rfl⟩, ?_⟩
          simp only [nz1, nz2, nz3]
          refine one_ready 9 (by kernel_rfl) ?_
          refine opd rfl rfl (m_alloc (c := bs 0) (T := 23) hm44 5 rfl (run_alN rfl) (fun g45 w46 hm47 => ?_))
          refine ⟨⟨hm47.at 0 rfl, hm47.at 1 rfl⟩, ?_⟩
          simp only [nz1, nz2, nz3]
          refine one_ready 10 (by kernel_rfl) ?_
          refine opd rfl rfl (m_store 2 23 _ _ (bs X) (old := bs 0) hm47 rfl rfl rfl rfl rfl (by rw [bs_sz]; exact info_b) ((bs_sz _).trans (bs_sz _).symm) (bs_one _) (fun w48 hm49 => ?_))
          refine ⟨⟨hm49.at 0 rfl, hm49.at 1 rfl⟩, ?_⟩
          refine one_ready 11 (by kernel_rfl) ?_
          refine opd rfl rfl (m_store 3 23 _ _ (bs Y) (old := bs 0) hm49 rfl rfl rfl rfl rfl (by rw [bs_sz]; exact info_b) ((bs_sz _).trans (bs_sz _).symm) (bs_one _) (fun w50 hm51 => ?_))
          refine ⟨⟨hm51.at 0 rfl, hm51.at 1 rfl⟩, ?_⟩
          refine wpAnyH_done (by kernel_rfl) ?_ _
          exact ⟨rfl, g40, g45, rfl, hm51⟩
        · refine opd rfl rfl (m_alloc (c := bs 0) (T := 23) hm42 5 rfl (run_alN rfl) (fun g52 w53 hm54 => ?_))
          refine ⟨⟨hm54.at 0 rfl, hm54.at 1 rfl⟩, ?_⟩
          simp only [nz1, nz2, nz3]
          refine one_ready 7 (by kernel_rfl) ?_
          refine opd rfl rfl (m_call hm54 16 (.agg (bs Y)) rfl (run_gMul rfl rfl rfl) (rmul_g p.y iz Y hp.y hiz hY _) (fun w55 hm56 => ?_))
          refine ⟨⟨hm56.at 0 rfl, hm56.at 1 rfl⟩, ?_⟩
          simp only [nz1, nz2, nz3]
          refine one_ready 10 (by kernel_rfl) ?_
          refine opd rfl rfl (m_store 2 23 _ _ (bs X) (old := bs 0) hm56 rfl rfl rfl rfl rfl (by rw [bs_sz]; exact info_b) ((bs_sz _).trans (bs_sz _).symm) (bs_one _) (fun w57 hm58 => ?_))
          refine ⟨⟨hm58.at 0 rfl, hm58.at 1 rfl⟩, ?_⟩
          refine one_ready 11 (by kernel_rfl) ?_
          refine opd rfl rfl (m_store 3 23 _ _ (bs Y) (old := bs 0) hm58 rfl rfl rfl rfl rfl (by rw [bs_sz]; exact info_b) ((bs_sz _).trans (bs_sz _).symm) (bs_one _) (fun w59 hm60 => ?_))
          refine ⟨⟨hm60.at 0 rfl, hm60.at 1 rfl⟩, ?_⟩
          refine wpAnyH_done (by kernel_rfl) ?_ _
          exact ⟨rfl, g40, g52, rfl, hm60⟩
      · refine opd rfl rfl (m_alloc (c := bs 0) (T := 23) hm17 5 rfl (run_alN rfl) (fun g61 w62 hm63 => ?_))
        refine ⟨⟨hm63.at 0 rfl, hm63.at 1 rfl⟩, ?_⟩
        simp only [nz1, nz2, nz3]
        refine two_ready 7 8 (by kernel_rfl) ?_ ?_
        · refine opd rfl rfl (m_call hm63 16 (.agg (bs Y)) rfl (run_gMul rfl rfl rfl) (rmul_g p.y iz Y hp.y hiz hY _) (fun w64 hm65 => ?_))
          refine ⟨⟨hm65.at 0 rfl, hm65.at 1 rfl⟩, ?_⟩
          simp only [nz1, nz2, nz3]
          refine one_ready 8 (by kernel_rfl) ?_
          refine opd rfl rfl (m_alloc (c := bs 0) (T := 23) hm65 4 rfl (run_alN rfl) (fun g66 w67 hm68 => ?_))
          refine ⟨⟨hm68.at 0 rfl, hm68.at 1 rfl⟩, ?_⟩
          simp only [nz1, nz2, nz3]
          refine one_ready 10 (by kernel_rfl) ?_
          refine opd rfl rfl (m_store 3 23 _ _ (bs X) (old := bs 0) hm68 rfl rfl rfl rfl rfl (by rw [bs_sz]; exact info_b) ((bs_sz _).trans (bs_sz _).symm) (bs_one _) (fun w69 hm70 => ?_))
          refine ⟨⟨hm70.at 0 rfl, hm70.at 1 rfl⟩, ?_⟩
          refine one_ready 11 (by kernel_rfl) ?_
          refine opd rfl rfl (m_store 2 23 _ _ (bs Y) (old := bs 0) hm70 rfl rfl rfl rfl rfl (by rw [bs_sz]; exact info_b) ((bs_sz _).trans (bs_sz _).symm) (bs_one _) (fun w71 hm72 => ?_))
          refine ⟨⟨hm72.at 0 rfl, hm72.at 1 rfl⟩, ?_⟩
          refine wpAnyH_done (by kernel_rfl) ?_ _
          exact ⟨rfl, g66, g61, rfl, (Mm.reorder hm72 [0, 1, 3, 2] (by decide) rfl)⟩
        · refine opd rfl rfl (m_alloc (c := bs 0) (T := 23) hm63 4 rfl (run_alN rfl) (fun g73 w74 hm75 => ?_))
          refine ⟨⟨hm75.at 0 rfl, hm75.at 1 rfl⟩, ?_⟩
          simp only [nz1, nz2, nz3]
          refine one_ready 7 (by kernel_rfl) ?_
          refine opd rfl rfl (m_call hm75 16 (.agg (bs Y)) rfl (run_gMul rfl rfl rfl) (rmul_g p.y iz Y hp.y hiz hY _) (fun w76 hm77 => ?_))
          refine ⟨⟨hm77.at 0 rfl, hm77.at 1 rfl⟩, ?_⟩
          simp only [nz1, nz2, nz3]
          refine one_ready 10 (by kernel_rfl) ?_
          refine opd rfl rfl (m_store 3 23 _ _ (bs X) (old := bs 0) hm77 rfl rfl rfl rfl rfl (by rw [bs_sz]; exact info_b) ((bs_sz _).trans (bs_sz _).symm) (bs_one _) (fun w78 hm79 => ?_))
          refine ⟨⟨hm79.at 0 rfl, hm79.at 1 rfl⟩, ?_⟩
          refine one_ready 11 (by kernel_rfl) ?_
          refine opd rfl rfl (m_store 2 23 _ _ (bs Y) (old := bs 0) hm79 rfl rfl rfl rfl rfl (by rw [bs_sz]; exact info_b) ((bs_sz _).trans (bs_sz _).symm) (bs_one _) (fun w80 hm81 => ?_))
          refine ⟨⟨hm81.at 0 rfl, hm81.at 1 rfl⟩, ?_⟩
          refine wpAnyH_done (by kernel_rfl) ?_ _
          exact ⟨rfl, g73, g61, rfl, (Mm.reorder hm81 [0, 1, 3, 2] (by decide) rfl)⟩
    · refine opd rfl rfl (m_alloc (c := bs 0) (T := 23) hm14 4 rfl (run_alN rfl) (fun g82 w83 hm84 => ?_))
      refine ⟨⟨hm84.at 0 rfl, hm84.at 1 rfl⟩, ?_⟩
      simp only [nz1, nz2, nz3]
      refine two_ready 3 9 (by kernel_rfl) ?_ ?_
      · refine opd rfl rfl (m_call hm84 12 (.agg (bs X)) rfl (run_gMul rfl rfl rfl) (rmul_g p.x iz X hp.x hiz hX _) (fun w85 hm86 => ?_))
        refine ⟨⟨hm86.at 0 rfl, hm86.at 1 rfl⟩, ?_⟩
        simp only [nz1, nz2, nz3]
        refine two_ready 7 9 (by kernel_rfl) ?_ ?_
        · refine opd rfl rfl (m_call hm86 16 (.agg (bs Y)) rfl (run_gMul rfl rfl rfl) (rmul_g p.y iz Y hp.y hiz hY _) (fun w87 hm88 => ?_))
          refine ⟨⟨hm88.at 0 rfl, hm88.at 1 rfl⟩, ?_⟩
          simp only [nz1, nz2, nz3]
          refine one_ready 9 (by kernel_rfl) ?_
          refine opd rfl rfl (m_alloc (c := bs 0) (T := 23) hm88 5 rfl (run_alN rfl) (fun g89 w90 hm91 => ?_))
          refine ⟨⟨hm91.at 0 rfl, hm91.at 1 rfl⟩, ?_⟩
          simp only [nz1, nz2, nz3]
          refine one_ready 10 (by kernel_rfl) ?_
          refine opd rfl rfl (m_store 2 23 _ _ (bs X) (old := bs 0) hm91 rfl rfl rfl rfl rfl (by rw [bs_sz]; exact info_b) ((bs_sz _).trans (bs_sz _).symm) (bs_one _) (fun w92 hm93 => ?_))
          refine ⟨⟨hm93.at 0 rfl, hm93.at 1 rfl⟩, ?_⟩
          refine one_ready 11 (by kernel_rfl) ?_
          refine opd rfl rfl (m_store 3 23 _ _ (bs Y) (old := bs 0) hm93 rfl rfl rfl rfl rfl (by rw [bs_sz]; exact info_b) ((bs_sz _).trans (bs_sz _).symm) (bs_one _) (fun w94 hm95 => ?_))
          refine ⟨⟨hm95.at 0 rfl, hm95.at 1 rfl⟩, ?_⟩
          refine wpAnyH_done (by kernel_rfl) ?_ _
          exact ⟨rfl, g82, g89, rfl, hm95⟩
        · refine opd rfl rfl (m_alloc (c := bs 0) (T := 23) hm86 5 rfl (run_alN rfl) (fun g96 w97 hm98 => ?_))
          refine ⟨⟨hm98.at 0 rfl, hm98.at 1 rfl⟩, ?_⟩
          simp only [nz1, nz2, nz3]
          refine one_ready 7 (by kernel_rfl) ?_
          refine opd rfl rfl (m_call hm98 16 (.agg (bs Y)) rfl (run_gMul rfl rfl rfl) (rmul_g p.y iz Y hp.y hiz hY _) (fun w99 hm100 => ?_))
          refine ⟨⟨hm100.at 0 rfl, hm100.at 1 rfl⟩, ?_⟩
          simp only [nz1, nz2, nz3]
          refine one_ready 10 (by kernel_rfl) ?_
          refine opd rfl rfl (m_store 2 23 _ _ (bs X) (old := bs 0) hm100 rfl rfl rfl rfl rfl (by rw [bs_sz]; exact info_b) ((bs_sz _).trans (bs_sz _).symm) (bs_one _) (fun w101 hm102 => ?_))
          refine ⟨⟨hm102.at 0 rfl, hm102.at 1 rfl⟩, ?_⟩
          refine one_ready 11 (by kernel_rfl) ?_
          refine opd rfl rfl (m_store 3 23 _ _ (bs Y) (old := bs 0) hm102 rfl rfl rfl rfl rfl (by rw [bs_sz]; exact info_b) ((bs_sz _).trans (bs_sz _).symm) (bs_one _) (fun w103 hm104 => ?_))
          refine ⟨⟨hm104.at 0 rfl, hm104.at 1 rfl⟩, ?_⟩
          refine wpAnyH_done (by kernel_rfl) ?_ _
          exact ⟨rfl, g82, g96, rfl, hm104⟩
      · refine opd rfl rfl (m_alloc (c := bs 0) (T := 23) hm84 5 rfl (run_alN rfl) (fun g105 w106 hm107 => ?_))
        refine ⟨⟨hm107.at 0 rfl, hm107.at 1 rfl⟩, ?_⟩
        simp only [nz1, nz2, nz3]
        refine one_ready 3 (by kernel_rfl) ?_
        refine opd rfl rfl (m_call hm107 12 (.agg (bs X)) rfl (run_gMul rfl rfl rfl) (rmul_g p.x iz X hp.x hiz hX _) (fun w108 hm109 => ?_))
        refine ⟨⟨hm109.at 0 rfl, hm109.at 1 rfl⟩, ?_⟩
        simp only [nz1, nz2, nz3]
        refine one_ready 7 (by kernel_rfl) ?_
        refine opd rfl rfl (m_call hm109 16 (.agg (bs Y)) rfl (run_gMul rfl rfl rfl) (rmul_g p.y iz Y hp.y hiz hY _) (fun w110 hm111 => ?_))
        refine ⟨⟨hm111.at 0 rfl, hm111.at 1 rfl⟩, ?_⟩
        simp only [nz1, nz2, nz3]
        refine one_ready 10 (by kernel_rfl) ?_
        refine opd rfl rfl (m_store 2 23 _ _ (bs X) (old := bs 0) hm111 rfl rfl rfl rfl rfl (by rw [bs_sz]; exact info_b) ((bs_sz _).trans (bs_sz _).symm) (bs_one _) (fun w112 hm113 => ?_))
        refine ⟨⟨hm113.at 0 rfl, hm113.at 1 rfl⟩, ?_⟩
        refine one_ready 11 (by kernel_rfl) ?_
        refine opd rfl rfl (m_store 3 23 _ _ (bs Y) (old := bs 0) hm113 rfl rfl rfl rfl rfl (by rw [bs_sz]; exact info_b) ((bs_sz _).trans (bs_sz _).symm) (bs_one _) (fun w114 hm115 => ?_))
        refine ⟨⟨hm115.at 0 rfl, hm115.at 1 rfl⟩, ?_⟩
        refine wpAnyH_done (by kernel_rfl) ?_ _
        exact ⟨rfl, g82, g105, rfl, hm115⟩
    · refine opd rfl rfl (m_alloc (c := bs 0) (T := 23) hm14 5 rfl (run_alN rfl) (fun g116 w117 hm118 => ?_))
      refine ⟨⟨hm118.at 0 rfl, hm118.at 1 rfl⟩, ?_⟩
      simp only [nz1, nz2, nz3]
      refine two_ready 3 8 (by kernel_rfl) ?_ ?_
      · refine opd rfl rfl (m_call hm118 12 (.agg (bs X)) rfl (run_gMul rfl rfl rfl) (rmul_g p.x iz X hp.x hiz hX _) (fun w119 hm120 => ?_))
        refine ⟨⟨hm120.at 0 rfl, hm120.at 1 rfl⟩, ?_⟩
        simp only [nz1, nz2, nz3]
        refine two_ready 7 8 (by kernel_rfl) ?_ ?_
        · refine opd rfl rfl (m_call hm120 16 (.agg (bs Y)) rfl (run_gMul rfl rfl rfl) (rmul_g p.y iz Y hp.y hiz hY _) (fun w121 hm122 => ?_))
          refine ⟨⟨hm122.at 0 rfl, hm122.at 1 rfl⟩, ?_⟩
          simp only [nz1, nz2, nz3]
          refine one_ready 8 (by kernel_rfl) ?_
          refine opd rfl rfl (m_alloc (c := bs 0) (T := 23) hm122 4 rfl (run_alN rfl) (fun g123 w124 hm125 => ?_))
          refine ⟨⟨hm125.at 0 rfl, hm125.at 1 rfl⟩, ?_⟩
          simp only [nz1, nz2, nz3]
          refine one_ready 10 (by kernel_rfl) ?_
          refine opd rfl rfl (m_store 3 23 _ _ (bs X) (old := bs 0) hm125 rfl rfl rfl rfl rfl (by rw [bs_sz]; exact info_b) ((bs_sz _).trans (bs_sz _).symm) (bs_one _) (fun w126 hm127 => ?_))
          refine ⟨⟨hm127.at 0 rfl, hm127.at 1 rfl⟩, ?_⟩
          refine one_ready 11 (by kernel_rfl) ?_
          refine opd rfl rfl (m_store 2 23 _ _ (bs Y) (old := bs 0) hm127 rfl rfl rfl rfl rfl (by rw [bs_sz]; exact info_b) ((bs_sz _).trans (bs_sz _).symm) (bs_one _) (fun w128 hm129 => ?_))
          refine ⟨⟨hm129.at 0 rfl, hm129.at 1 rfl⟩, ?_⟩
          refine wpAnyH_done (by kernel_rfl) ?_ _
          exact ⟨rfl, g123, g116, rfl, (Mm.reorder hm129 [0, 1, 3, 2] (by decide) rfl)⟩
        · refine opd rfl rfl (m_alloc (c := bs 0) (T := 23) hm120 4 rfl (run_alN rfl) (fun g130 w131 hm132 => ?_))
          refine ⟨⟨hm132.at 0 rfl, hm132.at 1 rfl⟩, ?_⟩
          simp only [nz1, nz2, nz3]
          refine one_ready 7 (by kernel_rfl) ?_
          refine opd rfl rfl (m_call hm132 16 (.agg (bs Y)) rfl (run_gMul rfl rfl rfl) (rmul_g p.y iz Y hp.y hiz hY _) (fun w133 hm134 => ?_))
          refine ⟨⟨hm134.at 0 rfl, hm134.at 1 rfl⟩, ?_⟩
          simp only [nz1, nz2, nz3]
          refine one_ready 10 (by kernel_rfl) ?_
          refine opd rfl rfl (m_store 3 23 _ _ (bs X) (old := bs 0) hm134 rfl rfl rfl rfl rfl (by rw [bs_sz]; exact info_b) ((bs_sz _).trans (bs_sz _).symm) (bs_one _) (fun w135 hm136 => ?_))
          refine ⟨⟨hm136.at 0 rfl, hm136.at 1 rfl⟩, ?_⟩
          refine one_ready 11 (by kernel_rfl) ?_
          refine opd rfl rfl (m_store 2 23 _ _ (bs Y) (old := bs 0) hm136 rfl rfl rfl rfl rfl (by rw [bs_sz]; exact info_b) ((bs_sz _).trans (bs_sz _).symm) (bs_one _) (fun w137 hm138 => ?_))
          refine ⟨⟨hm138.at 0 rfl, hm138.at 1 rfl⟩, ?_⟩
          refine wpAnyH_done (by kernel_rfl) ?_ _
          exact ⟨rfl, g130, g116, rfl, (Mm.reorder hm138 [0, 1, 3, 2] (by decide) rfl)⟩
      · refine opd rfl rfl (m_alloc (c := bs 0) (T := 23) hm118 4 rfl (run_alN rfl) (fun g139 w140 hm141 => ?_))
        refine ⟨⟨hm141.at 0 rfl, hm141.at 1 rfl⟩, ?_⟩
        simp only [nz1, nz2, nz3]
        refine one_ready 3 (by kernel_rfl) ?_
        refine opd rfl rfl (m_call hm141 12 (.agg (bs X)) rfl (run_gMul rfl rfl rfl) (rmul_g p.x iz X hp.x hiz hX _) (fun w142 hm143 => ?_))
        refine ⟨⟨hm143.at 0 rfl, hm143.at 1 rfl⟩, ?_⟩
        simp only [nz1, nz2, nz3]
        refine one_ready 7 (by kernel_rfl) ?_
        refine opd rfl rfl (m_call hm143 16 (.agg (bs Y)) rfl (run_gMul rfl rfl rfl) (rmul_g p.y iz Y hp.y hiz hY _) (fun w144 hm145 => ?_))
        refine ⟨⟨hm145.at 0 rfl, hm145.at 1 rfl⟩, ?_⟩
        simp only [nz1, nz2, nz3]
        refine one_ready 10 (by kernel_rfl) ?_
        refine opd rfl rfl (m_store 3 23 _ _ (bs X) (old := bs 0) hm145 rfl rfl rfl rfl rfl (by rw [bs_sz]; exact info_b) ((bs_sz _).trans (bs_sz _).symm) (bs_one _) (fun w146 hm147 => ?_))
        refine ⟨⟨hm147.at 0 rfl, hm147.at 1 rfl⟩, ?_⟩
        refine one_ready 11 (by kernel_rfl) ?_
        refine opd rfl rfl (m_store 2 23 _ _ (bs Y) (old := bs 0) hm147 rfl rfl rfl rfl rfl (by rw [bs_sz]; exact info_b) ((bs_sz _).trans (bs_sz _).symm) (bs_one _) (fun w148 hm149 => ?_))
        refine ⟨⟨hm149.at 0 rfl, hm149.at 1 rfl⟩, ?_⟩
        refine wpAnyH_done (by kernel_rfl) ?_ _
        exact ⟨rfl, g139, g116, rfl, (Mm.reorder hm149 [0, 1, 3, 2] (by decide) rfl)⟩
  clear hm12
  rintro _ _ w150 ⟨rfl, g20, g23, rfl, hm151⟩
  refine then_n (hK13 _ _ ?_)
  refine wp_seq_k (fun K152 hK152 => ?_)
  refine wp_region_lit ?_
  refine lv 17 (.pointer (some ⟨g23, 31, none⟩)) rfl rfl (r_ix g23 31 (by decide) Tryd.underlying23 one_u8 rfl rfl rfl) ?_
  simp only [nz1, nz2, nz3]
  refine lv 18 (.int .u8 (((bt Y) 31 : Nat) : Int)) rfl rfl (r_cell (f := (bt Y)) (n := 32) g23 31 (by decide) (hm151.at 3 rfl) Tryd.underlying5 rfl rfl) ?_
  simp only [nz1, nz2, nz3]
  refine lv 19 (.pointer (some ⟨g20, 0, none⟩)) rfl rfl (r_ix g20 0 (by decide) Tryd.underlying23 one_u8 rfl rfl rfl) ?_
  simp only [nz1, nz2, nz3]
  refine lv 20 (.int .u8 (((bt X) 0 : Nat) : Int)) rfl rfl (r_cell (f := (bt X)) (n := 32) g20 0 (by decide) (hm151.at 2 rfl) Tryd.underlying5 rfl rfl) ?_
  simp only [nz1, nz2, nz3]
  refine lv 21 (.int .u8 (((((bt X) 0) % 2) : Nat) : Int)) rfl rfl (r_rem ((bt X) 0) 2 (show bt X 0 < 256 from bt_lt _ _) (by decide) rfl rfl rfl) ?_
  simp only [nz1, nz2, nz3]
  refine lv 22 (.int .u8 ((((((bt X) 0) % 2) * 2 ^ 7) : Nat) : Int)) rfl rfl (r_shl (((bt X) 0) % 2) 7 (show bt X 0 % 2 * 2 ^ 7 < 256 from by omega) (by decide) rfl rfl rfl) ?_
  simp only [nz1, nz2, nz3]
  refine lv 23 (.int .u8 (((bt Y 31 + 128 * (X % 2)) : Nat) : Int)) rfl rfl (r_orx ((bt Y) 31) ((((bt X) 0) % 2) * 2 ^ 7) 8 (bt Y 31 + 128 * (X % 2)) (by decide) (bt_lt _ _) (show bt X 0 % 2 * 2 ^ 7 < 2 ^ 8 from by omega) (pk_or' _ _ hYl) rfl rfl rfl) ?_
  simp only [nz1, nz2, nz3]
  refine lv 24 (.pointer (some ⟨g23, 31, none⟩)) rfl rfl (r_ix g23 31 (by decide) Tryd.underlying23 one_u8 rfl rfl rfl) ?_
  simp only [nz1, nz2, nz3]
  refine lst (wanted_none rfl) (m_put 3 (new := rowOf .u8 (up (bt Y) 31 (bt Y 31 + 128 * (X % 2))) 32) 31 (.int .u8 (((bt Y 31 + 128 * (X % 2)) : Nat) : Int)) (old := bs Y) hm151 rfl rfl (p_cell (n := 32) (f := (bt Y)) g23 31 (bt Y 31 + 128 * (X % 2)) (by decide) (hm151.at 3 rfl) rfl one_u8 rfl rfl) (rowOf_set _ _ _ _ _) (fun w153 (hm154 : Mm w w153 [(g2, pq p, 25), (g8, bs iz, 23), (g20, bs X, 23), (g23, rowOf .u8 (up (bt Y) 31 (bt Y 31 + 128 * (X % 2))) 32, 23)]) => ?_))
  refine wpList_nil ?_
  have hm155 : Mm w w153 [(g2, pq p, 25), (g8, bs iz, 23), (g20, bs X, 23), (g23, rowOf .u8 (bt (pkN X Y)) 32, 23)] := by rw [show (rowOf .u8 (bt (pkN X Y)) 32 : Array Value) = rowOf .u8 (up (bt Y) 31 (bt Y 31 + 128 * (X % 2))) 32 from pk_row _ _ hYl]; exact hm154
  refine then_n (hK152 _ _ ?_)
  refine wp_seq_k (fun K156 hK156 => ?_)
  refine wp_region_lit ?_
  refine lv 25 (.slice (some ⟨g23, 0, none⟩) 32 32) rfl rfl (r_sliceArr g23 32 Tryd.underlying23 one_u8 rfl rfl) ?_
  simp only [nz1, nz2, nz3]
  refine lv 26 (.string (txt (bt (pkN X Y)) 32)) rfl rfl (r_string g23 32 32 (bt (pkN X Y)) 23 (fun _ _ => bt_lt _ _) (hm155.at 3 rfl) Tryd.underlying42 Tryd.underlying5 Tryd.underlying9 rfl rfl) ?_
  simp only [nz1, nz2, nz3]
  refine lv 2 (.string (txt (bt (pkN X Y)) 32)) rfl rfl (run_as rfl rfl) ?_
  simp only [nz1, nz2, nz3]
  refine wpList_nil ?_
  refine then_n (hK156 _ _ ?_)
  refine wp_ret ?_
  exact ⟨rfl, .string (txt (bt (pkN X Y)) 32), res_t rfl rfl, ⟨rfl, hm155.below⟩⟩
theorem rpack_p (p : Pn) (hp : p.ok) (w : World) : Calls Tryd.prog 16 #[.agg (pq p)] w (fun e w' => e = .returned (.string (packS p)) ∧ Below w.heap.size w w') :=
  rpackG p _ _ _ hp rfl (f_lt (fI_lt _)) rfl rfl (fM_lt _ _) w
end Go.Proofs.YtfpphinnngblgaaDoor.Fld
