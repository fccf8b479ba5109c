/- Layer 5, the document's answers: sums. -/
import Derived.Test.YtfpphinnngblgaaDoorPtR
import Derived.Test.YtfpphinnngblgaaDoorPtJ
namespace Go.Proofs.YtfpphinnngblgaaDoor.Fld
open Go.RowKit Go.Lib
open Go.Proofs.YtfpphinnngblgaaDoor.Num (val up val_congr val_add val_lt val_up val_digits val_word)
open Go.Proofs.YtfpphinnngblgaaDoor.Arr Go.Proofs.YtfpphinnngblgaaDoor.Sym Go.Proofs.YtfpphinnngblgaaDoor.Sx

set_option maxHeartbeats 8000000 in
set_option maxRecDepth 100000 in
theorem radd_p (p q : Pn) (hp : p.ok) (hq : q.ok) (w : World) : Calls Tryd.prog 20 #[.agg (pq p), .agg (pq q)] w (fun e w' => e = .returned (.agg (pq (addP p q))) ∧ Below w.heap.size w w') := by
  go_enter Tryd.func20, Tryd.ntmps20
  have hm0 := Mm.nil w
  refine wp_seq_k (fun K1 hK1 => ?_)
  refine wp_region_lit ?_
  refine lst (wanted_none rfl) (m_alloc (c := pq p) (T := 25) hm0 2 rfl (run_box rfl rfl) (fun g2 w3 (hm4 : Mm w w3 [(g2, pq p, 25)]) => ?_))
  simp only [nz1, nz2, nz3]
  refine lst (wanted_none rfl) (m_alloc (c := pq q) (T := 25) hm4 3 rfl (run_box rfl rfl) (fun g5 w6 (hm7 : Mm w w6 [(g2, pq p, 25), (g5, pq q, 25)]) => ?_))
  simp only [nz1, nz2, nz3]
  refine lst (wanted_none rfl) (m_alloc (c := pt 0 0 0 0) (T := 25) hm7 4 rfl (al_P rfl) (fun g8 w9 (hm10 : Mm w w9 [(g2, pq p, 25), (g5, pq q, 25), (g8, pt 0 0 0 0, 25)]) => ?_))
  simp only [nz1, nz2, nz3]
  refine wpList_nil ?_
  refine then_n (hK1 _ _ ?_)
  refine wp_seq_k (fun K11 hK11 => ?_)
  refine wp_mono (Q := fun e a' w' => e = Exit.normal ∧ ∃ g20 : Nat, a' = ⟨#[.agg (pq p), .agg (pq q), .pointer (some ⟨g2, 0, none⟩), .pointer (some ⟨g5, 0, none⟩), .pointer (some ⟨g8, 0, none⟩), .pointer (some ⟨g20, 0, none⟩), undef, undef, undef, undef, undef, undef, undef, .pointer (some ⟨g2, 32, none⟩), .agg (bs p.y), .pointer (some ⟨g2, 0, none⟩), .agg (bs p.x), .agg (bs (fS p.y p.x)), .pointer (some ⟨g5, 32, none⟩), .agg (bs q.y), .pointer (some ⟨g5, 0, none⟩), .agg (bs q.x), .agg (bs (fS q.y q.x)), .agg (bs (fM (fS p.y p.x) (fS q.y q.x))), undef, undef, undef, undef, undef, undef, undef, undef, undef, undef, undef, undef, undef, undef, undef, undef, undef, undef, undef, undef, undef, undef, undef, undef, undef, undef, undef, undef, undef, undef, undef, undef, undef, undef, undef, undef, undef, undef, undef, undef, undef, undef, undef, undef, undef, undef, undef, undef, undef, undef, undef, undef, undef], []⟩ ∧ Mm w w' [(g2, pq p, 25), (g5, pq q, 25), (g8, pt 0 0 0 0, 25), (g20, bs (fM (fS p.y p.x) (fS q.y q.x)), 23)]) ?_ ?_
  · have hm12 := hm10.drew
    refine wp_region_held_drew (S := fun w' => Sym.Blk w' g2 (pq p) 25 ∧ Sym.Blk w' g5 (pq q) 25) (by kernel_rfl) (⟨hm12.at 0 rfl, hm12.at 1 rfl⟩) (fun _ => ?_)
    generalize w9.drew = w13 at *
    refine Sym.take_at 0 13 (.pointer (some ⟨g2, 32, none⟩)) rfl rfl (by kernel_rfl) (by kernel_rfl) (by kernel_rfl) (fun _ _ _ h => nomatch h.1) rfl (fun _ hw => r_f1 g2 rfl rfl) (⟨hm12.at 0 rfl, hm12.at 1 rfl⟩) ?_
    simp only [nz1, nz2, nz3]
    refine Sym.take_at 1 14 (.agg (bs p.y)) rfl rfl (by kernel_rfl) (by kernel_rfl) (by kernel_rfl) (fun _ _ _ h => nomatch h.1) rfl (fun _ hw => r_c1 (x := p.x) (y := p.y) (z := p.z) (t := p.t) g2 hw.1 rfl rfl) (⟨hm12.at 0 rfl, hm12.at 1 rfl⟩) ?_
    simp only [nz1, nz2, nz3]
    refine Sym.take_at 2 15 (.pointer (some ⟨g2, 0, none⟩)) rfl rfl (by kernel_rfl) (by kernel_rfl) (by kernel_rfl) (fun _ _ _ h => nomatch h.1) rfl (fun _ hw => r_f0 g2 rfl rfl) (⟨hm12.at 0 rfl, hm12.at 1 rfl⟩) ?_
    simp only [nz1, nz2, nz3]
    refine Sym.take_at 3 16 (.agg (bs p.x)) rfl rfl (by kernel_rfl) (by kernel_rfl) (by kernel_rfl) (fun _ _ _ h => nomatch h.1) rfl (fun _ hw => r_c0 (x := p.x) (y := p.y) (z := p.z) (t := p.t) g2 hw.1 rfl rfl) (⟨hm12.at 0 rfl, hm12.at 1 rfl⟩) ?_
    simp only [nz1, nz2, nz3]
    refine Sym.take_at 5 18 (.pointer (some ⟨g5, 32, none⟩)) rfl rfl (by kernel_rfl) (by kernel_rfl) (by kernel_rfl) (fun _ _ _ h => nomatch h.1) rfl (fun _ hw => r_f1 g5 rfl rfl) (⟨hm12.at 0 rfl, hm12.at 1 rfl⟩) ?_
    simp only [nz1, nz2, nz3]
    refine Sym.take_at 6 19 (.agg (bs q.y)) rfl rfl (by kernel_rfl) (by kernel_rfl) (by kernel_rfl) (fun _ _ _ h => nomatch h.1) rfl (fun _ hw => r_c1 (x := q.x) (y := q.y) (z := q.z) (t := q.t) g5 hw.2 rfl rfl) (⟨hm12.at 0 rfl, hm12.at 1 rfl⟩) ?_
    simp only [nz1, nz2, nz3]
    refine Sym.take_at 7 20 (.pointer (some ⟨g5, 0, none⟩)) rfl rfl (by kernel_rfl) (by kernel_rfl) (by kernel_rfl) (fun _ _ _ h => nomatch h.1) rfl (fun _ hw => r_f0 g5 rfl rfl) (⟨hm12.at 0 rfl, hm12.at 1 rfl⟩) ?_
    simp only [nz1, nz2, nz3]
    refine Sym.take_at 8 21 (.agg (bs q.x)) rfl rfl (by kernel_rfl) (by kernel_rfl) (by kernel_rfl) (fun _ _ _ h => nomatch h.1) rfl (fun _ hw => r_c0 (x := q.x) (y := q.y) (z := q.z) (t := q.t) g5 hw.2 rfl rfl) (⟨hm12.at 0 rfl, hm12.at 1 rfl⟩) ?_
    simp only [nz1, nz2, nz3]
    refine two_ready 4 11 (by kernel_rfl) ?_ ?_
    · refine opd rfl rfl (m_call hm12 17 (.agg (bs (fS p.y p.x))) rfl (run_gSub rfl rfl rfl) (rsub_f p.y p.x hp.y hp.x _) (fun w14 hm15 => ?_))
      refine ⟨⟨hm15.at 0 rfl, hm15.at 1 rfl⟩, ?_⟩
      simp only [nz1, nz2, nz3]
      refine two_ready 9 11 (by kernel_rfl) ?_ ?_
      · refine opd rfl rfl (m_call hm15 22 (.agg (bs (fS q.y q.x))) rfl (run_gSub rfl rfl rfl) (rsub_f q.y q.x hq.y hq.x _) (fun w16 hm17 => ?_))
        refine ⟨⟨hm17.at 0 rfl, hm17.at 1 rfl⟩, ?_⟩
        simp only [nz1, nz2, nz3]
        refine two_ready 10 11 (by kernel_rfl) ?_ ?_
        · refine opd rfl rfl (m_call hm17 23 (.agg (bs (fM (fS p.y p.x) (fS q.y q.x)))) rfl (run_gMul rfl rfl rfl) (rmul_f (fS p.y p.x) (fS q.y q.x) (f_lt (fS_lt _ _)) (f_lt (fS_lt _ _)) _) (fun w18 hm19 => ?_))
          refine ⟨⟨hm19.at 0 rfl, hm19.at 1 rfl⟩, ?_⟩
          simp only [nz1, nz2, nz3]
          refine one_ready 11 (by kernel_rfl) ?_
          refine opd rfl rfl (m_alloc (c := bs 0) (T := 23) hm19 5 rfl (run_alN rfl) (fun g20 w21 hm22 => ?_))
          refine ⟨⟨hm22.at 0 rfl, hm22.at 1 rfl⟩, ?_⟩
          simp only [nz1, nz2, nz3]
          refine one_ready 12 (by kernel_rfl) ?_
          refine opd rfl rfl (m_store 3 23 _ _ (bs (fM (fS p.y p.x) (fS q.y q.x))) (old := bs 0) hm22 rfl rfl rfl rfl rfl (by rw [bs_sz]; exact info_b) ((bs_sz _).trans (bs_sz _).symm) (bs_one _) (fun w23 hm24 => ?_))
          refine ⟨⟨hm24.at 0 rfl, hm24.at 1 rfl⟩, ?_⟩
          refine wpAnyH_done (by kernel_rfl) ?_ _
          exact ⟨rfl, g20, rfl, hm24⟩
        · refine opd rfl rfl (m_alloc (c := bs 0) (T := 23) hm17 5 rfl (run_alN rfl) (fun g25 w26 hm27 => ?_))
          refine ⟨⟨hm27.at 0 rfl, hm27.at 1 rfl⟩, ?_⟩
          simp only [nz1, nz2, nz3]
          refine one_ready 10 (by kernel_rfl) ?_
          refine opd rfl rfl (m_call hm27 23 (.agg (bs (fM (fS p.y p.x) (fS q.y q.x)))) rfl (run_gMul rfl rfl rfl) (rmul_f (fS p.y p.x) (fS q.y q.x) (f_lt (fS_lt _ _)) (f_lt (fS_lt _ _)) _) (fun w28 hm29 => ?_))
          refine ⟨⟨hm29.at 0 rfl, hm29.at 1 rfl⟩, ?_⟩
          simp only [nz1, nz2, nz3]
          refine one_ready 12 (by kernel_rfl) ?_
          refine opd rfl rfl (m_store 3 23 _ _ (bs (fM (fS p.y p.x) (fS q.y q.x))) (old := bs 0) hm29 rfl rfl rfl rfl rfl (by rw [bs_sz]; exact info_b) ((bs_sz _).trans (bs_sz _).symm) (bs_one _) (fun w30 hm31 => ?_))
          refine ⟨⟨hm31.at 0 rfl, hm31.at 1 rfl⟩, ?_⟩
          refine wpAnyH_done (by kernel_rfl) ?_ _
          exact ⟨rfl, g25, rfl, hm31⟩
      · refine opd rfl rfl (m_alloc (c := bs 0) (T := 23) hm15 5 rfl (run_alN rfl) (fun g32 w33 hm34 => ?_))
        refine ⟨⟨hm34.at 0 rfl, hm34.at 1 rfl⟩, ?_⟩
        simp only [nz1, nz2, nz3]
        refine one_ready 9 (by kernel_rfl) ?_
        refine opd rfl rfl (m_call hm34 22 (.agg (bs (fS q.y q.x))) rfl (run_gSub rfl rfl rfl) (rsub_f q.y q.x hq.y hq.x _) (fun w35 hm36 => ?_))
        refine ⟨⟨hm36.at 0 rfl, hm36.at 1 rfl⟩, ?_⟩
        simp only [nz1, nz2, nz3]
        refine one_ready 10 (by kernel_rfl) ?_
        refine opd rfl rfl (m_call hm36 23 (.agg (bs (fM (fS p.y p.x) (fS q.y q.x)))) rfl (run_gMul rfl rfl rfl) (rmul_f (fS p.y p.x) (fS q.y q.x) (f_lt (fS_lt _ _)) (f_lt (fS_lt _ _)) _) (fun w37 hm38 => ?_))
        refine ⟨⟨hm38.at 0 rfl, hm38.at 1 rfl⟩, ?_⟩
        simp only [nz1, nz2, nz3]
        refine one_ready 12 (by kernel_rfl) ?_
        refine opd rfl rfl (m_store 3 23 _ _ (bs (fM (fS p.y p.x) (fS q.y q.x))) (old := bs 0) hm38 rfl rfl rfl rfl rfl (by rw [bs_sz]; exact info_b) ((bs_sz _).trans (bs_sz _).symm) (bs_one _) (fun w39 hm40 => ?_))
        refine ⟨⟨hm40.at 0 rfl, hm40.at 1 rfl⟩, ?_⟩
        refine wpAnyH_done (by kernel_rfl) ?_ _
        exact ⟨rfl, g32, rfl, hm40⟩
    · refine opd rfl rfl (m_alloc (c := bs 0) (T := 23) hm12 5 rfl (run_alN rfl) (fun g41 w42 hm43 => ?_))
      refine ⟨⟨hm43.at 0 rfl, hm43.at 1 rfl⟩, ?_⟩
      simp only [nz1, nz2, nz3]
      refine one_ready 4 (by kernel_rfl) ?_
      refine opd rfl rfl (m_call hm43 17 (.agg (bs (fS p.y p.x))) rfl (run_gSub rfl rfl rfl) (rsub_f p.y p.x hp.y hp.x _) (fun w44 hm45 => ?_))
      refine ⟨⟨hm45.at 0 rfl, hm45.at 1 rfl⟩, ?_⟩
      simp only [nz1, nz2, nz3]
      refine one_ready 9 (by kernel_rfl) ?_
      refine opd rfl rfl (m_call hm45 22 (.agg (bs (fS q.y q.x))) rfl (run_gSub rfl rfl rfl) (rsub_f q.y q.x hq.y hq.x _) (fun w46 hm47 => ?_))
      refine ⟨⟨hm47.at 0 rfl, hm47.at 1 rfl⟩, ?_⟩
      simp only [nz1, nz2, nz3]
      refine one_ready 10 (by kernel_rfl) ?_
      refine opd rfl rfl (m_call hm47 23 (.agg (bs (fM (fS p.y p.x) (fS q.y q.x)))) rfl (run_gMul rfl rfl rfl) (rmul_f (fS p.y p.x) (fS q.y q.x) (f_lt (fS_lt _ _)) (f_lt (fS_lt _ _)) _) (fun w48 hm49 => ?_))
      refine ⟨⟨hm49.at 0 rfl, hm49.at 1 rfl⟩, ?_⟩
      simp only [nz1, nz2, nz3]
      refine one_ready 12 (by kernel_rfl) ?_
      refine opd rfl rfl (m_store 3 23 _ _ (bs (fM (fS p.y p.x) (fS q.y q.x))) (old := bs 0) hm49 rfl rfl rfl rfl rfl (by rw [bs_sz]; exact info_b) ((bs_sz _).trans (bs_sz _).symm) (bs_one _) (fun w50 hm51 => ?_))
      refine ⟨⟨hm51.at 0 rfl, hm51.at 1 rfl⟩, ?_⟩
      refine wpAnyH_done (by kernel_rfl) ?_ _
      exact ⟨rfl, g41, rfl, hm51⟩
  clear hm10
  rintro _ _ w52 ⟨rfl, g20, rfl, hm53⟩
  refine then_n (hK11 _ _ ?_)
  refine wp_seq_k (fun K54 hK54 => ?_)
  refine wp_mono (Q := fun e a' w' => e = Exit.normal ∧ ∃ g63 : Nat, a' = ⟨#[.agg (pq p), .agg (pq q), .pointer (some ⟨g2, 0, none⟩), .pointer (some ⟨g5, 0, none⟩), .pointer (some ⟨g8, 0, none⟩), .pointer (some ⟨g20, 0, none⟩), .pointer (some ⟨g63, 0, none⟩), undef, undef, undef, undef, undef, undef, .pointer (some ⟨g2, 32, none⟩), .agg (bs p.y), .pointer (some ⟨g2, 0, none⟩), .agg (bs p.x), .agg (bs (fS p.y p.x)), .pointer (some ⟨g5, 32, none⟩), .agg (bs q.y), .pointer (some ⟨g5, 0, none⟩), .agg (bs q.x), .agg (bs (fS q.y q.x)), .agg (bs (fM (fS p.y p.x) (fS q.y q.x))), .pointer (some ⟨g2, 32, none⟩), .agg (bs p.y), .pointer (some ⟨g2, 0, none⟩), .agg (bs p.x), .agg (bs (fA p.y p.x)), .pointer (some ⟨g5, 32, none⟩), .agg (bs q.y), .pointer (some ⟨g5, 0, none⟩), .agg (bs q.x), .agg (bs (fA q.y q.x)), .agg (bs (fM (fA p.y p.x) (fA q.y q.x))), undef, undef, undef, undef, undef, undef, undef, undef, undef, undef, undef, undef, undef, undef, undef, undef, undef, undef, undef, undef, undef, undef, undef, undef, undef, undef, undef, undef, undef, undef, undef, undef, undef, undef, undef, undef, undef, undef, undef, undef, undef, undef], []⟩ ∧ Mm w w' [(g2, pq p, 25), (g5, pq q, 25), (g8, pt 0 0 0 0, 25), (g20, bs (fM (fS p.y p.x) (fS q.y q.x)), 23), (g63, bs (fM (fA p.y p.x) (fA q.y q.x)), 23)]) ?_ ?_
  · have hm55 := hm53.drew
    refine wp_region_held_drew (S := fun w' => Sym.Blk w' g2 (pq p) 25 ∧ Sym.Blk w' g5 (pq q) 25) (by kernel_rfl) (⟨hm55.at 0 rfl, hm55.at 1 rfl⟩) (fun _ => ?_)
    generalize w52.drew = w56 at *
    refine Sym.take_at 0 24 (.pointer (some ⟨g2, 32, none⟩)) rfl rfl (by kernel_rfl) (by kernel_rfl) (by kernel_rfl) (fun _ _ _ h => nomatch h.1) rfl (fun _ hw => r_f1 g2 rfl rfl) (⟨hm55.at 0 rfl, hm55.at 1 rfl⟩) ?_
    simp only [nz1, nz2, nz3]
    refine Sym.take_at 1 25 (.agg (bs p.y)) rfl rfl (by kernel_rfl) (by kernel_rfl) (by kernel_rfl) (fun _ _ _ h => nomatch h.1) rfl (fun _ hw => r_c1 (x := p.x) (y := p.y) (z := p.z) (t := p.t) g2 hw.1 rfl rfl) (⟨hm55.at 0 rfl, hm55.at 1 rfl⟩) ?_
    simp only [nz1, nz2, nz3]
    refine Sym.take_at 2 26 (.pointer (some ⟨g2, 0, none⟩)) rfl rfl (by kernel_rfl) (by kernel_rfl) (by kernel_rfl) (fun _ _ _ h => nomatch h.1) rfl (fun _ hw => r_f0 g2 rfl rfl) (⟨hm55.at 0 rfl, hm55.at 1 rfl⟩) ?_
    simp only [nz1, nz2, nz3]
    refine Sym.take_at 3 27 (.agg (bs p.x)) rfl rfl (by kernel_rfl) (by kernel_rfl) (by kernel_rfl) (fun _ _ _ h => nomatch h.1) rfl (fun _ hw => r_c0 (x := p.x) (y := p.y) (z := p.z) (t := p.t) g2 hw.1 rfl rfl) (⟨hm55.at 0 rfl, hm55.at 1 rfl⟩) ?_
    simp only [nz1, nz2, nz3]
    refine Sym.take_at 5 29 (.pointer (some ⟨g5, 32, none⟩)) rfl rfl (by kernel_rfl) (by kernel_rfl) (by kernel_rfl) (fun _ _ _ h => nomatch h.1) rfl (fun _ hw => r_f1 g5 rfl rfl) (⟨hm55.at 0 rfl, hm55.at 1 rfl⟩) ?_
    simp only [nz1, nz2, nz3]
    refine Sym.take_at 6 30 (.agg (bs q.y)) rfl rfl (by kernel_rfl) (by kernel_rfl) (by kernel_rfl) (fun _ _ _ h => nomatch h.1) rfl (fun _ hw => r_c1 (x := q.x) (y := q.y) (z := q.z) (t := q.t) g5 hw.2 rfl rfl) (⟨hm55.at 0 rfl, hm55.at 1 rfl⟩) ?_
    simp only [nz1, nz2, nz3]
    refine Sym.take_at 7 31 (.pointer (some ⟨g5, 0, none⟩)) rfl rfl (by kernel_rfl) (by kernel_rfl) (by kernel_rfl) (fun _ _ _ h => nomatch h.1) rfl (fun _ hw => r_f0 g5 rfl rfl) (⟨hm55.at 0 rfl, hm55.at 1 rfl⟩) ?_
    simp only [nz1, nz2, nz3]
    refine Sym.take_at 8 32 (.agg (bs q.x)) rfl rfl (by kernel_rfl) (by kernel_rfl) (by kernel_rfl) (fun _ _ _ h => nomatch h.1) rfl (fun _ hw => r_c0 (x := q.x) (y := q.y) (z := q.z) (t := q.t) g5 hw.2 rfl rfl) (⟨hm55.at 0 rfl, hm55.at 1 rfl⟩) ?_
    simp only [nz1, nz2, nz3]
    refine two_ready 4 11 (by kernel_rfl) ?_ ?_
    · refine opd rfl rfl (m_call hm55 28 (.agg (bs (fA p.y p.x))) rfl (run_gAdd rfl rfl rfl) (radd_f p.y p.x hp.y hp.x _) (fun w57 hm58 => ?_))
      refine ⟨⟨hm58.at 0 rfl, hm58.at 1 rfl⟩, ?_⟩
      simp only [nz1, nz2, nz3]
      refine two_ready 9 11 (by kernel_rfl) ?_ ?_
      · refine opd rfl rfl (m_call hm58 33 (.agg (bs (fA q.y q.x))) rfl (run_gAdd rfl rfl rfl) (radd_f q.y q.x hq.y hq.x _) (fun w59 hm60 => ?_))
        refine ⟨⟨hm60.at 0 rfl, hm60.at 1 rfl⟩, ?_⟩
        simp only [nz1, nz2, nz3]
        refine two_ready 10 11 (by kernel_rfl) ?_ ?_
        · refine opd rfl rfl (m_call hm60 34 (.agg (bs (fM (fA p.y p.x) (fA q.y q.x)))) rfl (run_gMul rfl rfl rfl) (rmul_f (fA p.y p.x) (fA q.y q.x) (f_lt (fA_lt _ _)) (f_lt (fA_lt _ _)) _) (fun w61 hm62 => ?_))
          refine ⟨⟨hm62.at 0 rfl, hm62.at 1 rfl⟩, ?_⟩
          simp only [nz1, nz2, nz3]
          refine one_ready 11 (by kernel_rfl) ?_
          refine opd rfl rfl (m_alloc (c := bs 0) (T := 23) hm62 6 rfl (run_alN rfl) (fun g63 w64 hm65 => ?_))
          refine ⟨⟨hm65.at 0 rfl, hm65.at 1 rfl⟩, ?_⟩
          simp only [nz1, nz2, nz3]
          refine one_ready 12 (by kernel_rfl) ?_
          refine opd rfl rfl (m_store 4 23 _ _ (bs (fM (fA p.y p.x) (fA q.y q.x))) (old := bs 0) hm65 rfl rfl rfl rfl rfl (by rw [bs_sz]; exact info_b) ((bs_sz _).trans (bs_sz _).symm) (bs_one _) (fun w66 hm67 => ?_))
          refine ⟨⟨hm67.at 0 rfl, hm67.at 1 rfl⟩, ?_⟩
          refine wpAnyH_done (by kernel_rfl) ?_ _
          exact ⟨rfl, g63, rfl, hm67⟩
        · refine opd rfl rfl (m_alloc (c := bs 0) (T := 23) hm60 6 rfl (run_alN rfl) (fun g68 w69 hm70 => ?_))
          refine ⟨⟨hm70.at 0 rfl, hm70.at 1 rfl⟩, ?_⟩
          simp only [nz1, nz2, nz3]
          refine one_ready 10 (by kernel_rfl) ?_
          refine opd rfl rfl (m_call hm70 34 (.agg (bs (fM (fA p.y p.x) (fA q.y q.x)))) rfl (run_gMul rfl rfl rfl) (rmul_f (fA p.y p.x) (fA q.y q.x) (f_lt (fA_lt _ _)) (f_lt (fA_lt _ _)) _) (fun w71 hm72 => ?_))
          refine ⟨⟨hm72.at 0 rfl, hm72.at 1 rfl⟩, ?_⟩
          simp only [nz1, nz2, nz3]
          refine one_ready 12 (by kernel_rfl) ?_
          refine opd rfl rfl (m_store 4 23 _ _ (bs (fM (fA p.y p.x) (fA q.y q.x))) (old := bs 0) hm72 rfl rfl rfl rfl rfl (by rw [bs_sz]; exact info_b) ((bs_sz _).trans (bs_sz _).symm) (bs_one _) (fun w73 hm74 => ?_))
          refine ⟨⟨hm74.at 0 rfl, hm74.at 1 rfl⟩, ?_⟩
          refine wpAnyH_done (by kernel_rfl) ?_ _
          exact ⟨rfl, g68, rfl, hm74⟩
      · refine opd rfl rfl (m_alloc (c := bs 0) (T := 23) hm58 6 rfl (run_alN rfl) (fun g75 w76 hm77 => ?_))
        refine ⟨⟨hm77.at 0 rfl, hm77.at 1 rfl⟩, ?_⟩
        simp only [nz1, nz2, nz3]
        refine one_ready 9 (by kernel_rfl) ?_
        refine opd rfl rfl (m_call hm77 33 (.agg (bs (fA q.y q.x))) rfl (run_gAdd rfl rfl rfl) (radd_f q.y q.x hq.y hq.x _) (fun w78 hm79 => ?_))
        refine ⟨⟨hm79.at 0 rfl, hm79.at 1 rfl⟩, ?_⟩
        simp only [nz1, nz2, nz3]
        refine one_ready 10 (by kernel_rfl) ?_
        refine opd rfl rfl (m_call hm79 34 (.agg (bs (fM (fA p.y p.x) (fA q.y q.x)))) rfl (run_gMul rfl rfl rfl) (rmul_f (fA p.y p.x) (fA q.y q.x) (f_lt (fA_lt _ _)) (f_lt (fA_lt _ _)) _) (fun w80 hm81 => ?_))
        refine ⟨⟨hm81.at 0 rfl, hm81.at 1 rfl⟩, ?_⟩
        simp only [nz1, nz2, nz3]
        refine one_ready 12 (by kernel_rfl) ?_
        refine opd rfl rfl (m_store 4 23 _ _ (bs (fM (fA p.y p.x) (fA q.y q.x))) (old := bs 0) hm81 rfl rfl rfl rfl rfl (by rw [bs_sz]; exact info_b) ((bs_sz _).trans (bs_sz _).symm) (bs_one _) (fun w82 hm83 => ?_))
        refine ⟨⟨hm83.at 0 rfl, hm83.at 1 rfl⟩, ?_⟩
        refine wpAnyH_done (by kernel_rfl) ?_ _
        exact ⟨rfl, g75, rfl, hm83⟩
    · refine opd rfl rfl (m_alloc (c := bs 0) (T := 23) hm55 6 rfl (run_alN rfl) (fun g84 w85 hm86 => ?_))
      refine ⟨⟨hm86.at 0 rfl, hm86.at 1 rfl⟩, ?_⟩
      simp only [nz1, nz2, nz3]
      refine one_ready 4 (by kernel_rfl) ?_
      refine opd rfl rfl (m_call hm86 28 (.agg (bs (fA p.y p.x))) rfl (run_gAdd rfl rfl rfl) (radd_f p.y p.x hp.y hp.x _) (fun w87 hm88 => ?_))
      refine ⟨⟨hm88.at 0 rfl, hm88.at 1 rfl⟩, ?_⟩
      simp only [nz1, nz2, nz3]
      refine one_ready 9 (by kernel_rfl) ?_
      refine opd rfl rfl (m_call hm88 33 (.agg (bs (fA q.y q.x))) rfl (run_gAdd rfl rfl rfl) (radd_f q.y q.x hq.y hq.x _) (fun w89 hm90 => ?_))
      refine ⟨⟨hm90.at 0 rfl, hm90.at 1 rfl⟩, ?_⟩
      simp only [nz1, nz2, nz3]
      refine one_ready 10 (by kernel_rfl) ?_
      refine opd rfl rfl (m_call hm90 34 (.agg (bs (fM (fA p.y p.x) (fA q.y q.x)))) rfl (run_gMul rfl rfl rfl) (rmul_f (fA p.y p.x) (fA q.y q.x) (f_lt (fA_lt _ _)) (f_lt (fA_lt _ _)) _) (fun w91 hm92 => ?_))
      refine ⟨⟨hm92.at 0 rfl, hm92.at 1 rfl⟩, ?_⟩
      simp only [nz1, nz2, nz3]
      refine one_ready 12 (by kernel_rfl) ?_
      refine opd rfl rfl (m_store 4 23 _ _ (bs (fM (fA p.y p.x) (fA q.y q.x))) (old := bs 0) hm92 rfl rfl rfl rfl rfl (by rw [bs_sz]; exact info_b) ((bs_sz _).trans (bs_sz _).symm) (bs_one _) (fun w93 hm94 => ?_))
      refine ⟨⟨hm94.at 0 rfl, hm94.at 1 rfl⟩, ?_⟩
      refine wpAnyH_done (by kernel_rfl) ?_ _
      exact ⟨rfl, g84, rfl, hm94⟩
  clear hm53
  rintro _ _ w95 ⟨rfl, g63, rfl, hm96⟩
  refine then_n (hK54 _ _ ?_)
  refine wp_seq_k (fun K97 hK97 => ?_)
  refine wp_mono (Q := fun e a' w' => e = Exit.normal ∧ ∃ g110 : Nat, a' = ⟨#[.agg (pq p), .agg (pq q), .pointer (some ⟨g2, 0, none⟩), .pointer (some ⟨g5, 0, none⟩), .pointer (some ⟨g8, 0, none⟩), .pointer (some ⟨g20, 0, none⟩), .pointer (some ⟨g63, 0, none⟩), .pointer (some ⟨g110, 0, none⟩), undef, undef, undef, undef, undef, .pointer (some ⟨g2, 32, none⟩), .agg (bs p.y), .pointer (some ⟨g2, 0, none⟩), .agg (bs p.x), .agg (bs (fS p.y p.x)), .pointer (some ⟨g5, 32, none⟩), .agg (bs q.y), .pointer (some ⟨g5, 0, none⟩), .agg (bs q.x), .agg (bs (fS q.y q.x)), .agg (bs (fM (fS p.y p.x) (fS q.y q.x))), .pointer (some ⟨g2, 32, none⟩), .agg (bs p.y), .pointer (some ⟨g2, 0, none⟩), .agg (bs p.x), .agg (bs (fA p.y p.x)), .pointer (some ⟨g5, 32, none⟩), .agg (bs q.y), .pointer (some ⟨g5, 0, none⟩), .agg (bs q.x), .agg (bs (fA q.y q.x)), .agg (bs (fM (fA p.y p.x) (fA q.y q.x))), .pointer (some ⟨g2, 96, none⟩), .agg (bs p.t), .agg (bs dN), .agg (bs dN), .agg (bs (fA dN dN)), .agg (bs (fM p.t (fA dN dN))), .pointer (some ⟨g5, 96, none⟩), .agg (bs q.t), .agg (bs (fM (fM p.t (fA dN dN)) q.t)), undef, undef, undef, undef, undef, undef, undef, undef, undef, undef, undef, undef, undef, undef, undef, undef, undef, undef, undef, undef, undef, undef, undef, undef, undef, undef, undef, undef, undef, undef, undef, undef, undef], []⟩ ∧ Mm w w' [(g2, pq p, 25), (g5, pq q, 25), (g8, pt 0 0 0 0, 25), (g20, bs (fM (fS p.y p.x) (fS q.y q.x)), 23), (g63, bs (fM (fA p.y p.x) (fA q.y q.x)), 23), (g110, bs (fM (fM p.t (fA dN dN)) q.t), 23)]) ?_ ?_
  · have hm98 := hm96.drew
    refine wp_region_held_drew (S := fun w' => Sym.Blk w' g2 (pq p) 25 ∧ Sym.Blk w' g5 (pq q) 25) (by kernel_rfl) (⟨hm98.at 0 rfl, hm98.at 1 rfl⟩) (fun _ => ?_)
    generalize w95.drew = w99 at *
    refine Sym.take_at 0 35 (.pointer (some ⟨g2, 96, none⟩)) rfl rfl (by kernel_rfl) (by kernel_rfl) (by kernel_rfl) (fun _ _ _ h => nomatch h.1) rfl (fun _ hw => r_f3 g2 rfl rfl) (⟨hm98.at 0 rfl, hm98.at 1 rfl⟩) ?_
    simp only [nz1, nz2, nz3]
    refine Sym.take_at 1 36 (.agg (bs p.t)) rfl rfl (by kernel_rfl) (by kernel_rfl) (by kernel_rfl) (fun _ _ _ h => nomatch h.1) rfl (fun _ hw => r_c3 (x := p.x) (y := p.y) (z := p.z) (t := p.t) g2 hw.1 rfl rfl) (⟨hm98.at 0 rfl, hm98.at 1 rfl⟩) ?_
    simp only [nz1, nz2, nz3]
    refine Sym.take_at 6 41 (.pointer (some ⟨g5, 96, none⟩)) rfl rfl (by kernel_rfl) (by kernel_rfl) (by kernel_rfl) (fun _ _ _ h => nomatch h.1) rfl (fun _ hw => r_f3 g5 rfl rfl) (⟨hm98.at 0 rfl, hm98.at 1 rfl⟩) ?_
    simp only [nz1, nz2, nz3]
    refine Sym.take_at 7 42 (.agg (bs q.t)) rfl rfl (by kernel_rfl) (by kernel_rfl) (by kernel_rfl) (fun _ _ _ h => nomatch h.1) rfl (fun _ hw => r_c3 (x := q.x) (y := q.y) (z := q.z) (t := q.t) g5 hw.2 rfl rfl) (⟨hm98.at 0 rfl, hm98.at 1 rfl⟩) ?_
    simp only [nz1, nz2, nz3]
    refine two_ready 2 9 (by kernel_rfl) ?_ ?_
    · refine opd rfl rfl (m_call hm98 37 (.agg (bs dN)) rfl (run_factor rfl) (factor_any _) (fun w100 hm101 => ?_))
      refine ⟨⟨hm101.at 0 rfl, hm101.at 1 rfl⟩, ?_⟩
      simp only [nz1, nz2, nz3]
      refine two_ready 3 9 (by kernel_rfl) ?_ ?_
      · refine opd rfl rfl (m_call hm101 38 (.agg (bs dN)) rfl (run_factor rfl) (factor_any _) (fun w102 hm103 => ?_))
        refine ⟨⟨hm103.at 0 rfl, hm103.at 1 rfl⟩, ?_⟩
        simp only [nz1, nz2, nz3]
        refine two_ready 4 9 (by kernel_rfl) ?_ ?_
        · refine opd rfl rfl (m_call hm103 39 (.agg (bs (fA dN dN))) rfl (run_gAdd rfl rfl rfl) (radd_f dN dN dN_lt dN_lt _) (fun w104 hm105 => ?_))
          refine ⟨⟨hm105.at 0 rfl, hm105.at 1 rfl⟩, ?_⟩
          simp only [nz1, nz2, nz3]
          refine two_ready 5 9 (by kernel_rfl) ?_ ?_
          · refine opd rfl rfl (m_call hm105 40 (.agg (bs (fM p.t (fA dN dN)))) rfl (run_gMul rfl rfl rfl) (rmul_f p.t (fA dN dN) hp.t (f_lt (fA_lt _ _)) _) (fun w106 hm107 => ?_))
            refine ⟨⟨hm107.at 0 rfl, hm107.at 1 rfl⟩, ?_⟩
            simp only [nz1, nz2, nz3]
            refine two_ready 8 9 (by kernel_rfl) ?_ ?_
            · refine opd rfl rfl (m_call hm107 43 (.agg (bs (fM (fM p.t (fA dN dN)) q.t))) rfl (run_gMul rfl rfl rfl) (rmul_f (fM p.t (fA dN dN)) q.t (f_lt (fM_lt _ _)) hq.t _) (fun w108 hm109 => ?_))
              refine ⟨⟨hm109.at 0 rfl, hm109.at 1 rfl⟩, ?_⟩
              simp only [nz1, nz2, nz3]
              refine one_ready 9 (by kernel_rfl) ?_
              refine opd rfl rfl (m_alloc (c := bs 0) (T := 23) hm109 7 rfl (run_alN rfl) (fun g110 w111 hm112 => ?_))
              refine ⟨⟨hm112.at 0 rfl, hm112.at 1 rfl⟩, ?_⟩
              simp only [nz1, nz2, nz3]
              refine one_ready 10 (by kernel_rfl) ?_
              refine opd rfl rfl (m_store 5 23 _ _ (bs (fM (fM p.t (fA dN dN)) q.t)) (old := bs 0) hm112 rfl rfl rfl rfl rfl (by rw [bs_sz]; exact info_b) ((bs_sz _).trans (bs_sz _).symm) (bs_one _) (fun w113 hm114 => ?_))
              refine ⟨⟨hm114.at 0 rfl, hm114.at 1 rfl⟩, ?_⟩
              refine wpAnyH_done (by kernel_rfl) ?_ _
              exact ⟨rfl, g110, rfl, hm114⟩
            · refine opd rfl rfl (m_alloc (c := bs 0) (T := 23) hm107 7 rfl (run_alN rfl) (fun g115 w116 hm117 => ?_))
              refine ⟨⟨hm117.at 0 rfl, hm117.at 1 rfl⟩, ?_⟩
              simp only [nz1, nz2, nz3]
              refine one_ready 8 (by kernel_rfl) ?_
              refine opd rfl rfl (m_call hm117 43 (.agg (bs (fM (fM p.t (fA dN dN)) q.t))) rfl (run_gMul rfl rfl rfl) (rmul_f (fM p.t (fA dN dN)) q.t (f_lt (fM_lt _ _)) hq.t _) (fun w118 hm119 => ?_))
              refine ⟨⟨hm119.at 0 rfl, hm119.at 1 rfl⟩, ?_⟩
              simp only [nz1, nz2, nz3]
              refine one_ready 10 (by kernel_rfl) ?_
              refine opd rfl rfl (m_store 5 23 _ _ (bs (fM (fM p.t (fA dN dN)) q.t)) (old := bs 0) hm119 rfl rfl rfl rfl rfl (by rw [bs_sz]; exact info_b) ((bs_sz _).trans (bs_sz _).symm) (bs_one _) (fun w120 hm121 => ?_))
              refine ⟨⟨hm121.at 0 rfl, hm121.at 1 rfl⟩, ?_⟩
              refine wpAnyH_done (by kernel_rfl) ?_ _
              exact ⟨rfl, g115, rfl, hm121⟩
          · refine opd rfl rfl (m_alloc (c := bs 0) (T := 23) hm105 7 rfl (run_alN rfl) (fun g122 w123 hm124 => ?_))
            refine ⟨⟨hm124.at 0 rfl, hm124.at 1 rfl⟩, ?_⟩
            simp only [nz1, nz2, nz3]
            refine one_ready 5 (by kernel_rfl) ?_
            refine opd rfl rfl (m_call hm124 40 (.agg (bs (fM p.t (fA dN dN)))) rfl (run_gMul rfl rfl rfl) (rmul_f p.t (fA dN dN) hp.t (f_lt (fA_lt _ _)) _) (fun w125 hm126 => ?_))
            refine ⟨⟨hm126.at 0 rfl, hm126.at 1 rfl⟩, ?_⟩
            simp only [nz1, nz2, nz3]
            refine one_ready 8 (by kernel_rfl) ?_
            refine opd rfl rfl (m_call hm126 43 (.agg (bs (fM (fM p.t (fA dN dN)) q.t))) rfl (run_gMul rfl rfl rfl) (rmul_f (fM p.t (fA dN dN)) q.t (f_lt (fM_lt _ _)) hq.t _) (fun w127 hm128 => ?_))
            refine ⟨⟨hm128.at 0 rfl, hm128.at 1 rfl⟩, ?_⟩
            simp only [nz1, nz2, nz3]
            refine one_ready 10 (by kernel_rfl) ?_
            refine opd rfl rfl (m_store 5 23 _ _ (bs (fM (fM p.t (fA dN dN)) q.t)) (old := bs 0) hm128 rfl rfl rfl rfl rfl (by rw [bs_sz]; exact info_b) ((bs_sz _).trans (bs_sz _).symm) (bs_one _) (fun w129 hm130 => ?_))
            refine ⟨⟨hm130.at 0 rfl, hm130.at 1 rfl⟩, ?_⟩
            refine wpAnyH_done (by kernel_rfl) ?_ _
            exact ⟨rfl, g122, rfl, hm130⟩
        · refine opd rfl rfl (m_alloc (c := bs 0) (T := 23) hm103 7 rfl (run_alN rfl) (fun g131 w132 hm133 => ?_))
          refine ⟨⟨hm133.at 0 rfl, hm133.at 1 rfl⟩, ?_⟩
          simp only [nz1, nz2, nz3]
          refine one_ready 4 (by kernel_rfl) ?_
          refine opd rfl rfl (m_call hm133 39 (.agg (bs (fA dN dN))) rfl (run_gAdd rfl rfl rfl) (radd_f dN dN dN_lt dN_lt _) (fun w134 hm135 => ?_))
          refine ⟨⟨hm135.at 0 rfl, hm135.at 1 rfl⟩, ?_⟩
          simp only [nz1, nz2, nz3]
          refine one_ready 5 (by kernel_rfl) ?_
          refine opd rfl rfl (m_call hm135 40 (.agg (bs (fM p.t (fA dN dN)))) rfl (run_gMul rfl rfl rfl) (rmul_f p.t (fA dN dN) hp.t (f_lt (fA_lt _ _)) _) (fun w136 hm137 => ?_))
          refine ⟨⟨hm137.at 0 rfl, hm137.at 1 rfl⟩, ?_⟩
          simp only [nz1, nz2, nz3]
          refine one_ready 8 (by kernel_rfl) ?_
          refine opd rfl rfl (m_call hm137 43 (.agg (bs (fM (fM p.t (fA dN dN)) q.t))) rfl (run_gMul rfl rfl rfl) (rmul_f (fM p.t (fA dN dN)) q.t (f_lt (fM_lt _ _)) hq.t _) (fun w138 hm139 => ?_))
          refine ⟨⟨hm139.at 0 rfl, hm139.at 1 rfl⟩, ?_⟩
          simp only [nz1, nz2, nz3]
          refine one_ready 10 (by kernel_rfl) ?_
          refine opd rfl rfl (m_store 5 23 _ _ (bs (fM (fM p.t (fA dN dN)) q.t)) (old := bs 0) hm139 rfl rfl rfl rfl rfl (by rw [bs_sz]; exact info_b) ((bs_sz _).trans (bs_sz _).symm) (bs_one _) (fun w140 hm141 => ?_))
          refine ⟨⟨hm141.at 0 rfl, hm141.at 1 rfl⟩, ?_⟩
          refine wpAnyH_done (by kernel_rfl) ?_ _
          exact ⟨rfl, g131, rfl, hm141⟩
      · refine opd rfl rfl (m_alloc (c := bs 0) (T := 23) hm101 7 rfl (run_alN rfl) (fun g142 w143 hm144 => ?_))
        refine ⟨⟨hm144.at 0 rfl, hm144.at 1 rfl⟩, ?_⟩
        simp only [nz1, nz2, nz3]
        refine one_ready 3 (by kernel_rfl) ?_
        refine opd rfl rfl (m_call hm144 38 (.agg (bs dN)) rfl (run_factor rfl) (factor_any _) (fun w145 hm146 => ?_))
        refine ⟨⟨hm146.at 0 rfl, hm146.at 1 rfl⟩, ?_⟩
        simp only [nz1, nz2, nz3]
        refine one_ready 4 (by kernel_rfl) ?_
        refine opd rfl rfl (m_call hm146 39 (.agg (bs (fA dN dN))) rfl (run_gAdd rfl rfl rfl) (radd_f dN dN dN_lt dN_lt _) (fun w147 hm148 => ?_))
        refine ⟨⟨hm148.at 0 rfl, hm148.at 1 rfl⟩, ?_⟩
        simp only [nz1, nz2, nz3]
        refine one_ready 5 (by kernel_rfl) ?_
        refine opd rfl rfl (m_call hm148 40 (.agg (bs (fM p.t (fA dN dN)))) rfl (run_gMul rfl rfl rfl) (rmul_f p.t (fA dN dN) hp.t (f_lt (fA_lt _ _)) _) (fun w149 hm150 => ?_))
        refine ⟨⟨hm150.at 0 rfl, hm150.at 1 rfl⟩, ?_⟩
        simp only [nz1, nz2, nz3]
        refine one_ready 8 (by kernel_rfl) ?_
        refine opd rfl rfl (m_call hm150 43 (.agg (bs (fM (fM p.t (fA dN dN)) q.t))) rfl (run_gMul rfl rfl rfl) (rmul_f (fM p.t (fA dN dN)) q.t (f_lt (fM_lt _ _)) hq.t _) (fun w151 hm152 => ?_))
        refine ⟨⟨hm152.at 0 rfl, hm152.at 1 rfl⟩, ?_⟩
        simp only [nz1, nz2, nz3]
        refine one_ready 10 (by kernel_rfl) ?_
        refine opd rfl rfl (m_store 5 23 _ _ (bs (fM (fM p.t (fA dN dN)) q.t)) (old := bs 0) hm152 rfl rfl rfl rfl rfl (by rw [bs_sz]; exact info_b) ((bs_sz _).trans (bs_sz _).symm) (bs_one _) (fun w153 hm154 => ?_))
        refine ⟨⟨hm154.at 0 rfl, hm154.at 1 rfl⟩, ?_⟩
        refine wpAnyH_done (by kernel_rfl) ?_ _
        exact ⟨rfl, g142, rfl, hm154⟩
    · refine opd rfl rfl (m_alloc (c := bs 0) (T := 23) hm98 7 rfl (run_alN rfl) (fun g155 w156 hm157 => ?_))
      refine ⟨⟨hm157.at 0 rfl, hm157.at 1 rfl⟩, ?_⟩
      simp only [nz1, nz2, nz3]
      refine one_ready 2 (by kernel_rfl) ?_
      refine opd rfl rfl (m_call hm157 37 (.agg (bs dN)) rfl (run_factor rfl) (factor_any _) (fun w158 hm159 => ?_))
      refine ⟨⟨hm159.at 0 rfl, hm159.at 1 rfl⟩, ?_⟩
      simp only [nz1, nz2, nz3]
      refine one_ready 3 (by kernel_rfl) ?_
      refine opd rfl rfl (m_call hm159 38 (.agg (bs dN)) rfl (run_factor rfl) (factor_any _) (fun w160 hm161 => ?_))
      refine ⟨⟨hm161.at 0 rfl, hm161.at 1 rfl⟩, ?_⟩
      simp only [nz1, nz2, nz3]
      refine one_ready 4 (by kernel_rfl) ?_
      refine opd rfl rfl (m_call hm161 39 (.agg (bs (fA dN dN))) rfl (run_gAdd rfl rfl rfl) (radd_f dN dN dN_lt dN_lt _) (fun w162 hm163 => ?_))
      refine ⟨⟨hm163.at 0 rfl, hm163.at 1 rfl⟩, ?_⟩
      simp only [nz1, nz2, nz3]
      refine one_ready 5 (by kernel_rfl) ?_
      refine opd rfl rfl (m_call hm163 40 (.agg (bs (fM p.t (fA dN dN)))) rfl (run_gMul rfl rfl rfl) (rmul_f p.t (fA dN dN) hp.t (f_lt (fA_lt _ _)) _) (fun w164 hm165 => ?_))
      refine ⟨⟨hm165.at 0 rfl, hm165.at 1 rfl⟩, ?_⟩
      simp only [nz1, nz2, nz3]
      refine one_ready 8 (by kernel_rfl) ?_
      refine opd rfl rfl (m_call hm165 43 (.agg (bs (fM (fM p.t (fA dN dN)) q.t))) rfl (run_gMul rfl rfl rfl) (rmul_f (fM p.t (fA dN dN)) q.t (f_lt (fM_lt _ _)) hq.t _) (fun w166 hm167 => ?_))
      refine ⟨⟨hm167.at 0 rfl, hm167.at 1 rfl⟩, ?_⟩
      simp only [nz1, nz2, nz3]
      refine one_ready 10 (by kernel_rfl) ?_
      refine opd rfl rfl (m_store 5 23 _ _ (bs (fM (fM p.t (fA dN dN)) q.t)) (old := bs 0) hm167 rfl rfl rfl rfl rfl (by rw [bs_sz]; exact info_b) ((bs_sz _).trans (bs_sz _).symm) (bs_one _) (fun w168 hm169 => ?_))
      refine ⟨⟨hm169.at 0 rfl, hm169.at 1 rfl⟩, ?_⟩
      refine wpAnyH_done (by kernel_rfl) ?_ _
      exact ⟨rfl, g155, rfl, hm169⟩
  clear hm96
  rintro _ _ w170 ⟨rfl, g110, rfl, hm171⟩
  refine then_n (hK97 _ _ ?_)
  refine wp_seq_k (fun K172 hK172 => ?_)
  refine wp_mono (Q := fun e a' w' => e = Exit.normal ∧ ∃ g179 : Nat, a' = ⟨#[.agg (pq p), .agg (pq q), .pointer (some ⟨g2, 0, none⟩), .pointer (some ⟨g5, 0, none⟩), .pointer (some ⟨g8, 0, none⟩), .pointer (some ⟨g20, 0, none⟩), .pointer (some ⟨g63, 0, none⟩), .pointer (some ⟨g110, 0, none⟩), .pointer (some ⟨g179, 0, none⟩), undef, undef, undef, undef, .pointer (some ⟨g2, 32, none⟩), .agg (bs p.y), .pointer (some ⟨g2, 0, none⟩), .agg (bs p.x), .agg (bs (fS p.y p.x)), .pointer (some ⟨g5, 32, none⟩), .agg (bs q.y), .pointer (some ⟨g5, 0, none⟩), .agg (bs q.x), .agg (bs (fS q.y q.x)), .agg (bs (fM (fS p.y p.x) (fS q.y q.x))), .pointer (some ⟨g2, 32, none⟩), .agg (bs p.y), .pointer (some ⟨g2, 0, none⟩), .agg (bs p.x), .agg (bs (fA p.y p.x)), .pointer (some ⟨g5, 32, none⟩), .agg (bs q.y), .pointer (some ⟨g5, 0, none⟩), .agg (bs q.x), .agg (bs (fA q.y q.x)), .agg (bs (fM (fA p.y p.x) (fA q.y q.x))), .pointer (some ⟨g2, 96, none⟩), .agg (bs p.t), .agg (bs dN), .agg (bs dN), .agg (bs (fA dN dN)), .agg (bs (fM p.t (fA dN dN))), .pointer (some ⟨g5, 96, none⟩), .agg (bs q.t), .agg (bs (fM (fM p.t (fA dN dN)) q.t)), .pointer (some ⟨g2, 64, none⟩), .agg (bs p.z), .pointer (some ⟨g2, 64, none⟩), .agg (bs p.z), .agg (bs (fA p.z p.z)), .pointer (some ⟨g5, 64, none⟩), .agg (bs q.z), .agg (bs (fM (fA p.z p.z) q.z)), undef, undef, undef, undef, undef, undef, undef, undef, undef, undef, undef, undef, undef, undef, undef, undef, undef, undef, undef, undef, undef, undef, undef, undef, undef], []⟩ ∧ Mm w w' [(g2, pq p, 25), (g5, pq q, 25), (g8, pt 0 0 0 0, 25), (g20, bs (fM (fS p.y p.x) (fS q.y q.x)), 23), (g63, bs (fM (fA p.y p.x) (fA q.y q.x)), 23), (g110, bs (fM (fM p.t (fA dN dN)) q.t), 23), (g179, bs (fM (fA p.z p.z) q.z), 23)]) ?_ ?_
  · have hm173 := hm171.drew
    refine wp_region_held_drew (S := fun w' => Sym.Blk w' g2 (pq p) 25 ∧ Sym.Blk w' g5 (pq q) 25) (by kernel_rfl) (⟨hm173.at 0 rfl, hm173.at 1 rfl⟩) (fun _ => ?_)
    generalize w170.drew = w174 at *
    refine Sym.take_at 0 44 (.pointer (some ⟨g2, 64, none⟩)) rfl rfl (by kernel_rfl) (by kernel_rfl) (by kernel_rfl) (fun _ _ _ h => nomatch h.1) rfl (fun _ hw => r_f2 g2 rfl rfl) (⟨hm173.at 0 rfl, hm173.at 1 rfl⟩) ?_
    simp only [nz1, nz2, nz3]
    refine Sym.take_at 1 45 (.agg (bs p.z)) rfl rfl (by kernel_rfl) (by kernel_rfl) (by kernel_rfl) (fun _ _ _ h => nomatch h.1) rfl (fun _ hw => r_c2 (x := p.x) (y := p.y) (z := p.z) (t := p.t) g2 hw.1 rfl rfl) (⟨hm173.at 0 rfl, hm173.at 1 rfl⟩) ?_
    simp only [nz1, nz2, nz3]
    refine Sym.take_at 2 46 (.pointer (some ⟨g2, 64, none⟩)) rfl rfl (by kernel_rfl) (by kernel_rfl) (by kernel_rfl) (fun _ _ _ h => nomatch h.1) rfl (fun _ hw => r_f2 g2 rfl rfl) (⟨hm173.at 0 rfl, hm173.at 1 rfl⟩) ?_
    simp only [nz1, nz2, nz3]
    refine Sym.take_at 3 47 (.agg (bs p.z)) rfl rfl (by kernel_rfl) (by kernel_rfl) (by kernel_rfl) (fun _ _ _ h => nomatch h.1) rfl (fun _ hw => r_c2 (x := p.x) (y := p.y) (z := p.z) (t := p.t) g2 hw.1 rfl rfl) (⟨hm173.at 0 rfl, hm173.at 1 rfl⟩) ?_
    simp only [nz1, nz2, nz3]
    refine Sym.take_at 5 49 (.pointer (some ⟨g5, 64, none⟩)) rfl rfl (by kernel_rfl) (by kernel_rfl) (by kernel_rfl) (fun _ _ _ h => nomatch h.1) rfl (fun _ hw => r_f2 g5 rfl rfl) (⟨hm173.at 0 rfl, hm173.at 1 rfl⟩) ?_
    simp only [nz1, nz2, nz3]
    refine Sym.take_at 6 50 (.agg (bs q.z)) rfl rfl (by kernel_rfl) (by kernel_rfl) (by kernel_rfl) (fun _ _ _ h => nomatch h.1) rfl (fun _ hw => r_c2 (x := q.x) (y := q.y) (z := q.z) (t := q.t) g5 hw.2 rfl rfl) (⟨hm173.at 0 rfl, hm173.at 1 rfl⟩) ?_
    simp only [nz1, nz2, nz3]
    refine two_ready 4 8 (by kernel_rfl) ?_ ?_
    · refine opd rfl rfl (m_call hm173 48 (.agg (bs (fA p.z p.z))) rfl (run_gAdd rfl rfl rfl) (radd_f p.z p.z hp.z hp.z _) (fun w175 hm176 => ?_))
      refine ⟨⟨hm176.at 0 rfl, hm176.at 1 rfl⟩, ?_⟩
      simp only [nz1, nz2, nz3]
      refine two_ready 7 8 (by kernel_rfl) ?_ ?_
      · refine opd rfl rfl (m_call hm176 51 (.agg (bs (fM (fA p.z p.z) q.z))) rfl (run_gMul rfl rfl rfl) (rmul_f (fA p.z p.z) q.z (f_lt (fA_lt _ _)) hq.z _) (fun w177 hm178 => ?_))
        refine ⟨⟨hm178.at 0 rfl, hm178.at 1 rfl⟩, ?_⟩
        simp only [nz1, nz2, nz3]
        refine one_ready 8 (by kernel_rfl) ?_
        refine opd rfl rfl (m_alloc (c := bs 0) (T := 23) hm178 8 rfl (run_alN rfl) (fun g179 w180 hm181 => ?_))
        refine ⟨⟨hm181.at 0 rfl, hm181.at 1 rfl⟩, ?_⟩
        simp only [nz1, nz2, nz3]
        refine one_ready 9 (by kernel_rfl) ?_
        refine opd rfl rfl (m_store 6 23 _ _ (bs (fM (fA p.z p.z) q.z)) (old := bs 0) hm181 rfl rfl rfl rfl rfl (by rw [bs_sz]; exact info_b) ((bs_sz _).trans (bs_sz _).symm) (bs_one _) (fun w182 hm183 => ?_))
        refine ⟨⟨hm183.at 0 rfl, hm183.at 1 rfl⟩, ?_⟩
        refine wpAnyH_done (by kernel_rfl) ?_ _
        exact ⟨rfl, g179, rfl, hm183⟩
      · refine opd rfl rfl (m_alloc (c := bs 0) (T := 23) hm176 8 rfl (run_alN rfl) (fun g184 w185 hm186 => ?_))
        refine ⟨⟨hm186.at 0 rfl, hm186.at 1 rfl⟩, ?_⟩
        simp only [nz1, nz2, nz3]
        refine one_ready 7 (by kernel_rfl) ?_
        refine opd rfl rfl (m_call hm186 51 (.agg (bs (fM (fA p.z p.z) q.z))) rfl (run_gMul rfl rfl rfl) (rmul_f (fA p.z p.z) q.z (f_lt (fA_lt _ _)) hq.z _) (fun w187 hm188 => ?_))
        refine ⟨⟨hm188.at 0 rfl, hm188.at 1 rfl⟩, ?_⟩
        simp only [nz1, nz2, nz3]
        refine one_ready 9 (by kernel_rfl) ?_
        refine opd rfl rfl (m_store 6 23 _ _ (bs (fM (fA p.z p.z) q.z)) (old := bs 0) hm188 rfl rfl rfl rfl rfl (by rw [bs_sz]; exact info_b) ((bs_sz _).trans (bs_sz _).symm) (bs_one _) (fun w189 hm190 => ?_))
        refine ⟨⟨hm190.at 0 rfl, hm190.at 1 rfl⟩, ?_⟩
        refine wpAnyH_done (by kernel_rfl) ?_ _
        exact ⟨rfl, g184, rfl, hm190⟩
    · refine opd rfl rfl (m_alloc (c := bs 0) (T := 23) hm173 8 rfl (run_alN rfl) (fun g191 w192 hm193 => ?_))
      refine ⟨⟨hm193.at 0 rfl, hm193.at 1 rfl⟩, ?_⟩
      simp only [nz1, nz2, nz3]
      refine one_ready 4 (by kernel_rfl) ?_
      refine opd rfl rfl (m_call hm193 48 (.agg (bs (fA p.z p.z))) rfl (run_gAdd rfl rfl rfl) (radd_f p.z p.z hp.z hp.z _) (fun w194 hm195 => ?_))
      refine ⟨⟨hm195.at 0 rfl, hm195.at 1 rfl⟩, ?_⟩
      simp only [nz1, nz2, nz3]
      refine one_ready 7 (by kernel_rfl) ?_
      refine opd rfl rfl (m_call hm195 51 (.agg (bs (fM (fA p.z p.z) q.z))) rfl (run_gMul rfl rfl rfl) (rmul_f (fA p.z p.z) q.z (f_lt (fA_lt _ _)) hq.z _) (fun w196 hm197 => ?_))
      refine ⟨⟨hm197.at 0 rfl, hm197.at 1 rfl⟩, ?_⟩
      simp only [nz1, nz2, nz3]
      refine one_ready 9 (by kernel_rfl) ?_
      refine opd rfl rfl (m_store 6 23 _ _ (bs (fM (fA p.z p.z) q.z)) (old := bs 0) hm197 rfl rfl rfl rfl rfl (by rw [bs_sz]; exact info_b) ((bs_sz _).trans (bs_sz _).symm) (bs_one _) (fun w198 hm199 => ?_))
      refine ⟨⟨hm199.at 0 rfl, hm199.at 1 rfl⟩, ?_⟩
      refine wpAnyH_done (by kernel_rfl) ?_ _
      exact ⟨rfl, g191, rfl, hm199⟩
  clear hm171
  rintro _ _ w200 ⟨rfl, g179, rfl, hm201⟩
  refine then_n (hK172 _ _ ?_)
  refine wp_seq_k (fun K202 hK202 => ?_)
  refine wp_mono (Q := fun e a' w' => e = Exit.normal ∧ ∃ ga9 ga10 ga11 ga12 : Nat, a' = ⟨#[.agg (pq p), .agg (pq q), .pointer (some ⟨g2, 0, none⟩), .pointer (some ⟨g5, 0, none⟩), .pointer (some ⟨g8, 0, none⟩), .pointer (some ⟨g20, 0, none⟩), .pointer (some ⟨g63, 0, none⟩), .pointer (some ⟨g110, 0, none⟩), .pointer (some ⟨g179, 0, none⟩), .pointer (some ⟨ga9, 0, none⟩), .pointer (some ⟨ga10, 0, none⟩), .pointer (some ⟨ga11, 0, none⟩), .pointer (some ⟨ga12, 0, none⟩), .pointer (some ⟨g2, 32, none⟩), .agg (bs p.y), .pointer (some ⟨g2, 0, none⟩), .agg (bs p.x), .agg (bs (fS p.y p.x)), .pointer (some ⟨g5, 32, none⟩), .agg (bs q.y), .pointer (some ⟨g5, 0, none⟩), .agg (bs q.x), .agg (bs (fS q.y q.x)), .agg (bs (fM (fS p.y p.x) (fS q.y q.x))), .pointer (some ⟨g2, 32, none⟩), .agg (bs p.y), .pointer (some ⟨g2, 0, none⟩), .agg (bs p.x), .agg (bs (fA p.y p.x)), .pointer (some ⟨g5, 32, none⟩), .agg (bs q.y), .pointer (some ⟨g5, 0, none⟩), .agg (bs q.x), .agg (bs (fA q.y q.x)), .agg (bs (fM (fA p.y p.x) (fA q.y q.x))), .pointer (some ⟨g2, 96, none⟩), .agg (bs p.t), .agg (bs dN), .agg (bs dN), .agg (bs (fA dN dN)), .agg (bs (fM p.t (fA dN dN))), .pointer (some ⟨g5, 96, none⟩), .agg (bs q.t), .agg (bs (fM (fM p.t (fA dN dN)) q.t)), .pointer (some ⟨g2, 64, none⟩), .agg (bs p.z), .pointer (some ⟨g2, 64, none⟩), .agg (bs p.z), .agg (bs (fA p.z p.z)), .pointer (some ⟨g5, 64, none⟩), .agg (bs q.z), .agg (bs (fM (fA p.z p.z) q.z)), .agg (bs (fM (fA p.y p.x) (fA q.y q.x))), .agg (bs (fM (fS p.y p.x) (fS q.y q.x))), .agg (bs (fS (fM (fA p.y p.x) (fA q.y q.x)) (fM (fS p.y p.x) (fS q.y q.x)))), .agg (bs (fM (fA p.z p.z) q.z)), .agg (bs (fM (fM p.t (fA dN dN)) q.t)), .agg (bs (fS (fM (fA p.z p.z) q.z) (fM (fM p.t (fA dN dN)) q.t))), .agg (bs (fM (fA p.z p.z) q.z)), .agg (bs (fM (fM p.t (fA dN dN)) q.t)), .agg (bs (fA (fM (fA p.z p.z) q.z) (fM (fM p.t (fA dN dN)) q.t))), .agg (bs (fM (fA p.y p.x) (fA q.y q.x))), .agg (bs (fM (fS p.y p.x) (fS q.y q.x))), .agg (bs (fA (fM (fA p.y p.x) (fA q.y q.x)) (fM (fS p.y p.x) (fS q.y q.x)))), undef, undef, undef, undef, undef, undef, undef, undef, undef, undef, undef, undef, undef], []⟩ ∧ Mm w w' [(g2, pq p, 25), (g5, pq q, 25), (g8, pt 0 0 0 0, 25), (g20, bs (fM (fS p.y p.x) (fS q.y q.x)), 23), (g63, bs (fM (fA p.y p.x) (fA q.y q.x)), 23), (g110, bs (fM (fM p.t (fA dN dN)) q.t), 23), (g179, bs (fM (fA p.z p.z) q.z), 23), (ga9, bs (fS (fM (fA p.y p.x) (fA q.y q.x)) (fM (fS p.y p.x) (fS q.y q.x))), 23), (ga10, bs (fS (fM (fA p.z p.z) q.z) (fM (fM p.t (fA dN dN)) q.t)), 23), (ga11, bs (fA (fM (fA p.z p.z) q.z) (fM (fM p.t (fA dN dN)) q.t)), 23), (ga12, bs (fA (fM (fA p.y p.x) (fA q.y q.x)) (fM (fS p.y p.x) (fS q.y q.x))), 23)]) ?_ ?_
  · have hm203 := hm201.drew
    refine wp_region_held_drew (S := fun w' => Sym.Blk w' g63 (bs (fM (fA p.y p.x) (fA q.y q.x))) 23 ∧ Sym.Blk w' g20 (bs (fM (fS p.y p.x) (fS q.y q.x))) 23 ∧ Sym.Blk w' g179 (bs (fM (fA p.z p.z) q.z)) 23 ∧ Sym.Blk w' g110 (bs (fM (fM p.t (fA dN dN)) q.t)) 23) (by kernel_rfl) (⟨hm203.at 4 rfl, hm203.at 3 rfl, hm203.at 6 rfl, hm203.at 5 rfl⟩) (fun _ => ?_)
    generalize w200.drew = w204 at *
    refine Sym.take_at 0 52 (.agg (bs (fM (fA p.y p.x) (fA q.y q.x)))) rfl rfl (by kernel_rfl) (by kernel_rfl) (by kernel_rfl) (fun _ _ _ h => nomatch h.1) rfl (fun _ hw => run_row rfl rfl hw.1 Tryd.underlying23 rfl (by rw [bs_sz]; exact info_b)) (⟨hm203.at 4 rfl, hm203.at 3 rfl, hm203.at 6 rfl, hm203.at 5 rfl⟩) ?_
    simp only [nz1, nz2, nz3]
    refine Sym.take_at 1 53 (.agg (bs (fM (fS p.y p.x) (fS q.y q.x)))) rfl rfl (by kernel_rfl) (by kernel_rfl) (by kernel_rfl) (fun _ _ _ h => nomatch h.1) rfl (fun _ hw => run_row rfl rfl hw.2.1 Tryd.underlying23 rfl (by rw [bs_sz]; exact info_b)) (⟨hm203.at 4 rfl, hm203.at 3 rfl, hm203.at 6 rfl, hm203.at 5 rfl⟩) ?_
    simp only [nz1, nz2, nz3]
    refine Sym.take_at 3 55 (.agg (bs (fM (fA p.z p.z) q.z))) rfl rfl (by kernel_rfl) (by kernel_rfl) (by kernel_rfl) (fun _ _ _ h => nomatch h.1) rfl (fun _ hw => run_row rfl rfl hw.2.2.1 Tryd.underlying23 rfl (by rw [bs_sz]; exact info_b)) (⟨hm203.at 4 rfl, hm203.at 3 rfl, hm203.at 6 rfl, hm203.at 5 rfl⟩) ?_
    simp only [nz1, nz2, nz3]
    refine Sym.take_at 4 56 (.agg (bs (fM (fM p.t (fA dN dN)) q.t))) rfl rfl (by kernel_rfl) (by kernel_rfl) (by kernel_rfl) (fun _ _ _ h => nomatch h.1) rfl (fun _ hw => run_row rfl rfl hw.2.2.2 Tryd.underlying23 rfl (by rw [bs_sz]; exact info_b)) (⟨hm203.at 4 rfl, hm203.at 3 rfl, hm203.at 6 rfl, hm203.at 5 rfl⟩) ?_
    simp only [nz1, nz2, nz3]
    refine Sym.take_at 6 58 (.agg (bs (fM (fA p.z p.z) q.z))) rfl rfl (by kernel_rfl) (by kernel_rfl) (by kernel_rfl) (fun _ _ _ h => nomatch h.1) rfl (fun _ hw => run_row rfl rfl hw.2.2.1 Tryd.underlying23 rfl (by rw [bs_sz]; exact info_b)) (⟨hm203.at 4 rfl, hm203.at 3 rfl, hm203.at 6 rfl, hm203.at 5 rfl⟩) ?_
    simp only [nz1, nz2, nz3]
    refine Sym.take_at 7 59 (.agg (bs (fM (fM p.t (fA dN dN)) q.t))) rfl rfl (by kernel_rfl) (by kernel_rfl) (by kernel_rfl) (fun _ _ _ h => nomatch h.1) rfl (fun _ hw => run_row rfl rfl hw.2.2.2 Tryd.underlying23 rfl (by rw [bs_sz]; exact info_b)) (⟨hm203.at 4 rfl, hm203.at 3 rfl, hm203.at 6 rfl, hm203.at 5 rfl⟩) ?_
    simp only [nz1, nz2, nz3]
    refine Sym.take_at 9 61 (.agg (bs (fM (fA p.y p.x) (fA q.y q.x)))) rfl rfl (by kernel_rfl) (by kernel_rfl) (by kernel_rfl) (fun _ _ _ h => nomatch h.1) rfl (fun _ hw => run_row rfl rfl hw.1 Tryd.underlying23 rfl (by rw [bs_sz]; exact info_b)) (⟨hm203.at 4 rfl, hm203.at 3 rfl, hm203.at 6 rfl, hm203.at 5 rfl⟩) ?_
    simp only [nz1, nz2, nz3]
    refine Sym.take_at 10 62 (.agg (bs (fM (fS p.y p.x) (fS q.y q.x)))) rfl rfl (by kernel_rfl) (by kernel_rfl) (by kernel_rfl) (fun _ _ _ h => nomatch h.1) rfl (fun _ hw => run_row rfl rfl hw.2.1 Tryd.underlying23 rfl (by rw [bs_sz]; exact info_b)) (⟨hm203.at 4 rfl, hm203.at 3 rfl, hm203.at 6 rfl, hm203.at 5 rfl⟩) ?_
    simp only [nz1, nz2, nz3]
    refine wpAnyH_states (J20_0 p q g2 g5 g8 g20 g63 g110 g179 w) ?_ ?_ _ _ _ _ (J20_0.s0 _ hm203)
    · intro n L a w1 h
      cases h with
      | s0  w1 hm =>
        refine ⟨[2, 12, 13, 14, 15], (by kernel_rfl), by decide, List.forall_mem_cons.2 ⟨?_, List.forall_mem_cons.2 ⟨?_, List.forall_mem_cons.2 ⟨?_, List.forall_mem_cons.2 ⟨?_, List.forall_mem_cons.2 ⟨?_, fun _ h => nomatch h⟩⟩⟩⟩⟩⟩
        · refine opd rfl rfl (m_call hm 54 (.agg (bs (fS (fM (fA p.y p.x) (fA q.y q.x)) (fM (fS p.y p.x) (fS q.y q.x))))) rfl (run_gSub rfl rfl rfl) (rsub_f (fM (fA p.y p.x) (fA q.y q.x)) (fM (fS p.y p.x) (fS q.y q.x)) (f_lt (fM_lt _ _)) (f_lt (fM_lt _ _)) _) (fun w205 hm206 => ?_))
          exact ⟨⟨hm206.at 4 rfl, hm206.at 3 rfl, hm206.at 6 rfl, hm206.at 5 rfl⟩, J20_0.s1  _ hm206⟩
        · refine opd rfl rfl (m_alloc (c := bs 0) (T := 23) hm 9 rfl (run_alN rfl) (fun g207 w208 hm209 => ?_))
          exact ⟨⟨hm209.at 4 rfl, hm209.at 3 rfl, hm209.at 6 rfl, hm209.at 5 rfl⟩, J20_0.s2 g207 _ hm209⟩
        · refine opd rfl rfl (m_alloc (c := bs 0) (T := 23) hm 10 rfl (run_alN rfl) (fun g210 w211 hm212 => ?_))
          exact ⟨⟨hm212.at 4 rfl, hm212.at 3 rfl, hm212.at 6 rfl, hm212.at 5 rfl⟩, J20_0.s3 g210 _ hm212⟩
        · refine opd rfl rfl (m_alloc (c := bs 0) (T := 23) hm 11 rfl (run_alN rfl) (fun g213 w214 hm215 => ?_))
          exact ⟨⟨hm215.at 4 rfl, hm215.at 3 rfl, hm215.at 6 rfl, hm215.at 5 rfl⟩, J20_0.s4 g213 _ hm215⟩
        · refine opd rfl rfl (m_alloc (c := bs 0) (T := 23) hm 12 rfl (run_alN rfl) (fun g216 w217 hm218 => ?_))
          exact ⟨⟨hm218.at 4 rfl, hm218.at 3 rfl, hm218.at 6 rfl, hm218.at 5 rfl⟩, J20_0.s5 g216 _ hm218⟩
      | s1  w1 hm =>
        refine ⟨[5, 12, 13, 14, 15], (by kernel_rfl), by decide, List.forall_mem_cons.2 ⟨?_, List.forall_mem_cons.2 ⟨?_, List.forall_mem_cons.2 ⟨?_, List.forall_mem_cons.2 ⟨?_, List.forall_mem_cons.2 ⟨?_, fun _ h => nomatch h⟩⟩⟩⟩⟩⟩
        · refine opd rfl rfl (m_call hm 57 (.agg (bs (fS (fM (fA p.z p.z) q.z) (fM (fM p.t (fA dN dN)) q.t)))) rfl (run_gSub rfl rfl rfl) (rsub_f (fM (fA p.z p.z) q.z) (fM (fM p.t (fA dN dN)) q.t) (f_lt (fM_lt _ _)) (f_lt (fM_lt _ _)) _) (fun w219 hm220 => ?_))
          exact ⟨⟨hm220.at 4 rfl, hm220.at 3 rfl, hm220.at 6 rfl, hm220.at 5 rfl⟩, J20_0.s6  _ hm220⟩
        · refine opd rfl rfl (m_alloc (c := bs 0) (T := 23) hm 9 rfl (run_alN rfl) (fun g221 w222 hm223 => ?_))
          exact ⟨⟨hm223.at 4 rfl, hm223.at 3 rfl, hm223.at 6 rfl, hm223.at 5 rfl⟩, J20_0.s7 g221 _ hm223⟩
        · refine opd rfl rfl (m_alloc (c := bs 0) (T := 23) hm 10 rfl (run_alN rfl) (fun g224 w225 hm226 => ?_))
          exact ⟨⟨hm226.at 4 rfl, hm226.at 3 rfl, hm226.at 6 rfl, hm226.at 5 rfl⟩, J20_0.s8 g224 _ hm226⟩
        · refine opd rfl rfl (m_alloc (c := bs 0) (T := 23) hm 11 rfl (run_alN rfl) (fun g227 w228 hm229 => ?_))
          exact ⟨⟨hm229.at 4 rfl, hm229.at 3 rfl, hm229.at 6 rfl, hm229.at 5 rfl⟩, J20_0.s9 g227 _ hm229⟩
        · refine opd rfl rfl (m_alloc (c := bs 0) (T := 23) hm 12 rfl (run_alN rfl) (fun g230 w231 hm232 => ?_))
          exact ⟨⟨hm232.at 4 rfl, hm232.at 3 rfl, hm232.at 6 rfl, hm232.at 5 rfl⟩, J20_0.s10 g230 _ hm232⟩
      | s2 ga9 w1 hm =>
        refine ⟨[2, 13, 14, 15], (by kernel_rfl), by decide, List.forall_mem_cons.2 ⟨?_, List.forall_mem_cons.2 ⟨?_, List.forall_mem_cons.2 ⟨?_, List.forall_mem_cons.2 ⟨?_, fun _ h => nomatch h⟩⟩⟩⟩⟩
        · refine opd rfl rfl (m_call hm 54 (.agg (bs (fS (fM (fA p.y p.x) (fA q.y q.x)) (fM (fS p.y p.x) (fS q.y q.x))))) rfl (run_gSub rfl rfl rfl) (rsub_f (fM (fA p.y p.x) (fA q.y q.x)) (fM (fS p.y p.x) (fS q.y q.x)) (f_lt (fM_lt _ _)) (f_lt (fM_lt _ _)) _) (fun w233 hm234 => ?_))
          exact ⟨⟨hm234.at 4 rfl, hm234.at 3 rfl, hm234.at 6 rfl, hm234.at 5 rfl⟩, J20_0.s7 ga9 _ hm234⟩
        · refine opd rfl rfl (m_alloc (c := bs 0) (T := 23) hm 10 rfl (run_alN rfl) (fun g235 w236 hm237 => ?_))
          exact ⟨⟨hm237.at 4 rfl, hm237.at 3 rfl, hm237.at 6 rfl, hm237.at 5 rfl⟩, J20_0.s11 ga9 g235 _ hm237⟩
        · refine opd rfl rfl (m_alloc (c := bs 0) (T := 23) hm 11 rfl (run_alN rfl) (fun g238 w239 hm240 => ?_))
          exact ⟨⟨hm240.at 4 rfl, hm240.at 3 rfl, hm240.at 6 rfl, hm240.at 5 rfl⟩, J20_0.s12 ga9 g238 _ hm240⟩
        · refine opd rfl rfl (m_alloc (c := bs 0) (T := 23) hm 12 rfl (run_alN rfl) (fun g241 w242 hm243 => ?_))
          exact ⟨⟨hm243.at 4 rfl, hm243.at 3 rfl, hm243.at 6 rfl, hm243.at 5 rfl⟩, J20_0.s13 ga9 g241 _ hm243⟩
      | s3 ga10 w1 hm =>
        refine ⟨[2, 12, 14, 15], (by kernel_rfl), by decide, List.forall_mem_cons.2 ⟨?_, List.forall_mem_cons.2 ⟨?_, List.forall_mem_cons.2 ⟨?_, List.forall_mem_cons.2 ⟨?_, fun _ h => nomatch h⟩⟩⟩⟩⟩
        · refine opd rfl rfl (m_call hm 54 (.agg (bs (fS (fM (fA p.y p.x) (fA q.y q.x)) (fM (fS p.y p.x) (fS q.y q.x))))) rfl (run_gSub rfl rfl rfl) (rsub_f (fM (fA p.y p.x) (fA q.y q.x)) (fM (fS p.y p.x) (fS q.y q.x)) (f_lt (fM_lt _ _)) (f_lt (fM_lt _ _)) _) (fun w244 hm245 => ?_))
          exact ⟨⟨hm245.at 4 rfl, hm245.at 3 rfl, hm245.at 6 rfl, hm245.at 5 rfl⟩, J20_0.s8 ga10 _ hm245⟩
        · refine opd rfl rfl (m_alloc (c := bs 0) (T := 23) hm 9 rfl (run_alN rfl) (fun g246 w247 hm248 => ?_))
          exact ⟨⟨hm248.at 4 rfl, hm248.at 3 rfl, hm248.at 6 rfl, hm248.at 5 rfl⟩, J20_0.s11 g246 ga10 _ (Mm.reorder hm248 [0, 1, 2, 3, 4, 5, 6, 8, 7] (by decide) rfl)⟩
        · refine opd rfl rfl (m_alloc (c := bs 0) (T := 23) hm 11 rfl (run_alN rfl) (fun g249 w250 hm251 => ?_))
          exact ⟨⟨hm251.at 4 rfl, hm251.at 3 rfl, hm251.at 6 rfl, hm251.at 5 rfl⟩, J20_0.s14 ga10 g249 _ hm251⟩
        · refine opd rfl rfl (m_alloc (c := bs 0) (T := 23) hm 12 rfl (run_alN rfl) (fun g252 w253 hm254 => ?_))
          exact ⟨⟨hm254.at 4 rfl, hm254.at 3 rfl, hm254.at 6 rfl, hm254.at 5 rfl⟩, J20_0.s15 ga10 g252 _ hm254⟩
      | s4 ga11 w1 hm =>
        refine ⟨[2, 12, 13, 15], (by kernel_rfl), by decide, List.forall_mem_cons.2 ⟨?_, List.forall_mem_cons.2 ⟨?_, List.forall_mem_cons.2 ⟨?_, List.forall_mem_cons.2 ⟨?_, fun _ h => nomatch h⟩⟩⟩⟩⟩
        · refine opd rfl rfl (m_call hm 54 (.agg (bs (fS (fM (fA p.y p.x) (fA q.y q.x)) (fM (fS p.y p.x) (fS q.y q.x))))) rfl (run_gSub rfl rfl rfl) (rsub_f (fM (fA p.y p.x) (fA q.y q.x)) (fM (fS p.y p.x) (fS q.y q.x)) (f_lt (fM_lt _ _)) (f_lt (fM_lt _ _)) _) (fun w255 hm256 => ?_))
          exact ⟨⟨hm256.at 4 rfl, hm256.at 3 rfl, hm256.at 6 rfl, hm256.at 5 rfl⟩, J20_0.s9 ga11 _ hm256⟩
        · refine opd rfl rfl (m_alloc (c := bs 0) (T := 23) hm 9 rfl (run_alN rfl) (fun g257 w258 hm259 => ?_))
          exact ⟨⟨hm259.at 4 rfl, hm259.at 3 rfl, hm259.at 6 rfl, hm259.at 5 rfl⟩, J20_0.s12 g257 ga11 _ (Mm.reorder hm259 [0, 1, 2, 3, 4, 5, 6, 8, 7] (by decide) rfl)⟩
        · refine opd rfl rfl (m_alloc (c := bs 0) (T := 23) hm 10 rfl (run_alN rfl) (fun g260 w261 hm262 => ?_))
          exact ⟨⟨hm262.at 4 rfl, hm262.at 3 rfl, hm262.at 6 rfl, hm262.at 5 rfl⟩, J20_0.s14 g260 ga11 _ (Mm.reorder hm262 [0, 1, 2, 3, 4, 5, 6, 8, 7] (by decide) rfl)⟩
        · refine opd rfl rfl (m_alloc (c := bs 0) (T := 23) hm 12 rfl (run_alN rfl) (fun g263 w264 hm265 => ?_))
          exact ⟨⟨hm265.at 4 rfl, hm265.at 3 rfl, hm265.at 6 rfl, hm265.at 5 rfl⟩, J20_0.s16 ga11 g263 _ hm265⟩
      | s5 ga12 w1 hm =>
        refine ⟨[2, 12, 13, 14], (by kernel_rfl), by decide, List.forall_mem_cons.2 ⟨?_, List.forall_mem_cons.2 ⟨?_, List.forall_mem_cons.2 ⟨?_, List.forall_mem_cons.2 ⟨?_, fun _ h => nomatch h⟩⟩⟩⟩⟩
        · refine opd rfl rfl (m_call hm 54 (.agg (bs (fS (fM (fA p.y p.x) (fA q.y q.x)) (fM (fS p.y p.x) (fS q.y q.x))))) rfl (run_gSub rfl rfl rfl) (rsub_f (fM (fA p.y p.x) (fA q.y q.x)) (fM (fS p.y p.x) (fS q.y q.x)) (f_lt (fM_lt _ _)) (f_lt (fM_lt _ _)) _) (fun w266 hm267 => ?_))
          exact ⟨⟨hm267.at 4 rfl, hm267.at 3 rfl, hm267.at 6 rfl, hm267.at 5 rfl⟩, J20_0.s10 ga12 _ hm267⟩
        · refine opd rfl rfl (m_alloc (c := bs 0) (T := 23) hm 9 rfl (run_alN rfl) (fun g268 w269 hm270 => ?_))
          exact ⟨⟨hm270.at 4 rfl, hm270.at 3 rfl, hm270.at 6 rfl, hm270.at 5 rfl⟩, J20_0.s13 g268 ga12 _ (Mm.reorder hm270 [0, 1, 2, 3, 4, 5, 6, 8, 7] (by decide) rfl)⟩
        · refine opd rfl rfl (m_alloc (c := bs 0) (T := 23) hm 10 rfl (run_alN rfl) (fun g271 w272 hm273 => ?_))
          exact ⟨⟨hm273.at 4 rfl, hm273.at 3 rfl, hm273.at 6 rfl, hm273.at 5 rfl⟩, J20_0.s15 g271 ga12 _ (Mm.reorder hm273 [0, 1, 2, 3, 4, 5, 6, 8, 7] (by decide) rfl)⟩
        · refine opd rfl rfl (m_alloc (c := bs 0) (T := 23) hm 11 rfl (run_alN rfl) (fun g274 w275 hm276 => ?_))
          exact ⟨⟨hm276.at 4 rfl, hm276.at 3 rfl, hm276.at 6 rfl, hm276.at 5 rfl⟩, J20_0.s16 g274 ga12 _ (Mm.reorder hm276 [0, 1, 2, 3, 4, 5, 6, 8, 7] (by decide) rfl)⟩
      | s6  w1 hm =>
        refine ⟨[8, 12, 13, 14, 15], (by kernel_rfl), by decide, List.forall_mem_cons.2 ⟨?_, List.forall_mem_cons.2 ⟨?_, List.forall_mem_cons.2 ⟨?_, List.forall_mem_cons.2 ⟨?_, List.forall_mem_cons.2 ⟨?_, fun _ h => nomatch h⟩⟩⟩⟩⟩⟩
        · refine opd rfl rfl (m_call hm 60 (.agg (bs (fA (fM (fA p.z p.z) q.z) (fM (fM p.t (fA dN dN)) q.t)))) rfl (run_gAdd rfl rfl rfl) (radd_f (fM (fA p.z p.z) q.z) (fM (fM p.t (fA dN dN)) q.t) (f_lt (fM_lt _ _)) (f_lt (fM_lt _ _)) _) (fun w277 hm278 => ?_))
          exact ⟨⟨hm278.at 4 rfl, hm278.at 3 rfl, hm278.at 6 rfl, hm278.at 5 rfl⟩, J20_0.s17  _ hm278⟩
        · refine opd rfl rfl (m_alloc (c := bs 0) (T := 23) hm 9 rfl (run_alN rfl) (fun g279 w280 hm281 => ?_))
          exact ⟨⟨hm281.at 4 rfl, hm281.at 3 rfl, hm281.at 6 rfl, hm281.at 5 rfl⟩, J20_0.s18 g279 _ hm281⟩
        · refine opd rfl rfl (m_alloc (c := bs 0) (T := 23) hm 10 rfl (run_alN rfl) (fun g282 w283 hm284 => ?_))
          exact ⟨⟨hm284.at 4 rfl, hm284.at 3 rfl, hm284.at 6 rfl, hm284.at 5 rfl⟩, J20_0.s19 g282 _ hm284⟩
        · refine opd rfl rfl (m_alloc (c := bs 0) (T := 23) hm 11 rfl (run_alN rfl) (fun g285 w286 hm287 => ?_))
          exact ⟨⟨hm287.at 4 rfl, hm287.at 3 rfl, hm287.at 6 rfl, hm287.at 5 rfl⟩, J20_0.s20 g285 _ hm287⟩
        · refine opd rfl rfl (m_alloc (c := bs 0) (T := 23) hm 12 rfl (run_alN rfl) (fun g288 w289 hm290 => ?_))
          exact ⟨⟨hm290.at 4 rfl, hm290.at 3 rfl, hm290.at 6 rfl, hm290.at 5 rfl⟩, J20_0.s21 g288 _ hm290⟩
      | s7 ga9 w1 hm =>
        refine ⟨[5, 13, 14, 15], (by kernel_rfl), by decide, List.forall_mem_cons.2 ⟨?_, List.forall_mem_cons.2 ⟨?_, List.forall_mem_cons.2 ⟨?_, List.forall_mem_cons.2 ⟨?_, fun _ h => nomatch h⟩⟩⟩⟩⟩
        · refine opd rfl rfl (m_call hm 57 (.agg (bs (fS (fM (fA p.z p.z) q.z) (fM (fM p.t (fA dN dN)) q.t)))) rfl (run_gSub rfl rfl rfl) (rsub_f (fM (fA p.z p.z) q.z) (fM (fM p.t (fA dN dN)) q.t) (f_lt (fM_lt _ _)) (f_lt (fM_lt _ _)) _) (fun w291 hm292 => ?_))
          exact ⟨⟨hm292.at 4 rfl, hm292.at 3 rfl, hm292.at 6 rfl, hm292.at 5 rfl⟩, J20_0.s18 ga9 _ hm292⟩
        · refine opd rfl rfl (m_alloc (c := bs 0) (T := 23) hm 10 rfl (run_alN rfl) (fun g293 w294 hm295 => ?_))
          exact ⟨⟨hm295.at 4 rfl, hm295.at 3 rfl, hm295.at 6 rfl, hm295.at 5 rfl⟩, J20_0.s22 ga9 g293 _ hm295⟩
        · refine opd rfl rfl (m_alloc (c := bs 0) (T := 23) hm 11 rfl (run_alN rfl) (fun g296 w297 hm298 => ?_))
          exact ⟨⟨hm298.at 4 rfl, hm298.at 3 rfl, hm298.at 6 rfl, hm298.at 5 rfl⟩, J20_0.s23 ga9 g296 _ hm298⟩
        · refine opd rfl rfl (m_alloc (c := bs 0) (T := 23) hm 12 rfl (run_alN rfl) (fun g299 w300 hm301 => ?_))
          exact ⟨⟨hm301.at 4 rfl, hm301.at 3 rfl, hm301.at 6 rfl, hm301.at 5 rfl⟩, J20_0.s24 ga9 g299 _ hm301⟩
      | s8 ga10 w1 hm =>
        refine ⟨[5, 12, 14, 15], (by kernel_rfl), by decide, List.forall_mem_cons.2 ⟨?_, List.forall_mem_cons.2 ⟨?_, List.forall_mem_cons.2 ⟨?_, List.forall_mem_cons.2 ⟨?_, fun _ h => nomatch h⟩⟩⟩⟩⟩
        · refine opd rfl rfl (m_call hm 57 (.agg (bs (fS (fM (fA p.z p.z) q.z) (fM (fM p.t (fA dN dN)) q.t)))) rfl (run_gSub rfl rfl rfl) (rsub_f (fM (fA p.z p.z) q.z) (fM (fM p.t (fA dN dN)) q.t) (f_lt (fM_lt _ _)) (f_lt (fM_lt _ _)) _) (fun w302 hm303 => ?_))
          exact ⟨⟨hm303.at 4 rfl, hm303.at 3 rfl, hm303.at 6 rfl, hm303.at 5 rfl⟩, J20_0.s19 ga10 _ hm303⟩
        · refine opd rfl rfl (m_alloc (c := bs 0) (T := 23) hm 9 rfl (run_alN rfl) (fun g304 w305 hm306 => ?_))
          exact ⟨⟨hm306.at 4 rfl, hm306.at 3 rfl, hm306.at 6 rfl, hm306.at 5 rfl⟩, J20_0.s22 g304 ga10 _ (Mm.reorder hm306 [0, 1, 2, 3, 4, 5, 6, 8, 7] (by decide) rfl)⟩
        · refine opd rfl rfl (m_alloc (c := bs 0) (T := 23) hm 11 rfl (run_alN rfl) (fun g307 w308 hm309 => ?_))
          exact ⟨⟨hm309.at 4 rfl, hm309.at 3 rfl, hm309.at 6 rfl, hm309.at 5 rfl⟩, J20_0.s25 ga10 g307 _ hm309⟩
        · refine opd rfl rfl (m_alloc (c := bs 0) (T := 23) hm 12 rfl (run_alN rfl) (fun g310 w311 hm312 => ?_))
          exact ⟨⟨hm312.at 4 rfl, hm312.at 3 rfl, hm312.at 6 rfl, hm312.at 5 rfl⟩, J20_0.s26 ga10 g310 _ hm312⟩
      | s9 ga11 w1 hm =>
        refine ⟨[5, 12, 13, 15], (by kernel_rfl), by decide, List.forall_mem_cons.2 ⟨?_, List.forall_mem_cons.2 ⟨?_, List.forall_mem_cons.2 ⟨?_, List.forall_mem_cons.2 ⟨?_, fun _ h => nomatch h⟩⟩⟩⟩⟩
        · refine opd rfl rfl (m_call hm 57 (.agg (bs (fS (fM (fA p.z p.z) q.z) (fM (fM p.t (fA dN dN)) q.t)))) rfl (run_gSub rfl rfl rfl) (rsub_f (fM (fA p.z p.z) q.z) (fM (fM p.t (fA dN dN)) q.t) (f_lt (fM_lt _ _)) (f_lt (fM_lt _ _)) _) (fun w313 hm314 => ?_))
          exact ⟨⟨hm314.at 4 rfl, hm314.at 3 rfl, hm314.at 6 rfl, hm314.at 5 rfl⟩, J20_0.s20 ga11 _ hm314⟩
        · refine opd rfl rfl (m_alloc (c := bs 0) (T := 23) hm 9 rfl (run_alN rfl) (fun g315 w316 hm317 => ?_))
          exact ⟨⟨hm317.at 4 rfl, hm317.at 3 rfl, hm317.at 6 rfl, hm317.at 5 rfl⟩, J20_0.s23 g315 ga11 _ (Mm.reorder hm317 [0, 1, 2, 3, 4, 5, 6, 8, 7] (by decide) rfl)⟩
        · refine opd rfl rfl (m_alloc (c := bs 0) (T := 23) hm 10 rfl (run_alN rfl) (fun g318 w319 hm320 => ?_))
          exact ⟨⟨hm320.at 4 rfl, hm320.at 3 rfl, hm320.at 6 rfl, hm320.at 5 rfl⟩, J20_0.s25 g318 ga11 _ (Mm.reorder hm320 [0, 1, 2, 3, 4, 5, 6, 8, 7] (by decide) rfl)⟩
        · refine opd rfl rfl (m_alloc (c := bs 0) (T := 23) hm 12 rfl (run_alN rfl) (fun g321 w322 hm323 => ?_))
          exact ⟨⟨hm323.at 4 rfl, hm323.at 3 rfl, hm323.at 6 rfl, hm323.at 5 rfl⟩, J20_0.s27 ga11 g321 _ hm323⟩
      | s10 ga12 w1 hm =>
        refine ⟨[5, 12, 13, 14], (by kernel_rfl), by decide, List.forall_mem_cons.2 ⟨?_, List.forall_mem_cons.2 ⟨?_, List.forall_mem_cons.2 ⟨?_, List.forall_mem_cons.2 ⟨?_, fun _ h => nomatch h⟩⟩⟩⟩⟩
        · refine opd rfl rfl (m_call hm 57 (.agg (bs (fS (fM (fA p.z p.z) q.z) (fM (fM p.t (fA dN dN)) q.t)))) rfl (run_gSub rfl rfl rfl) (rsub_f (fM (fA p.z p.z) q.z) (fM (fM p.t (fA dN dN)) q.t) (f_lt (fM_lt _ _)) (f_lt (fM_lt _ _)) _) (fun w324 hm325 => ?_))
          exact ⟨⟨hm325.at 4 rfl, hm325.at 3 rfl, hm325.at 6 rfl, hm325.at 5 rfl⟩, J20_0.s21 ga12 _ hm325⟩
        · refine opd rfl rfl (m_alloc (c := bs 0) (T := 23) hm 9 rfl (run_alN rfl) (fun g326 w327 hm328 => ?_))
          exact ⟨⟨hm328.at 4 rfl, hm328.at 3 rfl, hm328.at 6 rfl, hm328.at 5 rfl⟩, J20_0.s24 g326 ga12 _ (Mm.reorder hm328 [0, 1, 2, 3, 4, 5, 6, 8, 7] (by decide) rfl)⟩
        · refine opd rfl rfl (m_alloc (c := bs 0) (T := 23) hm 10 rfl (run_alN rfl) (fun g329 w330 hm331 => ?_))
          exact ⟨⟨hm331.at 4 rfl, hm331.at 3 rfl, hm331.at 6 rfl, hm331.at 5 rfl⟩, J20_0.s26 g329 ga12 _ (Mm.reorder hm331 [0, 1, 2, 3, 4, 5, 6, 8, 7] (by decide) rfl)⟩
        · refine opd rfl rfl (m_alloc (c := bs 0) (T := 23) hm 11 rfl (run_alN rfl) (fun g332 w333 hm334 => ?_))
          exact ⟨⟨hm334.at 4 rfl, hm334.at 3 rfl, hm334.at 6 rfl, hm334.at 5 rfl⟩, J20_0.s27 g332 ga12 _ (Mm.reorder hm334 [0, 1, 2, 3, 4, 5, 6, 8, 7] (by decide) rfl)⟩
      | s11 ga9 ga10 w1 hm =>
        refine ⟨[2, 14, 15], (by kernel_rfl), by decide, List.forall_mem_cons.2 ⟨?_, List.forall_mem_cons.2 ⟨?_, List.forall_mem_cons.2 ⟨?_, fun _ h => nomatch h⟩⟩⟩⟩
        · refine opd rfl rfl (m_call hm 54 (.agg (bs (fS (fM (fA p.y p.x) (fA q.y q.x)) (fM (fS p.y p.x) (fS q.y q.x))))) rfl (run_gSub rfl rfl rfl) (rsub_f (fM (fA p.y p.x) (fA q.y q.x)) (fM (fS p.y p.x) (fS q.y q.x)) (f_lt (fM_lt _ _)) (f_lt (fM_lt _ _)) _) (fun w335 hm336 => ?_))
          exact ⟨⟨hm336.at 4 rfl, hm336.at 3 rfl, hm336.at 6 rfl, hm336.at 5 rfl⟩, J20_0.s22 ga9 ga10 _ hm336⟩
        · refine opd rfl rfl (m_alloc (c := bs 0) (T := 23) hm 11 rfl (run_alN rfl) (fun g337 w338 hm339 => ?_))
          exact ⟨⟨hm339.at 4 rfl, hm339.at 3 rfl, hm339.at 6 rfl, hm339.at 5 rfl⟩, J20_0.s28 ga9 ga10 g337 _ hm339⟩
        · refine opd rfl rfl (m_alloc (c := bs 0) (T := 23) hm 12 rfl (run_alN rfl) (fun g340 w341 hm342 => ?_))
          exact ⟨⟨hm342.at 4 rfl, hm342.at 3 rfl, hm342.at 6 rfl, hm342.at 5 rfl⟩, J20_0.s29 ga9 ga10 g340 _ hm342⟩
      | s12 ga9 ga11 w1 hm =>
        refine ⟨[2, 13, 15], (by kernel_rfl), by decide, List.forall_mem_cons.2 ⟨?_, List.forall_mem_cons.2 ⟨?_, List.forall_mem_cons.2 ⟨?_, fun _ h => nomatch h⟩⟩⟩⟩
        · refine opd rfl rfl (m_call hm 54 (.agg (bs (fS (fM (fA p.y p.x) (fA q.y q.x)) (fM (fS p.y p.x) (fS q.y q.x))))) rfl (run_gSub rfl rfl rfl) (rsub_f (fM (fA p.y p.x) (fA q.y q.x)) (fM (fS p.y p.x) (fS q.y q.x)) (f_lt (fM_lt _ _)) (f_lt (fM_lt _ _)) _) (fun w343 hm344 => ?_))
          exact ⟨⟨hm344.at 4 rfl, hm344.at 3 rfl, hm344.at 6 rfl, hm344.at 5 rfl⟩, J20_0.s23 ga9 ga11 _ hm344⟩
        · refine opd rfl rfl (m_alloc (c := bs 0) (T := 23) hm 10 rfl (run_alN rfl) (fun g345 w346 hm347 => ?_))
          exact ⟨⟨hm347.at 4 rfl, hm347.at 3 rfl, hm347.at 6 rfl, hm347.at 5 rfl⟩, J20_0.s28 ga9 g345 ga11 _ (Mm.reorder hm347 [0, 1, 2, 3, 4, 5, 6, 7, 9, 8] (by decide) rfl)⟩
        · refine opd rfl rfl (m_alloc (c := bs 0) (T := 23) hm 12 rfl (run_alN rfl) (fun g348 w349 hm350 => ?_))
          exact ⟨⟨hm350.at 4 rfl, hm350.at 3 rfl, hm350.at 6 rfl, hm350.at 5 rfl⟩, J20_0.s30 ga9 ga11 g348 _ hm350⟩
      | s13 ga9 ga12 w1 hm =>
        refine ⟨[2, 13, 14], (by kernel_rfl), by decide, List.forall_mem_cons.2 ⟨?_, List.forall_mem_cons.2 ⟨?_, List.forall_mem_cons.2 ⟨?_, fun _ h => nomatch h⟩⟩⟩⟩
        · refine opd rfl rfl (m_call hm 54 (.agg (bs (fS (fM (fA p.y p.x) (fA q.y q.x)) (fM (fS p.y p.x) (fS q.y q.x))))) rfl (run_gSub rfl rfl rfl) (rsub_f (fM (fA p.y p.x) (fA q.y q.x)) (fM (fS p.y p.x) (fS q.y q.x)) (f_lt (fM_lt _ _)) (f_lt (fM_lt _ _)) _) (fun w351 hm352 => ?_))
          exact ⟨⟨hm352.at 4 rfl, hm352.at 3 rfl, hm352.at 6 rfl, hm352.at 5 rfl⟩, J20_0.s24 ga9 ga12 _ hm352⟩
        · refine opd rfl rfl (m_alloc (c := bs 0) (T := 23) hm 10 rfl (run_alN rfl) (fun g353 w354 hm355 => ?_))
          exact ⟨⟨hm355.at 4 rfl, hm355.at 3 rfl, hm355.at 6 rfl, hm355.at 5 rfl⟩, J20_0.s29 ga9 g353 ga12 _ (Mm.reorder hm355 [0, 1, 2, 3, 4, 5, 6, 7, 9, 8] (by decide) rfl)⟩
        · refine opd rfl rfl (m_alloc (c := bs 0) (T := 23) hm 11 rfl (run_alN rfl) (fun g356 w357 hm358 => ?_))
          exact ⟨⟨hm358.at 4 rfl, hm358.at 3 rfl, hm358.at 6 rfl, hm358.at 5 rfl⟩, J20_0.s30 ga9 g356 ga12 _ (Mm.reorder hm358 [0, 1, 2, 3, 4, 5, 6, 7, 9, 8] (by decide) rfl)⟩
      | s14 ga10 ga11 w1 hm =>
        refine ⟨[2, 12, 15], (by kernel_rfl), by decide, List.forall_mem_cons.2 ⟨?_, List.forall_mem_cons.2 ⟨?_, List.forall_mem_cons.2 ⟨?_, fun _ h => nomatch h⟩⟩⟩⟩
        · refine opd rfl rfl (m_call hm 54 (.agg (bs (fS (fM (fA p.y p.x) (fA q.y q.x)) (fM (fS p.y p.x) (fS q.y q.x))))) rfl (run_gSub rfl rfl rfl) (rsub_f (fM (fA p.y p.x) (fA q.y q.x)) (fM (fS p.y p.x) (fS q.y q.x)) (f_lt (fM_lt _ _)) (f_lt (fM_lt _ _)) _) (fun w359 hm360 => ?_))
          exact ⟨⟨hm360.at 4 rfl, hm360.at 3 rfl, hm360.at 6 rfl, hm360.at 5 rfl⟩, J20_0.s25 ga10 ga11 _ hm360⟩
        · refine opd rfl rfl (m_alloc (c := bs 0) (T := 23) hm 9 rfl (run_alN rfl) (fun g361 w362 hm363 => ?_))
          exact ⟨⟨hm363.at 4 rfl, hm363.at 3 rfl, hm363.at 6 rfl, hm363.at 5 rfl⟩, J20_0.s28 g361 ga10 ga11 _ (Mm.reorder hm363 [0, 1, 2, 3, 4, 5, 6, 9, 7, 8] (by decide) rfl)⟩
        · refine opd rfl rfl (m_alloc (c := bs 0) (T := 23) hm 12 rfl (run_alN rfl) (fun g364 w365 hm366 => ?_))
          exact ⟨⟨hm366.at 4 rfl, hm366.at 3 rfl, hm366.at 6 rfl, hm366.at 5 rfl⟩, J20_0.s31 ga10 ga11 g364 _ hm366⟩
      | s15 ga10 ga12 w1 hm =>
        refine ⟨[2, 12, 14], (by kernel_rfl), by decide, List.forall_mem_cons.2 ⟨?_, List.forall_mem_cons.2 ⟨?_, List.forall_mem_cons.2 ⟨?_, fun _ h => nomatch h⟩⟩⟩⟩
        · refine opd rfl rfl (m_call hm 54 (.agg (bs (fS (fM (fA p.y p.x) (fA q.y q.x)) (fM (fS p.y p.x) (fS q.y q.x))))) rfl (run_gSub rfl rfl rfl) (rsub_f (fM (fA p.y p.x) (fA q.y q.x)) (fM (fS p.y p.x) (fS q.y q.x)) (f_lt (fM_lt _ _)) (f_lt (fM_lt _ _)) _) (fun w367 hm368 => ?_))
          exact ⟨⟨hm368.at 4 rfl, hm368.at 3 rfl, hm368.at 6 rfl, hm368.at 5 rfl⟩, J20_0.s26 ga10 ga12 _ hm368⟩
        · refine opd rfl rfl (m_alloc (c := bs 0) (T := 23) hm 9 rfl (run_alN rfl) (fun g369 w370 hm371 => ?_))
          exact ⟨⟨hm371.at 4 rfl, hm371.at 3 rfl, hm371.at 6 rfl, hm371.at 5 rfl⟩, J20_0.s29 g369 ga10 ga12 _ (Mm.reorder hm371 [0, 1, 2, 3, 4, 5, 6, 9, 7, 8] (by decide) rfl)⟩
        · refine opd rfl rfl (m_alloc (c := bs 0) (T := 23) hm 11 rfl (run_alN rfl) (fun g372 w373 hm374 => ?_))
          exact ⟨⟨hm374.at 4 rfl, hm374.at 3 rfl, hm374.at 6 rfl, hm374.at 5 rfl⟩, J20_0.s31 ga10 g372 ga12 _ (Mm.reorder hm374 [0, 1, 2, 3, 4, 5, 6, 7, 9, 8] (by decide) rfl)⟩
      | s16 ga11 ga12 w1 hm =>
        refine ⟨[2, 12, 13], (by kernel_rfl), by decide, List.forall_mem_cons.2 ⟨?_, List.forall_mem_cons.2 ⟨?_, List.forall_mem_cons.2 ⟨?_, fun _ h => nomatch h⟩⟩⟩⟩
        · refine opd rfl rfl (m_call hm 54 (.agg (bs (fS (fM (fA p.y p.x) (fA q.y q.x)) (fM (fS p.y p.x) (fS q.y q.x))))) rfl (run_gSub rfl rfl rfl) (rsub_f (fM (fA p.y p.x) (fA q.y q.x)) (fM (fS p.y p.x) (fS q.y q.x)) (f_lt (fM_lt _ _)) (f_lt (fM_lt _ _)) _) (fun w375 hm376 => ?_))
          exact ⟨⟨hm376.at 4 rfl, hm376.at 3 rfl, hm376.at 6 rfl, hm376.at 5 rfl⟩, J20_0.s27 ga11 ga12 _ hm376⟩
        · refine opd rfl rfl (m_alloc (c := bs 0) (T := 23) hm 9 rfl (run_alN rfl) (fun g377 w378 hm379 => ?_))
          exact ⟨⟨hm379.at 4 rfl, hm379.at 3 rfl, hm379.at 6 rfl, hm379.at 5 rfl⟩, J20_0.s30 g377 ga11 ga12 _ (Mm.reorder hm379 [0, 1, 2, 3, 4, 5, 6, 9, 7, 8] (by decide) rfl)⟩
        · refine opd rfl rfl (m_alloc (c := bs 0) (T := 23) hm 10 rfl (run_alN rfl) (fun g380 w381 hm382 => ?_))
          exact ⟨⟨hm382.at 4 rfl, hm382.at 3 rfl, hm382.at 6 rfl, hm382.at 5 rfl⟩, J20_0.s31 g380 ga11 ga12 _ (Mm.reorder hm382 [0, 1, 2, 3, 4, 5, 6, 9, 7, 8] (by decide) rfl)⟩
      | s17  w1 hm =>
        refine ⟨[11, 12, 13, 14, 15], (by kernel_rfl), by decide, List.forall_mem_cons.2 ⟨?_, List.forall_mem_cons.2 ⟨?_, List.forall_mem_cons.2 ⟨?_, List.forall_mem_cons.2 ⟨?_, List.forall_mem_cons.2 ⟨?_, fun _ h => nomatch h⟩⟩⟩⟩⟩⟩
        · refine opd rfl rfl (m_call hm 63 (.agg (bs (fA (fM (fA p.y p.x) (fA q.y q.x)) (fM (fS p.y p.x) (fS q.y q.x))))) rfl (run_gAdd rfl rfl rfl) (radd_f (fM (fA p.y p.x) (fA q.y q.x)) (fM (fS p.y p.x) (fS q.y q.x)) (f_lt (fM_lt _ _)) (f_lt (fM_lt _ _)) _) (fun w383 hm384 => ?_))
          exact ⟨⟨hm384.at 4 rfl, hm384.at 3 rfl, hm384.at 6 rfl, hm384.at 5 rfl⟩, J20_0.s32  _ hm384⟩
        · refine opd rfl rfl (m_alloc (c := bs 0) (T := 23) hm 9 rfl (run_alN rfl) (fun g385 w386 hm387 => ?_))
          exact ⟨⟨hm387.at 4 rfl, hm387.at 3 rfl, hm387.at 6 rfl, hm387.at 5 rfl⟩, J20_0.s33 g385 _ hm387⟩
        · refine opd rfl rfl (m_alloc (c := bs 0) (T := 23) hm 10 rfl (run_alN rfl) (fun g388 w389 hm390 => ?_))
          exact ⟨⟨hm390.at 4 rfl, hm390.at 3 rfl, hm390.at 6 rfl, hm390.at 5 rfl⟩, J20_0.s34 g388 _ hm390⟩
        · refine opd rfl rfl (m_alloc (c := bs 0) (T := 23) hm 11 rfl (run_alN rfl) (fun g391 w392 hm393 => ?_))
          exact ⟨⟨hm393.at 4 rfl, hm393.at 3 rfl, hm393.at 6 rfl, hm393.at 5 rfl⟩, J20_0.s35 g391 _ hm393⟩
        · refine opd rfl rfl (m_alloc (c := bs 0) (T := 23) hm 12 rfl (run_alN rfl) (fun g394 w395 hm396 => ?_))
          exact ⟨⟨hm396.at 4 rfl, hm396.at 3 rfl, hm396.at 6 rfl, hm396.at 5 rfl⟩, J20_0.s36 g394 _ hm396⟩
      | s18 ga9 w1 hm =>
        refine ⟨[8, 13, 14, 15], (by kernel_rfl), by decide, List.forall_mem_cons.2 ⟨?_, List.forall_mem_cons.2 ⟨?_, List.forall_mem_cons.2 ⟨?_, List.forall_mem_cons.2 ⟨?_, fun _ h => nomatch h⟩⟩⟩⟩⟩
        · refine opd rfl rfl (m_call hm 60 (.agg (bs (fA (fM (fA p.z p.z) q.z) (fM (fM p.t (fA dN dN)) q.t)))) rfl (run_gAdd rfl rfl rfl) (radd_f (fM (fA p.z p.z) q.z) (fM (fM p.t (fA dN dN)) q.t) (f_lt (fM_lt _ _)) (f_lt (fM_lt _ _)) _) (fun w397 hm398 => ?_))
          exact ⟨⟨hm398.at 4 rfl, hm398.at 3 rfl, hm398.at 6 rfl, hm398.at 5 rfl⟩, J20_0.s33 ga9 _ hm398⟩
        · refine opd rfl rfl (m_alloc (c := bs 0) (T := 23) hm 10 rfl (run_alN rfl) (fun g399 w400 hm401 => ?_))
          exact ⟨⟨hm401.at 4 rfl, hm401.at 3 rfl, hm401.at 6 rfl, hm401.at 5 rfl⟩, J20_0.s37 ga9 g399 _ hm401⟩
        · refine opd rfl rfl (m_alloc (c := bs 0) (T := 23) hm 11 rfl (run_alN rfl) (fun g402 w403 hm404 => ?_))
          exact ⟨⟨hm404.at 4 rfl, hm404.at 3 rfl, hm404.at 6 rfl, hm404.at 5 rfl⟩, J20_0.s38 ga9 g402 _ hm404⟩
        · refine opd rfl rfl (m_alloc (c := bs 0) (T := 23) hm 12 rfl (run_alN rfl) (fun g405 w406 hm407 => ?_))
          exact ⟨⟨hm407.at 4 rfl, hm407.at 3 rfl, hm407.at 6 rfl, hm407.at 5 rfl⟩, J20_0.s39 ga9 g405 _ hm407⟩
      | s19 ga10 w1 hm =>
        refine ⟨[8, 12, 14, 15], (by kernel_rfl), by decide, List.forall_mem_cons.2 ⟨?_, List.forall_mem_cons.2 ⟨?_, List.forall_mem_cons.2 ⟨?_, List.forall_mem_cons.2 ⟨?_, fun _ h => nomatch h⟩⟩⟩⟩⟩
        · refine opd rfl rfl (m_call hm 60 (.agg (bs (fA (fM (fA p.z p.z) q.z) (fM (fM p.t (fA dN dN)) q.t)))) rfl (run_gAdd rfl rfl rfl) (radd_f (fM (fA p.z p.z) q.z) (fM (fM p.t (fA dN dN)) q.t) (f_lt (fM_lt _ _)) (f_lt (fM_lt _ _)) _) (fun w408 hm409 => ?_))
          exact ⟨⟨hm409.at 4 rfl, hm409.at 3 rfl, hm409.at 6 rfl, hm409.at 5 rfl⟩, J20_0.s34 ga10 _ hm409⟩
        · refine opd rfl rfl (m_alloc (c := bs 0) (T := 23) hm 9 rfl (run_alN rfl) (fun g410 w411 hm412 => ?_))
          exact ⟨⟨hm412.at 4 rfl, hm412.at 3 rfl, hm412.at 6 rfl, hm412.at 5 rfl⟩, J20_0.s37 g410 ga10 _ (Mm.reorder hm412 [0, 1, 2, 3, 4, 5, 6, 8, 7] (by decide) rfl)⟩
        · refine opd rfl rfl (m_alloc (c := bs 0) (T := 23) hm 11 rfl (run_alN rfl) (fun g413 w414 hm415 => ?_))
          exact ⟨⟨hm415.at 4 rfl, hm415.at 3 rfl, hm415.at 6 rfl, hm415.at 5 rfl⟩, J20_0.s40 ga10 g413 _ hm415⟩
        · refine opd rfl rfl (m_alloc (c := bs 0) (T := 23) hm 12 rfl (run_alN rfl) (fun g416 w417 hm418 => ?_))
          exact ⟨⟨hm418.at 4 rfl, hm418.at 3 rfl, hm418.at 6 rfl, hm418.at 5 rfl⟩, J20_0.s41 ga10 g416 _ hm418⟩
      | s20 ga11 w1 hm =>
        refine ⟨[8, 12, 13, 15], (by kernel_rfl), by decide, List.forall_mem_cons.2 ⟨?_, List.forall_mem_cons.2 ⟨?_, List.forall_mem_cons.2 ⟨?_, List.forall_mem_cons.2 ⟨?_, fun _ h => nomatch h⟩⟩⟩⟩⟩
        · refine opd rfl rfl (m_call hm 60 (.agg (bs (fA (fM (fA p.z p.z) q.z) (fM (fM p.t (fA dN dN)) q.t)))) rfl (run_gAdd rfl rfl rfl) (radd_f (fM (fA p.z p.z) q.z) (fM (fM p.t (fA dN dN)) q.t) (f_lt (fM_lt _ _)) (f_lt (fM_lt _ _)) _) (fun w419 hm420 => ?_))
          exact ⟨⟨hm420.at 4 rfl, hm420.at 3 rfl, hm420.at 6 rfl, hm420.at 5 rfl⟩, J20_0.s35 ga11 _ hm420⟩
        · refine opd rfl rfl (m_alloc (c := bs 0) (T := 23) hm 9 rfl (run_alN rfl) (fun g421 w422 hm423 => ?_))
          exact ⟨⟨hm423.at 4 rfl, hm423.at 3 rfl, hm423.at 6 rfl, hm423.at 5 rfl⟩, J20_0.s38 g421 ga11 _ (Mm.reorder hm423 [0, 1, 2, 3, 4, 5, 6, 8, 7] (by decide) rfl)⟩
        · refine opd rfl rfl (m_alloc (c := bs 0) (T := 23) hm 10 rfl (run_alN rfl) (fun g424 w425 hm426 => ?_))
          exact ⟨⟨hm426.at 4 rfl, hm426.at 3 rfl, hm426.at 6 rfl, hm426.at 5 rfl⟩, J20_0.s40 g424 ga11 _ (Mm.reorder hm426 [0, 1, 2, 3, 4, 5, 6, 8, 7] (by decide) rfl)⟩
        · refine opd rfl rfl (m_alloc (c := bs 0) (T := 23) hm 12 rfl (run_alN rfl) (fun g427 w428 hm429 => ?_))
          exact ⟨⟨hm429.at 4 rfl, hm429.at 3 rfl, hm429.at 6 rfl, hm429.at 5 rfl⟩, J20_0.s42 ga11 g427 _ hm429⟩
      | s21 ga12 w1 hm =>
        refine ⟨[8, 12, 13, 14], (by kernel_rfl), by decide, List.forall_mem_cons.2 ⟨?_, List.forall_mem_cons.2 ⟨?_, List.forall_mem_cons.2 ⟨?_, List.forall_mem_cons.2 ⟨?_, fun _ h => nomatch h⟩⟩⟩⟩⟩
        · refine opd rfl rfl (m_call hm 60 (.agg (bs (fA (fM (fA p.z p.z) q.z) (fM (fM p.t (fA dN dN)) q.t)))) rfl (run_gAdd rfl rfl rfl) (radd_f (fM (fA p.z p.z) q.z) (fM (fM p.t (fA dN dN)) q.t) (f_lt (fM_lt _ _)) (f_lt (fM_lt _ _)) _) (fun w430 hm431 => ?_))
          exact ⟨⟨hm431.at 4 rfl, hm431.at 3 rfl, hm431.at 6 rfl, hm431.at 5 rfl⟩, J20_0.s36 ga12 _ hm431⟩
        · refine opd rfl rfl (m_alloc (c := bs 0) (T := 23) hm 9 rfl (run_alN rfl) (fun g432 w433 hm434 => ?_))
          exact ⟨⟨hm434.at 4 rfl, hm434.at 3 rfl, hm434.at 6 rfl, hm434.at 5 rfl⟩, J20_0.s39 g432 ga12 _ (Mm.reorder hm434 [0, 1, 2, 3, 4, 5, 6, 8, 7] (by decide) rfl)⟩
        · refine opd rfl rfl (m_alloc (c := bs 0) (T := 23) hm 10 rfl (run_alN rfl) (fun g435 w436 hm437 => ?_))
          exact ⟨⟨hm437.at 4 rfl, hm437.at 3 rfl, hm437.at 6 rfl, hm437.at 5 rfl⟩, J20_0.s41 g435 ga12 _ (Mm.reorder hm437 [0, 1, 2, 3, 4, 5, 6, 8, 7] (by decide) rfl)⟩
        · refine opd rfl rfl (m_alloc (c := bs 0) (T := 23) hm 11 rfl (run_alN rfl) (fun g438 w439 hm440 => ?_))
          exact ⟨⟨hm440.at 4 rfl, hm440.at 3 rfl, hm440.at 6 rfl, hm440.at 5 rfl⟩, J20_0.s42 g438 ga12 _ (Mm.reorder hm440 [0, 1, 2, 3, 4, 5, 6, 8, 7] (by decide) rfl)⟩
      | s22 ga9 ga10 w1 hm =>
        refine ⟨[5, 14, 15], (by kernel_rfl), by decide, List.forall_mem_cons.2 ⟨?_, List.forall_mem_cons.2 ⟨?_, List.forall_mem_cons.2 ⟨?_, fun _ h => nomatch h⟩⟩⟩⟩
        · refine opd rfl rfl (m_call hm 57 (.agg (bs (fS (fM (fA p.z p.z) q.z) (fM (fM p.t (fA dN dN)) q.t)))) rfl (run_gSub rfl rfl rfl) (rsub_f (fM (fA p.z p.z) q.z) (fM (fM p.t (fA dN dN)) q.t) (f_lt (fM_lt _ _)) (f_lt (fM_lt _ _)) _) (fun w441 hm442 => ?_))
          exact ⟨⟨hm442.at 4 rfl, hm442.at 3 rfl, hm442.at 6 rfl, hm442.at 5 rfl⟩, J20_0.s37 ga9 ga10 _ hm442⟩
        · refine opd rfl rfl (m_alloc (c := bs 0) (T := 23) hm 11 rfl (run_alN rfl) (fun g443 w444 hm445 => ?_))
          exact ⟨⟨hm445.at 4 rfl, hm445.at 3 rfl, hm445.at 6 rfl, hm445.at 5 rfl⟩, J20_0.s43 ga9 ga10 g443 _ hm445⟩
        · refine opd rfl rfl (m_alloc (c := bs 0) (T := 23) hm 12 rfl (run_alN rfl) (fun g446 w447 hm448 => ?_))
          exact ⟨⟨hm448.at 4 rfl, hm448.at 3 rfl, hm448.at 6 rfl, hm448.at 5 rfl⟩, J20_0.s44 ga9 ga10 g446 _ hm448⟩
      | s23 ga9 ga11 w1 hm =>
        refine ⟨[5, 13, 15], (by kernel_rfl), by decide, List.forall_mem_cons.2 ⟨?_, List.forall_mem_cons.2 ⟨?_, List.forall_mem_cons.2 ⟨?_, fun _ h => nomatch h⟩⟩⟩⟩
        · refine opd rfl rfl (m_call hm 57 (.agg (bs (fS (fM (fA p.z p.z) q.z) (fM (fM p.t (fA dN dN)) q.t)))) rfl (run_gSub rfl rfl rfl) (rsub_f (fM (fA p.z p.z) q.z) (fM (fM p.t (fA dN dN)) q.t) (f_lt (fM_lt _ _)) (f_lt (fM_lt _ _)) _) (fun w449 hm450 => ?_))
          exact ⟨⟨hm450.at 4 rfl, hm450.at 3 rfl, hm450.at 6 rfl, hm450.at 5 rfl⟩, J20_0.s38 ga9 ga11 _ hm450⟩
        · refine opd rfl rfl (m_alloc (c := bs 0) (T := 23) hm 10 rfl (run_alN rfl) (fun g451 w452 hm453 => ?_))
          exact ⟨⟨hm453.at 4 rfl, hm453.at 3 rfl, hm453.at 6 rfl, hm453.at 5 rfl⟩, J20_0.s43 ga9 g451 ga11 _ (Mm.reorder hm453 [0, 1, 2, 3, 4, 5, 6, 7, 9, 8] (by decide) rfl)⟩
        · refine opd rfl rfl (m_alloc (c := bs 0) (T := 23) hm 12 rfl (run_alN rfl) (fun g454 w455 hm456 => ?_))
          exact ⟨⟨hm456.at 4 rfl, hm456.at 3 rfl, hm456.at 6 rfl, hm456.at 5 rfl⟩, J20_0.s45 ga9 ga11 g454 _ hm456⟩
      | s24 ga9 ga12 w1 hm =>
        refine ⟨[5, 13, 14], (by kernel_rfl), by decide, List.forall_mem_cons.2 ⟨?_, List.forall_mem_cons.2 ⟨?_, List.forall_mem_cons.2 ⟨?_, fun _ h => nomatch h⟩⟩⟩⟩
        · refine opd rfl rfl (m_call hm 57 (.agg (bs (fS (fM (fA p.z p.z) q.z) (fM (fM p.t (fA dN dN)) q.t)))) rfl (run_gSub rfl rfl rfl) (rsub_f (fM (fA p.z p.z) q.z) (fM (fM p.t (fA dN dN)) q.t) (f_lt (fM_lt _ _)) (f_lt (fM_lt _ _)) _) (fun w457 hm458 => ?_))
          exact ⟨⟨hm458.at 4 rfl, hm458.at 3 rfl, hm458.at 6 rfl, hm458.at 5 rfl⟩, J20_0.s39 ga9 ga12 _ hm458⟩
        · refine opd rfl rfl (m_alloc (c := bs 0) (T := 23) hm 10 rfl (run_alN rfl) (fun g459 w460 hm461 => ?_))
          exact ⟨⟨hm461.at 4 rfl, hm461.at 3 rfl, hm461.at 6 rfl, hm461.at 5 rfl⟩, J20_0.s44 ga9 g459 ga12 _ (Mm.reorder hm461 [0, 1, 2, 3, 4, 5, 6, 7, 9, 8] (by decide) rfl)⟩
        · refine opd rfl rfl (m_alloc (c := bs 0) (T := 23) hm 11 rfl (run_alN rfl) (fun g462 w463 hm464 => ?_))
          exact ⟨⟨hm464.at 4 rfl, hm464.at 3 rfl, hm464.at 6 rfl, hm464.at 5 rfl⟩, J20_0.s45 ga9 g462 ga12 _ (Mm.reorder hm464 [0, 1, 2, 3, 4, 5, 6, 7, 9, 8] (by decide) rfl)⟩
      | s25 ga10 ga11 w1 hm =>
        refine ⟨[5, 12, 15], (by kernel_rfl), by decide, List.forall_mem_cons.2 ⟨?_, List.forall_mem_cons.2 ⟨?_, List.forall_mem_cons.2 ⟨?_, fun _ h => nomatch h⟩⟩⟩⟩
        · refine opd rfl rfl (m_call hm 57 (.agg (bs (fS (fM (fA p.z p.z) q.z) (fM (fM p.t (fA dN dN)) q.t)))) rfl (run_gSub rfl rfl rfl) (rsub_f (fM (fA p.z p.z) q.z) (fM (fM p.t (fA dN dN)) q.t) (f_lt (fM_lt _ _)) (f_lt (fM_lt _ _)) _) (fun w465 hm466 => ?_))
          exact ⟨⟨hm466.at 4 rfl, hm466.at 3 rfl, hm466.at 6 rfl, hm466.at 5 rfl⟩, J20_0.s40 ga10 ga11 _ hm466⟩
        · refine opd rfl rfl (m_alloc (c := bs 0) (T := 23) hm 9 rfl (run_alN rfl) (fun g467 w468 hm469 => ?_))
          exact ⟨⟨hm469.at 4 rfl, hm469.at 3 rfl, hm469.at 6 rfl, hm469.at 5 rfl⟩, J20_0.s43 g467 ga10 ga11 _ (Mm.reorder hm469 [0, 1, 2, 3, 4, 5, 6, 9, 7, 8] (by decide) rfl)⟩
        · refine opd rfl rfl (m_alloc (c := bs 0) (T := 23) hm 12 rfl (run_alN rfl) (fun g470 w471 hm472 => ?_))
          exact ⟨⟨hm472.at 4 rfl, hm472.at 3 rfl, hm472.at 6 rfl, hm472.at 5 rfl⟩, J20_0.s46 ga10 ga11 g470 _ hm472⟩
      | s26 ga10 ga12 w1 hm =>
        refine ⟨[5, 12, 14], (by kernel_rfl), by decide, List.forall_mem_cons.2 ⟨?_, List.forall_mem_cons.2 ⟨?_, List.forall_mem_cons.2 ⟨?_, fun _ h => nomatch h⟩⟩⟩⟩
        · refine opd rfl rfl (m_call hm 57 (.agg (bs (fS (fM (fA p.z p.z) q.z) (fM (fM p.t (fA dN dN)) q.t)))) rfl (run_gSub rfl rfl rfl) (rsub_f (fM (fA p.z p.z) q.z) (fM (fM p.t (fA dN dN)) q.t) (f_lt (fM_lt _ _)) (f_lt (fM_lt _ _)) _) (fun w473 hm474 => ?_))
          exact ⟨⟨hm474.at 4 rfl, hm474.at 3 rfl, hm474.at 6 rfl, hm474.at 5 rfl⟩, J20_0.s41 ga10 ga12 _ hm474⟩
        · refine opd rfl rfl (m_alloc (c := bs 0) (T := 23) hm 9 rfl (run_alN rfl) (fun g475 w476 hm477 => ?_))
          exact ⟨⟨hm477.at 4 rfl, hm477.at 3 rfl, hm477.at 6 rfl, hm477.at 5 rfl⟩, J20_0.s44 g475 ga10 ga12 _ (Mm.reorder hm477 [0, 1, 2, 3, 4, 5, 6, 9, 7, 8] (by decide) rfl)⟩
        · refine opd rfl rfl (m_alloc (c := bs 0) (T := 23) hm 11 rfl (run_alN rfl) (fun g478 w479 hm480 => ?_))
          exact ⟨⟨hm480.at 4 rfl, hm480.at 3 rfl, hm480.at 6 rfl, hm480.at 5 rfl⟩, J20_0.s46 ga10 g478 ga12 _ (Mm.reorder hm480 [0, 1, 2, 3, 4, 5, 6, 7, 9, 8] (by decide) rfl)⟩
      | s27 ga11 ga12 w1 hm =>
        refine ⟨[5, 12, 13], (by kernel_rfl), by decide, List.forall_mem_cons.2 ⟨?_, List.forall_mem_cons.2 ⟨?_, List.forall_mem_cons.2 ⟨?_, fun _ h => nomatch h⟩⟩⟩⟩
        · refine opd rfl rfl (m_call hm 57 (.agg (bs (fS (fM (fA p.z p.z) q.z) (fM (fM p.t (fA dN dN)) q.t)))) rfl (run_gSub rfl rfl rfl) (rsub_f (fM (fA p.z p.z) q.z) (fM (fM p.t (fA dN dN)) q.t) (f_lt (fM_lt _ _)) (f_lt (fM_lt _ _)) _) (fun w481 hm482 => ?_))
          exact ⟨⟨hm482.at 4 rfl, hm482.at 3 rfl, hm482.at 6 rfl, hm482.at 5 rfl⟩, J20_0.s42 ga11 ga12 _ hm482⟩
        · refine opd rfl rfl (m_alloc (c := bs 0) (T := 23) hm 9 rfl (run_alN rfl) (fun g483 w484 hm485 => ?_))
          exact ⟨⟨hm485.at 4 rfl, hm485.at 3 rfl, hm485.at 6 rfl, hm485.at 5 rfl⟩, J20_0.s45 g483 ga11 ga12 _ (Mm.reorder hm485 [0, 1, 2, 3, 4, 5, 6, 9, 7, 8] (by decide) rfl)⟩
        · refine opd rfl rfl (m_alloc (c := bs 0) (T := 23) hm 10 rfl (run_alN rfl) (fun g486 w487 hm488 => ?_))
          exact ⟨⟨hm488.at 4 rfl, hm488.at 3 rfl, hm488.at 6 rfl, hm488.at 5 rfl⟩, J20_0.s46 g486 ga11 ga12 _ (Mm.reorder hm488 [0, 1, 2, 3, 4, 5, 6, 9, 7, 8] (by decide) rfl)⟩
      | s28 ga9 ga10 ga11 w1 hm =>
        refine ⟨[2, 15], (by kernel_rfl), by decide, List.forall_mem_cons.2 ⟨?_, List.forall_mem_cons.2 ⟨?_, fun _ h => nomatch h⟩⟩⟩
        · refine opd rfl rfl (m_call hm 54 (.agg (bs (fS (fM (fA p.y p.x) (fA q.y q.x)) (fM (fS p.y p.x) (fS q.y q.x))))) rfl (run_gSub rfl rfl rfl) (rsub_f (fM (fA p.y p.x) (fA q.y q.x)) (fM (fS p.y p.x) (fS q.y q.x)) (f_lt (fM_lt _ _)) (f_lt (fM_lt _ _)) _) (fun w489 hm490 => ?_))
          exact ⟨⟨hm490.at 4 rfl, hm490.at 3 rfl, hm490.at 6 rfl, hm490.at 5 rfl⟩, J20_0.s43 ga9 ga10 ga11 _ hm490⟩
        · refine opd rfl rfl (m_alloc (c := bs 0) (T := 23) hm 12 rfl (run_alN rfl) (fun g491 w492 hm493 => ?_))
          exact ⟨⟨hm493.at 4 rfl, hm493.at 3 rfl, hm493.at 6 rfl, hm493.at 5 rfl⟩, J20_0.s47 ga9 ga10 ga11 g491 _ hm493⟩
      | s29 ga9 ga10 ga12 w1 hm =>
        refine ⟨[2, 14], (by kernel_rfl), by decide, List.forall_mem_cons.2 ⟨?_, List.forall_mem_cons.2 ⟨?_, fun _ h => nomatch h⟩⟩⟩
        · refine opd rfl rfl (m_call hm 54 (.agg (bs (fS (fM (fA p.y p.x) (fA q.y q.x)) (fM (fS p.y p.x) (fS q.y q.x))))) rfl (run_gSub rfl rfl rfl) (rsub_f (fM (fA p.y p.x) (fA q.y q.x)) (fM (fS p.y p.x) (fS q.y q.x)) (f_lt (fM_lt _ _)) (f_lt (fM_lt _ _)) _) (fun w494 hm495 => ?_))
          exact ⟨⟨hm495.at 4 rfl, hm495.at 3 rfl, hm495.at 6 rfl, hm495.at 5 rfl⟩, J20_0.s44 ga9 ga10 ga12 _ hm495⟩
        · refine opd rfl rfl (m_alloc (c := bs 0) (T := 23) hm 11 rfl (run_alN rfl) (fun g496 w497 hm498 => ?_))
          exact ⟨⟨hm498.at 4 rfl, hm498.at 3 rfl, hm498.at 6 rfl, hm498.at 5 rfl⟩, J20_0.s47 ga9 ga10 g496 ga12 _ (Mm.reorder hm498 [0, 1, 2, 3, 4, 5, 6, 7, 8, 10, 9] (by decide) rfl)⟩
      | s30 ga9 ga11 ga12 w1 hm =>
        refine ⟨[2, 13], (by kernel_rfl), by decide, List.forall_mem_cons.2 ⟨?_, List.forall_mem_cons.2 ⟨?_, fun _ h => nomatch h⟩⟩⟩
        · refine opd rfl rfl (m_call hm 54 (.agg (bs (fS (fM (fA p.y p.x) (fA q.y q.x)) (fM (fS p.y p.x) (fS q.y q.x))))) rfl (run_gSub rfl rfl rfl) (rsub_f (fM (fA p.y p.x) (fA q.y q.x)) (fM (fS p.y p.x) (fS q.y q.x)) (f_lt (fM_lt _ _)) (f_lt (fM_lt _ _)) _) (fun w499 hm500 => ?_))
          exact ⟨⟨hm500.at 4 rfl, hm500.at 3 rfl, hm500.at 6 rfl, hm500.at 5 rfl⟩, J20_0.s45 ga9 ga11 ga12 _ hm500⟩
        · refine opd rfl rfl (m_alloc (c := bs 0) (T := 23) hm 10 rfl (run_alN rfl) (fun g501 w502 hm503 => ?_))
          exact ⟨⟨hm503.at 4 rfl, hm503.at 3 rfl, hm503.at 6 rfl, hm503.at 5 rfl⟩, J20_0.s47 ga9 g501 ga11 ga12 _ (Mm.reorder hm503 [0, 1, 2, 3, 4, 5, 6, 7, 10, 8, 9] (by decide) rfl)⟩
      | s31 ga10 ga11 ga12 w1 hm =>
        refine ⟨[2, 12], (by kernel_rfl), by decide, List.forall_mem_cons.2 ⟨?_, List.forall_mem_cons.2 ⟨?_, fun _ h => nomatch h⟩⟩⟩
        · refine opd rfl rfl (m_call hm 54 (.agg (bs (fS (fM (fA p.y p.x) (fA q.y q.x)) (fM (fS p.y p.x) (fS q.y q.x))))) rfl (run_gSub rfl rfl rfl) (rsub_f (fM (fA p.y p.x) (fA q.y q.x)) (fM (fS p.y p.x) (fS q.y q.x)) (f_lt (fM_lt _ _)) (f_lt (fM_lt _ _)) _) (fun w504 hm505 => ?_))
          exact ⟨⟨hm505.at 4 rfl, hm505.at 3 rfl, hm505.at 6 rfl, hm505.at 5 rfl⟩, J20_0.s46 ga10 ga11 ga12 _ hm505⟩
        · refine opd rfl rfl (m_alloc (c := bs 0) (T := 23) hm 9 rfl (run_alN rfl) (fun g506 w507 hm508 => ?_))
          exact ⟨⟨hm508.at 4 rfl, hm508.at 3 rfl, hm508.at 6 rfl, hm508.at 5 rfl⟩, J20_0.s47 g506 ga10 ga11 ga12 _ (Mm.reorder hm508 [0, 1, 2, 3, 4, 5, 6, 10, 7, 8, 9] (by decide) rfl)⟩
      | s32  w1 hm =>
        refine ⟨[12, 13, 14, 15], (by kernel_rfl), by decide, List.forall_mem_cons.2 ⟨?_, List.forall_mem_cons.2 ⟨?_, List.forall_mem_cons.2 ⟨?_, List.forall_mem_cons.2 ⟨?_, fun _ h => nomatch h⟩⟩⟩⟩⟩
        · refine opd rfl rfl (m_alloc (c := bs 0) (T := 23) hm 9 rfl (run_alN rfl) (fun g509 w510 hm511 => ?_))
          exact ⟨⟨hm511.at 4 rfl, hm511.at 3 rfl, hm511.at 6 rfl, hm511.at 5 rfl⟩, J20_0.s48 g509 _ hm511⟩
        · refine opd rfl rfl (m_alloc (c := bs 0) (T := 23) hm 10 rfl (run_alN rfl) (fun g512 w513 hm514 => ?_))
          exact ⟨⟨hm514.at 4 rfl, hm514.at 3 rfl, hm514.at 6 rfl, hm514.at 5 rfl⟩, J20_0.s49 g512 _ hm514⟩
        · refine opd rfl rfl (m_alloc (c := bs 0) (T := 23) hm 11 rfl (run_alN rfl) (fun g515 w516 hm517 => ?_))
          exact ⟨⟨hm517.at 4 rfl, hm517.at 3 rfl, hm517.at 6 rfl, hm517.at 5 rfl⟩, J20_0.s50 g515 _ hm517⟩
        · refine opd rfl rfl (m_alloc (c := bs 0) (T := 23) hm 12 rfl (run_alN rfl) (fun g518 w519 hm520 => ?_))
          exact ⟨⟨hm520.at 4 rfl, hm520.at 3 rfl, hm520.at 6 rfl, hm520.at 5 rfl⟩, J20_0.s51 g518 _ hm520⟩
      | s33 ga9 w1 hm =>
        refine ⟨[11, 13, 14, 15], (by kernel_rfl), by decide, List.forall_mem_cons.2 ⟨?_, List.forall_mem_cons.2 ⟨?_, List.forall_mem_cons.2 ⟨?_, List.forall_mem_cons.2 ⟨?_, fun _ h => nomatch h⟩⟩⟩⟩⟩
        · refine opd rfl rfl (m_call hm 63 (.agg (bs (fA (fM (fA p.y p.x) (fA q.y q.x)) (fM (fS p.y p.x) (fS q.y q.x))))) rfl (run_gAdd rfl rfl rfl) (radd_f (fM (fA p.y p.x) (fA q.y q.x)) (fM (fS p.y p.x) (fS q.y q.x)) (f_lt (fM_lt _ _)) (f_lt (fM_lt _ _)) _) (fun w521 hm522 => ?_))
          exact ⟨⟨hm522.at 4 rfl, hm522.at 3 rfl, hm522.at 6 rfl, hm522.at 5 rfl⟩, J20_0.s48 ga9 _ hm522⟩
        · refine opd rfl rfl (m_alloc (c := bs 0) (T := 23) hm 10 rfl (run_alN rfl) (fun g523 w524 hm525 => ?_))
          exact ⟨⟨hm525.at 4 rfl, hm525.at 3 rfl, hm525.at 6 rfl, hm525.at 5 rfl⟩, J20_0.s52 ga9 g523 _ hm525⟩
        · refine opd rfl rfl (m_alloc (c := bs 0) (T := 23) hm 11 rfl (run_alN rfl) (fun g526 w527 hm528 => ?_))
          exact ⟨⟨hm528.at 4 rfl, hm528.at 3 rfl, hm528.at 6 rfl, hm528.at 5 rfl⟩, J20_0.s53 ga9 g526 _ hm528⟩
        · refine opd rfl rfl (m_alloc (c := bs 0) (T := 23) hm 12 rfl (run_alN rfl) (fun g529 w530 hm531 => ?_))
          exact ⟨⟨hm531.at 4 rfl, hm531.at 3 rfl, hm531.at 6 rfl, hm531.at 5 rfl⟩, J20_0.s54 ga9 g529 _ hm531⟩
      | s34 ga10 w1 hm =>
        refine ⟨[11, 12, 14, 15], (by kernel_rfl), by decide, List.forall_mem_cons.2 ⟨?_, List.forall_mem_cons.2 ⟨?_, List.forall_mem_cons.2 ⟨?_, List.forall_mem_cons.2 ⟨?_, fun _ h => nomatch h⟩⟩⟩⟩⟩
        · refine opd rfl rfl (m_call hm 63 (.agg (bs (fA (fM (fA p.y p.x) (fA q.y q.x)) (fM (fS p.y p.x) (fS q.y q.x))))) rfl (run_gAdd rfl rfl rfl) (radd_f (fM (fA p.y p.x) (fA q.y q.x)) (fM (fS p.y p.x) (fS q.y q.x)) (f_lt (fM_lt _ _)) (f_lt (fM_lt _ _)) _) (fun w532 hm533 => ?_))
          exact ⟨⟨hm533.at 4 rfl, hm533.at 3 rfl, hm533.at 6 rfl, hm533.at 5 rfl⟩, J20_0.s49 ga10 _ hm533⟩
        · refine opd rfl rfl (m_alloc (c := bs 0) (T := 23) hm 9 rfl (run_alN rfl) (fun g534 w535 hm536 => ?_))
          exact ⟨⟨hm536.at 4 rfl, hm536.at 3 rfl, hm536.at 6 rfl, hm536.at 5 rfl⟩, J20_0.s52 g534 ga10 _ (Mm.reorder hm536 [0, 1, 2, 3, 4, 5, 6, 8, 7] (by decide) rfl)⟩
        · refine opd rfl rfl (m_alloc (c := bs 0) (T := 23) hm 11 rfl (run_alN rfl) (fun g537 w538 hm539 => ?_))
          exact ⟨⟨hm539.at 4 rfl, hm539.at 3 rfl, hm539.at 6 rfl, hm539.at 5 rfl⟩, J20_0.s55 ga10 g537 _ hm539⟩
        · refine opd rfl rfl (m_alloc (c := bs 0) (T := 23) hm 12 rfl (run_alN rfl) (fun g540 w541 hm542 => ?_))
          exact ⟨⟨hm542.at 4 rfl, hm542.at 3 rfl, hm542.at 6 rfl, hm542.at 5 rfl⟩, J20_0.s56 ga10 g540 _ hm542⟩
      | s35 ga11 w1 hm =>
        refine ⟨[11, 12, 13, 15], (by kernel_rfl), by decide, List.forall_mem_cons.2 ⟨?_, List.forall_mem_cons.2 ⟨?_, List.forall_mem_cons.2 ⟨?_, List.forall_mem_cons.2 ⟨?_, fun _ h => nomatch h⟩⟩⟩⟩⟩
        · refine opd rfl rfl (m_call hm 63 (.agg (bs (fA (fM (fA p.y p.x) (fA q.y q.x)) (fM (fS p.y p.x) (fS q.y q.x))))) rfl (run_gAdd rfl rfl rfl) (radd_f (fM (fA p.y p.x) (fA q.y q.x)) (fM (fS p.y p.x) (fS q.y q.x)) (f_lt (fM_lt _ _)) (f_lt (fM_lt _ _)) _) (fun w543 hm544 => ?_))
          exact ⟨⟨hm544.at 4 rfl, hm544.at 3 rfl, hm544.at 6 rfl, hm544.at 5 rfl⟩, J20_0.s50 ga11 _ hm544⟩
        · refine opd rfl rfl (m_alloc (c := bs 0) (T := 23) hm 9 rfl (run_alN rfl) (fun g545 w546 hm547 => ?_))
          exact ⟨⟨hm547.at 4 rfl, hm547.at 3 rfl, hm547.at 6 rfl, hm547.at 5 rfl⟩, J20_0.s53 g545 ga11 _ (Mm.reorder hm547 [0, 1, 2, 3, 4, 5, 6, 8, 7] (by decide) rfl)⟩
        · refine opd rfl rfl (m_alloc (c := bs 0) (T := 23) hm 10 rfl (run_alN rfl) (fun g548 w549 hm550 => ?_))
          exact ⟨⟨hm550.at 4 rfl, hm550.at 3 rfl, hm550.at 6 rfl, hm550.at 5 rfl⟩, J20_0.s55 g548 ga11 _ (Mm.reorder hm550 [0, 1, 2, 3, 4, 5, 6, 8, 7] (by decide) rfl)⟩
        · refine opd rfl rfl (m_alloc (c := bs 0) (T := 23) hm 12 rfl (run_alN rfl) (fun g551 w552 hm553 => ?_))
          exact ⟨⟨hm553.at 4 rfl, hm553.at 3 rfl, hm553.at 6 rfl, hm553.at 5 rfl⟩, J20_0.s57 ga11 g551 _ hm553⟩
      | s36 ga12 w1 hm =>
        refine ⟨[11, 12, 13, 14], (by kernel_rfl), by decide, List.forall_mem_cons.2 ⟨?_, List.forall_mem_cons.2 ⟨?_, List.forall_mem_cons.2 ⟨?_, List.forall_mem_cons.2 ⟨?_, fun _ h => nomatch h⟩⟩⟩⟩⟩
        · refine opd rfl rfl (m_call hm 63 (.agg (bs (fA (fM (fA p.y p.x) (fA q.y q.x)) (fM (fS p.y p.x) (fS q.y q.x))))) rfl (run_gAdd rfl rfl rfl) (radd_f (fM (fA p.y p.x) (fA q.y q.x)) (fM (fS p.y p.x) (fS q.y q.x)) (f_lt (fM_lt _ _)) (f_lt (fM_lt _ _)) _) (fun w554 hm555 => ?_))
          exact ⟨⟨hm555.at 4 rfl, hm555.at 3 rfl, hm555.at 6 rfl, hm555.at 5 rfl⟩, J20_0.s51 ga12 _ hm555⟩
        · refine opd rfl rfl (m_alloc (c := bs 0) (T := 23) hm 9 rfl (run_alN rfl) (fun g556 w557 hm558 => ?_))
          exact ⟨⟨hm558.at 4 rfl, hm558.at 3 rfl, hm558.at 6 rfl, hm558.at 5 rfl⟩, J20_0.s54 g556 ga12 _ (Mm.reorder hm558 [0, 1, 2, 3, 4, 5, 6, 8, 7] (by decide) rfl)⟩
        · refine opd rfl rfl (m_alloc (c := bs 0) (T := 23) hm 10 rfl (run_alN rfl) (fun g559 w560 hm561 => ?_))
          exact ⟨⟨hm561.at 4 rfl, hm561.at 3 rfl, hm561.at 6 rfl, hm561.at 5 rfl⟩, J20_0.s56 g559 ga12 _ (Mm.reorder hm561 [0, 1, 2, 3, 4, 5, 6, 8, 7] (by decide) rfl)⟩
        · refine opd rfl rfl (m_alloc (c := bs 0) (T := 23) hm 11 rfl (run_alN rfl) (fun g562 w563 hm564 => ?_))
          exact ⟨⟨hm564.at 4 rfl, hm564.at 3 rfl, hm564.at 6 rfl, hm564.at 5 rfl⟩, J20_0.s57 g562 ga12 _ (Mm.reorder hm564 [0, 1, 2, 3, 4, 5, 6, 8, 7] (by decide) rfl)⟩
      | s37 ga9 ga10 w1 hm =>
        refine ⟨[8, 14, 15], (by kernel_rfl), by decide, List.forall_mem_cons.2 ⟨?_, List.forall_mem_cons.2 ⟨?_, List.forall_mem_cons.2 ⟨?_, fun _ h => nomatch h⟩⟩⟩⟩
        · refine opd rfl rfl (m_call hm 60 (.agg (bs (fA (fM (fA p.z p.z) q.z) (fM (fM p.t (fA dN dN)) q.t)))) rfl (run_gAdd rfl rfl rfl) (radd_f (fM (fA p.z p.z) q.z) (fM (fM p.t (fA dN dN)) q.t) (f_lt (fM_lt _ _)) (f_lt (fM_lt _ _)) _) (fun w565 hm566 => ?_))
          exact ⟨⟨hm566.at 4 rfl, hm566.at 3 rfl, hm566.at 6 rfl, hm566.at 5 rfl⟩, J20_0.s52 ga9 ga10 _ hm566⟩
        · refine opd rfl rfl (m_alloc (c := bs 0) (T := 23) hm 11 rfl (run_alN rfl) (fun g567 w568 hm569 => ?_))
          exact ⟨⟨hm569.at 4 rfl, hm569.at 3 rfl, hm569.at 6 rfl, hm569.at 5 rfl⟩, J20_0.s58 ga9 ga10 g567 _ hm569⟩
        · refine opd rfl rfl (m_alloc (c := bs 0) (T := 23) hm 12 rfl (run_alN rfl) (fun g570 w571 hm572 => ?_))
          exact ⟨⟨hm572.at 4 rfl, hm572.at 3 rfl, hm572.at 6 rfl, hm572.at 5 rfl⟩, J20_0.s59 ga9 ga10 g570 _ hm572⟩
      | s38 ga9 ga11 w1 hm =>
        refine ⟨[8, 13, 15], (by kernel_rfl), by decide, List.forall_mem_cons.2 ⟨?_, List.forall_mem_cons.2 ⟨?_, List.forall_mem_cons.2 ⟨?_, fun _ h => nomatch h⟩⟩⟩⟩
        · refine opd rfl rfl (m_call hm 60 (.agg (bs (fA (fM (fA p.z p.z) q.z) (fM (fM p.t (fA dN dN)) q.t)))) rfl (run_gAdd rfl rfl rfl) (radd_f (fM (fA p.z p.z) q.z) (fM (fM p.t (fA dN dN)) q.t) (f_lt (fM_lt _ _)) (f_lt (fM_lt _ _)) _) (fun w573 hm574 => ?_))
          exact ⟨⟨hm574.at 4 rfl, hm574.at 3 rfl, hm574.at 6 rfl, hm574.at 5 rfl⟩, J20_0.s53 ga9 ga11 _ hm574⟩
        · refine opd rfl rfl (m_alloc (c := bs 0) (T := 23) hm 10 rfl (run_alN rfl) (fun g575 w576 hm577 => ?_))
          exact ⟨⟨hm577.at 4 rfl, hm577.at 3 rfl, hm577.at 6 rfl, hm577.at 5 rfl⟩, J20_0.s58 ga9 g575 ga11 _ (Mm.reorder hm577 [0, 1, 2, 3, 4, 5, 6, 7, 9, 8] (by decide) rfl)⟩
        · refine opd rfl rfl (m_alloc (c := bs 0) (T := 23) hm 12 rfl (run_alN rfl) (fun g578 w579 hm580 => ?_))
          exact ⟨⟨hm580.at 4 rfl, hm580.at 3 rfl, hm580.at 6 rfl, hm580.at 5 rfl⟩, J20_0.s60 ga9 ga11 g578 _ hm580⟩
      | s39 ga9 ga12 w1 hm =>
        refine ⟨[8, 13, 14], (by kernel_rfl), by decide, List.forall_mem_cons.2 ⟨?_, List.forall_mem_cons.2 ⟨?_, List.forall_mem_cons.2 ⟨?_, fun _ h => nomatch h⟩⟩⟩⟩
        · refine opd rfl rfl (m_call hm 60 (.agg (bs (fA (fM (fA p.z p.z) q.z) (fM (fM p.t (fA dN dN)) q.t)))) rfl (run_gAdd rfl rfl rfl) (radd_f (fM (fA p.z p.z) q.z) (fM (fM p.t (fA dN dN)) q.t) (f_lt (fM_lt _ _)) (f_lt (fM_lt _ _)) _) (fun w581 hm582 => ?_))
          exact ⟨⟨hm582.at 4 rfl, hm582.at 3 rfl, hm582.at 6 rfl, hm582.at 5 rfl⟩, J20_0.s54 ga9 ga12 _ hm582⟩
        · refine opd rfl rfl (m_alloc (c := bs 0) (T := 23) hm 10 rfl (run_alN rfl) (fun g583 w584 hm585 => ?_))
          exact ⟨⟨hm585.at 4 rfl, hm585.at 3 rfl, hm585.at 6 rfl, hm585.at 5 rfl⟩, J20_0.s59 ga9 g583 ga12 _ (Mm.reorder hm585 [0, 1, 2, 3, 4, 5, 6, 7, 9, 8] (by decide) rfl)⟩
        · refine opd rfl rfl (m_alloc (c := bs 0) (T := 23) hm 11 rfl (run_alN rfl) (fun g586 w587 hm588 => ?_))
          exact ⟨⟨hm588.at 4 rfl, hm588.at 3 rfl, hm588.at 6 rfl, hm588.at 5 rfl⟩, J20_0.s60 ga9 g586 ga12 _ (Mm.reorder hm588 [0, 1, 2, 3, 4, 5, 6, 7, 9, 8] (by decide) rfl)⟩
      | s40 ga10 ga11 w1 hm =>
        refine ⟨[8, 12, 15], (by kernel_rfl), by decide, List.forall_mem_cons.2 ⟨?_, List.forall_mem_cons.2 ⟨?_, List.forall_mem_cons.2 ⟨?_, fun _ h => nomatch h⟩⟩⟩⟩
        · refine opd rfl rfl (m_call hm 60 (.agg (bs (fA (fM (fA p.z p.z) q.z) (fM (fM p.t (fA dN dN)) q.t)))) rfl (run_gAdd rfl rfl rfl) (radd_f (fM (fA p.z p.z) q.z) (fM (fM p.t (fA dN dN)) q.t) (f_lt (fM_lt _ _)) (f_lt (fM_lt _ _)) _) (fun w589 hm590 => ?_))
          exact ⟨⟨hm590.at 4 rfl, hm590.at 3 rfl, hm590.at 6 rfl, hm590.at 5 rfl⟩, J20_0.s55 ga10 ga11 _ hm590⟩
        · refine opd rfl rfl (m_alloc (c := bs 0) (T := 23) hm 9 rfl (run_alN rfl) (fun g591 w592 hm593 => ?_))
          exact ⟨⟨hm593.at 4 rfl, hm593.at 3 rfl, hm593.at 6 rfl, hm593.at 5 rfl⟩, J20_0.s58 g591 ga10 ga11 _ (Mm.reorder hm593 [0, 1, 2, 3, 4, 5, 6, 9, 7, 8] (by decide) rfl)⟩
        · refine opd rfl rfl (m_alloc (c := bs 0) (T := 23) hm 12 rfl (run_alN rfl) (fun g594 w595 hm596 => ?_))
          exact ⟨⟨hm596.at 4 rfl, hm596.at 3 rfl, hm596.at 6 rfl, hm596.at 5 rfl⟩, J20_0.s61 ga10 ga11 g594 _ hm596⟩
      | s41 ga10 ga12 w1 hm =>
        refine ⟨[8, 12, 14], (by kernel_rfl), by decide, List.forall_mem_cons.2 ⟨?_, List.forall_mem_cons.2 ⟨?_, List.forall_mem_cons.2 ⟨?_, fun _ h => nomatch h⟩⟩⟩⟩
        · refine opd rfl rfl (m_call hm 60 (.agg (bs (fA (fM (fA p.z p.z) q.z) (fM (fM p.t (fA dN dN)) q.t)))) rfl (run_gAdd rfl rfl rfl) (radd_f (fM (fA p.z p.z) q.z) (fM (fM p.t (fA dN dN)) q.t) (f_lt (fM_lt _ _)) (f_lt (fM_lt _ _)) _) (fun w597 hm598 => ?_))
          exact ⟨⟨hm598.at 4 rfl, hm598.at 3 rfl, hm598.at 6 rfl, hm598.at 5 rfl⟩, J20_0.s56 ga10 ga12 _ hm598⟩
        · refine opd rfl rfl (m_alloc (c := bs 0) (T := 23) hm 9 rfl (run_alN rfl) (fun g599 w600 hm601 => ?_))
          exact ⟨⟨hm601.at 4 rfl, hm601.at 3 rfl, hm601.at 6 rfl, hm601.at 5 rfl⟩, J20_0.s59 g599 ga10 ga12 _ (Mm.reorder hm601 [0, 1, 2, 3, 4, 5, 6, 9, 7, 8] (by decide) rfl)⟩
        · refine opd rfl rfl (m_alloc (c := bs 0) (T := 23) hm 11 rfl (run_alN rfl) (fun g602 w603 hm604 => ?_))
          exact ⟨⟨hm604.at 4 rfl, hm604.at 3 rfl, hm604.at 6 rfl, hm604.at 5 rfl⟩, J20_0.s61 ga10 g602 ga12 _ (Mm.reorder hm604 [0, 1, 2, 3, 4, 5, 6, 7, 9, 8] (by decide) rfl)⟩
      | s42 ga11 ga12 w1 hm =>
        refine ⟨[8, 12, 13], (by kernel_rfl), by decide, List.forall_mem_cons.2 ⟨?_, List.forall_mem_cons.2 ⟨?_, List.forall_mem_cons.2 ⟨?_, fun _ h => nomatch h⟩⟩⟩⟩
        · refine opd rfl rfl (m_call hm 60 (.agg (bs (fA (fM (fA p.z p.z) q.z) (fM (fM p.t (fA dN dN)) q.t)))) rfl (run_gAdd rfl rfl rfl) (radd_f (fM (fA p.z p.z) q.z) (fM (fM p.t (fA dN dN)) q.t) (f_lt (fM_lt _ _)) (f_lt (fM_lt _ _)) _) (fun w605 hm606 => ?_))
          exact ⟨⟨hm606.at 4 rfl, hm606.at 3 rfl, hm606.at 6 rfl, hm606.at 5 rfl⟩, J20_0.s57 ga11 ga12 _ hm606⟩
        · refine opd rfl rfl (m_alloc (c := bs 0) (T := 23) hm 9 rfl (run_alN rfl) (fun g607 w608 hm609 => ?_))
          exact ⟨⟨hm609.at 4 rfl, hm609.at 3 rfl, hm609.at 6 rfl, hm609.at 5 rfl⟩, J20_0.s60 g607 ga11 ga12 _ (Mm.reorder hm609 [0, 1, 2, 3, 4, 5, 6, 9, 7, 8] (by decide) rfl)⟩
        · refine opd rfl rfl (m_alloc (c := bs 0) (T := 23) hm 10 rfl (run_alN rfl) (fun g610 w611 hm612 => ?_))
          exact ⟨⟨hm612.at 4 rfl, hm612.at 3 rfl, hm612.at 6 rfl, hm612.at 5 rfl⟩, J20_0.s61 g610 ga11 ga12 _ (Mm.reorder hm612 [0, 1, 2, 3, 4, 5, 6, 9, 7, 8] (by decide) rfl)⟩
      | s43 ga9 ga10 ga11 w1 hm =>
        refine ⟨[5, 15], (by kernel_rfl), by decide, List.forall_mem_cons.2 ⟨?_, List.forall_mem_cons.2 ⟨?_, fun _ h => nomatch h⟩⟩⟩
        · refine opd rfl rfl (m_call hm 57 (.agg (bs (fS (fM (fA p.z p.z) q.z) (fM (fM p.t (fA dN dN)) q.t)))) rfl (run_gSub rfl rfl rfl) (rsub_f (fM (fA p.z p.z) q.z) (fM (fM p.t (fA dN dN)) q.t) (f_lt (fM_lt _ _)) (f_lt (fM_lt _ _)) _) (fun w613 hm614 => ?_))
          exact ⟨⟨hm614.at 4 rfl, hm614.at 3 rfl, hm614.at 6 rfl, hm614.at 5 rfl⟩, J20_0.s58 ga9 ga10 ga11 _ hm614⟩
        · refine opd rfl rfl (m_alloc (c := bs 0) (T := 23) hm 12 rfl (run_alN rfl) (fun g615 w616 hm617 => ?_))
          exact ⟨⟨hm617.at 4 rfl, hm617.at 3 rfl, hm617.at 6 rfl, hm617.at 5 rfl⟩, J20_0.s62 ga9 ga10 ga11 g615 _ hm617⟩
      | s44 ga9 ga10 ga12 w1 hm =>
        refine ⟨[5, 14], (by kernel_rfl), by decide, List.forall_mem_cons.2 ⟨?_, List.forall_mem_cons.2 ⟨?_, fun _ h => nomatch h⟩⟩⟩
        · refine opd rfl rfl (m_call hm 57 (.agg (bs (fS (fM (fA p.z p.z) q.z) (fM (fM p.t (fA dN dN)) q.t)))) rfl (run_gSub rfl rfl rfl) (rsub_f (fM (fA p.z p.z) q.z) (fM (fM p.t (fA dN dN)) q.t) (f_lt (fM_lt _ _)) (f_lt (fM_lt _ _)) _) (fun w618 hm619 => ?_))
          exact ⟨⟨hm619.at 4 rfl, hm619.at 3 rfl, hm619.at 6 rfl, hm619.at 5 rfl⟩, J20_0.s59 ga9 ga10 ga12 _ hm619⟩
        · refine opd rfl rfl (m_alloc (c := bs 0) (T := 23) hm 11 rfl (run_alN rfl) (fun g620 w621 hm622 => ?_))
          exact ⟨⟨hm622.at 4 rfl, hm622.at 3 rfl, hm622.at 6 rfl, hm622.at 5 rfl⟩, J20_0.s62 ga9 ga10 g620 ga12 _ (Mm.reorder hm622 [0, 1, 2, 3, 4, 5, 6, 7, 8, 10, 9] (by decide) rfl)⟩
      | s45 ga9 ga11 ga12 w1 hm =>
        refine ⟨[5, 13], (by kernel_rfl), by decide, List.forall_mem_cons.2 ⟨?_, List.forall_mem_cons.2 ⟨?_, fun _ h => nomatch h⟩⟩⟩
        · refine opd rfl rfl (m_call hm 57 (.agg (bs (fS (fM (fA p.z p.z) q.z) (fM (fM p.t (fA dN dN)) q.t)))) rfl (run_gSub rfl rfl rfl) (rsub_f (fM (fA p.z p.z) q.z) (fM (fM p.t (fA dN dN)) q.t) (f_lt (fM_lt _ _)) (f_lt (fM_lt _ _)) _) (fun w623 hm624 => ?_))
          exact ⟨⟨hm624.at 4 rfl, hm624.at 3 rfl, hm624.at 6 rfl, hm624.at 5 rfl⟩, J20_0.s60 ga9 ga11 ga12 _ hm624⟩
        · refine opd rfl rfl (m_alloc (c := bs 0) (T := 23) hm 10 rfl (run_alN rfl) (fun g625 w626 hm627 => ?_))
          exact ⟨⟨hm627.at 4 rfl, hm627.at 3 rfl, hm627.at 6 rfl, hm627.at 5 rfl⟩, J20_0.s62 ga9 g625 ga11 ga12 _ (Mm.reorder hm627 [0, 1, 2, 3, 4, 5, 6, 7, 10, 8, 9] (by decide) rfl)⟩
      | s46 ga10 ga11 ga12 w1 hm =>
        refine ⟨[5, 12], (by kernel_rfl), by decide, List.forall_mem_cons.2 ⟨?_, List.forall_mem_cons.2 ⟨?_, fun _ h => nomatch h⟩⟩⟩
        · refine opd rfl rfl (m_call hm 57 (.agg (bs (fS (fM (fA p.z p.z) q.z) (fM (fM p.t (fA dN dN)) q.t)))) rfl (run_gSub rfl rfl rfl) (rsub_f (fM (fA p.z p.z) q.z) (fM (fM p.t (fA dN dN)) q.t) (f_lt (fM_lt _ _)) (f_lt (fM_lt _ _)) _) (fun w628 hm629 => ?_))
          exact ⟨⟨hm629.at 4 rfl, hm629.at 3 rfl, hm629.at 6 rfl, hm629.at 5 rfl⟩, J20_0.s61 ga10 ga11 ga12 _ hm629⟩
        · refine opd rfl rfl (m_alloc (c := bs 0) (T := 23) hm 9 rfl (run_alN rfl) (fun g630 w631 hm632 => ?_))
          exact ⟨⟨hm632.at 4 rfl, hm632.at 3 rfl, hm632.at 6 rfl, hm632.at 5 rfl⟩, J20_0.s62 g630 ga10 ga11 ga12 _ (Mm.reorder hm632 [0, 1, 2, 3, 4, 5, 6, 10, 7, 8, 9] (by decide) rfl)⟩
      | s47 ga9 ga10 ga11 ga12 w1 hm =>
        refine ⟨[2], (by kernel_rfl), by decide, List.forall_mem_cons.2 ⟨?_, fun _ h => nomatch h⟩⟩
        · refine opd rfl rfl (m_call hm 54 (.agg (bs (fS (fM (fA p.y p.x) (fA q.y q.x)) (fM (fS p.y p.x) (fS q.y q.x))))) rfl (run_gSub rfl rfl rfl) (rsub_f (fM (fA p.y p.x) (fA q.y q.x)) (fM (fS p.y p.x) (fS q.y q.x)) (f_lt (fM_lt _ _)) (f_lt (fM_lt _ _)) _) (fun w633 hm634 => ?_))
          exact ⟨⟨hm634.at 4 rfl, hm634.at 3 rfl, hm634.at 6 rfl, hm634.at 5 rfl⟩, J20_0.s62 ga9 ga10 ga11 ga12 _ hm634⟩
      | s48 ga9 w1 hm =>
        refine ⟨[13, 14, 15], (by kernel_rfl), by decide, List.forall_mem_cons.2 ⟨?_, List.forall_mem_cons.2 ⟨?_, List.forall_mem_cons.2 ⟨?_, fun _ h => nomatch h⟩⟩⟩⟩
        · refine opd rfl rfl (m_alloc (c := bs 0) (T := 23) hm 10 rfl (run_alN rfl) (fun g635 w636 hm637 => ?_))
          exact ⟨⟨hm637.at 4 rfl, hm637.at 3 rfl, hm637.at 6 rfl, hm637.at 5 rfl⟩, J20_0.s63 ga9 g635 _ hm637⟩
        · refine opd rfl rfl (m_alloc (c := bs 0) (T := 23) hm 11 rfl (run_alN rfl) (fun g638 w639 hm640 => ?_))
          exact ⟨⟨hm640.at 4 rfl, hm640.at 3 rfl, hm640.at 6 rfl, hm640.at 5 rfl⟩, J20_0.s64 ga9 g638 _ hm640⟩
        · refine opd rfl rfl (m_alloc (c := bs 0) (T := 23) hm 12 rfl (run_alN rfl) (fun g641 w642 hm643 => ?_))
          exact ⟨⟨hm643.at 4 rfl, hm643.at 3 rfl, hm643.at 6 rfl, hm643.at 5 rfl⟩, J20_0.s65 ga9 g641 _ hm643⟩
      | s49 ga10 w1 hm =>
        refine ⟨[12, 14, 15], (by kernel_rfl), by decide, List.forall_mem_cons.2 ⟨?_, List.forall_mem_cons.2 ⟨?_, List.forall_mem_cons.2 ⟨?_, fun _ h => nomatch h⟩⟩⟩⟩
        · refine opd rfl rfl (m_alloc (c := bs 0) (T := 23) hm 9 rfl (run_alN rfl) (fun g644 w645 hm646 => ?_))
          exact ⟨⟨hm646.at 4 rfl, hm646.at 3 rfl, hm646.at 6 rfl, hm646.at 5 rfl⟩, J20_0.s63 g644 ga10 _ (Mm.reorder hm646 [0, 1, 2, 3, 4, 5, 6, 8, 7] (by decide) rfl)⟩
        · refine opd rfl rfl (m_alloc (c := bs 0) (T := 23) hm 11 rfl (run_alN rfl) (fun g647 w648 hm649 => ?_))
          exact ⟨⟨hm649.at 4 rfl, hm649.at 3 rfl, hm649.at 6 rfl, hm649.at 5 rfl⟩, J20_0.s66 ga10 g647 _ hm649⟩
        · refine opd rfl rfl (m_alloc (c := bs 0) (T := 23) hm 12 rfl (run_alN rfl) (fun g650 w651 hm652 => ?_))
          exact ⟨⟨hm652.at 4 rfl, hm652.at 3 rfl, hm652.at 6 rfl, hm652.at 5 rfl⟩, J20_0.s67 ga10 g650 _ hm652⟩
      | s50 ga11 w1 hm =>
        refine ⟨[12, 13, 15], (by kernel_rfl), by decide, List.forall_mem_cons.2 ⟨?_, List.forall_mem_cons.2 ⟨?_, List.forall_mem_cons.2 ⟨?_, fun _ h => nomatch h⟩⟩⟩⟩
        · refine opd rfl rfl (m_alloc (c := bs 0) (T := 23) hm 9 rfl (run_alN rfl) (fun g653 w654 hm655 => ?_))
          exact ⟨⟨hm655.at 4 rfl, hm655.at 3 rfl, hm655.at 6 rfl, hm655.at 5 rfl⟩, J20_0.s64 g653 ga11 _ (Mm.reorder hm655 [0, 1, 2, 3, 4, 5, 6, 8, 7] (by decide) rfl)⟩
        · refine opd rfl rfl (m_alloc (c := bs 0) (T := 23) hm 10 rfl (run_alN rfl) (fun g656 w657 hm658 => ?_))
          exact ⟨⟨hm658.at 4 rfl, hm658.at 3 rfl, hm658.at 6 rfl, hm658.at 5 rfl⟩, J20_0.s66 g656 ga11 _ (Mm.reorder hm658 [0, 1, 2, 3, 4, 5, 6, 8, 7] (by decide) rfl)⟩
        · refine opd rfl rfl (m_alloc (c := bs 0) (T := 23) hm 12 rfl (run_alN rfl) (fun g659 w660 hm661 => ?_))
          exact ⟨⟨hm661.at 4 rfl, hm661.at 3 rfl, hm661.at 6 rfl, hm661.at 5 rfl⟩, J20_0.s68 ga11 g659 _ hm661⟩
      | s51 ga12 w1 hm =>
        refine ⟨[12, 13, 14], (by kernel_rfl), by decide, List.forall_mem_cons.2 ⟨?_, List.forall_mem_cons.2 ⟨?_, List.forall_mem_cons.2 ⟨?_, fun _ h => nomatch h⟩⟩⟩⟩
        · refine opd rfl rfl (m_alloc (c := bs 0) (T := 23) hm 9 rfl (run_alN rfl) (fun g662 w663 hm664 => ?_))
          exact ⟨⟨hm664.at 4 rfl, hm664.at 3 rfl, hm664.at 6 rfl, hm664.at 5 rfl⟩, J20_0.s65 g662 ga12 _ (Mm.reorder hm664 [0, 1, 2, 3, 4, 5, 6, 8, 7] (by decide) rfl)⟩
        · refine opd rfl rfl (m_alloc (c := bs 0) (T := 23) hm 10 rfl (run_alN rfl) (fun g665 w666 hm667 => ?_))
          exact ⟨⟨hm667.at 4 rfl, hm667.at 3 rfl, hm667.at 6 rfl, hm667.at 5 rfl⟩, J20_0.s67 g665 ga12 _ (Mm.reorder hm667 [0, 1, 2, 3, 4, 5, 6, 8, 7] (by decide) rfl)⟩
        · refine opd rfl rfl (m_alloc (c := bs 0) (T := 23) hm 11 rfl (run_alN rfl) (fun g668 w669 hm670 => ?_))
          exact ⟨⟨hm670.at 4 rfl, hm670.at 3 rfl, hm670.at 6 rfl, hm670.at 5 rfl⟩, J20_0.s68 g668 ga12 _ (Mm.reorder hm670 [0, 1, 2, 3, 4, 5, 6, 8, 7] (by decide) rfl)⟩
      | s52 ga9 ga10 w1 hm =>
        refine ⟨[11, 14, 15], (by kernel_rfl), by decide, List.forall_mem_cons.2 ⟨?_, List.forall_mem_cons.2 ⟨?_, List.forall_mem_cons.2 ⟨?_, fun _ h => nomatch h⟩⟩⟩⟩
        · refine opd rfl rfl (m_call hm 63 (.agg (bs (fA (fM (fA p.y p.x) (fA q.y q.x)) (fM (fS p.y p.x) (fS q.y q.x))))) rfl (run_gAdd rfl rfl rfl) (radd_f (fM (fA p.y p.x) (fA q.y q.x)) (fM (fS p.y p.x) (fS q.y q.x)) (f_lt (fM_lt _ _)) (f_lt (fM_lt _ _)) _) (fun w671 hm672 => ?_))
          exact ⟨⟨hm672.at 4 rfl, hm672.at 3 rfl, hm672.at 6 rfl, hm672.at 5 rfl⟩, J20_0.s63 ga9 ga10 _ hm672⟩
        · refine opd rfl rfl (m_alloc (c := bs 0) (T := 23) hm 11 rfl (run_alN rfl) (fun g673 w674 hm675 => ?_))
          exact ⟨⟨hm675.at 4 rfl, hm675.at 3 rfl, hm675.at 6 rfl, hm675.at 5 rfl⟩, J20_0.s69 ga9 ga10 g673 _ hm675⟩
        · refine opd rfl rfl (m_alloc (c := bs 0) (T := 23) hm 12 rfl (run_alN rfl) (fun g676 w677 hm678 => ?_))
          exact ⟨⟨hm678.at 4 rfl, hm678.at 3 rfl, hm678.at 6 rfl, hm678.at 5 rfl⟩, J20_0.s70 ga9 ga10 g676 _ hm678⟩
      | s53 ga9 ga11 w1 hm =>
        refine ⟨[11, 13, 15], (by kernel_rfl), by decide, List.forall_mem_cons.2 ⟨?_, List.forall_mem_cons.2 ⟨?_, List.forall_mem_cons.2 ⟨?_, fun _ h => nomatch h⟩⟩⟩⟩
        · refine opd rfl rfl (m_call hm 63 (.agg (bs (fA (fM (fA p.y p.x) (fA q.y q.x)) (fM (fS p.y p.x) (fS q.y q.x))))) rfl (run_gAdd rfl rfl rfl) (radd_f (fM (fA p.y p.x) (fA q.y q.x)) (fM (fS p.y p.x) (fS q.y q.x)) (f_lt (fM_lt _ _)) (f_lt (fM_lt _ _)) _) (fun w679 hm680 => ?_))
          exact ⟨⟨hm680.at 4 rfl, hm680.at 3 rfl, hm680.at 6 rfl, hm680.at 5 rfl⟩, J20_0.s64 ga9 ga11 _ hm680⟩
        · refine opd rfl rfl (m_alloc (c := bs 0) (T := 23) hm 10 rfl (run_alN rfl) (fun g681 w682 hm683 => ?_))
          exact ⟨⟨hm683.at 4 rfl, hm683.at 3 rfl, hm683.at 6 rfl, hm683.at 5 rfl⟩, J20_0.s69 ga9 g681 ga11 _ (Mm.reorder hm683 [0, 1, 2, 3, 4, 5, 6, 7, 9, 8] (by decide) rfl)⟩
        · refine opd rfl rfl (m_alloc (c := bs 0) (T := 23) hm 12 rfl (run_alN rfl) (fun g684 w685 hm686 => ?_))
          exact ⟨⟨hm686.at 4 rfl, hm686.at 3 rfl, hm686.at 6 rfl, hm686.at 5 rfl⟩, J20_0.s71 ga9 ga11 g684 _ hm686⟩
      | s54 ga9 ga12 w1 hm =>
        refine ⟨[11, 13, 14], (by kernel_rfl), by decide, List.forall_mem_cons.2 ⟨?_, List.forall_mem_cons.2 ⟨?_, List.forall_mem_cons.2 ⟨?_, fun _ h => nomatch h⟩⟩⟩⟩
        · refine opd rfl rfl (m_call hm 63 (.agg (bs (fA (fM (fA p.y p.x) (fA q.y q.x)) (fM (fS p.y p.x) (fS q.y q.x))))) rfl (run_gAdd rfl rfl rfl) (radd_f (fM (fA p.y p.x) (fA q.y q.x)) (fM (fS p.y p.x) (fS q.y q.x)) (f_lt (fM_lt _ _)) (f_lt (fM_lt _ _)) _) (fun w687 hm688 => ?_))
          exact ⟨⟨hm688.at 4 rfl, hm688.at 3 rfl, hm688.at 6 rfl, hm688.at 5 rfl⟩, J20_0.s65 ga9 ga12 _ hm688⟩
        · refine opd rfl rfl (m_alloc (c := bs 0) (T := 23) hm 10 rfl (run_alN rfl) (fun g689 w690 hm691 => ?_))
          exact ⟨⟨hm691.at 4 rfl, hm691.at 3 rfl, hm691.at 6 rfl, hm691.at 5 rfl⟩, J20_0.s70 ga9 g689 ga12 _ (Mm.reorder hm691 [0, 1, 2, 3, 4, 5, 6, 7, 9, 8] (by decide) rfl)⟩
        · refine opd rfl rfl (m_alloc (c := bs 0) (T := 23) hm 11 rfl (run_alN rfl) (fun g692 w693 hm694 => ?_))
          exact ⟨⟨hm694.at 4 rfl, hm694.at 3 rfl, hm694.at 6 rfl, hm694.at 5 rfl⟩, J20_0.s71 ga9 g692 ga12 _ (Mm.reorder hm694 [0, 1, 2, 3, 4, 5, 6, 7, 9, 8] (by decide) rfl)⟩
      | s55 ga10 ga11 w1 hm =>
        refine ⟨[11, 12, 15], (by kernel_rfl), by decide, List.forall_mem_cons.2 ⟨?_, List.forall_mem_cons.2 ⟨?_, List.forall_mem_cons.2 ⟨?_, fun _ h => nomatch h⟩⟩⟩⟩
        · refine opd rfl rfl (m_call hm 63 (.agg (bs (fA (fM (fA p.y p.x) (fA q.y q.x)) (fM (fS p.y p.x) (fS q.y q.x))))) rfl (run_gAdd rfl rfl rfl) (radd_f (fM (fA p.y p.x) (fA q.y q.x)) (fM (fS p.y p.x) (fS q.y q.x)) (f_lt (fM_lt _ _)) (f_lt (fM_lt _ _)) _) (fun w695 hm696 => ?_))
          exact ⟨⟨hm696.at 4 rfl, hm696.at 3 rfl, hm696.at 6 rfl, hm696.at 5 rfl⟩, J20_0.s66 ga10 ga11 _ hm696⟩
        · refine opd rfl rfl (m_alloc (c := bs 0) (T := 23) hm 9 rfl (run_alN rfl) (fun g697 w698 hm699 => ?_))
          exact ⟨⟨hm699.at 4 rfl, hm699.at 3 rfl, hm699.at 6 rfl, hm699.at 5 rfl⟩, J20_0.s69 g697 ga10 ga11 _ (Mm.reorder hm699 [0, 1, 2, 3, 4, 5, 6, 9, 7, 8] (by decide) rfl)⟩
        · refine opd rfl rfl (m_alloc (c := bs 0) (T := 23) hm 12 rfl (run_alN rfl) (fun g700 w701 hm702 => ?_))
          exact ⟨⟨hm702.at 4 rfl, hm702.at 3 rfl, hm702.at 6 rfl, hm702.at 5 rfl⟩, J20_0.s72 ga10 ga11 g700 _ hm702⟩
      | s56 ga10 ga12 w1 hm =>
        refine ⟨[11, 12, 14], (by kernel_rfl), by decide, List.forall_mem_cons.2 ⟨?_, List.forall_mem_cons.2 ⟨?_, List.forall_mem_cons.2 ⟨?_, fun _ h => nomatch h⟩⟩⟩⟩
        · refine opd rfl rfl (m_call hm 63 (.agg (bs (fA (fM (fA p.y p.x) (fA q.y q.x)) (fM (fS p.y p.x) (fS q.y q.x))))) rfl (run_gAdd rfl rfl rfl) (radd_f (fM (fA p.y p.x) (fA q.y q.x)) (fM (fS p.y p.x) (fS q.y q.x)) (f_lt (fM_lt _ _)) (f_lt (fM_lt _ _)) _) (fun w703 hm704 => ?_))
          exact ⟨⟨hm704.at 4 rfl, hm704.at 3 rfl, hm704.at 6 rfl, hm704.at 5 rfl⟩, J20_0.s67 ga10 ga12 _ hm704⟩
        · refine opd rfl rfl (m_alloc (c := bs 0) (T := 23) hm 9 rfl (run_alN rfl) (fun g705 w706 hm707 => ?_))
          exact ⟨⟨hm707.at 4 rfl, hm707.at 3 rfl, hm707.at 6 rfl, hm707.at 5 rfl⟩, J20_0.s70 g705 ga10 ga12 _ (Mm.reorder hm707 [0, 1, 2, 3, 4, 5, 6, 9, 7, 8] (by decide) rfl)⟩
        · refine opd rfl rfl (m_alloc (c := bs 0) (T := 23) hm 11 rfl (run_alN rfl) (fun g708 w709 hm710 => ?_))
          exact ⟨⟨hm710.at 4 rfl, hm710.at 3 rfl, hm710.at 6 rfl, hm710.at 5 rfl⟩, J20_0.s72 ga10 g708 ga12 _ (Mm.reorder hm710 [0, 1, 2, 3, 4, 5, 6, 7, 9, 8] (by decide) rfl)⟩
      | s57 ga11 ga12 w1 hm =>
        refine ⟨[11, 12, 13], (by kernel_rfl), by decide, List.forall_mem_cons.2 ⟨?_, List.forall_mem_cons.2 ⟨?_, List.forall_mem_cons.2 ⟨?_, fun _ h => nomatch h⟩⟩⟩⟩
        · refine opd rfl rfl (m_call hm 63 (.agg (bs (fA (fM (fA p.y p.x) (fA q.y q.x)) (fM (fS p.y p.x) (fS q.y q.x))))) rfl (run_gAdd rfl rfl rfl) (radd_f (fM (fA p.y p.x) (fA q.y q.x)) (fM (fS p.y p.x) (fS q.y q.x)) (f_lt (fM_lt _ _)) (f_lt (fM_lt _ _)) _) (fun w711 hm712 => ?_))
          exact ⟨⟨hm712.at 4 rfl, hm712.at 3 rfl, hm712.at 6 rfl, hm712.at 5 rfl⟩, J20_0.s68 ga11 ga12 _ hm712⟩
        · refine opd rfl rfl (m_alloc (c := bs 0) (T := 23) hm 9 rfl (run_alN rfl) (fun g713 w714 hm715 => ?_))
          exact ⟨⟨hm715.at 4 rfl, hm715.at 3 rfl, hm715.at 6 rfl, hm715.at 5 rfl⟩, J20_0.s71 g713 ga11 ga12 _ (Mm.reorder hm715 [0, 1, 2, 3, 4, 5, 6, 9, 7, 8] (by decide) rfl)⟩
        · refine opd rfl rfl (m_alloc (c := bs 0) (T := 23) hm 10 rfl (run_alN rfl) (fun g716 w717 hm718 => ?_))
          exact ⟨⟨hm718.at 4 rfl, hm718.at 3 rfl, hm718.at 6 rfl, hm718.at 5 rfl⟩, J20_0.s72 g716 ga11 ga12 _ (Mm.reorder hm718 [0, 1, 2, 3, 4, 5, 6, 9, 7, 8] (by decide) rfl)⟩
      | s58 ga9 ga10 ga11 w1 hm =>
        refine ⟨[8, 15], (by kernel_rfl), by decide, List.forall_mem_cons.2 ⟨?_, List.forall_mem_cons.2 ⟨?_, fun _ h => nomatch h⟩⟩⟩
        · refine opd rfl rfl (m_call hm 60 (.agg (bs (fA (fM (fA p.z p.z) q.z) (fM (fM p.t (fA dN dN)) q.t)))) rfl (run_gAdd rfl rfl rfl) (radd_f (fM (fA p.z p.z) q.z) (fM (fM p.t (fA dN dN)) q.t) (f_lt (fM_lt _ _)) (f_lt (fM_lt _ _)) _) (fun w719 hm720 => ?_))
          exact ⟨⟨hm720.at 4 rfl, hm720.at 3 rfl, hm720.at 6 rfl, hm720.at 5 rfl⟩, J20_0.s69 ga9 ga10 ga11 _ hm720⟩
        · refine opd rfl rfl (m_alloc (c := bs 0) (T := 23) hm 12 rfl (run_alN rfl) (fun g721 w722 hm723 => ?_))
          exact ⟨⟨hm723.at 4 rfl, hm723.at 3 rfl, hm723.at 6 rfl, hm723.at 5 rfl⟩, J20_0.s73 ga9 ga10 ga11 g721 _ hm723⟩
      | s59 ga9 ga10 ga12 w1 hm =>
        refine ⟨[8, 14], (by kernel_rfl), by decide, List.forall_mem_cons.2 ⟨?_, List.forall_mem_cons.2 ⟨?_, fun _ h => nomatch h⟩⟩⟩
        · refine opd rfl rfl (m_call hm 60 (.agg (bs (fA (fM (fA p.z p.z) q.z) (fM (fM p.t (fA dN dN)) q.t)))) rfl (run_gAdd rfl rfl rfl) (radd_f (fM (fA p.z p.z) q.z) (fM (fM p.t (fA dN dN)) q.t) (f_lt (fM_lt _ _)) (f_lt (fM_lt _ _)) _) (fun w724 hm725 => ?_))
          exact ⟨⟨hm725.at 4 rfl, hm725.at 3 rfl, hm725.at 6 rfl, hm725.at 5 rfl⟩, J20_0.s70 ga9 ga10 ga12 _ hm725⟩
        · refine opd rfl rfl (m_alloc (c := bs 0) (T := 23) hm 11 rfl (run_alN rfl) (fun g726 w727 hm728 => ?_))
          exact ⟨⟨hm728.at 4 rfl, hm728.at 3 rfl, hm728.at 6 rfl, hm728.at 5 rfl⟩, J20_0.s73 ga9 ga10 g726 ga12 _ (Mm.reorder hm728 [0, 1, 2, 3, 4, 5, 6, 7, 8, 10, 9] (by decide) rfl)⟩
      | s60 ga9 ga11 ga12 w1 hm =>
        refine ⟨[8, 13], (by kernel_rfl), by decide, List.forall_mem_cons.2 ⟨?_, List.forall_mem_cons.2 ⟨?_, fun _ h => nomatch h⟩⟩⟩
        · refine opd rfl rfl (m_call hm 60 (.agg (bs (fA (fM (fA p.z p.z) q.z) (fM (fM p.t (fA dN dN)) q.t)))) rfl (run_gAdd rfl rfl rfl) (radd_f (fM (fA p.z p.z) q.z) (fM (fM p.t (fA dN dN)) q.t) (f_lt (fM_lt _ _)) (f_lt (fM_lt _ _)) _) (fun w729 hm730 => ?_))
          exact ⟨⟨hm730.at 4 rfl, hm730.at 3 rfl, hm730.at 6 rfl, hm730.at 5 rfl⟩, J20_0.s71 ga9 ga11 ga12 _ hm730⟩
        · refine opd rfl rfl (m_alloc (c := bs 0) (T := 23) hm 10 rfl (run_alN rfl) (fun g731 w732 hm733 => ?_))
          exact ⟨⟨hm733.at 4 rfl, hm733.at 3 rfl, hm733.at 6 rfl, hm733.at 5 rfl⟩, J20_0.s73 ga9 g731 ga11 ga12 _ (Mm.reorder hm733 [0, 1, 2, 3, 4, 5, 6, 7, 10, 8, 9] (by decide) rfl)⟩
      | s61 ga10 ga11 ga12 w1 hm =>
        refine ⟨[8, 12], (by kernel_rfl), by decide, List.forall_mem_cons.2 ⟨?_, List.forall_mem_cons.2 ⟨?_, fun _ h => nomatch h⟩⟩⟩
        · refine opd rfl rfl (m_call hm 60 (.agg (bs (fA (fM (fA p.z p.z) q.z) (fM (fM p.t (fA dN dN)) q.t)))) rfl (run_gAdd rfl rfl rfl) (radd_f (fM (fA p.z p.z) q.z) (fM (fM p.t (fA dN dN)) q.t) (f_lt (fM_lt _ _)) (f_lt (fM_lt _ _)) _) (fun w734 hm735 => ?_))
          exact ⟨⟨hm735.at 4 rfl, hm735.at 3 rfl, hm735.at 6 rfl, hm735.at 5 rfl⟩, J20_0.s72 ga10 ga11 ga12 _ hm735⟩
        · refine opd rfl rfl (m_alloc (c := bs 0) (T := 23) hm 9 rfl (run_alN rfl) (fun g736 w737 hm738 => ?_))
          exact ⟨⟨hm738.at 4 rfl, hm738.at 3 rfl, hm738.at 6 rfl, hm738.at 5 rfl⟩, J20_0.s73 g736 ga10 ga11 ga12 _ (Mm.reorder hm738 [0, 1, 2, 3, 4, 5, 6, 10, 7, 8, 9] (by decide) rfl)⟩
      | s62 ga9 ga10 ga11 ga12 w1 hm =>
        refine ⟨[5], (by kernel_rfl), by decide, List.forall_mem_cons.2 ⟨?_, fun _ h => nomatch h⟩⟩
        · refine opd rfl rfl (m_call hm 57 (.agg (bs (fS (fM (fA p.z p.z) q.z) (fM (fM p.t (fA dN dN)) q.t)))) rfl (run_gSub rfl rfl rfl) (rsub_f (fM (fA p.z p.z) q.z) (fM (fM p.t (fA dN dN)) q.t) (f_lt (fM_lt _ _)) (f_lt (fM_lt _ _)) _) (fun w739 hm740 => ?_))
          exact ⟨⟨hm740.at 4 rfl, hm740.at 3 rfl, hm740.at 6 rfl, hm740.at 5 rfl⟩, J20_0.s73 ga9 ga10 ga11 ga12 _ hm740⟩
      | s63 ga9 ga10 w1 hm =>
        refine ⟨[14, 15], (by kernel_rfl), by decide, List.forall_mem_cons.2 ⟨?_, List.forall_mem_cons.2 ⟨?_, fun _ h => nomatch h⟩⟩⟩
        · refine opd rfl rfl (m_alloc (c := bs 0) (T := 23) hm 11 rfl (run_alN rfl) (fun g741 w742 hm743 => ?_))
          exact ⟨⟨hm743.at 4 rfl, hm743.at 3 rfl, hm743.at 6 rfl, hm743.at 5 rfl⟩, J20_0.s74 ga9 ga10 g741 _ hm743⟩
        · refine opd rfl rfl (m_alloc (c := bs 0) (T := 23) hm 12 rfl (run_alN rfl) (fun g744 w745 hm746 => ?_))
          exact ⟨⟨hm746.at 4 rfl, hm746.at 3 rfl, hm746.at 6 rfl, hm746.at 5 rfl⟩, J20_0.s75 ga9 ga10 g744 _ hm746⟩
      | s64 ga9 ga11 w1 hm =>
        refine ⟨[13, 15], (by kernel_rfl), by decide, List.forall_mem_cons.2 ⟨?_, List.forall_mem_cons.2 ⟨?_, fun _ h => nomatch h⟩⟩⟩
        · refine opd rfl rfl (m_alloc (c := bs 0) (T := 23) hm 10 rfl (run_alN rfl) (fun g747 w748 hm749 => ?_))
          exact ⟨⟨hm749.at 4 rfl, hm749.at 3 rfl, hm749.at 6 rfl, hm749.at 5 rfl⟩, J20_0.s74 ga9 g747 ga11 _ (Mm.reorder hm749 [0, 1, 2, 3, 4, 5, 6, 7, 9, 8] (by decide) rfl)⟩
        · refine opd rfl rfl (m_alloc (c := bs 0) (T := 23) hm 12 rfl (run_alN rfl) (fun g750 w751 hm752 => ?_))
          exact ⟨⟨hm752.at 4 rfl, hm752.at 3 rfl, hm752.at 6 rfl, hm752.at 5 rfl⟩, J20_0.s76 ga9 ga11 g750 _ hm752⟩
      | s65 ga9 ga12 w1 hm =>
        refine ⟨[13, 14], (by kernel_rfl), by decide, List.forall_mem_cons.2 ⟨?_, List.forall_mem_cons.2 ⟨?_, fun _ h => nomatch h⟩⟩⟩
        · refine opd rfl rfl (m_alloc (c := bs 0) (T := 23) hm 10 rfl (run_alN rfl) (fun g753 w754 hm755 => ?_))
          exact ⟨⟨hm755.at 4 rfl, hm755.at 3 rfl, hm755.at 6 rfl, hm755.at 5 rfl⟩, J20_0.s75 ga9 g753 ga12 _ (Mm.reorder hm755 [0, 1, 2, 3, 4, 5, 6, 7, 9, 8] (by decide) rfl)⟩
        · refine opd rfl rfl (m_alloc (c := bs 0) (T := 23) hm 11 rfl (run_alN rfl) (fun g756 w757 hm758 => ?_))
          exact ⟨⟨hm758.at 4 rfl, hm758.at 3 rfl, hm758.at 6 rfl, hm758.at 5 rfl⟩, J20_0.s76 ga9 g756 ga12 _ (Mm.reorder hm758 [0, 1, 2, 3, 4, 5, 6, 7, 9, 8] (by decide) rfl)⟩
      | s66 ga10 ga11 w1 hm =>
        refine ⟨[12, 15], (by kernel_rfl), by decide, List.forall_mem_cons.2 ⟨?_, List.forall_mem_cons.2 ⟨?_, fun _ h => nomatch h⟩⟩⟩
        · refine opd rfl rfl (m_alloc (c := bs 0) (T := 23) hm 9 rfl (run_alN rfl) (fun g759 w760 hm761 => ?_))
          exact ⟨⟨hm761.at 4 rfl, hm761.at 3 rfl, hm761.at 6 rfl, hm761.at 5 rfl⟩, J20_0.s74 g759 ga10 ga11 _ (Mm.reorder hm761 [0, 1, 2, 3, 4, 5, 6, 9, 7, 8] (by decide) rfl)⟩
        · refine opd rfl rfl (m_alloc (c := bs 0) (T := 23) hm 12 rfl (run_alN rfl) (fun g762 w763 hm764 => ?_))
          exact ⟨⟨hm764.at 4 rfl, hm764.at 3 rfl, hm764.at 6 rfl, hm764.at 5 rfl⟩, J20_0.s77 ga10 ga11 g762 _ hm764⟩
      | s67 ga10 ga12 w1 hm =>
        refine ⟨[12, 14], (by kernel_rfl), by decide, List.forall_mem_cons.2 ⟨?_, List.forall_mem_cons.2 ⟨?_, fun _ h => nomatch h⟩⟩⟩
        · refine opd rfl rfl (m_alloc (c := bs 0) (T := 23) hm 9 rfl (run_alN rfl) (fun g765 w766 hm767 => ?_))
          exact ⟨⟨hm767.at 4 rfl, hm767.at 3 rfl, hm767.at 6 rfl, hm767.at 5 rfl⟩, J20_0.s75 g765 ga10 ga12 _ (Mm.reorder hm767 [0, 1, 2, 3, 4, 5, 6, 9, 7, 8] (by decide) rfl)⟩
        · refine opd rfl rfl (m_alloc (c := bs 0) (T := 23) hm 11 rfl (run_alN rfl) (fun g768 w769 hm770 => ?_))
          exact ⟨⟨hm770.at 4 rfl, hm770.at 3 rfl, hm770.at 6 rfl, hm770.at 5 rfl⟩, J20_0.s77 ga10 g768 ga12 _ (Mm.reorder hm770 [0, 1, 2, 3, 4, 5, 6, 7, 9, 8] (by decide) rfl)⟩
      | s68 ga11 ga12 w1 hm =>
        refine ⟨[12, 13], (by kernel_rfl), by decide, List.forall_mem_cons.2 ⟨?_, List.forall_mem_cons.2 ⟨?_, fun _ h => nomatch h⟩⟩⟩
        · refine opd rfl rfl (m_alloc (c := bs 0) (T := 23) hm 9 rfl (run_alN rfl) (fun g771 w772 hm773 => ?_))
          exact ⟨⟨hm773.at 4 rfl, hm773.at 3 rfl, hm773.at 6 rfl, hm773.at 5 rfl⟩, J20_0.s76 g771 ga11 ga12 _ (Mm.reorder hm773 [0, 1, 2, 3, 4, 5, 6, 9, 7, 8] (by decide) rfl)⟩
        · refine opd rfl rfl (m_alloc (c := bs 0) (T := 23) hm 10 rfl (run_alN rfl) (fun g774 w775 hm776 => ?_))
          exact ⟨⟨hm776.at 4 rfl, hm776.at 3 rfl, hm776.at 6 rfl, hm776.at 5 rfl⟩, J20_0.s77 g774 ga11 ga12 _ (Mm.reorder hm776 [0, 1, 2, 3, 4, 5, 6, 9, 7, 8] (by decide) rfl)⟩
      | s69 ga9 ga10 ga11 w1 hm =>
        refine ⟨[11, 15], (by kernel_rfl), by decide, List.forall_mem_cons.2 ⟨?_, List.forall_mem_cons.2 ⟨?_, fun _ h => nomatch h⟩⟩⟩
        · refine opd rfl rfl (m_call hm 63 (.agg (bs (fA (fM (fA p.y p.x) (fA q.y q.x)) (fM (fS p.y p.x) (fS q.y q.x))))) rfl (run_gAdd rfl rfl rfl) (radd_f (fM (fA p.y p.x) (fA q.y q.x)) (fM (fS p.y p.x) (fS q.y q.x)) (f_lt (fM_lt _ _)) (f_lt (fM_lt _ _)) _) (fun w777 hm778 => ?_))
          exact ⟨⟨hm778.at 4 rfl, hm778.at 3 rfl, hm778.at 6 rfl, hm778.at 5 rfl⟩, J20_0.s74 ga9 ga10 ga11 _ hm778⟩
        · refine opd rfl rfl (m_alloc (c := bs 0) (T := 23) hm 12 rfl (run_alN rfl) (fun g779 w780 hm781 => ?_))
          exact ⟨⟨hm781.at 4 rfl, hm781.at 3 rfl, hm781.at 6 rfl, hm781.at 5 rfl⟩, J20_0.s78 ga9 ga10 ga11 g779 _ hm781⟩
      | s70 ga9 ga10 ga12 w1 hm =>
        refine ⟨[11, 14], (by kernel_rfl), by decide, List.forall_mem_cons.2 ⟨?_, List.forall_mem_cons.2 ⟨?_, fun _ h => nomatch h⟩⟩⟩
        · refine opd rfl rfl (m_call hm 63 (.agg (bs (fA (fM (fA p.y p.x) (fA q.y q.x)) (fM (fS p.y p.x) (fS q.y q.x))))) rfl (run_gAdd rfl rfl rfl) (radd_f (fM (fA p.y p.x) (fA q.y q.x)) (fM (fS p.y p.x) (fS q.y q.x)) (f_lt (fM_lt _ _)) (f_lt (fM_lt _ _)) _) (fun w782 hm783 => ?_))
          exact ⟨⟨hm783.at 4 rfl, hm783.at 3 rfl, hm783.at 6 rfl, hm783.at 5 rfl⟩, J20_0.s75 ga9 ga10 ga12 _ hm783⟩
        · refine opd rfl rfl (m_alloc (c := bs 0) (T := 23) hm 11 rfl (run_alN rfl) (fun g784 w785 hm786 => ?_))
          exact ⟨⟨hm786.at 4 rfl, hm786.at 3 rfl, hm786.at 6 rfl, hm786.at 5 rfl⟩, J20_0.s78 ga9 ga10 g784 ga12 _ (Mm.reorder hm786 [0, 1, 2, 3, 4, 5, 6, 7, 8, 10, 9] (by decide) rfl)⟩
      | s71 ga9 ga11 ga12 w1 hm =>
        refine ⟨[11, 13], (by kernel_rfl), by decide, List.forall_mem_cons.2 ⟨?_, List.forall_mem_cons.2 ⟨?_, fun _ h => nomatch h⟩⟩⟩
        · refine opd rfl rfl (m_call hm 63 (.agg (bs (fA (fM (fA p.y p.x) (fA q.y q.x)) (fM (fS p.y p.x) (fS q.y q.x))))) rfl (run_gAdd rfl rfl rfl) (radd_f (fM (fA p.y p.x) (fA q.y q.x)) (fM (fS p.y p.x) (fS q.y q.x)) (f_lt (fM_lt _ _)) (f_lt (fM_lt _ _)) _) (fun w787 hm788 => ?_))
          exact ⟨⟨hm788.at 4 rfl, hm788.at 3 rfl, hm788.at 6 rfl, hm788.at 5 rfl⟩, J20_0.s76 ga9 ga11 ga12 _ hm788⟩
        · refine opd rfl rfl (m_alloc (c := bs 0) (T := 23) hm 10 rfl (run_alN rfl) (fun g789 w790 hm791 => ?_))
          exact ⟨⟨hm791.at 4 rfl, hm791.at 3 rfl, hm791.at 6 rfl, hm791.at 5 rfl⟩, J20_0.s78 ga9 g789 ga11 ga12 _ (Mm.reorder hm791 [0, 1, 2, 3, 4, 5, 6, 7, 10, 8, 9] (by decide) rfl)⟩
      | s72 ga10 ga11 ga12 w1 hm =>
        refine ⟨[11, 12], (by kernel_rfl), by decide, List.forall_mem_cons.2 ⟨?_, List.forall_mem_cons.2 ⟨?_, fun _ h => nomatch h⟩⟩⟩
        · refine opd rfl rfl (m_call hm 63 (.agg (bs (fA (fM (fA p.y p.x) (fA q.y q.x)) (fM (fS p.y p.x) (fS q.y q.x))))) rfl (run_gAdd rfl rfl rfl) (radd_f (fM (fA p.y p.x) (fA q.y q.x)) (fM (fS p.y p.x) (fS q.y q.x)) (f_lt (fM_lt _ _)) (f_lt (fM_lt _ _)) _) (fun w792 hm793 => ?_))
          exact ⟨⟨hm793.at 4 rfl, hm793.at 3 rfl, hm793.at 6 rfl, hm793.at 5 rfl⟩, J20_0.s77 ga10 ga11 ga12 _ hm793⟩
        · refine opd rfl rfl (m_alloc (c := bs 0) (T := 23) hm 9 rfl (run_alN rfl) (fun g794 w795 hm796 => ?_))
          exact ⟨⟨hm796.at 4 rfl, hm796.at 3 rfl, hm796.at 6 rfl, hm796.at 5 rfl⟩, J20_0.s78 g794 ga10 ga11 ga12 _ (Mm.reorder hm796 [0, 1, 2, 3, 4, 5, 6, 10, 7, 8, 9] (by decide) rfl)⟩
      | s73 ga9 ga10 ga11 ga12 w1 hm =>
        refine ⟨[8], (by kernel_rfl), by decide, List.forall_mem_cons.2 ⟨?_, fun _ h => nomatch h⟩⟩
        · refine opd rfl rfl (m_call hm 60 (.agg (bs (fA (fM (fA p.z p.z) q.z) (fM (fM p.t (fA dN dN)) q.t)))) rfl (run_gAdd rfl rfl rfl) (radd_f (fM (fA p.z p.z) q.z) (fM (fM p.t (fA dN dN)) q.t) (f_lt (fM_lt _ _)) (f_lt (fM_lt _ _)) _) (fun w797 hm798 => ?_))
          exact ⟨⟨hm798.at 4 rfl, hm798.at 3 rfl, hm798.at 6 rfl, hm798.at 5 rfl⟩, J20_0.s78 ga9 ga10 ga11 ga12 _ hm798⟩
      | s74 ga9 ga10 ga11 w1 hm =>
        refine ⟨[15], (by kernel_rfl), by decide, List.forall_mem_cons.2 ⟨?_, fun _ h => nomatch h⟩⟩
        · refine opd rfl rfl (m_alloc (c := bs 0) (T := 23) hm 12 rfl (run_alN rfl) (fun g799 w800 hm801 => ?_))
          exact ⟨⟨hm801.at 4 rfl, hm801.at 3 rfl, hm801.at 6 rfl, hm801.at 5 rfl⟩, J20_0.s79 ga9 ga10 ga11 g799 _ hm801⟩
      | s75 ga9 ga10 ga12 w1 hm =>
        refine ⟨[14], (by kernel_rfl), by decide, List.forall_mem_cons.2 ⟨?_, fun _ h => nomatch h⟩⟩
        · refine opd rfl rfl (m_alloc (c := bs 0) (T := 23) hm 11 rfl (run_alN rfl) (fun g802 w803 hm804 => ?_))
          exact ⟨⟨hm804.at 4 rfl, hm804.at 3 rfl, hm804.at 6 rfl, hm804.at 5 rfl⟩, J20_0.s79 ga9 ga10 g802 ga12 _ (Mm.reorder hm804 [0, 1, 2, 3, 4, 5, 6, 7, 8, 10, 9] (by decide) rfl)⟩
      | s76 ga9 ga11 ga12 w1 hm =>
        refine ⟨[13], (by kernel_rfl), by decide, List.forall_mem_cons.2 ⟨?_, fun _ h => nomatch h⟩⟩
        · refine opd rfl rfl (m_alloc (c := bs 0) (T := 23) hm 10 rfl (run_alN rfl) (fun g805 w806 hm807 => ?_))
          exact ⟨⟨hm807.at 4 rfl, hm807.at 3 rfl, hm807.at 6 rfl, hm807.at 5 rfl⟩, J20_0.s79 ga9 g805 ga11 ga12 _ (Mm.reorder hm807 [0, 1, 2, 3, 4, 5, 6, 7, 10, 8, 9] (by decide) rfl)⟩
      | s77 ga10 ga11 ga12 w1 hm =>
        refine ⟨[12], (by kernel_rfl), by decide, List.forall_mem_cons.2 ⟨?_, fun _ h => nomatch h⟩⟩
        · refine opd rfl rfl (m_alloc (c := bs 0) (T := 23) hm 9 rfl (run_alN rfl) (fun g808 w809 hm810 => ?_))
          exact ⟨⟨hm810.at 4 rfl, hm810.at 3 rfl, hm810.at 6 rfl, hm810.at 5 rfl⟩, J20_0.s79 g808 ga10 ga11 ga12 _ (Mm.reorder hm810 [0, 1, 2, 3, 4, 5, 6, 10, 7, 8, 9] (by decide) rfl)⟩
      | s78 ga9 ga10 ga11 ga12 w1 hm =>
        refine ⟨[11], (by kernel_rfl), by decide, List.forall_mem_cons.2 ⟨?_, fun _ h => nomatch h⟩⟩
        · refine opd rfl rfl (m_call hm 63 (.agg (bs (fA (fM (fA p.y p.x) (fA q.y q.x)) (fM (fS p.y p.x) (fS q.y q.x))))) rfl (run_gAdd rfl rfl rfl) (radd_f (fM (fA p.y p.x) (fA q.y q.x)) (fM (fS p.y p.x) (fS q.y q.x)) (f_lt (fM_lt _ _)) (f_lt (fM_lt _ _)) _) (fun w811 hm812 => ?_))
          exact ⟨⟨hm812.at 4 rfl, hm812.at 3 rfl, hm812.at 6 rfl, hm812.at 5 rfl⟩, J20_0.s79 ga9 ga10 ga11 ga12 _ hm812⟩
      | s79 ga9 ga10 ga11 ga12 w1 hm =>
        refine ⟨[16], (by kernel_rfl), by decide, List.forall_mem_cons.2 ⟨?_, fun _ h => nomatch h⟩⟩
        · refine opd rfl rfl (m_store 7 23 _ _ (bs (fS (fM (fA p.y p.x) (fA q.y q.x)) (fM (fS p.y p.x) (fS q.y q.x)))) (old := bs 0) hm rfl rfl rfl rfl rfl (by rw [bs_sz]; exact info_b) ((bs_sz _).trans (bs_sz _).symm) (bs_one _) (fun w813 hm814 => ?_))
          exact ⟨⟨hm814.at 4 rfl, hm814.at 3 rfl, hm814.at 6 rfl, hm814.at 5 rfl⟩, J20_0.s80 ga9 ga10 ga11 ga12 _ hm814⟩
      | s80 ga9 ga10 ga11 ga12 w1 hm =>
        refine ⟨[17], (by kernel_rfl), by decide, List.forall_mem_cons.2 ⟨?_, fun _ h => nomatch h⟩⟩
        · refine opd rfl rfl (m_store 8 23 _ _ (bs (fS (fM (fA p.z p.z) q.z) (fM (fM p.t (fA dN dN)) q.t))) (old := bs 0) hm rfl rfl rfl rfl rfl (by rw [bs_sz]; exact info_b) ((bs_sz _).trans (bs_sz _).symm) (bs_one _) (fun w815 hm816 => ?_))
          exact ⟨⟨hm816.at 4 rfl, hm816.at 3 rfl, hm816.at 6 rfl, hm816.at 5 rfl⟩, J20_0.s81 ga9 ga10 ga11 ga12 _ hm816⟩
      | s81 ga9 ga10 ga11 ga12 w1 hm =>
        refine ⟨[18], (by kernel_rfl), by decide, List.forall_mem_cons.2 ⟨?_, fun _ h => nomatch h⟩⟩
        · refine opd rfl rfl (m_store 9 23 _ _ (bs (fA (fM (fA p.z p.z) q.z) (fM (fM p.t (fA dN dN)) q.t))) (old := bs 0) hm rfl rfl rfl rfl rfl (by rw [bs_sz]; exact info_b) ((bs_sz _).trans (bs_sz _).symm) (bs_one _) (fun w817 hm818 => ?_))
          exact ⟨⟨hm818.at 4 rfl, hm818.at 3 rfl, hm818.at 6 rfl, hm818.at 5 rfl⟩, J20_0.s82 ga9 ga10 ga11 ga12 _ hm818⟩
      | s82 ga9 ga10 ga11 ga12 w1 hm =>
        refine ⟨[19], (by kernel_rfl), by decide, List.forall_mem_cons.2 ⟨?_, fun _ h => nomatch h⟩⟩
        · refine opd rfl rfl (m_store 10 23 _ _ (bs (fA (fM (fA p.y p.x) (fA q.y q.x)) (fM (fS p.y p.x) (fS q.y q.x)))) (old := bs 0) hm rfl rfl rfl rfl rfl (by rw [bs_sz]; exact info_b) ((bs_sz _).trans (bs_sz _).symm) (bs_one _) (fun w819 hm820 => ?_))
          exact ⟨⟨hm820.at 4 rfl, hm820.at 3 rfl, hm820.at 6 rfl, hm820.at 5 rfl⟩, J20_0.s83 ga9 ga10 ga11 ga12 _ hm820⟩
    · intro L a w1 h
      cases h with
      | s83 ga9 ga10 ga11 ga12 w1 hm =>
        exact ⟨(by kernel_rfl), rfl, ga9, ga10, ga11, ga12, rfl, hm⟩
  clear hm201
  rintro _ _ w821 ⟨rfl, ga9, ga10, ga11, ga12, rfl, hm822⟩
  refine then_n (hK202 _ _ ?_)
  refine wp_seq_k (fun K823 hK823 => ?_)
  have hm824 := hm822.drew
  refine wp_region_held_drew (S := fun w' => Sym.Blk w' ga9 (bs (fS (fM (fA p.y p.x) (fA q.y q.x)) (fM (fS p.y p.x) (fS q.y q.x)))) 23 ∧ Sym.Blk w' ga10 (bs (fS (fM (fA p.z p.z) q.z) (fM (fM p.t (fA dN dN)) q.t))) 23 ∧ Sym.Blk w' ga11 (bs (fA (fM (fA p.z p.z) q.z) (fM (fM p.t (fA dN dN)) q.t))) 23 ∧ Sym.Blk w' ga12 (bs (fA (fM (fA p.y p.x) (fA q.y q.x)) (fM (fS p.y p.x) (fS q.y q.x)))) 23) (by kernel_rfl) (⟨hm824.at 7 rfl, hm824.at 8 rfl, hm824.at 9 rfl, hm824.at 10 rfl⟩) (fun _ => ?_)
  generalize w821.drew = w825 at *
  refine tk 0 64 (.agg (bs (fS (fM (fA p.y p.x) (fA q.y q.x)) (fM (fS p.y p.x) (fS q.y q.x))))) rfl rfl (fun _ hw => run_row rfl rfl hw.1 Tryd.underlying23 rfl (by rw [bs_sz]; exact info_b)) (⟨hm824.at 7 rfl, hm824.at 8 rfl, hm824.at 9 rfl, hm824.at 10 rfl⟩) ?_
  simp only [nz1, nz2, nz3]
  refine tk 1 65 (.agg (bs (fS (fM (fA p.z p.z) q.z) (fM (fM p.t (fA dN dN)) q.t)))) rfl rfl (fun _ hw => run_row rfl rfl hw.2.1 Tryd.underlying23 rfl (by rw [bs_sz]; exact info_b)) (⟨hm824.at 7 rfl, hm824.at 8 rfl, hm824.at 9 rfl, hm824.at 10 rfl⟩) ?_
  simp only [nz1, nz2, nz3]
  refine tk 3 67 (.agg (bs (fA (fM (fA p.z p.z) q.z) (fM (fM p.t (fA dN dN)) q.t)))) rfl rfl (fun _ hw => run_row rfl rfl hw.2.2.1 Tryd.underlying23 rfl (by rw [bs_sz]; exact info_b)) (⟨hm824.at 7 rfl, hm824.at 8 rfl, hm824.at 9 rfl, hm824.at 10 rfl⟩) ?_
  simp only [nz1, nz2, nz3]
  refine tk 4 68 (.agg (bs (fA (fM (fA p.y p.x) (fA q.y q.x)) (fM (fS p.y p.x) (fS q.y q.x))))) rfl rfl (fun _ hw => run_row rfl rfl hw.2.2.2 Tryd.underlying23 rfl (by rw [bs_sz]; exact info_b)) (⟨hm824.at 7 rfl, hm824.at 8 rfl, hm824.at 9 rfl, hm824.at 10 rfl⟩) ?_
  simp only [nz1, nz2, nz3]
  refine tk 6 70 (.agg (bs (fS (fM (fA p.z p.z) q.z) (fM (fM p.t (fA dN dN)) q.t)))) rfl rfl (fun _ hw => run_row rfl rfl hw.2.1 Tryd.underlying23 rfl (by rw [bs_sz]; exact info_b)) (⟨hm824.at 7 rfl, hm824.at 8 rfl, hm824.at 9 rfl, hm824.at 10 rfl⟩) ?_
  simp only [nz1, nz2, nz3]
  refine tk 7 71 (.agg (bs (fA (fM (fA p.z p.z) q.z) (fM (fM p.t (fA dN dN)) q.t)))) rfl rfl (fun _ hw => run_row rfl rfl hw.2.2.1 Tryd.underlying23 rfl (by rw [bs_sz]; exact info_b)) (⟨hm824.at 7 rfl, hm824.at 8 rfl, hm824.at 9 rfl, hm824.at 10 rfl⟩) ?_
  simp only [nz1, nz2, nz3]
  refine tk 9 73 (.agg (bs (fS (fM (fA p.y p.x) (fA q.y q.x)) (fM (fS p.y p.x) (fS q.y q.x))))) rfl rfl (fun _ hw => run_row rfl rfl hw.1 Tryd.underlying23 rfl (by rw [bs_sz]; exact info_b)) (⟨hm824.at 7 rfl, hm824.at 8 rfl, hm824.at 9 rfl, hm824.at 10 rfl⟩) ?_
  simp only [nz1, nz2, nz3]
  refine tk 10 74 (.agg (bs (fA (fM (fA p.y p.x) (fA q.y q.x)) (fM (fS p.y p.x) (fS q.y q.x))))) rfl rfl (fun _ hw => run_row rfl rfl hw.2.2.2 Tryd.underlying23 rfl (by rw [bs_sz]; exact info_b)) (⟨hm824.at 7 rfl, hm824.at 8 rfl, hm824.at 9 rfl, hm824.at 10 rfl⟩) ?_
  simp only [nz1, nz2, nz3]
  refine one_ready 2 (by kernel_rfl) ?_
  refine opd rfl (wanted_none rfl) (m_call hm824 66 (.agg (bs (fM (fS (fM (fA p.y p.x) (fA q.y q.x)) (fM (fS p.y p.x) (fS q.y q.x))) (fS (fM (fA p.z p.z) q.z) (fM (fM p.t (fA dN dN)) q.t))))) rfl (run_gMul rfl rfl rfl) (rmul_f (fS (fM (fA p.y p.x) (fA q.y q.x)) (fM (fS p.y p.x) (fS q.y q.x))) (fS (fM (fA p.z p.z) q.z) (fM (fM p.t (fA dN dN)) q.t)) (f_lt (fS_lt _ _)) (f_lt (fS_lt _ _)) _) (fun w826 hm827 => ?_))
  refine ⟨⟨hm827.at 7 rfl, hm827.at 8 rfl, hm827.at 9 rfl, hm827.at 10 rfl⟩, ?_⟩
  simp only [nz1, nz2, nz3]
  refine one_ready 5 (by kernel_rfl) ?_
  refine opd rfl (wanted_none rfl) (m_call hm827 69 (.agg (bs (fM (fA (fM (fA p.z p.z) q.z) (fM (fM p.t (fA dN dN)) q.t)) (fA (fM (fA p.y p.x) (fA q.y q.x)) (fM (fS p.y p.x) (fS q.y q.x)))))) rfl (run_gMul rfl rfl rfl) (rmul_f (fA (fM (fA p.z p.z) q.z) (fM (fM p.t (fA dN dN)) q.t)) (fA (fM (fA p.y p.x) (fA q.y q.x)) (fM (fS p.y p.x) (fS q.y q.x))) (f_lt (fA_lt _ _)) (f_lt (fA_lt _ _)) _) (fun w828 hm829 => ?_))
  refine ⟨⟨hm829.at 7 rfl, hm829.at 8 rfl, hm829.at 9 rfl, hm829.at 10 rfl⟩, ?_⟩
  simp only [nz1, nz2, nz3]
  refine one_ready 8 (by kernel_rfl) ?_
  refine opd rfl (wanted_none rfl) (m_call hm829 72 (.agg (bs (fM (fS (fM (fA p.z p.z) q.z) (fM (fM p.t (fA dN dN)) q.t)) (fA (fM (fA p.z p.z) q.z) (fM (fM p.t (fA dN dN)) q.t))))) rfl (run_gMul rfl rfl rfl) (rmul_f (fS (fM (fA p.z p.z) q.z) (fM (fM p.t (fA dN dN)) q.t)) (fA (fM (fA p.z p.z) q.z) (fM (fM p.t (fA dN dN)) q.t)) (f_lt (fS_lt _ _)) (f_lt (fA_lt _ _)) _) (fun w830 hm831 => ?_))
  refine ⟨⟨hm831.at 7 rfl, hm831.at 8 rfl, hm831.at 9 rfl, hm831.at 10 rfl⟩, ?_⟩
  simp only [nz1, nz2, nz3]
  refine one_ready 11 (by kernel_rfl) ?_
  refine opd rfl (wanted_none rfl) (m_call hm831 75 (.agg (bs (fM (fS (fM (fA p.y p.x) (fA q.y q.x)) (fM (fS p.y p.x) (fS q.y q.x))) (fA (fM (fA p.y p.x) (fA q.y q.x)) (fM (fS p.y p.x) (fS q.y q.x)))))) rfl (run_gMul rfl rfl rfl) (rmul_f (fS (fM (fA p.y p.x) (fA q.y q.x)) (fM (fS p.y p.x) (fS q.y q.x))) (fA (fM (fA p.y p.x) (fA q.y q.x)) (fM (fS p.y p.x) (fS q.y q.x))) (f_lt (fS_lt _ _)) (f_lt (fA_lt _ _)) _) (fun w832 hm833 => ?_))
  refine ⟨⟨hm833.at 7 rfl, hm833.at 8 rfl, hm833.at 9 rfl, hm833.at 10 rfl⟩, ?_⟩
  simp only [nz1, nz2, nz3]
  refine tk 12 76 (.agg (pt (fM (fS (fM (fA p.y p.x) (fA q.y q.x)) (fM (fS p.y p.x) (fS q.y q.x))) (fS (fM (fA p.z p.z) q.z) (fM (fM p.t (fA dN dN)) q.t))) (fM (fA (fM (fA p.z p.z) q.z) (fM (fM p.t (fA dN dN)) q.t)) (fA (fM (fA p.y p.x) (fA q.y q.x)) (fM (fS p.y p.x) (fS q.y q.x)))) (fM (fS (fM (fA p.z p.z) q.z) (fM (fM p.t (fA dN dN)) q.t)) (fA (fM (fA p.z p.z) q.z) (fM (fM p.t (fA dN dN)) q.t))) (fM (fS (fM (fA p.y p.x) (fA q.y q.x)) (fM (fS p.y p.x) (fS q.y q.x))) (fA (fM (fA p.y p.x) (fA q.y q.x)) (fM (fS p.y p.x) (fS q.y q.x)))))) rfl rfl (fun _ hw => run_bdP (fM (fS (fM (fA p.y p.x) (fA q.y q.x)) (fM (fS p.y p.x) (fS q.y q.x))) (fS (fM (fA p.z p.z) q.z) (fM (fM p.t (fA dN dN)) q.t))) (fM (fA (fM (fA p.z p.z) q.z) (fM (fM p.t (fA dN dN)) q.t)) (fA (fM (fA p.y p.x) (fA q.y q.x)) (fM (fS p.y p.x) (fS q.y q.x)))) (fM (fS (fM (fA p.z p.z) q.z) (fM (fM p.t (fA dN dN)) q.t)) (fA (fM (fA p.z p.z) q.z) (fM (fM p.t (fA dN dN)) q.t))) (fM (fS (fM (fA p.y p.x) (fA q.y q.x)) (fM (fS p.y p.x) (fS q.y q.x))) (fA (fM (fA p.y p.x) (fA q.y q.x)) (fM (fS p.y p.x) (fS q.y q.x)))) rfl rfl rfl rfl rfl) (⟨hm833.at 7 rfl, hm833.at 8 rfl, hm833.at 9 rfl, hm833.at 10 rfl⟩) ?_
  simp only [nz1, nz2, nz3]
  refine one_ready 13 (by kernel_rfl) ?_
  refine opd rfl (wanted_none rfl) (m_store 2 25 _ _ (pt (fM (fS (fM (fA p.y p.x) (fA q.y q.x)) (fM (fS p.y p.x) (fS q.y q.x))) (fS (fM (fA p.z p.z) q.z) (fM (fM p.t (fA dN dN)) q.t))) (fM (fA (fM (fA p.z p.z) q.z) (fM (fM p.t (fA dN dN)) q.t)) (fA (fM (fA p.y p.x) (fA q.y q.x)) (fM (fS p.y p.x) (fS q.y q.x)))) (fM (fS (fM (fA p.z p.z) q.z) (fM (fM p.t (fA dN dN)) q.t)) (fA (fM (fA p.z p.z) q.z) (fM (fM p.t (fA dN dN)) q.t))) (fM (fS (fM (fA p.y p.x) (fA q.y q.x)) (fM (fS p.y p.x) (fS q.y q.x))) (fA (fM (fA p.y p.x) (fA q.y q.x)) (fM (fS p.y p.x) (fS q.y q.x))))) (old := pt 0 0 0 0) hm833 rfl rfl rfl rfl rfl (by rw [pt_sz]; exact info_p) ((pt_sz _ _ _ _).trans (pt_sz _ _ _ _).symm) (pt_one _ _ _ _) (fun w834 (hm835 : Mm w w834 [(g2, pq p, 25), (g5, pq q, 25), (g8, pt (fM (fS (fM (fA p.y p.x) (fA q.y q.x)) (fM (fS p.y p.x) (fS q.y q.x))) (fS (fM (fA p.z p.z) q.z) (fM (fM p.t (fA dN dN)) q.t))) (fM (fA (fM (fA p.z p.z) q.z) (fM (fM p.t (fA dN dN)) q.t)) (fA (fM (fA p.y p.x) (fA q.y q.x)) (fM (fS p.y p.x) (fS q.y q.x)))) (fM (fS (fM (fA p.z p.z) q.z) (fM (fM p.t (fA dN dN)) q.t)) (fA (fM (fA p.z p.z) q.z) (fM (fM p.t (fA dN dN)) q.t))) (fM (fS (fM (fA p.y p.x) (fA q.y q.x)) (fM (fS p.y p.x) (fS q.y q.x))) (fA (fM (fA p.y p.x) (fA q.y q.x)) (fM (fS p.y p.x) (fS q.y q.x)))), 25), (g20, bs (fM (fS p.y p.x) (fS q.y q.x)), 23), (g63, bs (fM (fA p.y p.x) (fA q.y q.x)), 23), (g110, bs (fM (fM p.t (fA dN dN)) q.t), 23), (g179, bs (fM (fA p.z p.z) q.z), 23), (ga9, bs (fS (fM (fA p.y p.x) (fA q.y q.x)) (fM (fS p.y p.x) (fS q.y q.x))), 23), (ga10, bs (fS (fM (fA p.z p.z) q.z) (fM (fM p.t (fA dN dN)) q.t)), 23), (ga11, bs (fA (fM (fA p.z p.z) q.z) (fM (fM p.t (fA dN dN)) q.t)), 23), (ga12, bs (fA (fM (fA p.y p.x) (fA q.y q.x)) (fM (fS p.y p.x) (fS q.y q.x))), 23)]) => ?_))
  refine ⟨⟨hm835.at 7 rfl, hm835.at 8 rfl, hm835.at 9 rfl, hm835.at 10 rfl⟩, ?_⟩
  refine wpAnyH_done (by kernel_rfl) ?_ _
  have hm836 : Mm w w834 [(g2, pq p, 25), (g5, pq q, 25), (g8, pq (addP p q), 25), (g20, bs (fM (fS p.y p.x) (fS q.y q.x)), 23), (g63, bs (fM (fA p.y p.x) (fA q.y q.x)), 23), (g110, bs (fM (fM p.t (fA dN dN)) q.t), 23), (g179, bs (fM (fA p.z p.z) q.z), 23), (ga9, bs (fS (fM (fA p.y p.x) (fA q.y q.x)) (fM (fS p.y p.x) (fS q.y q.x))), 23), (ga10, bs (fS (fM (fA p.z p.z) q.z) (fM (fM p.t (fA dN dN)) q.t)), 23), (ga11, bs (fA (fM (fA p.z p.z) q.z) (fM (fM p.t (fA dN dN)) q.t)), 23), (ga12, bs (fA (fM (fA p.y p.x) (fA q.y q.x)) (fM (fS p.y p.x) (fS q.y q.x))), 23)] := by rw [show (pq (addP p q) : Array Value) = pt (fM (fS (fM (fA p.y p.x) (fA q.y q.x)) (fM (fS p.y p.x) (fS q.y q.x))) (fS (fM (fA p.z p.z) q.z) (fM (fM p.t (fA dN dN)) q.t))) (fM (fA (fM (fA p.z p.z) q.z) (fM (fM p.t (fA dN dN)) q.t)) (fA (fM (fA p.y p.x) (fA q.y q.x)) (fM (fS p.y p.x) (fS q.y q.x)))) (fM (fS (fM (fA p.z p.z) q.z) (fM (fM p.t (fA dN dN)) q.t)) (fA (fM (fA p.z p.z) q.z) (fM (fM p.t (fA dN dN)) q.t))) (fM (fS (fM (fA p.y p.x) (fA q.y q.x)) (fM (fS p.y p.x) (fS q.y q.x))) (fA (fM (fA p.y p.x) (fA q.y q.x)) (fM (fS p.y p.x) (fS q.y q.x)))) from rfl]; exact hm835
  refine then_n (hK823 _ _ ?_)
  refine wp_ret ?_
  exact ⟨rfl, .agg (pq (addP p q)), res_c rfl rfl (hm836.at 2 rfl) Tryd.underlying25 rfl (by rw [pq_sz]; exact info_p), ⟨rfl, hm836.below⟩⟩
end Go.Proofs.YtfpphinnngblgaaDoor.Fld
