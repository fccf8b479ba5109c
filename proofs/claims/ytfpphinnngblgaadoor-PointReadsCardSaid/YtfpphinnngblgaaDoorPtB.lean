/- Layer 5: what the package offers: zero, opposites, sums. -/
import Derived.Test.YtfpphinnngblgaaDoorPtA
namespace Go.Proofs.YtfpphinnngblgaaDoor.Fld
open Go.RowKit Go.Lib
open Go.Proofs.YtfpphinnngblgaaDoor.Num (val up val_congr val_add val_lt val_up val_digits val_word)
open Go.Proofs.YtfpphinnngblgaaDoor.Arr Go.Proofs.YtfpphinnngblgaaDoor.Sym Go.Proofs.YtfpphinnngblgaaDoor.Sx

set_option maxHeartbeats 1000000 in
set_option maxRecDepth 100000 in
theorem one_any  (w : World) : Calls Tryd.prog 30 #[] w (fun e w' => e = .returned (.agg (bs 1)) ∧ Below w.heap.size w w') := by
  go_enter Tryd.func30, Tryd.ntmps30
  have hm0 := Mm.nil w
  refine wp_seq_k (fun K1 hK1 => ?_)
  refine wp_region_lit ?_
  refine lst (wanted_none rfl) (m_alloc (c := bs 0) (T := 23) hm0 0 rfl (run_alN rfl) (fun g2 w3 (hm4 : Mm w w3 [(g2, bs 0, 23)]) => ?_))
  simp only [nz1, nz2]
  refine wpList_nil ?_
  refine then_n (hK1 _ _ ?_)
  refine wp_seq_k (fun K5 hK5 => ?_)
  refine wp_region_lit ?_
  refine lv 1 (.agg (bs 1)) rfl rfl (by unfold execOp; go_simp; rfl) ?_
  simp only [nz1, nz2, nz3]
  refine lst (wanted_none rfl) (m_store 0 23 _ _ (bs 1) (old := bs 0) hm4 rfl rfl rfl rfl rfl (by rw [bs_sz]; exact info_b) ((bs_sz _).trans (bs_sz _).symm) (bs_one _) (fun w6 (hm7 : Mm w w6 [(g2, bs 1, 23)]) => ?_))
  refine wpList_nil ?_
  refine then_n (hK5 _ _ ?_)
  refine wp_ret ?_
  exact ⟨rfl, .agg (bs 1), res_c rfl rfl (hm7.at 0 rfl) Tryd.underlying23 rfl (by rw [bs_sz]; exact info_b), ⟨rfl, hm7.below⟩⟩
set_option maxHeartbeats 1000000 in
set_option maxRecDepth 100000 in
theorem zero_any  (w : World) : Calls Tryd.prog 25 #[] w (fun e w' => e = .returned (.agg (pq zeroP)) ∧ Below w.heap.size w w') := by
  go_enter Tryd.func25, Tryd.ntmps25
  have hm0 := Mm.nil w
  refine wp_seq_k (fun K1 hK1 => ?_)
  refine wp_region_lit ?_
  refine lst (wanted_none rfl) (m_alloc (c := pt 0 0 0 0) (T := 25) hm0 0 rfl (al_P rfl) (fun g2 w3 (hm4 : Mm w w3 [(g2, pt 0 0 0 0, 25)]) => ?_))
  simp only [nz1, nz2]
  refine wpList_nil ?_
  refine then_n (hK1 _ _ ?_)
  refine wp_seq_k (fun K5 hK5 => ?_)
  refine wp_region_lit ?_
  refine lst (wanted_none rfl) (m_call hm4 1 (.agg (bs 1)) rfl (run_pone rfl) (one_any _) (fun w6 hm7 => ?_))
  simp only [nz1, nz2, nz3]
  refine lst (wanted_none rfl) (m_call hm7 2 (.agg (bs 1)) rfl (run_pone rfl) (one_any _) (fun w8 hm9 => ?_))
  simp only [nz1, nz2, nz3]
  refine lv 3 (.agg (pt 0 1 1 0)) rfl rfl (run_bdZ 1 1 rfl rfl rfl) ?_
  simp only [nz1, nz2, nz3]
  refine lst (wanted_none rfl) (m_store 0 25 _ _ (pt 0 1 1 0) (old := pt 0 0 0 0) hm9 rfl rfl rfl rfl rfl (by rw [pt_sz]; exact info_p) ((pt_sz _ _ _ _).trans (pt_sz _ _ _ _).symm) (pt_one _ _ _ _) (fun w10 (hm11 : Mm w w10 [(g2, pt 0 1 1 0, 25)]) => ?_))
  refine wpList_nil ?_
  have hm12 : Mm w w10 [(g2, pq zeroP, 25)] := by rw [show (pq zeroP : Array Value) = pt 0 1 1 0 from rfl]; exact hm11
  refine then_n (hK5 _ _ ?_)
  refine wp_ret ?_
  exact ⟨rfl, .agg (pq zeroP), res_c rfl rfl (hm12.at 0 rfl) Tryd.underlying25 rfl (by rw [pq_sz]; exact info_p), ⟨rfl, hm12.below⟩⟩
set_option maxHeartbeats 1000000 in
set_option maxRecDepth 100000 in
theorem neg_p (p : Pn) (hp : p.ok) (w : World) : Calls Tryd.prog 17 #[.agg (pq p)] w (fun e w' => e = .returned (.agg (pq (negP p))) ∧ Below w.heap.size w w') := by
  go_enter Tryd.func17, Tryd.ntmps17
  have hm0 := Mm.nil w
  refine wp_seq_k (fun K1 hK1 => ?_)
  refine wp_region_lit ?_
  refine lst (wanted_none rfl) (m_alloc (c := pq p) (T := 25) hm0 1 rfl (run_box rfl rfl) (fun g2 w3 (hm4 : Mm w w3 [(g2, pq p, 25)]) => ?_))
  simp only [nz1, nz2, nz3]
  refine lst (wanted_none rfl) (m_alloc (c := pt 0 0 0 0) (T := 25) hm4 2 rfl (al_P rfl) (fun g5 w6 (hm7 : Mm w w6 [(g2, pq p, 25), (g5, pt 0 0 0 0, 25)]) => ?_))
  simp only [nz1, nz2, nz3]
  refine wpList_nil ?_
  refine then_n (hK1 _ _ ?_)
  refine wp_seq_k (fun K8 hK8 => ?_)
  have hm9 := hm7.drew
  refine wp_region_held_drew (S := fun w' => Sym.Blk w' g2 (pq p) 25) (by kernel_rfl) (hm9.at 0 rfl) (fun _ => ?_)
  generalize w6.drew = w10 at *
  refine tk 0 3 (.pointer (some ⟨g2, 0, none⟩)) rfl rfl (fun _ hw => r_f0 g2 rfl rfl) (hm9.at 0 rfl) ?_
  simp only [nz1, nz2, nz3]
  refine tk 1 4 (.agg (bs p.x)) rfl rfl (fun _ hw => r_c0 (x := p.x) (y := p.y) (z := p.z) (t := p.t) g2 hw rfl rfl) (hm9.at 0 rfl) ?_
  simp only [nz1, nz2, nz3]
  refine tk 3 6 (.pointer (some ⟨g2, 32, none⟩)) rfl rfl (fun _ hw => r_f1 g2 rfl rfl) (hm9.at 0 rfl) ?_
  simp only [nz1, nz2, nz3]
  refine tk 4 7 (.agg (bs p.y)) rfl rfl (fun _ hw => r_c1 (x := p.x) (y := p.y) (z := p.z) (t := p.t) g2 hw rfl rfl) (hm9.at 0 rfl) ?_
  simp only [nz1, nz2, nz3]
  refine tk 6 9 (.pointer (some ⟨g2, 64, none⟩)) rfl rfl (fun _ hw => r_f2 g2 rfl rfl) (hm9.at 0 rfl) ?_
  simp only [nz1, nz2, nz3]
  refine tk 7 10 (.agg (bs p.z)) rfl rfl (fun _ hw => r_c2 (x := p.x) (y := p.y) (z := p.z) (t := p.t) g2 hw rfl rfl) (hm9.at 0 rfl) ?_
  simp only [nz1, nz2, nz3]
  refine tk 9 12 (.pointer (some ⟨g2, 96, none⟩)) rfl rfl (fun _ hw => r_f3 g2 rfl rfl) (hm9.at 0 rfl) ?_
  simp only [nz1, nz2, nz3]
  refine tk 10 13 (.agg (bs p.t)) rfl rfl (fun _ hw => r_c3 (x := p.x) (y := p.y) (z := p.z) (t := p.t) g2 hw rfl rfl) (hm9.at 0 rfl) ?_
  simp only [nz1, nz2, nz3]
  refine one_ready 2 (by kernel_rfl) ?_
  refine opd rfl (wanted_none rfl) (m_call hm9 5 (.agg (bs (fN p.x))) rfl (run_fNeg rfl rfl) (neg_f p.x hp.x _) (fun w11 hm12 => ?_))
  refine ⟨hm12.at 0 rfl, ?_⟩
  simp only [nz1, nz2, nz3]
  refine one_ready 5 (by kernel_rfl) ?_
  refine opd rfl (wanted_none rfl) (m_call hm12 8 (.agg (bs (fR p.y))) rfl (run_fReduce rfl rfl) (reduce_f p.y hp.y _) (fun w13 hm14 => ?_))
  refine ⟨hm14.at 0 rfl, ?_⟩
  simp only [nz1, nz2, nz3]
  refine one_ready 8 (by kernel_rfl) ?_
  refine opd rfl (wanted_none rfl) (m_call hm14 11 (.agg (bs (fR p.z))) rfl (run_fReduce rfl rfl) (reduce_f p.z hp.z _) (fun w15 hm16 => ?_))
  refine ⟨hm16.at 0 rfl, ?_⟩
  simp only [nz1, nz2, nz3]
  refine one_ready 11 (by kernel_rfl) ?_
  refine opd rfl (wanted_none rfl) (m_call hm16 14 (.agg (bs (fN p.t))) rfl (run_fNeg rfl rfl) (neg_f p.t hp.t _) (fun w17 hm18 => ?_))
  refine ⟨hm18.at 0 rfl, ?_⟩
  simp only [nz1, nz2, nz3]
  refine tk 12 15 (.agg (pt (fN p.x) (fR p.y) (fR p.z) (fN p.t))) rfl rfl (fun _ hw => run_bdP (fN p.x) (fR p.y) (fR p.z) (fN p.t) rfl rfl rfl rfl rfl) (hm18.at 0 rfl) ?_
  simp only [nz1, nz2, nz3]
  refine one_ready 13 (by kernel_rfl) ?_
  refine opd rfl (wanted_none rfl) (m_store 1 25 _ _ (pt (fN p.x) (fR p.y) (fR p.z) (fN p.t)) (old := pt 0 0 0 0) hm18 rfl rfl rfl rfl rfl (by rw [pt_sz]; exact info_p) ((pt_sz _ _ _ _).trans (pt_sz _ _ _ _).symm) (pt_one _ _ _ _) (fun w19 (hm20 : Mm w w19 [(g2, pq p, 25), (g5, pt (fN p.x) (fR p.y) (fR p.z) (fN p.t), 25)]) => ?_))
  refine ⟨hm20.at 0 rfl, ?_⟩
  refine wpAnyH_done (by kernel_rfl) ?_ _
  have hm21 : Mm w w19 [(g2, pq p, 25), (g5, pq (negP p), 25)] := by rw [show (pq (negP p) : Array Value) = pt (fN p.x) (fR p.y) (fR p.z) (fN p.t) from rfl]; exact hm20
  refine then_n (hK8 _ _ ?_)
  refine wp_ret ?_
  exact ⟨rfl, .agg (pq (negP p)), res_c rfl rfl (hm21.at 1 rfl) Tryd.underlying25 rfl (by rw [pq_sz]; exact info_p), ⟨rfl, hm21.below⟩⟩
set_option maxHeartbeats 4000000 in
set_option maxRecDepth 100000 in
theorem add_p (p q : Pn) (hp : p.ok) (hq : q.ok) (w : World) (hd : DD w) : Calls Tryd.prog 19 #[.agg (pq p), .agg (pq q)] w (fun e w' => e = .returned (.agg (pq (addP p q))) ∧ Below w.heap.size w w') := by
  go_enter Tryd.func19, Tryd.ntmps19
  have hm0 := Mm.nil w
  refine wp_seq_k (fun K1 hK1 => ?_)
  refine wp_region_lit ?_
  refine lst (wanted_none rfl) (m_alloc (c := pq p) (T := 25) hm0 2 rfl (run_box rfl rfl) (fun g2 w3 (hm4 : Mm w w3 [(g2, pq p, 25)]) => ?_))
  simp only [nz1, nz2, nz3]
  refine lst (wanted_none rfl) (m_alloc (c := pq q) (T := 25) hm4 3 rfl (run_box rfl rfl) (fun g5 w6 (hm7 : Mm w w6 [(g2, pq p, 25), (g5, pq q, 25)]) => ?_))
  simp only [nz1, nz2, nz3]
  refine lst (wanted_none rfl) (m_alloc (c := pt 0 0 0 0) (T := 25) hm7 4 rfl (al_P rfl) (fun g8 w9 (hm10 : Mm w w9 [(g2, pq p, 25), (g5, pq q, 25), (g8, pt 0 0 0 0, 25)]) => ?_))
  simp only [nz1, nz2, nz3]
  refine wpList_nil ?_
  refine then_n (hK1 _ _ ?_)
  refine wp_seq_k (fun K11 hK11 => ?_)
  refine wp_mono (Q := fun e a' w' => e = Exit.normal ∧ ∃ g20 : Nat, a' = ⟨#[.agg (pq p), .agg (pq q), .pointer (some ⟨g2, 0, none⟩), .pointer (some ⟨g5, 0, none⟩), .pointer (some ⟨g8, 0, none⟩), .pointer (some ⟨g20, 0, none⟩), undef, undef, undef, undef, undef, undef, undef, .pointer (some ⟨g2, 32, none⟩), .agg (bs p.y), .pointer (some ⟨g2, 0, none⟩), .agg (bs p.x), .agg (bs (fS p.y p.x)), .pointer (some ⟨g5, 32, none⟩), .agg (bs q.y), .pointer (some ⟨g5, 0, none⟩), .agg (bs q.x), .agg (bs (fS q.y q.x)), .agg (bs (fM (fS p.y p.x) (fS q.y q.x))), undef, undef, undef, undef, undef, undef, undef, undef, undef, undef, undef, undef, undef, undef, undef, undef, undef, undef, undef, undef, undef, undef, undef, undef, undef, undef, undef, undef, undef, undef, undef, undef, undef, undef, undef, undef, undef, undef, undef, undef, undef, undef, undef, undef, undef, undef, undef, undef, undef, undef, undef, undef, undef], []⟩ ∧ Mm w w' [(g2, pq p, 25), (g5, pq q, 25), (g8, pt 0 0 0 0, 25), (g20, bs (fM (fS p.y p.x) (fS q.y q.x)), 23)]) ?_ ?_
  · have hm12 := hm10.drew
    refine wp_region_held_drew (S := fun w' => Sym.Blk w' g2 (pq p) 25 ∧ Sym.Blk w' g5 (pq q) 25) (by kernel_rfl) (⟨hm12.at 0 rfl, hm12.at 1 rfl⟩) (fun _ => ?_)
    generalize w9.drew = w13 at *
    refine Sym.take_at 0 13 (.pointer (some ⟨g2, 32, none⟩)) rfl rfl (by kernel_rfl) (by kernel_rfl) (by kernel_rfl) (fun _ _ _ h => nomatch h.1) rfl (fun _ hw => r_f1 g2 rfl rfl) (⟨hm12.at 0 rfl, hm12.at 1 rfl⟩) ?_
    simp only [nz1, nz2, nz3]
    refine Sym.take_at 1 14 (.agg (bs p.y)) rfl rfl (by kernel_rfl) (by kernel_rfl) (by kernel_rfl) (fun _ _ _ h => nomatch h.1) rfl (fun _ hw => r_c1 (x := p.x) (y := p.y) (z := p.z) (t := p.t) g2 hw.1 rfl rfl) (⟨hm12.at 0 rfl, hm12.at 1 rfl⟩) ?_
    simp only [nz1, nz2, nz3]
    refine Sym.take_at 2 15 (.pointer (some ⟨g2, 0, none⟩)) rfl rfl (by kernel_rfl) (by kernel_rfl) (by kernel_rfl) (fun _ _ _ h => nomatch h.1) rfl (fun _ hw => r_f0 g2 rfl rfl) (⟨hm12.at 0 rfl, hm12.at 1 rfl⟩) ?_
    simp only [nz1, nz2, nz3]
    refine Sym.take_at 3 16 (.agg (bs p.x)) rfl rfl (by kernel_rfl) (by kernel_rfl) (by kernel_rfl) (fun _ _ _ h => nomatch h.1) rfl (fun _ hw => r_c0 (x := p.x) (y := p.y) (z := p.z) (t := p.t) g2 hw.1 rfl rfl) (⟨hm12.at 0 rfl, hm12.at 1 rfl⟩) ?_
    simp only [nz1, nz2, nz3]
    refine Sym.take_at 5 18 (.pointer (some ⟨g5, 32, none⟩)) rfl rfl (by kernel_rfl) (by kernel_rfl) (by kernel_rfl) (fun _ _ _ h => nomatch h.1) rfl (fun _ hw => r_f1 g5 rfl rfl) (⟨hm12.at 0 rfl, hm12.at 1 rfl⟩) ?_
    simp only [nz1, nz2, nz3]
    refine Sym.take_at 6 19 (.agg (bs q.y)) rfl rfl (by kernel_rfl) (by kernel_rfl) (by kernel_rfl) (fun _ _ _ h => nomatch h.1) rfl (fun _ hw => r_c1 (x := q.x) (y := q.y) (z := q.z) (t := q.t) g5 hw.2 rfl rfl) (⟨hm12.at 0 rfl, hm12.at 1 rfl⟩) ?_
    simp only [nz1, nz2, nz3]
    refine Sym.take_at 7 20 (.pointer (some ⟨g5, 0, none⟩)) rfl rfl (by kernel_rfl) (by kernel_rfl) (by kernel_rfl) (fun _ _ _ h => nomatch h.1) rfl (fun _ hw => r_f0 g5 rfl rfl) (⟨hm12.at 0 rfl, hm12.at 1 rfl⟩) ?_
    simp only [nz1, nz2, nz3]
    refine Sym.take_at 8 21 (.agg (bs q.x)) rfl rfl (by kernel_rfl) (by kernel_rfl) (by kernel_rfl) (fun _ _ _ h => nomatch h.1) rfl (fun _ hw => r_c0 (x := q.x) (y := q.y) (z := q.z) (t := q.t) g5 hw.2 rfl rfl) (⟨hm12.at 0 rfl, hm12.at 1 rfl⟩) ?_
    simp only [nz1, nz2, nz3]
    refine two_ready 4 11 (by kernel_rfl) ?_ ?_
    · refine opd rfl rfl (m_call hm12 17 (.agg (bs (fS p.y p.x))) rfl (run_fSub rfl rfl rfl) (sub_f p.y p.x hp.y hp.x _) (fun w14 hm15 => ?_))
      refine ⟨⟨hm15.at 0 rfl, hm15.at 1 rfl⟩, ?_⟩
      simp only [nz1, nz2, nz3]
      refine two_ready 9 11 (by kernel_rfl) ?_ ?_
      · refine opd rfl rfl (m_call hm15 22 (.agg (bs (fS q.y q.x))) rfl (run_fSub rfl rfl rfl) (sub_f q.y q.x hq.y hq.x _) (fun w16 hm17 => ?_))
        refine ⟨⟨hm17.at 0 rfl, hm17.at 1 rfl⟩, ?_⟩
        simp only [nz1, nz2, nz3]
        refine two_ready 10 11 (by kernel_rfl) ?_ ?_
        · refine opd rfl rfl (m_call hm17 23 (.agg (bs (fM (fS p.y p.x) (fS q.y q.x)))) rfl (run_fMul rfl rfl rfl) (mul_f (fS p.y p.x) (fS q.y q.x) (f_lt (fS_lt _ _)) (f_lt (fS_lt _ _)) _) (fun w18 hm19 => ?_))
          refine ⟨⟨hm19.at 0 rfl, hm19.at 1 rfl⟩, ?_⟩
          simp only [nz1, nz2, nz3]
          refine one_ready 11 (by kernel_rfl) ?_
          refine opd rfl rfl (m_alloc (c := bs 0) (T := 23) hm19 5 rfl (run_alN rfl) (fun g20 w21 hm22 => ?_))
          refine ⟨⟨hm22.at 0 rfl, hm22.at 1 rfl⟩, ?_⟩
          simp only [nz1, nz2, nz3]
          refine one_ready 12 (by kernel_rfl) ?_
          refine opd rfl rfl (m_store 3 23 _ _ (bs (fM (fS p.y p.x) (fS q.y q.x))) (old := bs 0) hm22 rfl rfl rfl rfl rfl (by rw [bs_sz]; exact info_b) ((bs_sz _).trans (bs_sz _).symm) (bs_one _) (fun w23 hm24 => ?_))
          refine ⟨⟨hm24.at 0 rfl, hm24.at 1 rfl⟩, ?_⟩
          refine wpAnyH_done (by kernel_rfl) ?_ _
          exact ⟨rfl, g20, rfl, hm24⟩
        · refine opd rfl rfl (m_alloc (c := bs 0) (T := 23) hm17 5 rfl (run_alN rfl) (fun g25 w26 hm27 => ?_))
          refine ⟨⟨hm27.at 0 rfl, hm27.at 1 rfl⟩, ?_⟩
          simp only [nz1, nz2, nz3]
          refine one_ready 10 (by kernel_rfl) ?_
          refine opd rfl rfl (m_call hm27 23 (.agg (bs (fM (fS p.y p.x) (fS q.y q.x)))) rfl (run_fMul rfl rfl rfl) (mul_f (fS p.y p.x) (fS q.y q.x) (f_lt (fS_lt _ _)) (f_lt (fS_lt _ _)) _) (fun w28 hm29 => ?_))
          refine ⟨⟨hm29.at 0 rfl, hm29.at 1 rfl⟩, ?_⟩
          simp only [nz1, nz2, nz3]
          refine one_ready 12 (by kernel_rfl) ?_
          refine opd rfl rfl (m_store 3 23 _ _ (bs (fM (fS p.y p.x) (fS q.y q.x))) (old := bs 0) hm29 rfl rfl rfl rfl rfl (by rw [bs_sz]; exact info_b) ((bs_sz _).trans (bs_sz _).symm) (bs_one _) (fun w30 hm31 => ?_))
          refine ⟨⟨hm31.at 0 rfl, hm31.at 1 rfl⟩, ?_⟩
          refine wpAnyH_done (by kernel_rfl) ?_ _
          exact ⟨rfl, g25, rfl, hm31⟩
      · refine opd rfl rfl (m_alloc (c := bs 0) (T := 23) hm15 5 rfl (run_alN rfl) (fun g32 w33 hm34 => ?_))
        refine ⟨⟨hm34.at 0 rfl, hm34.at 1 rfl⟩, ?_⟩
        simp only [nz1, nz2, nz3]
        refine one_ready 9 (by kernel_rfl) ?_
        refine opd rfl rfl (m_call hm34 22 (.agg (bs (fS q.y q.x))) rfl (run_fSub rfl rfl rfl) (sub_f q.y q.x hq.y hq.x _) (fun w35 hm36 => ?_))
        refine ⟨⟨hm36.at 0 rfl, hm36.at 1 rfl⟩, ?_⟩
        simp only [nz1, nz2, nz3]
        refine one_ready 10 (by kernel_rfl) ?_
        refine opd rfl rfl (m_call hm36 23 (.agg (bs (fM (fS p.y p.x) (fS q.y q.x)))) rfl (run_fMul rfl rfl rfl) (mul_f (fS p.y p.x) (fS q.y q.x) (f_lt (fS_lt _ _)) (f_lt (fS_lt _ _)) _) (fun w37 hm38 => ?_))
        refine ⟨⟨hm38.at 0 rfl, hm38.at 1 rfl⟩, ?_⟩
        simp only [nz1, nz2, nz3]
        refine one_ready 12 (by kernel_rfl) ?_
        refine opd rfl rfl (m_store 3 23 _ _ (bs (fM (fS p.y p.x) (fS q.y q.x))) (old := bs 0) hm38 rfl rfl rfl rfl rfl (by rw [bs_sz]; exact info_b) ((bs_sz _).trans (bs_sz _).symm) (bs_one _) (fun w39 hm40 => ?_))
        refine ⟨⟨hm40.at 0 rfl, hm40.at 1 rfl⟩, ?_⟩
        refine wpAnyH_done (by kernel_rfl) ?_ _
        exact ⟨rfl, g32, rfl, hm40⟩
    · refine opd rfl rfl (m_alloc (c := bs 0) (T := 23) hm12 5 rfl (run_alN rfl) (fun g41 w42 hm43 => ?_))
      refine ⟨⟨hm43.at 0 rfl, hm43.at 1 rfl⟩, ?_⟩
      simp only [nz1, nz2, nz3]
      refine one_ready 4 (by kernel_rfl) ?_
      refine opd rfl rfl (m_call hm43 17 (.agg (bs (fS p.y p.x))) rfl (run_fSub rfl rfl rfl) (sub_f p.y p.x hp.y hp.x _) (fun w44 hm45 => ?_))
      refine ⟨⟨hm45.at 0 rfl, hm45.at 1 rfl⟩, ?_⟩
      simp only [nz1, nz2, nz3]
      refine one_ready 9 (by kernel_rfl) ?_
      refine opd rfl rfl (m_call hm45 22 (.agg (bs (fS q.y q.x))) rfl (run_fSub rfl rfl rfl) (sub_f q.y q.x hq.y hq.x _) (fun w46 hm47 => ?_))
      refine ⟨⟨hm47.at 0 rfl, hm47.at 1 rfl⟩, ?_⟩
      simp only [nz1, nz2, nz3]
      refine one_ready 10 (by kernel_rfl) ?_
      refine opd rfl rfl (m_call hm47 23 (.agg (bs (fM (fS p.y p.x) (fS q.y q.x)))) rfl (run_fMul rfl rfl rfl) (mul_f (fS p.y p.x) (fS q.y q.x) (f_lt (fS_lt _ _)) (f_lt (fS_lt _ _)) _) (fun w48 hm49 => ?_))
      refine ⟨⟨hm49.at 0 rfl, hm49.at 1 rfl⟩, ?_⟩
      simp only [nz1, nz2, nz3]
      refine one_ready 12 (by kernel_rfl) ?_
      refine opd rfl rfl (m_store 3 23 _ _ (bs (fM (fS p.y p.x) (fS q.y q.x))) (old := bs 0) hm49 rfl rfl rfl rfl rfl (by rw [bs_sz]; exact info_b) ((bs_sz _).trans (bs_sz _).symm) (bs_one _) (fun w50 hm51 => ?_))
      refine ⟨⟨hm51.at 0 rfl, hm51.at 1 rfl⟩, ?_⟩
      refine wpAnyH_done (by kernel_rfl) ?_ _
      exact ⟨rfl, g41, rfl, hm51⟩
  clear hm10
  rintro _ _ w52 ⟨rfl, g20, rfl, hm53⟩
  refine then_n (hK11 _ _ ?_)
  refine wp_seq_k (fun K54 hK54 => ?_)
  refine wp_mono (Q := fun e a' w' => e = Exit.normal ∧ ∃ g63 : Nat, a' = ⟨#[.agg (pq p), .agg (pq q), .pointer (some ⟨g2, 0, none⟩), .pointer (some ⟨g5, 0, none⟩), .pointer (some ⟨g8, 0, none⟩), .pointer (some ⟨g20, 0, none⟩), .pointer (some ⟨g63, 0, none⟩), undef, undef, undef, undef, undef, undef, .pointer (some ⟨g2, 32, none⟩), .agg (bs p.y), .pointer (some ⟨g2, 0, none⟩), .agg (bs p.x), .agg (bs (fS p.y p.x)), .pointer (some ⟨g5, 32, none⟩), .agg (bs q.y), .pointer (some ⟨g5, 0, none⟩), .agg (bs q.x), .agg (bs (fS q.y q.x)), .agg (bs (fM (fS p.y p.x) (fS q.y q.x))), .pointer (some ⟨g2, 32, none⟩), .agg (bs p.y), .pointer (some ⟨g2, 0, none⟩), .agg (bs p.x), .agg (bs (fA p.y p.x)), .pointer (some ⟨g5, 32, none⟩), .agg (bs q.y), .pointer (some ⟨g5, 0, none⟩), .agg (bs q.x), .agg (bs (fA q.y q.x)), .agg (bs (fM (fA p.y p.x) (fA q.y q.x))), undef, undef, undef, undef, undef, undef, undef, undef, undef, undef, undef, undef, undef, undef, undef, undef, undef, undef, undef, undef, undef, undef, undef, undef, undef, undef, undef, undef, undef, undef, undef, undef, undef, undef, undef, undef, undef, undef, undef, undef, undef, undef], []⟩ ∧ Mm w w' [(g2, pq p, 25), (g5, pq q, 25), (g8, pt 0 0 0 0, 25), (g20, bs (fM (fS p.y p.x) (fS q.y q.x)), 23), (g63, bs (fM (fA p.y p.x) (fA q.y q.x)), 23)]) ?_ ?_
  · have hm55 := hm53.drew
    refine wp_region_held_drew (S := fun w' => Sym.Blk w' g2 (pq p) 25 ∧ Sym.Blk w' g5 (pq q) 25) (by kernel_rfl) (⟨hm55.at 0 rfl, hm55.at 1 rfl⟩) (fun _ => ?_)
    generalize w52.drew = w56 at *
    refine Sym.take_at 0 24 (.pointer (some ⟨g2, 32, none⟩)) rfl rfl (by kernel_rfl) (by kernel_rfl) (by kernel_rfl) (fun _ _ _ h => nomatch h.1) rfl (fun _ hw => r_f1 g2 rfl rfl) (⟨hm55.at 0 rfl, hm55.at 1 rfl⟩) ?_
    simp only [nz1, nz2, nz3]
    refine Sym.take_at 1 25 (.agg (bs p.y)) rfl rfl (by kernel_rfl) (by kernel_rfl) (by kernel_rfl) (fun _ _ _ h => nomatch h.1) rfl (fun _ hw => r_c1 (x := p.x) (y := p.y) (z := p.z) (t := p.t) g2 hw.1 rfl rfl) (⟨hm55.at 0 rfl, hm55.at 1 rfl⟩) ?_
    simp only [nz1, nz2, nz3]
    refine Sym.take_at 2 26 (.pointer (some ⟨g2, 0, none⟩)) rfl rfl (by kernel_rfl) (by kernel_rfl) (by kernel_rfl) (fun _ _ _ h => nomatch h.1) rfl (fun _ hw => r_f0 g2 rfl rfl) (⟨hm55.at 0 rfl, hm55.at 1 rfl⟩) ?_
    simp only [nz1, nz2, nz3]
    refine Sym.take_at 3 27 (.agg (bs p.x)) rfl rfl (by kernel_rfl) (by kernel_rfl) (by kernel_rfl) (fun _ _ _ h => nomatch h.1) rfl (fun _ hw => r_c0 (x := p.x) (y := p.y) (z := p.z) (t := p.t) g2 hw.1 rfl rfl) (⟨hm55.at 0 rfl, hm55.at 1 rfl⟩) ?_
    simp only [nz1, nz2, nz3]
    refine Sym.take_at 5 29 (.pointer (some ⟨g5, 32, none⟩)) rfl rfl (by kernel_rfl) (by kernel_rfl) (by kernel_rfl) (fun _ _ _ h => nomatch h.1) rfl (fun _ hw => r_f1 g5 rfl rfl) (⟨hm55.at 0 rfl, hm55.at 1 rfl⟩) ?_
    simp only [nz1, nz2, nz3]
    refine Sym.take_at 6 30 (.agg (bs q.y)) rfl rfl (by kernel_rfl) (by kernel_rfl) (by kernel_rfl) (fun _ _ _ h => nomatch h.1) rfl (fun _ hw => r_c1 (x := q.x) (y := q.y) (z := q.z) (t := q.t) g5 hw.2 rfl rfl) (⟨hm55.at 0 rfl, hm55.at 1 rfl⟩) ?_
    simp only [nz1, nz2, nz3]
    refine Sym.take_at 7 31 (.pointer (some ⟨g5, 0, none⟩)) rfl rfl (by kernel_rfl) (by kernel_rfl) (by kernel_rfl) (fun _ _ _ h => nomatch h.1) rfl (fun _ hw => r_f0 g5 rfl rfl) (⟨hm55.at 0 rfl, hm55.at 1 rfl⟩) ?_
    simp only [nz1, nz2, nz3]
    refine Sym.take_at 8 32 (.agg (bs q.x)) rfl rfl (by kernel_rfl) (by kernel_rfl) (by kernel_rfl) (fun _ _ _ h => nomatch h.1) rfl (fun _ hw => r_c0 (x := q.x) (y := q.y) (z := q.z) (t := q.t) g5 hw.2 rfl rfl) (⟨hm55.at 0 rfl, hm55.at 1 rfl⟩) ?_
    simp only [nz1, nz2, nz3]
    refine two_ready 4 11 (by kernel_rfl) ?_ ?_
    · refine opd rfl rfl (m_call hm55 28 (.agg (bs (fA p.y p.x))) rfl (run_fAdd rfl rfl rfl) (add_f p.y p.x hp.y hp.x _) (fun w57 hm58 => ?_))
      refine ⟨⟨hm58.at 0 rfl, hm58.at 1 rfl⟩, ?_⟩
      simp only [nz1, nz2, nz3]
      refine two_ready 9 11 (by kernel_rfl) ?_ ?_
      · refine opd rfl rfl (m_call hm58 33 (.agg (bs (fA q.y q.x))) rfl (run_fAdd rfl rfl rfl) (add_f q.y q.x hq.y hq.x _) (fun w59 hm60 => ?_))
        refine ⟨⟨hm60.at 0 rfl, hm60.at 1 rfl⟩, ?_⟩
        simp only [nz1, nz2, nz3]
        refine two_ready 10 11 (by kernel_rfl) ?_ ?_
        · refine opd rfl rfl (m_call hm60 34 (.agg (bs (fM (fA p.y p.x) (fA q.y q.x)))) rfl (run_fMul rfl rfl rfl) (mul_f (fA p.y p.x) (fA q.y q.x) (f_lt (fA_lt _ _)) (f_lt (fA_lt _ _)) _) (fun w61 hm62 => ?_))
          refine ⟨⟨hm62.at 0 rfl, hm62.at 1 rfl⟩, ?_⟩
          simp only [nz1, nz2, nz3]
          refine one_ready 11 (by kernel_rfl) ?_
          refine opd rfl rfl (m_alloc (c := bs 0) (T := 23) hm62 6 rfl (run_alN rfl) (fun g63 w64 hm65 => ?_))
          refine ⟨⟨hm65.at 0 rfl, hm65.at 1 rfl⟩, ?_⟩
          simp only [nz1, nz2, nz3]
          refine one_ready 12 (by kernel_rfl) ?_
          refine opd rfl rfl (m_store 4 23 _ _ (bs (fM (fA p.y p.x) (fA q.y q.x))) (old := bs 0) hm65 rfl rfl rfl rfl rfl (by rw [bs_sz]; exact info_b) ((bs_sz _).trans (bs_sz _).symm) (bs_one _) (fun w66 hm67 => ?_))
          refine ⟨⟨hm67.at 0 rfl, hm67.at 1 rfl⟩, ?_⟩
          refine wpAnyH_done (by kernel_rfl) ?_ _
          exact ⟨rfl, g63, rfl, hm67⟩
        · refine opd rfl rfl (m_alloc (c := bs 0) (T := 23) hm60 6 rfl (run_alN rfl) (fun g68 w69 hm70 => ?_))
          refine ⟨⟨hm70.at 0 rfl, hm70.at 1 rfl⟩, ?_⟩
          simp only [nz1, nz2, nz3]
          refine one_ready 10 (by kernel_rfl) ?_
          refine opd rfl rfl (m_call hm70 34 (.agg (bs (fM (fA p.y p.x) (fA q.y q.x)))) rfl (run_fMul rfl rfl rfl) (mul_f (fA p.y p.x) (fA q.y q.x) (f_lt (fA_lt _ _)) (f_lt (fA_lt _ _)) _) (fun w71 hm72 => ?_))
          refine ⟨⟨hm72.at 0 rfl, hm72.at 1 rfl⟩, ?_⟩
          simp only [nz1, nz2, nz3]
          refine one_ready 12 (by kernel_rfl) ?_
          refine opd rfl rfl (m_store 4 23 _ _ (bs (fM (fA p.y p.x) (fA q.y q.x))) (old := bs 0) hm72 rfl rfl rfl rfl rfl (by rw [bs_sz]; exact info_b) ((bs_sz _).trans (bs_sz _).symm) (bs_one _) (fun w73 hm74 => ?_))
          refine ⟨⟨hm74.at 0 rfl, hm74.at 1 rfl⟩, ?_⟩
          refine wpAnyH_done (by kernel_rfl) ?_ _
          exact ⟨rfl, g68, rfl, hm74⟩
      · refine opd rfl rfl (m_alloc (c := bs 0) (T := 23) hm58 6 rfl (run_alN rfl) (fun g75 w76 hm77 => ?_))
        refine ⟨⟨hm77.at 0 rfl, hm77.at 1 rfl⟩, ?_⟩
        simp only [nz1, nz2, nz3]
        refine one_ready 9 (by kernel_rfl) ?_
        refine opd rfl rfl (m_call hm77 33 (.agg (bs (fA q.y q.x))) rfl (run_fAdd rfl rfl rfl) (add_f q.y q.x hq.y hq.x _) (fun w78 hm79 => ?_))
        refine ⟨⟨hm79.at 0 rfl, hm79.at 1 rfl⟩, ?_⟩
        simp only [nz1, nz2, nz3]
        refine one_ready 10 (by kernel_rfl) ?_
        refine opd rfl rfl (m_call hm79 34 (.agg (bs (fM (fA p.y p.x) (fA q.y q.x)))) rfl (run_fMul rfl rfl rfl) (mul_f (fA p.y p.x) (fA q.y q.x) (f_lt (fA_lt _ _)) (f_lt (fA_lt _ _)) _) (fun w80 hm81 => ?_))
        refine ⟨⟨hm81.at 0 rfl, hm81.at 1 rfl⟩, ?_⟩
        simp only [nz1, nz2, nz3]
        refine one_ready 12 (by kernel_rfl) ?_
        refine opd rfl rfl (m_store 4 23 _ _ (bs (fM (fA p.y p.x) (fA q.y q.x))) (old := bs 0) hm81 rfl rfl rfl rfl rfl (by rw [bs_sz]; exact info_b) ((bs_sz _).trans (bs_sz _).symm) (bs_one _) (fun w82 hm83 => ?_))
        refine ⟨⟨hm83.at 0 rfl, hm83.at 1 rfl⟩, ?_⟩
        refine wpAnyH_done (by kernel_rfl) ?_ _
        exact ⟨rfl, g75, rfl, hm83⟩
    · refine opd rfl rfl (m_alloc (c := bs 0) (T := 23) hm55 6 rfl (run_alN rfl) (fun g84 w85 hm86 => ?_))
      refine ⟨⟨hm86.at 0 rfl, hm86.at 1 rfl⟩, ?_⟩
      simp only [nz1, nz2, nz3]
      refine one_ready 4 (by kernel_rfl) ?_
      refine opd rfl rfl (m_call hm86 28 (.agg (bs (fA p.y p.x))) rfl (run_fAdd rfl rfl rfl) (add_f p.y p.x hp.y hp.x _) (fun w87 hm88 => ?_))
      refine ⟨⟨hm88.at 0 rfl, hm88.at 1 rfl⟩, ?_⟩
      simp only [nz1, nz2, nz3]
      refine one_ready 9 (by kernel_rfl) ?_
      refine opd rfl rfl (m_call hm88 33 (.agg (bs (fA q.y q.x))) rfl (run_fAdd rfl rfl rfl) (add_f q.y q.x hq.y hq.x _) (fun w89 hm90 => ?_))
      refine ⟨⟨hm90.at 0 rfl, hm90.at 1 rfl⟩, ?_⟩
      simp only [nz1, nz2, nz3]
      refine one_ready 10 (by kernel_rfl) ?_
      refine opd rfl rfl (m_call hm90 34 (.agg (bs (fM (fA p.y p.x) (fA q.y q.x)))) rfl (run_fMul rfl rfl rfl) (mul_f (fA p.y p.x) (fA q.y q.x) (f_lt (fA_lt _ _)) (f_lt (fA_lt _ _)) _) (fun w91 hm92 => ?_))
      refine ⟨⟨hm92.at 0 rfl, hm92.at 1 rfl⟩, ?_⟩
      simp only [nz1, nz2, nz3]
      refine one_ready 12 (by kernel_rfl) ?_
      refine opd rfl rfl (m_store 4 23 _ _ (bs (fM (fA p.y p.x) (fA q.y q.x))) (old := bs 0) hm92 rfl rfl rfl rfl rfl (by rw [bs_sz]; exact info_b) ((bs_sz _).trans (bs_sz _).symm) (bs_one _) (fun w93 hm94 => ?_))
      refine ⟨⟨hm94.at 0 rfl, hm94.at 1 rfl⟩, ?_⟩
      refine wpAnyH_done (by kernel_rfl) ?_ _
      exact ⟨rfl, g84, rfl, hm94⟩
  clear hm53
  rintro _ _ w95 ⟨rfl, g63, rfl, hm96⟩
  refine then_n (hK54 _ _ ?_)
  refine wp_seq_k (fun K97 hK97 => ?_)
  refine wp_mono (Q := fun e a' w' => e = Exit.normal ∧ ∃ g106 : Nat, a' = ⟨#[.agg (pq p), .agg (pq q), .pointer (some ⟨g2, 0, none⟩), .pointer (some ⟨g5, 0, none⟩), .pointer (some ⟨g8, 0, none⟩), .pointer (some ⟨g20, 0, none⟩), .pointer (some ⟨g63, 0, none⟩), .pointer (some ⟨g106, 0, none⟩), undef, undef, undef, undef, undef, .pointer (some ⟨g2, 32, none⟩), .agg (bs p.y), .pointer (some ⟨g2, 0, none⟩), .agg (bs p.x), .agg (bs (fS p.y p.x)), .pointer (some ⟨g5, 32, none⟩), .agg (bs q.y), .pointer (some ⟨g5, 0, none⟩), .agg (bs q.x), .agg (bs (fS q.y q.x)), .agg (bs (fM (fS p.y p.x) (fS q.y q.x))), .pointer (some ⟨g2, 32, none⟩), .agg (bs p.y), .pointer (some ⟨g2, 0, none⟩), .agg (bs p.x), .agg (bs (fA p.y p.x)), .pointer (some ⟨g5, 32, none⟩), .agg (bs q.y), .pointer (some ⟨g5, 0, none⟩), .agg (bs q.x), .agg (bs (fA q.y q.x)), .agg (bs (fM (fA p.y p.x) (fA q.y q.x))), .pointer (some ⟨g2, 96, none⟩), .agg (bs p.t), .agg (bs dN), .agg (bs dN), .agg (bs (fA dN dN)), .agg (bs (fM p.t (fA dN dN))), .pointer (some ⟨g5, 96, none⟩), .agg (bs q.t), .agg (bs (fM (fM p.t (fA dN dN)) q.t)), undef, undef, undef, undef, undef, undef, undef, undef, undef, undef, undef, undef, undef, undef, undef, undef, undef, undef, undef, undef, undef, undef, undef, undef, undef, undef, undef, undef, undef, undef, undef, undef, undef], []⟩ ∧ Mm w w' [(g2, pq p, 25), (g5, pq q, 25), (g8, pt 0 0 0 0, 25), (g20, bs (fM (fS p.y p.x) (fS q.y q.x)), 23), (g63, bs (fM (fA p.y p.x) (fA q.y q.x)), 23), (g106, bs (fM (fM p.t (fA dN dN)) q.t), 23)]) ?_ ?_
  · have hm98 := hm96.drew
    refine wp_region_held_drew (S := fun w' => Sym.Blk w' g2 (pq p) 25 ∧ Sym.Blk w' 0 (bs dN) 23 ∧ Sym.Blk w' g5 (pq q) 25) (by kernel_rfl) (⟨hm98.at 0 rfl, (kept hd hm98.below), hm98.at 1 rfl⟩) (fun _ => ?_)
    generalize w95.drew = w99 at *
    refine Sym.take_at 0 35 (.pointer (some ⟨g2, 96, none⟩)) rfl rfl (by kernel_rfl) (by kernel_rfl) (by kernel_rfl) (fun _ _ _ h => nomatch h.1) rfl (fun _ hw => r_f3 g2 rfl rfl) (⟨hm98.at 0 rfl, (kept hd hm98.below), hm98.at 1 rfl⟩) ?_
    simp only [nz1, nz2, nz3]
    refine Sym.take_at 1 36 (.agg (bs p.t)) rfl rfl (by kernel_rfl) (by kernel_rfl) (by kernel_rfl) (fun _ _ _ h => nomatch h.1) rfl (fun _ hw => r_c3 (x := p.x) (y := p.y) (z := p.z) (t := p.t) g2 hw.1 rfl rfl) (⟨hm98.at 0 rfl, (kept hd hm98.below), hm98.at 1 rfl⟩) ?_
    simp only [nz1, nz2, nz3]
    refine Sym.take_at 2 37 (.agg (bs dN)) rfl rfl (by kernel_rfl) (by kernel_rfl) (by kernel_rfl) (fun _ _ _ h => nomatch h.1) rfl (fun _ hw => run_row rfl rfl hw.2.1 Tryd.underlying23 rfl (by rw [bs_sz]; exact info_b)) (⟨hm98.at 0 rfl, (kept hd hm98.below), hm98.at 1 rfl⟩) ?_
    simp only [nz1, nz2, nz3]
    refine Sym.take_at 3 38 (.agg (bs dN)) rfl rfl (by kernel_rfl) (by kernel_rfl) (by kernel_rfl) (fun _ _ _ h => nomatch h.1) rfl (fun _ hw => run_row rfl rfl hw.2.1 Tryd.underlying23 rfl (by rw [bs_sz]; exact info_b)) (⟨hm98.at 0 rfl, (kept hd hm98.below), hm98.at 1 rfl⟩) ?_
    simp only [nz1, nz2, nz3]
    refine Sym.take_at 6 41 (.pointer (some ⟨g5, 96, none⟩)) rfl rfl (by kernel_rfl) (by kernel_rfl) (by kernel_rfl) (fun _ _ _ h => nomatch h.1) rfl (fun _ hw => r_f3 g5 rfl rfl) (⟨hm98.at 0 rfl, (kept hd hm98.below), hm98.at 1 rfl⟩) ?_
    simp only [nz1, nz2, nz3]
    refine Sym.take_at 7 42 (.agg (bs q.t)) rfl rfl (by kernel_rfl) (by kernel_rfl) (by kernel_rfl) (fun _ _ _ h => nomatch h.1) rfl (fun _ hw => r_c3 (x := q.x) (y := q.y) (z := q.z) (t := q.t) g5 hw.2.2 rfl rfl) (⟨hm98.at 0 rfl, (kept hd hm98.below), hm98.at 1 rfl⟩) ?_
    simp only [nz1, nz2, nz3]
    refine two_ready 4 9 (by kernel_rfl) ?_ ?_
    · refine opd rfl rfl (m_call hm98 39 (.agg (bs (fA dN dN))) rfl (run_fAdd rfl rfl rfl) (add_f dN dN dN_lt dN_lt _) (fun w100 hm101 => ?_))
      refine ⟨⟨hm101.at 0 rfl, (kept hd hm101.below), hm101.at 1 rfl⟩, ?_⟩
      simp only [nz1, nz2, nz3]
      refine two_ready 5 9 (by kernel_rfl) ?_ ?_
      · refine opd rfl rfl (m_call hm101 40 (.agg (bs (fM p.t (fA dN dN)))) rfl (run_fMul rfl rfl rfl) (mul_f p.t (fA dN dN) hp.t (f_lt (fA_lt _ _)) _) (fun w102 hm103 => ?_))
        refine ⟨⟨hm103.at 0 rfl, (kept hd hm103.below), hm103.at 1 rfl⟩, ?_⟩
        simp only [nz1, nz2, nz3]
        refine two_ready 8 9 (by kernel_rfl) ?_ ?_
        · refine opd rfl rfl (m_call hm103 43 (.agg (bs (fM (fM p.t (fA dN dN)) q.t))) rfl (run_fMul rfl rfl rfl) (mul_f (fM p.t (fA dN dN)) q.t (f_lt (fM_lt _ _)) hq.t _) (fun w104 hm105 => ?_))
          refine ⟨⟨hm105.at 0 rfl, (kept hd hm105.below), hm105.at 1 rfl⟩, ?_⟩
          simp only [nz1, nz2, nz3]
          refine one_ready 9 (by kernel_rfl) ?_
          refine opd rfl rfl (m_alloc (c := bs 0) (T := 23) hm105 7 rfl (run_alN rfl) (fun g106 w107 hm108 => ?_))
          refine ⟨⟨hm108.at 0 rfl, (kept hd hm108.below), hm108.at 1 rfl⟩, ?_⟩
          simp only [nz1, nz2, nz3]
          refine one_ready 10 (by kernel_rfl) ?_
          refine opd rfl rfl (m_store 5 23 _ _ (bs (fM (fM p.t (fA dN dN)) q.t)) (old := bs 0) hm108 rfl rfl rfl rfl rfl (by rw [bs_sz]; exact info_b) ((bs_sz _).trans (bs_sz _).symm) (bs_one _) (fun w109 hm110 => ?_))
          refine ⟨⟨hm110.at 0 rfl, (kept hd hm110.below), hm110.at 1 rfl⟩, ?_⟩
          refine wpAnyH_done (by kernel_rfl) ?_ _
          exact ⟨rfl, g106, rfl, hm110⟩
        · refine opd rfl rfl (m_alloc (c := bs 0) (T := 23) hm103 7 rfl (run_alN rfl) (fun g111 w112 hm113 => ?_))
          refine ⟨⟨hm113.at 0 rfl, (kept hd hm113.below), hm113.at 1 rfl⟩, ?_⟩
          simp only [nz1, nz2, nz3]
          refine one_ready 8 (by kernel_rfl) ?_
          refine opd rfl rfl (m_call hm113 43 (.agg (bs (fM (fM p.t (fA dN dN)) q.t))) rfl (run_fMul rfl rfl rfl) (mul_f (fM p.t (fA dN dN)) q.t (f_lt (fM_lt _ _)) hq.t _) (fun w114 hm115 => ?_))
          refine ⟨⟨hm115.at 0 rfl, (kept hd hm115.below), hm115.at 1 rfl⟩, ?_⟩
          simp only [nz1, nz2, nz3]
          refine one_ready 10 (by kernel_rfl) ?_
          refine opd rfl rfl (m_store 5 23 _ _ (bs (fM (fM p.t (fA dN dN)) q.t)) (old := bs 0) hm115 rfl rfl rfl rfl rfl (by rw [bs_sz]; exact info_b) ((bs_sz _).trans (bs_sz _).symm) (bs_one _) (fun w116 hm117 => ?_))
          refine ⟨⟨hm117.at 0 rfl, (kept hd hm117.below), hm117.at 1 rfl⟩, ?_⟩
          refine wpAnyH_done (by kernel_rfl) ?_ _
          exact ⟨rfl, g111, rfl, hm117⟩
      · refine opd rfl rfl (m_alloc (c := bs 0) (T := 23) hm101 7 rfl (run_alN rfl) (fun g118 w119 hm120 => ?_))
        refine ⟨⟨hm120.at 0 rfl, (kept hd hm120.below), hm120.at 1 rfl⟩, ?_⟩
        simp only [nz1, nz2, nz3]
        refine one_ready 5 (by kernel_rfl) ?_
        refine opd rfl rfl (m_call hm120 40 (.agg (bs (fM p.t (fA dN dN)))) rfl (run_fMul rfl rfl rfl) (mul_f p.t (fA dN dN) hp.t (f_lt (fA_lt _ _)) _) (fun w121 hm122 => ?_))
        refine ⟨⟨hm122.at 0 rfl, (kept hd hm122.below), hm122.at 1 rfl⟩, ?_⟩
        simp only [nz1, nz2, nz3]
        refine one_ready 8 (by kernel_rfl) ?_
        refine opd rfl rfl (m_call hm122 43 (.agg (bs (fM (fM p.t (fA dN dN)) q.t))) rfl (run_fMul rfl rfl rfl) (mul_f (fM p.t (fA dN dN)) q.t (f_lt (fM_lt _ _)) hq.t _) (fun w123 hm124 => ?_))
        refine ⟨⟨hm124.at 0 rfl, (kept hd hm124.below), hm124.at 1 rfl⟩, ?_⟩
        simp only [nz1, nz2, nz3]
        refine one_ready 10 (by kernel_rfl) ?_
        refine opd rfl rfl (m_store 5 23 _ _ (bs (fM (fM p.t (fA dN dN)) q.t)) (old := bs 0) hm124 rfl rfl rfl rfl rfl (by rw [bs_sz]; exact info_b) ((bs_sz _).trans (bs_sz _).symm) (bs_one _) (fun w125 hm126 => ?_))
        refine ⟨⟨hm126.at 0 rfl, (kept hd hm126.below), hm126.at 1 rfl⟩, ?_⟩
        refine wpAnyH_done (by kernel_rfl) ?_ _
        exact ⟨rfl, g118, rfl, hm126⟩
    · refine opd rfl rfl (m_alloc (c := bs 0) (T := 23) hm98 7 rfl (run_alN rfl) (fun g127 w128 hm129 => ?_))
      refine ⟨⟨hm129.at 0 rfl, (kept hd hm129.below), hm129.at 1 rfl⟩, ?_⟩
      simp only [nz1, nz2, nz3]
      refine one_ready 4 (by kernel_rfl) ?_
      refine opd rfl rfl (m_call hm129 39 (.agg (bs (fA dN dN))) rfl (run_fAdd rfl rfl rfl) (add_f dN dN dN_lt dN_lt _) (fun w130 hm131 => ?_))
      refine ⟨⟨hm131.at 0 rfl, (kept hd hm131.below), hm131.at 1 rfl⟩, ?_⟩
      simp only [nz1, nz2, nz3]
      refine one_ready 5 (by kernel_rfl) ?_
      refine opd rfl rfl (m_call hm131 40 (.agg (bs (fM p.t (fA dN dN)))) rfl (run_fMul rfl rfl rfl) (mul_f p.t (fA dN dN) hp.t (f_lt (fA_lt _ _)) _) (fun w132 hm133 => ?_))
      refine ⟨⟨hm133.at 0 rfl, (kept hd hm133.below), hm133.at 1 rfl⟩, ?_⟩
      simp only [nz1, nz2, nz3]
      refine one_ready 8 (by kernel_rfl) ?_
      refine opd rfl rfl (m_call hm133 43 (.agg (bs (fM (fM p.t (fA dN dN)) q.t))) rfl (run_fMul rfl rfl rfl) (mul_f (fM p.t (fA dN dN)) q.t (f_lt (fM_lt _ _)) hq.t _) (fun w134 hm135 => ?_))
      refine ⟨⟨hm135.at 0 rfl, (kept hd hm135.below), hm135.at 1 rfl⟩, ?_⟩
      simp only [nz1, nz2, nz3]
      refine one_ready 10 (by kernel_rfl) ?_
      refine opd rfl rfl (m_store 5 23 _ _ (bs (fM (fM p.t (fA dN dN)) q.t)) (old := bs 0) hm135 rfl rfl rfl rfl rfl (by rw [bs_sz]; exact info_b) ((bs_sz _).trans (bs_sz _).symm) (bs_one _) (fun w136 hm137 => ?_))
      refine ⟨⟨hm137.at 0 rfl, (kept hd hm137.below), hm137.at 1 rfl⟩, ?_⟩
      refine wpAnyH_done (by kernel_rfl) ?_ _
      exact ⟨rfl, g127, rfl, hm137⟩
  clear hm96
  rintro _ _ w138 ⟨rfl, g106, rfl, hm139⟩
  refine then_n (hK97 _ _ ?_)
  refine wp_seq_k (fun K140 hK140 => ?_)
  refine wp_mono (Q := fun e a' w' => e = Exit.normal ∧ ∃ g147 : Nat, a' = ⟨#[.agg (pq p), .agg (pq q), .pointer (some ⟨g2, 0, none⟩), .pointer (some ⟨g5, 0, none⟩), .pointer (some ⟨g8, 0, none⟩), .pointer (some ⟨g20, 0, none⟩), .pointer (some ⟨g63, 0, none⟩), .pointer (some ⟨g106, 0, none⟩), .pointer (some ⟨g147, 0, none⟩), undef, undef, undef, undef, .pointer (some ⟨g2, 32, none⟩), .agg (bs p.y), .pointer (some ⟨g2, 0, none⟩), .agg (bs p.x), .agg (bs (fS p.y p.x)), .pointer (some ⟨g5, 32, none⟩), .agg (bs q.y), .pointer (some ⟨g5, 0, none⟩), .agg (bs q.x), .agg (bs (fS q.y q.x)), .agg (bs (fM (fS p.y p.x) (fS q.y q.x))), .pointer (some ⟨g2, 32, none⟩), .agg (bs p.y), .pointer (some ⟨g2, 0, none⟩), .agg (bs p.x), .agg (bs (fA p.y p.x)), .pointer (some ⟨g5, 32, none⟩), .agg (bs q.y), .pointer (some ⟨g5, 0, none⟩), .agg (bs q.x), .agg (bs (fA q.y q.x)), .agg (bs (fM (fA p.y p.x) (fA q.y q.x))), .pointer (some ⟨g2, 96, none⟩), .agg (bs p.t), .agg (bs dN), .agg (bs dN), .agg (bs (fA dN dN)), .agg (bs (fM p.t (fA dN dN))), .pointer (some ⟨g5, 96, none⟩), .agg (bs q.t), .agg (bs (fM (fM p.t (fA dN dN)) q.t)), .pointer (some ⟨g2, 64, none⟩), .agg (bs p.z), .pointer (some ⟨g2, 64, none⟩), .agg (bs p.z), .agg (bs (fA p.z p.z)), .pointer (some ⟨g5, 64, none⟩), .agg (bs q.z), .agg (bs (fM (fA p.z p.z) q.z)), undef, undef, undef, undef, undef, undef, undef, undef, undef, undef, undef, undef, undef, undef, undef, undef, undef, undef, undef, undef, undef, undef, undef, undef, undef], []⟩ ∧ Mm w w' [(g2, pq p, 25), (g5, pq q, 25), (g8, pt 0 0 0 0, 25), (g20, bs (fM (fS p.y p.x) (fS q.y q.x)), 23), (g63, bs (fM (fA p.y p.x) (fA q.y q.x)), 23), (g106, bs (fM (fM p.t (fA dN dN)) q.t), 23), (g147, bs (fM (fA p.z p.z) q.z), 23)]) ?_ ?_
  · have hm141 := hm139.drew
    refine wp_region_held_drew (S := fun w' => Sym.Blk w' g2 (pq p) 25 ∧ Sym.Blk w' g5 (pq q) 25) (by kernel_rfl) (⟨hm141.at 0 rfl, hm141.at 1 rfl⟩) (fun _ => ?_)
    generalize w138.drew = w142 at *
    refine Sym.take_at 0 44 (.pointer (some ⟨g2, 64, none⟩)) rfl rfl (by kernel_rfl) (by kernel_rfl) (by kernel_rfl) (fun _ _ _ h => nomatch h.1) rfl (fun _ hw => r_f2 g2 rfl rfl) (⟨hm141.at 0 rfl, hm141.at 1 rfl⟩) ?_
    simp only [nz1, nz2, nz3]
    refine Sym.take_at 1 45 (.agg (bs p.z)) rfl rfl (by kernel_rfl) (by kernel_rfl) (by kernel_rfl) (fun _ _ _ h => nomatch h.1) rfl (fun _ hw => r_c2 (x := p.x) (y := p.y) (z := p.z) (t := p.t) g2 hw.1 rfl rfl) (⟨hm141.at 0 rfl, hm141.at 1 rfl⟩) ?_
    simp only [nz1, nz2, nz3]
    refine Sym.take_at 2 46 (.pointer (some ⟨g2, 64, none⟩)) rfl rfl (by kernel_rfl) (by kernel_rfl) (by kernel_rfl) (fun _ _ _ h => nomatch h.1) rfl (fun _ hw => r_f2 g2 rfl rfl) (⟨hm141.at 0 rfl, hm141.at 1 rfl⟩) ?_
    simp only [nz1, nz2, nz3]
    refine Sym.take_at 3 47 (.agg (bs p.z)) rfl rfl (by kernel_rfl) (by kernel_rfl) (by kernel_rfl) (fun _ _ _ h => nomatch h.1) rfl (fun _ hw => r_c2 (x := p.x) (y := p.y) (z := p.z) (t := p.t) g2 hw.1 rfl rfl) (⟨hm141.at 0 rfl, hm141.at 1 rfl⟩) ?_
    simp only [nz1, nz2, nz3]
    refine Sym.take_at 5 49 (.pointer (some ⟨g5, 64, none⟩)) rfl rfl (by kernel_rfl) (by kernel_rfl) (by kernel_rfl) (fun _ _ _ h => nomatch h.1) rfl (fun _ hw => r_f2 g5 rfl rfl) (⟨hm141.at 0 rfl, hm141.at 1 rfl⟩) ?_
    simp only [nz1, nz2, nz3]
    refine Sym.take_at 6 50 (.agg (bs q.z)) rfl rfl (by kernel_rfl) (by kernel_rfl) (by kernel_rfl) (fun _ _ _ h => nomatch h.1) rfl (fun _ hw => r_c2 (x := q.x) (y := q.y) (z := q.z) (t := q.t) g5 hw.2 rfl rfl) (⟨hm141.at 0 rfl, hm141.at 1 rfl⟩) ?_
    simp only [nz1, nz2, nz3]
    refine two_ready 4 8 (by kernel_rfl) ?_ ?_
    · refine opd rfl rfl (m_call hm141 48 (.agg (bs (fA p.z p.z))) rfl (run_fAdd rfl rfl rfl) (add_f p.z p.z hp.z hp.z _) (fun w143 hm144 => ?_))
      refine ⟨⟨hm144.at 0 rfl, hm144.at 1 rfl⟩, ?_⟩
      simp only [nz1, nz2, nz3]
      refine two_ready 7 8 (by kernel_rfl) ?_ ?_
      · refine opd rfl rfl (m_call hm144 51 (.agg (bs (fM (fA p.z p.z) q.z))) rfl (run_fMul rfl rfl rfl) (mul_f (fA p.z p.z) q.z (f_lt (fA_lt _ _)) hq.z _) (fun w145 hm146 => ?_))
        refine ⟨⟨hm146.at 0 rfl, hm146.at 1 rfl⟩, ?_⟩
        simp only [nz1, nz2, nz3]
        refine one_ready 8 (by kernel_rfl) ?_
        refine opd rfl rfl (m_alloc (c := bs 0) (T := 23) hm146 8 rfl (run_alN rfl) (fun g147 w148 hm149 => ?_))
        refine ⟨⟨hm149.at 0 rfl, hm149.at 1 rfl⟩, ?_⟩
        simp only [nz1, nz2, nz3]
        refine one_ready 9 (by kernel_rfl) ?_
        refine opd rfl rfl (m_store 6 23 _ _ (bs (fM (fA p.z p.z) q.z)) (old := bs 0) hm149 rfl rfl rfl rfl rfl (by rw [bs_sz]; exact info_b) ((bs_sz _).trans (bs_sz _).symm) (bs_one _) (fun w150 hm151 => ?_))
        refine ⟨⟨hm151.at 0 rfl, hm151.at 1 rfl⟩, ?_⟩
        refine wpAnyH_done (by kernel_rfl) ?_ _
        exact ⟨rfl, g147, rfl, hm151⟩
      · refine opd rfl rfl (m_alloc (c := bs 0) (T := 23) hm144 8 rfl (run_alN rfl) (fun g152 w153 hm154 => ?_))
        refine ⟨⟨hm154.at 0 rfl, hm154.at 1 rfl⟩, ?_⟩
        simp only [nz1, nz2, nz3]
        refine one_ready 7 (by kernel_rfl) ?_
        refine opd rfl rfl (m_call hm154 51 (.agg (bs (fM (fA p.z p.z) q.z))) rfl (run_fMul rfl rfl rfl) (mul_f (fA p.z p.z) q.z (f_lt (fA_lt _ _)) hq.z _) (fun w155 hm156 => ?_))
        refine ⟨⟨hm156.at 0 rfl, hm156.at 1 rfl⟩, ?_⟩
        simp only [nz1, nz2, nz3]
        refine one_ready 9 (by kernel_rfl) ?_
        refine opd rfl rfl (m_store 6 23 _ _ (bs (fM (fA p.z p.z) q.z)) (old := bs 0) hm156 rfl rfl rfl rfl rfl (by rw [bs_sz]; exact info_b) ((bs_sz _).trans (bs_sz _).symm) (bs_one _) (fun w157 hm158 => ?_))
        refine ⟨⟨hm158.at 0 rfl, hm158.at 1 rfl⟩, ?_⟩
        refine wpAnyH_done (by kernel_rfl) ?_ _
        exact ⟨rfl, g152, rfl, hm158⟩
    · refine opd rfl rfl (m_alloc (c := bs 0) (T := 23) hm141 8 rfl (run_alN rfl) (fun g159 w160 hm161 => ?_))
      refine ⟨⟨hm161.at 0 rfl, hm161.at 1 rfl⟩, ?_⟩
      simp only [nz1, nz2, nz3]
      refine one_ready 4 (by kernel_rfl) ?_
      refine opd rfl rfl (m_call hm161 48 (.agg (bs (fA p.z p.z))) rfl (run_fAdd rfl rfl rfl) (add_f p.z p.z hp.z hp.z _) (fun w162 hm163 => ?_))
      refine ⟨⟨hm163.at 0 rfl, hm163.at 1 rfl⟩, ?_⟩
      simp only [nz1, nz2, nz3]
      refine one_ready 7 (by kernel_rfl) ?_
      refine opd rfl rfl (m_call hm163 51 (.agg (bs (fM (fA p.z p.z) q.z))) rfl (run_fMul rfl rfl rfl) (mul_f (fA p.z p.z) q.z (f_lt (fA_lt _ _)) hq.z _) (fun w164 hm165 => ?_))
      refine ⟨⟨hm165.at 0 rfl, hm165.at 1 rfl⟩, ?_⟩
      simp only [nz1, nz2, nz3]
      refine one_ready 9 (by kernel_rfl) ?_
      refine opd rfl rfl (m_store 6 23 _ _ (bs (fM (fA p.z p.z) q.z)) (old := bs 0) hm165 rfl rfl rfl rfl rfl (by rw [bs_sz]; exact info_b) ((bs_sz _).trans (bs_sz _).symm) (bs_one _) (fun w166 hm167 => ?_))
      refine ⟨⟨hm167.at 0 rfl, hm167.at 1 rfl⟩, ?_⟩
      refine wpAnyH_done (by kernel_rfl) ?_ _
      exact ⟨rfl, g159, rfl, hm167⟩
  clear hm139
  rintro _ _ w168 ⟨rfl, g147, rfl, hm169⟩
  refine then_n (hK140 _ _ ?_)
  refine wp_seq_k (fun K170 hK170 => ?_)
  refine wp_region_lit ?_
  refine lv 52 (.agg (bs (fM (fA p.y p.x) (fA q.y q.x)))) rfl rfl (run_row rfl rfl (hm169.at 4 rfl) Tryd.underlying23 rfl (by rw [bs_sz]; exact info_b)) ?_
  simp only [nz1, nz2, nz3]
  refine lv 53 (.agg (bs (fM (fS p.y p.x) (fS q.y q.x)))) rfl rfl (run_row rfl rfl (hm169.at 3 rfl) Tryd.underlying23 rfl (by rw [bs_sz]; exact info_b)) ?_
  simp only [nz1, nz2, nz3]
  refine lst (wanted_none rfl) (m_call hm169 54 (.agg (bs (fS (fM (fA p.y p.x) (fA q.y q.x)) (fM (fS p.y p.x) (fS q.y q.x))))) rfl (run_fSub rfl rfl rfl) (sub_f (fM (fA p.y p.x) (fA q.y q.x)) (fM (fS p.y p.x) (fS q.y q.x)) (f_lt (fM_lt _ _)) (f_lt (fM_lt _ _)) _) (fun w171 hm172 => ?_))
  simp only [nz1, nz2, nz3]
  refine lst (wanted_none rfl) (m_alloc (c := bs 0) (T := 23) hm172 9 rfl (run_alN rfl) (fun g173 w174 (hm175 : Mm w w174 [(g2, pq p, 25), (g5, pq q, 25), (g8, pt 0 0 0 0, 25), (g20, bs (fM (fS p.y p.x) (fS q.y q.x)), 23), (g63, bs (fM (fA p.y p.x) (fA q.y q.x)), 23), (g106, bs (fM (fM p.t (fA dN dN)) q.t), 23), (g147, bs (fM (fA p.z p.z) q.z), 23), (g173, bs 0, 23)]) => ?_))
  simp only [nz1, nz2, nz3]
  refine lst (wanted_none rfl) (m_store 7 23 _ _ (bs (fS (fM (fA p.y p.x) (fA q.y q.x)) (fM (fS p.y p.x) (fS q.y q.x)))) (old := bs 0) hm175 rfl rfl rfl rfl rfl (by rw [bs_sz]; exact info_b) ((bs_sz _).trans (bs_sz _).symm) (bs_one _) (fun w176 (hm177 : Mm w w176 [(g2, pq p, 25), (g5, pq q, 25), (g8, pt 0 0 0 0, 25), (g20, bs (fM (fS p.y p.x) (fS q.y q.x)), 23), (g63, bs (fM (fA p.y p.x) (fA q.y q.x)), 23), (g106, bs (fM (fM p.t (fA dN dN)) q.t), 23), (g147, bs (fM (fA p.z p.z) q.z), 23), (g173, bs (fS (fM (fA p.y p.x) (fA q.y q.x)) (fM (fS p.y p.x) (fS q.y q.x))), 23)]) => ?_))
  refine wpList_nil ?_
  refine then_n (hK170 _ _ ?_)
  refine wp_seq_k (fun K178 hK178 => ?_)
  refine wp_region_lit ?_
  refine lv 55 (.agg (bs (fM (fA p.z p.z) q.z))) rfl rfl (run_row rfl rfl (hm177.at 6 rfl) Tryd.underlying23 rfl (by rw [bs_sz]; exact info_b)) ?_
  simp only [nz1, nz2, nz3]
  refine lv 56 (.agg (bs (fM (fM p.t (fA dN dN)) q.t))) rfl rfl (run_row rfl rfl (hm177.at 5 rfl) Tryd.underlying23 rfl (by rw [bs_sz]; exact info_b)) ?_
  simp only [nz1, nz2, nz3]
  refine lst (wanted_none rfl) (m_call hm177 57 (.agg (bs (fS (fM (fA p.z p.z) q.z) (fM (fM p.t (fA dN dN)) q.t)))) rfl (run_fSub rfl rfl rfl) (sub_f (fM (fA p.z p.z) q.z) (fM (fM p.t (fA dN dN)) q.t) (f_lt (fM_lt _ _)) (f_lt (fM_lt _ _)) _) (fun w179 hm180 => ?_))
  simp only [nz1, nz2, nz3]
  refine lst (wanted_none rfl) (m_alloc (c := bs 0) (T := 23) hm180 10 rfl (run_alN rfl) (fun g181 w182 (hm183 : Mm w w182 [(g2, pq p, 25), (g5, pq q, 25), (g8, pt 0 0 0 0, 25), (g20, bs (fM (fS p.y p.x) (fS q.y q.x)), 23), (g63, bs (fM (fA p.y p.x) (fA q.y q.x)), 23), (g106, bs (fM (fM p.t (fA dN dN)) q.t), 23), (g147, bs (fM (fA p.z p.z) q.z), 23), (g173, bs (fS (fM (fA p.y p.x) (fA q.y q.x)) (fM (fS p.y p.x) (fS q.y q.x))), 23), (g181, bs 0, 23)]) => ?_))
  simp only [nz1, nz2, nz3]
  refine lst (wanted_none rfl) (m_store 8 23 _ _ (bs (fS (fM (fA p.z p.z) q.z) (fM (fM p.t (fA dN dN)) q.t))) (old := bs 0) hm183 rfl rfl rfl rfl rfl (by rw [bs_sz]; exact info_b) ((bs_sz _).trans (bs_sz _).symm) (bs_one _) (fun w184 (hm185 : Mm w w184 [(g2, pq p, 25), (g5, pq q, 25), (g8, pt 0 0 0 0, 25), (g20, bs (fM (fS p.y p.x) (fS q.y q.x)), 23), (g63, bs (fM (fA p.y p.x) (fA q.y q.x)), 23), (g106, bs (fM (fM p.t (fA dN dN)) q.t), 23), (g147, bs (fM (fA p.z p.z) q.z), 23), (g173, bs (fS (fM (fA p.y p.x) (fA q.y q.x)) (fM (fS p.y p.x) (fS q.y q.x))), 23), (g181, bs (fS (fM (fA p.z p.z) q.z) (fM (fM p.t (fA dN dN)) q.t)), 23)]) => ?_))
  refine wpList_nil ?_
  refine then_n (hK178 _ _ ?_)
  refine wp_seq_k (fun K186 hK186 => ?_)
  refine wp_region_lit ?_
  refine lv 58 (.agg (bs (fM (fA p.z p.z) q.z))) rfl rfl (run_row rfl rfl (hm185.at 6 rfl) Tryd.underlying23 rfl (by rw [bs_sz]; exact info_b)) ?_
  simp only [nz1, nz2, nz3]
  refine lv 59 (.agg (bs (fM (fM p.t (fA dN dN)) q.t))) rfl rfl (run_row rfl rfl (hm185.at 5 rfl) Tryd.underlying23 rfl (by rw [bs_sz]; exact info_b)) ?_
  simp only [nz1, nz2, nz3]
  refine lst (wanted_none rfl) (m_call hm185 60 (.agg (bs (fA (fM (fA p.z p.z) q.z) (fM (fM p.t (fA dN dN)) q.t)))) rfl (run_fAdd rfl rfl rfl) (add_f (fM (fA p.z p.z) q.z) (fM (fM p.t (fA dN dN)) q.t) (f_lt (fM_lt _ _)) (f_lt (fM_lt _ _)) _) (fun w187 hm188 => ?_))
  simp only [nz1, nz2, nz3]
  refine lst (wanted_none rfl) (m_alloc (c := bs 0) (T := 23) hm188 11 rfl (run_alN rfl) (fun g189 w190 (hm191 : Mm w w190 [(g2, pq p, 25), (g5, pq q, 25), (g8, pt 0 0 0 0, 25), (g20, bs (fM (fS p.y p.x) (fS q.y q.x)), 23), (g63, bs (fM (fA p.y p.x) (fA q.y q.x)), 23), (g106, bs (fM (fM p.t (fA dN dN)) q.t), 23), (g147, bs (fM (fA p.z p.z) q.z), 23), (g173, bs (fS (fM (fA p.y p.x) (fA q.y q.x)) (fM (fS p.y p.x) (fS q.y q.x))), 23), (g181, bs (fS (fM (fA p.z p.z) q.z) (fM (fM p.t (fA dN dN)) q.t)), 23), (g189, bs 0, 23)]) => ?_))
  simp only [nz1, nz2, nz3]
  refine lst (wanted_none rfl) (m_store 9 23 _ _ (bs (fA (fM (fA p.z p.z) q.z) (fM (fM p.t (fA dN dN)) q.t))) (old := bs 0) hm191 rfl rfl rfl rfl rfl (by rw [bs_sz]; exact info_b) ((bs_sz _).trans (bs_sz _).symm) (bs_one _) (fun w192 (hm193 : Mm w w192 [(g2, pq p, 25), (g5, pq q, 25), (g8, pt 0 0 0 0, 25), (g20, bs (fM (fS p.y p.x) (fS q.y q.x)), 23), (g63, bs (fM (fA p.y p.x) (fA q.y q.x)), 23), (g106, bs (fM (fM p.t (fA dN dN)) q.t), 23), (g147, bs (fM (fA p.z p.z) q.z), 23), (g173, bs (fS (fM (fA p.y p.x) (fA q.y q.x)) (fM (fS p.y p.x) (fS q.y q.x))), 23), (g181, bs (fS (fM (fA p.z p.z) q.z) (fM (fM p.t (fA dN dN)) q.t)), 23), (g189, bs (fA (fM (fA p.z p.z) q.z) (fM (fM p.t (fA dN dN)) q.t)), 23)]) => ?_))
  refine wpList_nil ?_
  refine then_n (hK186 _ _ ?_)
  refine wp_seq_k (fun K194 hK194 => ?_)
  refine wp_region_lit ?_
  refine lv 61 (.agg (bs (fM (fA p.y p.x) (fA q.y q.x)))) rfl rfl (run_row rfl rfl (hm193.at 4 rfl) Tryd.underlying23 rfl (by rw [bs_sz]; exact info_b)) ?_
  simp only [nz1, nz2, nz3]
  refine lv 62 (.agg (bs (fM (fS p.y p.x) (fS q.y q.x)))) rfl rfl (run_row rfl rfl (hm193.at 3 rfl) Tryd.underlying23 rfl (by rw [bs_sz]; exact info_b)) ?_
  simp only [nz1, nz2, nz3]
  refine lst (wanted_none rfl) (m_call hm193 63 (.agg (bs (fA (fM (fA p.y p.x) (fA q.y q.x)) (fM (fS p.y p.x) (fS q.y q.x))))) rfl (run_fAdd rfl rfl rfl) (add_f (fM (fA p.y p.x) (fA q.y q.x)) (fM (fS p.y p.x) (fS q.y q.x)) (f_lt (fM_lt _ _)) (f_lt (fM_lt _ _)) _) (fun w195 hm196 => ?_))
  simp only [nz1, nz2, nz3]
  refine lst (wanted_none rfl) (m_alloc (c := bs 0) (T := 23) hm196 12 rfl (run_alN rfl) (fun g197 w198 (hm199 : Mm w w198 [(g2, pq p, 25), (g5, pq q, 25), (g8, pt 0 0 0 0, 25), (g20, bs (fM (fS p.y p.x) (fS q.y q.x)), 23), (g63, bs (fM (fA p.y p.x) (fA q.y q.x)), 23), (g106, bs (fM (fM p.t (fA dN dN)) q.t), 23), (g147, bs (fM (fA p.z p.z) q.z), 23), (g173, bs (fS (fM (fA p.y p.x) (fA q.y q.x)) (fM (fS p.y p.x) (fS q.y q.x))), 23), (g181, bs (fS (fM (fA p.z p.z) q.z) (fM (fM p.t (fA dN dN)) q.t)), 23), (g189, bs (fA (fM (fA p.z p.z) q.z) (fM (fM p.t (fA dN dN)) q.t)), 23), (g197, bs 0, 23)]) => ?_))
  simp only [nz1, nz2, nz3]
  refine lst (wanted_none rfl) (m_store 10 23 _ _ (bs (fA (fM (fA p.y p.x) (fA q.y q.x)) (fM (fS p.y p.x) (fS q.y q.x)))) (old := bs 0) hm199 rfl rfl rfl rfl rfl (by rw [bs_sz]; exact info_b) ((bs_sz _).trans (bs_sz _).symm) (bs_one _) (fun w200 (hm201 : Mm w w200 [(g2, pq p, 25), (g5, pq q, 25), (g8, pt 0 0 0 0, 25), (g20, bs (fM (fS p.y p.x) (fS q.y q.x)), 23), (g63, bs (fM (fA p.y p.x) (fA q.y q.x)), 23), (g106, bs (fM (fM p.t (fA dN dN)) q.t), 23), (g147, bs (fM (fA p.z p.z) q.z), 23), (g173, bs (fS (fM (fA p.y p.x) (fA q.y q.x)) (fM (fS p.y p.x) (fS q.y q.x))), 23), (g181, bs (fS (fM (fA p.z p.z) q.z) (fM (fM p.t (fA dN dN)) q.t)), 23), (g189, bs (fA (fM (fA p.z p.z) q.z) (fM (fM p.t (fA dN dN)) q.t)), 23), (g197, bs (fA (fM (fA p.y p.x) (fA q.y q.x)) (fM (fS p.y p.x) (fS q.y q.x))), 23)]) => ?_))
  refine wpList_nil ?_
  refine then_n (hK194 _ _ ?_)
  refine wp_seq_k (fun K202 hK202 => ?_)
  have hm203 := hm201.drew
  refine wp_region_held_drew (S := fun w' => Sym.Blk w' g173 (bs (fS (fM (fA p.y p.x) (fA q.y q.x)) (fM (fS p.y p.x) (fS q.y q.x)))) 23 ∧ Sym.Blk w' g181 (bs (fS (fM (fA p.z p.z) q.z) (fM (fM p.t (fA dN dN)) q.t))) 23 ∧ Sym.Blk w' g189 (bs (fA (fM (fA p.z p.z) q.z) (fM (fM p.t (fA dN dN)) q.t))) 23 ∧ Sym.Blk w' g197 (bs (fA (fM (fA p.y p.x) (fA q.y q.x)) (fM (fS p.y p.x) (fS q.y q.x)))) 23) (by kernel_rfl) (⟨hm203.at 7 rfl, hm203.at 8 rfl, hm203.at 9 rfl, hm203.at 10 rfl⟩) (fun _ => ?_)
  generalize w200.drew = w204 at *
  refine tk 0 64 (.agg (bs (fS (fM (fA p.y p.x) (fA q.y q.x)) (fM (fS p.y p.x) (fS q.y q.x))))) rfl rfl (fun _ hw => run_row rfl rfl hw.1 Tryd.underlying23 rfl (by rw [bs_sz]; exact info_b)) (⟨hm203.at 7 rfl, hm203.at 8 rfl, hm203.at 9 rfl, hm203.at 10 rfl⟩) ?_
  simp only [nz1, nz2, nz3]
  refine tk 1 65 (.agg (bs (fS (fM (fA p.z p.z) q.z) (fM (fM p.t (fA dN dN)) q.t)))) rfl rfl (fun _ hw => run_row rfl rfl hw.2.1 Tryd.underlying23 rfl (by rw [bs_sz]; exact info_b)) (⟨hm203.at 7 rfl, hm203.at 8 rfl, hm203.at 9 rfl, hm203.at 10 rfl⟩) ?_
  simp only [nz1, nz2, nz3]
  refine tk 3 67 (.agg (bs (fA (fM (fA p.z p.z) q.z) (fM (fM p.t (fA dN dN)) q.t)))) rfl rfl (fun _ hw => run_row rfl rfl hw.2.2.1 Tryd.underlying23 rfl (by rw [bs_sz]; exact info_b)) (⟨hm203.at 7 rfl, hm203.at 8 rfl, hm203.at 9 rfl, hm203.at 10 rfl⟩) ?_
  simp only [nz1, nz2, nz3]
  refine tk 4 68 (.agg (bs (fA (fM (fA p.y p.x) (fA q.y q.x)) (fM (fS p.y p.x) (fS q.y q.x))))) rfl rfl (fun _ hw => run_row rfl rfl hw.2.2.2 Tryd.underlying23 rfl (by rw [bs_sz]; exact info_b)) (⟨hm203.at 7 rfl, hm203.at 8 rfl, hm203.at 9 rfl, hm203.at 10 rfl⟩) ?_
  simp only [nz1, nz2, nz3]
  refine tk 6 70 (.agg (bs (fS (fM (fA p.z p.z) q.z) (fM (fM p.t (fA dN dN)) q.t)))) rfl rfl (fun _ hw => run_row rfl rfl hw.2.1 Tryd.underlying23 rfl (by rw [bs_sz]; exact info_b)) (⟨hm203.at 7 rfl, hm203.at 8 rfl, hm203.at 9 rfl, hm203.at 10 rfl⟩) ?_
  simp only [nz1, nz2, nz3]
  refine tk 7 71 (.agg (bs (fA (fM (fA p.z p.z) q.z) (fM (fM p.t (fA dN dN)) q.t)))) rfl rfl (fun _ hw => run_row rfl rfl hw.2.2.1 Tryd.underlying23 rfl (by rw [bs_sz]; exact info_b)) (⟨hm203.at 7 rfl, hm203.at 8 rfl, hm203.at 9 rfl, hm203.at 10 rfl⟩) ?_
  simp only [nz1, nz2, nz3]
  refine tk 9 73 (.agg (bs (fS (fM (fA p.y p.x) (fA q.y q.x)) (fM (fS p.y p.x) (fS q.y q.x))))) rfl rfl (fun _ hw => run_row rfl rfl hw.1 Tryd.underlying23 rfl (by rw [bs_sz]; exact info_b)) (⟨hm203.at 7 rfl, hm203.at 8 rfl, hm203.at 9 rfl, hm203.at 10 rfl⟩) ?_
  simp only [nz1, nz2, nz3]
  refine tk 10 74 (.agg (bs (fA (fM (fA p.y p.x) (fA q.y q.x)) (fM (fS p.y p.x) (fS q.y q.x))))) rfl rfl (fun _ hw => run_row rfl rfl hw.2.2.2 Tryd.underlying23 rfl (by rw [bs_sz]; exact info_b)) (⟨hm203.at 7 rfl, hm203.at 8 rfl, hm203.at 9 rfl, hm203.at 10 rfl⟩) ?_
  simp only [nz1, nz2, nz3]
  refine one_ready 2 (by kernel_rfl) ?_
  refine opd rfl (wanted_none rfl) (m_call hm203 66 (.agg (bs (fM (fS (fM (fA p.y p.x) (fA q.y q.x)) (fM (fS p.y p.x) (fS q.y q.x))) (fS (fM (fA p.z p.z) q.z) (fM (fM p.t (fA dN dN)) q.t))))) rfl (run_fMul rfl rfl rfl) (mul_f (fS (fM (fA p.y p.x) (fA q.y q.x)) (fM (fS p.y p.x) (fS q.y q.x))) (fS (fM (fA p.z p.z) q.z) (fM (fM p.t (fA dN dN)) q.t)) (f_lt (fS_lt _ _)) (f_lt (fS_lt _ _)) _) (fun w205 hm206 => ?_))
  refine ⟨⟨hm206.at 7 rfl, hm206.at 8 rfl, hm206.at 9 rfl, hm206.at 10 rfl⟩, ?_⟩
  simp only [nz1, nz2, nz3]
  refine one_ready 5 (by kernel_rfl) ?_
  refine opd rfl (wanted_none rfl) (m_call hm206 69 (.agg (bs (fM (fA (fM (fA p.z p.z) q.z) (fM (fM p.t (fA dN dN)) q.t)) (fA (fM (fA p.y p.x) (fA q.y q.x)) (fM (fS p.y p.x) (fS q.y q.x)))))) rfl (run_fMul rfl rfl rfl) (mul_f (fA (fM (fA p.z p.z) q.z) (fM (fM p.t (fA dN dN)) q.t)) (fA (fM (fA p.y p.x) (fA q.y q.x)) (fM (fS p.y p.x) (fS q.y q.x))) (f_lt (fA_lt _ _)) (f_lt (fA_lt _ _)) _) (fun w207 hm208 => ?_))
  refine ⟨⟨hm208.at 7 rfl, hm208.at 8 rfl, hm208.at 9 rfl, hm208.at 10 rfl⟩, ?_⟩
  simp only [nz1, nz2, nz3]
  refine one_ready 8 (by kernel_rfl) ?_
  refine opd rfl (wanted_none rfl) (m_call hm208 72 (.agg (bs (fM (fS (fM (fA p.z p.z) q.z) (fM (fM p.t (fA dN dN)) q.t)) (fA (fM (fA p.z p.z) q.z) (fM (fM p.t (fA dN dN)) q.t))))) rfl (run_fMul rfl rfl rfl) (mul_f (fS (fM (fA p.z p.z) q.z) (fM (fM p.t (fA dN dN)) q.t)) (fA (fM (fA p.z p.z) q.z) (fM (fM p.t (fA dN dN)) q.t)) (f_lt (fS_lt _ _)) (f_lt (fA_lt _ _)) _) (fun w209 hm210 => ?_))
  refine ⟨⟨hm210.at 7 rfl, hm210.at 8 rfl, hm210.at 9 rfl, hm210.at 10 rfl⟩, ?_⟩
  simp only [nz1, nz2, nz3]
  refine one_ready 11 (by kernel_rfl) ?_
  refine opd rfl (wanted_none rfl) (m_call hm210 75 (.agg (bs (fM (fS (fM (fA p.y p.x) (fA q.y q.x)) (fM (fS p.y p.x) (fS q.y q.x))) (fA (fM (fA p.y p.x) (fA q.y q.x)) (fM (fS p.y p.x) (fS q.y q.x)))))) rfl (run_fMul rfl rfl rfl) (mul_f (fS (fM (fA p.y p.x) (fA q.y q.x)) (fM (fS p.y p.x) (fS q.y q.x))) (fA (fM (fA p.y p.x) (fA q.y q.x)) (fM (fS p.y p.x) (fS q.y q.x))) (f_lt (fS_lt _ _)) (f_lt (fA_lt _ _)) _) (fun w211 hm212 => ?_))
  refine ⟨⟨hm212.at 7 rfl, hm212.at 8 rfl, hm212.at 9 rfl, hm212.at 10 rfl⟩, ?_⟩
  simp only [nz1, nz2, nz3]
  refine tk 12 76 (.agg (pt (fM (fS (fM (fA p.y p.x) (fA q.y q.x)) (fM (fS p.y p.x) (fS q.y q.x))) (fS (fM (fA p.z p.z) q.z) (fM (fM p.t (fA dN dN)) q.t))) (fM (fA (fM (fA p.z p.z) q.z) (fM (fM p.t (fA dN dN)) q.t)) (fA (fM (fA p.y p.x) (fA q.y q.x)) (fM (fS p.y p.x) (fS q.y q.x)))) (fM (fS (fM (fA p.z p.z) q.z) (fM (fM p.t (fA dN dN)) q.t)) (fA (fM (fA p.z p.z) q.z) (fM (fM p.t (fA dN dN)) q.t))) (fM (fS (fM (fA p.y p.x) (fA q.y q.x)) (fM (fS p.y p.x) (fS q.y q.x))) (fA (fM (fA p.y p.x) (fA q.y q.x)) (fM (fS p.y p.x) (fS q.y q.x)))))) rfl rfl (fun _ hw => run_bdP (fM (fS (fM (fA p.y p.x) (fA q.y q.x)) (fM (fS p.y p.x) (fS q.y q.x))) (fS (fM (fA p.z p.z) q.z) (fM (fM p.t (fA dN dN)) q.t))) (fM (fA (fM (fA p.z p.z) q.z) (fM (fM p.t (fA dN dN)) q.t)) (fA (fM (fA p.y p.x) (fA q.y q.x)) (fM (fS p.y p.x) (fS q.y q.x)))) (fM (fS (fM (fA p.z p.z) q.z) (fM (fM p.t (fA dN dN)) q.t)) (fA (fM (fA p.z p.z) q.z) (fM (fM p.t (fA dN dN)) q.t))) (fM (fS (fM (fA p.y p.x) (fA q.y q.x)) (fM (fS p.y p.x) (fS q.y q.x))) (fA (fM (fA p.y p.x) (fA q.y q.x)) (fM (fS p.y p.x) (fS q.y q.x)))) rfl rfl rfl rfl rfl) (⟨hm212.at 7 rfl, hm212.at 8 rfl, hm212.at 9 rfl, hm212.at 10 rfl⟩) ?_
  simp only [nz1, nz2, nz3]
  refine one_ready 13 (by kernel_rfl) ?_
  refine opd rfl (wanted_none rfl) (m_store 2 25 _ _ (pt (fM (fS (fM (fA p.y p.x) (fA q.y q.x)) (fM (fS p.y p.x) (fS q.y q.x))) (fS (fM (fA p.z p.z) q.z) (fM (fM p.t (fA dN dN)) q.t))) (fM (fA (fM (fA p.z p.z) q.z) (fM (fM p.t (fA dN dN)) q.t)) (fA (fM (fA p.y p.x) (fA q.y q.x)) (fM (fS p.y p.x) (fS q.y q.x)))) (fM (fS (fM (fA p.z p.z) q.z) (fM (fM p.t (fA dN dN)) q.t)) (fA (fM (fA p.z p.z) q.z) (fM (fM p.t (fA dN dN)) q.t))) (fM (fS (fM (fA p.y p.x) (fA q.y q.x)) (fM (fS p.y p.x) (fS q.y q.x))) (fA (fM (fA p.y p.x) (fA q.y q.x)) (fM (fS p.y p.x) (fS q.y q.x))))) (old := pt 0 0 0 0) hm212 rfl rfl rfl rfl rfl (by rw [pt_sz]; exact info_p) ((pt_sz _ _ _ _).trans (pt_sz _ _ _ _).symm) (pt_one _ _ _ _) (fun w213 (hm214 : Mm w w213 [(g2, pq p, 25), (g5, pq q, 25), (g8, pt (fM (fS (fM (fA p.y p.x) (fA q.y q.x)) (fM (fS p.y p.x) (fS q.y q.x))) (fS (fM (fA p.z p.z) q.z) (fM (fM p.t (fA dN dN)) q.t))) (fM (fA (fM (fA p.z p.z) q.z) (fM (fM p.t (fA dN dN)) q.t)) (fA (fM (fA p.y p.x) (fA q.y q.x)) (fM (fS p.y p.x) (fS q.y q.x)))) (fM (fS (fM (fA p.z p.z) q.z) (fM (fM p.t (fA dN dN)) q.t)) (fA (fM (fA p.z p.z) q.z) (fM (fM p.t (fA dN dN)) q.t))) (fM (fS (fM (fA p.y p.x) (fA q.y q.x)) (fM (fS p.y p.x) (fS q.y q.x))) (fA (fM (fA p.y p.x) (fA q.y q.x)) (fM (fS p.y p.x) (fS q.y q.x)))), 25), (g20, bs (fM (fS p.y p.x) (fS q.y q.x)), 23), (g63, bs (fM (fA p.y p.x) (fA q.y q.x)), 23), (g106, bs (fM (fM p.t (fA dN dN)) q.t), 23), (g147, bs (fM (fA p.z p.z) q.z), 23), (g173, bs (fS (fM (fA p.y p.x) (fA q.y q.x)) (fM (fS p.y p.x) (fS q.y q.x))), 23), (g181, bs (fS (fM (fA p.z p.z) q.z) (fM (fM p.t (fA dN dN)) q.t)), 23), (g189, bs (fA (fM (fA p.z p.z) q.z) (fM (fM p.t (fA dN dN)) q.t)), 23), (g197, bs (fA (fM (fA p.y p.x) (fA q.y q.x)) (fM (fS p.y p.x) (fS q.y q.x))), 23)]) => ?_))
  refine ⟨⟨hm214.at 7 rfl, hm214.at 8 rfl, hm214.at 9 rfl, hm214.at 10 rfl⟩, ?_⟩
  refine wpAnyH_done (by kernel_rfl) ?_ _
  have hm215 : Mm w w213 [(g2, pq p, 25), (g5, pq q, 25), (g8, pq (addP p q), 25), (g20, bs (fM (fS p.y p.x) (fS q.y q.x)), 23), (g63, bs (fM (fA p.y p.x) (fA q.y q.x)), 23), (g106, bs (fM (fM p.t (fA dN dN)) q.t), 23), (g147, bs (fM (fA p.z p.z) q.z), 23), (g173, bs (fS (fM (fA p.y p.x) (fA q.y q.x)) (fM (fS p.y p.x) (fS q.y q.x))), 23), (g181, bs (fS (fM (fA p.z p.z) q.z) (fM (fM p.t (fA dN dN)) q.t)), 23), (g189, bs (fA (fM (fA p.z p.z) q.z) (fM (fM p.t (fA dN dN)) q.t)), 23), (g197, bs (fA (fM (fA p.y p.x) (fA q.y q.x)) (fM (fS p.y p.x) (fS q.y q.x))), 23)] := by rw [show (pq (addP p q) : Array Value) = pt (fM (fS (fM (fA p.y p.x) (fA q.y q.x)) (fM (fS p.y p.x) (fS q.y q.x))) (fS (fM (fA p.z p.z) q.z) (fM (fM p.t (fA dN dN)) q.t))) (fM (fA (fM (fA p.z p.z) q.z) (fM (fM p.t (fA dN dN)) q.t)) (fA (fM (fA p.y p.x) (fA q.y q.x)) (fM (fS p.y p.x) (fS q.y q.x)))) (fM (fS (fM (fA p.z p.z) q.z) (fM (fM p.t (fA dN dN)) q.t)) (fA (fM (fA p.z p.z) q.z) (fM (fM p.t (fA dN dN)) q.t))) (fM (fS (fM (fA p.y p.x) (fA q.y q.x)) (fM (fS p.y p.x) (fS q.y q.x))) (fA (fM (fA p.y p.x) (fA q.y q.x)) (fM (fS p.y p.x) (fS q.y q.x)))) from rfl]; exact hm214
  refine then_n (hK202 _ _ ?_)
  refine wp_ret ?_
  exact ⟨rfl, .agg (pq (addP p q)), res_c rfl rfl (hm215.at 2 rfl) Tryd.underlying25 rfl (by rw [pq_sz]; exact info_p), ⟨rfl, hm215.below⟩⟩
end Go.Proofs.YtfpphinnngblgaaDoor.Fld
