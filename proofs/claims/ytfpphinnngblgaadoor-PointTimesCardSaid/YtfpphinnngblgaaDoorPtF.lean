/- Layer 5, the document's answers: zero, opposites, the same, on the curve. -/
import Derived.Test.YtfpphinnngblgaaDoorPtR
namespace Go.Proofs.YtfpphinnngblgaaDoor.Fld
open Go.RowKit Go.Lib
open Go.Proofs.YtfpphinnngblgaaDoor.Num (val up val_congr val_add val_lt val_up val_digits val_word)
open Go.Proofs.YtfpphinnngblgaaDoor.Arr Go.Proofs.YtfpphinnngblgaaDoor.Sym Go.Proofs.YtfpphinnngblgaaDoor.Sx

set_option maxHeartbeats 1000000 in
set_option maxRecDepth 100000 in
theorem rzero_any  (w : World) : Calls Tryd.prog 45 #[] w (fun e w' => e = .returned (.agg (pq zeroP)) ∧ Below w.heap.size w w') := by
  go_enter Tryd.func45, Tryd.ntmps45
  have hm0 := Mm.nil w
  refine wp_seq_k (fun K1 hK1 => ?_)
  refine wp_region_lit ?_
  refine lst (wanted_none rfl) (m_alloc (c := pt 0 0 0 0) (T := 25) hm0 0 rfl (al_P rfl) (fun g2 w3 (hm4 : Mm w w3 [(g2, pt 0 0 0 0, 25)]) => ?_))
  simp only [nz1, nz2]
  refine wpList_nil ?_
  refine then_n (hK1 _ _ ?_)
  refine wp_seq_k (fun K5 hK5 => ?_)
  refine wp_region_lit ?_
  refine lv 1 (.agg (bs 1)) rfl rfl (by unfold execOp; go_simp; rfl) ?_
  simp only [nz1, nz2, nz3]
  refine lv 2 (.agg (bs 1)) rfl rfl (by unfold execOp; go_simp; rfl) ?_
  simp only [nz1, nz2, nz3]
  refine lv 3 (.agg (pt 0 1 1 0)) rfl rfl (run_bdZ 1 1 rfl rfl rfl) ?_
  simp only [nz1, nz2, nz3]
  refine lst (wanted_none rfl) (m_store 0 25 _ _ (pt 0 1 1 0) (old := pt 0 0 0 0) hm4 rfl rfl rfl rfl rfl (by rw [pt_sz]; exact info_p) ((pt_sz _ _ _ _).trans (pt_sz _ _ _ _).symm) (pt_one _ _ _ _) (fun w6 (hm7 : Mm w w6 [(g2, pt 0 1 1 0, 25)]) => ?_))
  refine wpList_nil ?_
  have hm8 : Mm w w6 [(g2, pq zeroP, 25)] := by rw [show (pq zeroP : Array Value) = pt 0 1 1 0 from rfl]; exact hm7
  refine then_n (hK5 _ _ ?_)
  refine wp_ret ?_
  exact ⟨rfl, .agg (pq zeroP), res_c rfl rfl (hm8.at 0 rfl) Tryd.underlying25 rfl (by rw [pq_sz]; exact info_p), ⟨rfl, hm8.below⟩⟩
set_option maxHeartbeats 1000000 in
set_option maxRecDepth 100000 in
theorem rneg_pt (p : Pn) (hp : p.ok) (w : World) : Calls Tryd.prog 18 #[.agg (pq p)] w (fun e w' => e = .returned (.agg (pq (negP p))) ∧ Below w.heap.size w w') := by
  go_enter Tryd.func18, Tryd.ntmps18
  have hm0 := Mm.nil w
  refine wp_seq_k (fun K1 hK1 => ?_)
  refine wp_region_lit ?_
  refine lst (wanted_none rfl) (m_alloc (c := pq p) (T := 25) hm0 1 rfl (run_box rfl rfl) (fun g2 w3 (hm4 : Mm w w3 [(g2, pq p, 25)]) => ?_))
  simp only [nz1, nz2, nz3]
  refine lst (wanted_none rfl) (m_alloc (c := pt 0 0 0 0) (T := 25) hm4 2 rfl (al_P rfl) (fun g5 w6 (hm7 : Mm w w6 [(g2, pq p, 25), (g5, pt 0 0 0 0, 25)]) => ?_))
  simp only [nz1, nz2, nz3]
  refine wpList_nil ?_
  refine then_n (hK1 _ _ ?_)
  refine wp_seq_k (fun K8 hK8 => ?_)
  have hm9 := hm7.drew
  refine wp_region_held_drew (S := fun w' => Sym.Blk w' g2 (pq p) 25) (by kernel_rfl) (hm9.at 0 rfl) (fun _ => ?_)
  generalize w6.drew = w10 at *
  refine tk 0 3 (.pointer (some ⟨g2, 0, none⟩)) rfl rfl (fun _ hw => r_f0 g2 rfl rfl) (hm9.at 0 rfl) ?_
  simp only [nz1, nz2, nz3]
  refine tk 1 4 (.agg (bs p.x)) rfl rfl (fun _ hw => r_c0 (x := p.x) (y := p.y) (z := p.z) (t := p.t) g2 hw rfl rfl) (hm9.at 0 rfl) ?_
  simp only [nz1, nz2, nz3]
  refine tk 3 6 (.pointer (some ⟨g2, 32, none⟩)) rfl rfl (fun _ hw => r_f1 g2 rfl rfl) (hm9.at 0 rfl) ?_
  simp only [nz1, nz2, nz3]
  refine tk 4 7 (.agg (bs p.y)) rfl rfl (fun _ hw => r_c1 (x := p.x) (y := p.y) (z := p.z) (t := p.t) g2 hw rfl rfl) (hm9.at 0 rfl) ?_
  simp only [nz1, nz2, nz3]
  refine tk 6 9 (.pointer (some ⟨g2, 64, none⟩)) rfl rfl (fun _ hw => r_f2 g2 rfl rfl) (hm9.at 0 rfl) ?_
  simp only [nz1, nz2, nz3]
  refine tk 7 10 (.agg (bs p.z)) rfl rfl (fun _ hw => r_c2 (x := p.x) (y := p.y) (z := p.z) (t := p.t) g2 hw rfl rfl) (hm9.at 0 rfl) ?_
  simp only [nz1, nz2, nz3]
  refine tk 9 12 (.pointer (some ⟨g2, 96, none⟩)) rfl rfl (fun _ hw => r_f3 g2 rfl rfl) (hm9.at 0 rfl) ?_
  simp only [nz1, nz2, nz3]
  refine tk 10 13 (.agg (bs p.t)) rfl rfl (fun _ hw => r_c3 (x := p.x) (y := p.y) (z := p.z) (t := p.t) g2 hw rfl rfl) (hm9.at 0 rfl) ?_
  simp only [nz1, nz2, nz3]
  refine one_ready 2 (by kernel_rfl) ?_
  refine opd rfl (wanted_none rfl) (m_call hm9 5 (.agg (bs (fN p.x))) rfl (run_gNeg rfl rfl) (rneg_f p.x hp.x _) (fun w11 hm12 => ?_))
  refine ⟨hm12.at 0 rfl, ?_⟩
  simp only [nz1, nz2, nz3]
  refine one_ready 5 (by kernel_rfl) ?_
  refine opd rfl (wanted_none rfl) (m_call hm12 8 (.agg (bs (fR p.y))) rfl (run_gReduce rfl rfl) (rreduce_f p.y hp.y _) (fun w13 hm14 => ?_))
  refine ⟨hm14.at 0 rfl, ?_⟩
  simp only [nz1, nz2, nz3]
  refine one_ready 8 (by kernel_rfl) ?_
  refine opd rfl (wanted_none rfl) (m_call hm14 11 (.agg (bs (fR p.z))) rfl (run_gReduce rfl rfl) (rreduce_f p.z hp.z _) (fun w15 hm16 => ?_))
  refine ⟨hm16.at 0 rfl, ?_⟩
  simp only [nz1, nz2, nz3]
  refine one_ready 11 (by kernel_rfl) ?_
  refine opd rfl (wanted_none rfl) (m_call hm16 14 (.agg (bs (fN p.t))) rfl (run_gNeg rfl rfl) (rneg_f p.t hp.t _) (fun w17 hm18 => ?_))
  refine ⟨hm18.at 0 rfl, ?_⟩
  simp only [nz1, nz2, nz3]
  refine tk 12 15 (.agg (pt (fN p.x) (fR p.y) (fR p.z) (fN p.t))) rfl rfl (fun _ hw => run_bdP (fN p.x) (fR p.y) (fR p.z) (fN p.t) rfl rfl rfl rfl rfl) (hm18.at 0 rfl) ?_
  simp only [nz1, nz2, nz3]
  refine one_ready 13 (by kernel_rfl) ?_
  refine opd rfl (wanted_none rfl) (m_store 1 25 _ _ (pt (fN p.x) (fR p.y) (fR p.z) (fN p.t)) (old := pt 0 0 0 0) hm18 rfl rfl rfl rfl rfl (by rw [pt_sz]; exact info_p) ((pt_sz _ _ _ _).trans (pt_sz _ _ _ _).symm) (pt_one _ _ _ _) (fun w19 (hm20 : Mm w w19 [(g2, pq p, 25), (g5, pt (fN p.x) (fR p.y) (fR p.z) (fN p.t), 25)]) => ?_))
  refine ⟨hm20.at 0 rfl, ?_⟩
  refine wpAnyH_done (by kernel_rfl) ?_ _
  have hm21 : Mm w w19 [(g2, pq p, 25), (g5, pq (negP p), 25)] := by rw [show (pq (negP p) : Array Value) = pt (fN p.x) (fR p.y) (fR p.z) (fN p.t) from rfl]; exact hm20
  refine then_n (hK8 _ _ ?_)
  refine wp_ret ?_
  exact ⟨rfl, .agg (pq (negP p)), res_c rfl rfl (hm21.at 1 rfl) Tryd.underlying25 rfl (by rw [pq_sz]; exact info_p), ⟨rfl, hm21.below⟩⟩
set_option maxHeartbeats 2000000 in
set_option maxRecDepth 100000 in
theorem rsame_no (p q : Pn) (hp : p.ok) (hq : q.ok) (h1 : ¬ fM p.x q.z = fM q.x p.z) (w : World) : Calls Tryd.prog 22 #[.agg (pq p), .agg (pq q)] w (fun e w' => e = .returned (.bool false) ∧ Below w.heap.size w w') := by
  go_enter Tryd.func22, Tryd.ntmps22
  have hm0 := Mm.nil w
  refine wp_seq_k (fun K1 hK1 => ?_)
  refine wp_region_lit ?_
  refine lst (wanted_none rfl) (m_alloc (c := pq p) (T := 25) hm0 2 rfl (run_box rfl rfl) (fun g2 w3 (hm4 : Mm w w3 [(g2, pq p, 25)]) => ?_))
  simp only [nz1, nz2, nz3]
  refine lst (wanted_none rfl) (m_alloc (c := pq q) (T := 25) hm4 3 rfl (run_box rfl rfl) (fun g5 w6 (hm7 : Mm w w6 [(g2, pq p, 25), (g5, pq q, 25)]) => ?_))
  simp only [nz1, nz2, nz3]
  refine lv 4 (.bool false) rfl rfl (run_as rfl rfl) ?_
  simp only [nz1, nz2, nz3]
  refine wpList_nil ?_
  refine then_n (hK1 _ _ ?_)
  refine wp_seq_k (fun K8 hK8 => ?_)
  have hm9 := hm7.drew
  refine wp_region_held_drew (S := fun w' => Sym.Blk w' g2 (pq p) 25 ∧ Sym.Blk w' g5 (pq q) 25) (by kernel_rfl) (⟨hm9.at 0 rfl, hm9.at 1 rfl⟩) (fun _ => ?_)
  generalize w6.drew = w10 at *
  refine tk 0 5 (.pointer (some ⟨g2, 0, none⟩)) rfl rfl (fun _ hw => r_f0 g2 rfl rfl) (⟨hm9.at 0 rfl, hm9.at 1 rfl⟩) ?_
  simp only [nz1, nz2, nz3]
  refine tk 1 6 (.agg (bs p.x)) rfl rfl (fun _ hw => r_c0 (x := p.x) (y := p.y) (z := p.z) (t := p.t) g2 hw.1 rfl rfl) (⟨hm9.at 0 rfl, hm9.at 1 rfl⟩) ?_
  simp only [nz1, nz2, nz3]
  refine tk 2 7 (.pointer (some ⟨g5, 64, none⟩)) rfl rfl (fun _ hw => r_f2 g5 rfl rfl) (⟨hm9.at 0 rfl, hm9.at 1 rfl⟩) ?_
  simp only [nz1, nz2, nz3]
  refine tk 3 8 (.agg (bs q.z)) rfl rfl (fun _ hw => r_c2 (x := q.x) (y := q.y) (z := q.z) (t := q.t) g5 hw.2 rfl rfl) (⟨hm9.at 0 rfl, hm9.at 1 rfl⟩) ?_
  simp only [nz1, nz2, nz3]
  refine tk 5 10 (.pointer (some ⟨g5, 0, none⟩)) rfl rfl (fun _ hw => r_f0 g5 rfl rfl) (⟨hm9.at 0 rfl, hm9.at 1 rfl⟩) ?_
  simp only [nz1, nz2, nz3]
  refine tk 6 11 (.agg (bs q.x)) rfl rfl (fun _ hw => r_c0 (x := q.x) (y := q.y) (z := q.z) (t := q.t) g5 hw.2 rfl rfl) (⟨hm9.at 0 rfl, hm9.at 1 rfl⟩) ?_
  simp only [nz1, nz2, nz3]
  refine tk 7 12 (.pointer (some ⟨g2, 64, none⟩)) rfl rfl (fun _ hw => r_f2 g2 rfl rfl) (⟨hm9.at 0 rfl, hm9.at 1 rfl⟩) ?_
  simp only [nz1, nz2, nz3]
  refine tk 8 13 (.agg (bs p.z)) rfl rfl (fun _ hw => r_c2 (x := p.x) (y := p.y) (z := p.z) (t := p.t) g2 hw.1 rfl rfl) (⟨hm9.at 0 rfl, hm9.at 1 rfl⟩) ?_
  simp only [nz1, nz2, nz3]
  refine one_ready 4 (by kernel_rfl) ?_
  refine opd rfl (wanted_none rfl) (m_call hm9 9 (.agg (bs (fM p.x q.z))) rfl (run_gMul rfl rfl rfl) (rmul_f p.x q.z hp.x hq.z _) (fun w11 hm12 => ?_))
  refine ⟨⟨hm12.at 0 rfl, hm12.at 1 rfl⟩, ?_⟩
  simp only [nz1, nz2, nz3]
  refine one_ready 9 (by kernel_rfl) ?_
  refine opd rfl (wanted_none rfl) (m_call hm12 14 (.agg (bs (fM q.x p.z))) rfl (run_gMul rfl rfl rfl) (rmul_f q.x p.z hq.x hp.z _) (fun w13 hm14 => ?_))
  refine ⟨⟨hm14.at 0 rfl, hm14.at 1 rfl⟩, ?_⟩
  simp only [nz1, nz2, nz3]
  refine tk 10 15 (.bool false) rfl rfl (fun _ hw => run_eqlM (fM p.x q.z) (fM q.x p.z) (f_lt (fM_lt _ _)) (f_lt (fM_lt _ _)) false (decide_eq_false h1) rfl rfl rfl) (⟨hm14.at 0 rfl, hm14.at 1 rfl⟩) ?_
  simp only [nz1, nz2, nz3]
  refine tk 11 16 (.bool false) rfl rfl (fun _ hw => run_mv rfl rfl) (⟨hm14.at 0 rfl, hm14.at 1 rfl⟩) ?_
  simp only [nz1, nz2, nz3]
  refine skip_at 12 17 rfl rfl (by kernel_rfl) (by kernel_rfl) (by kernel_rfl) (fun _ _ _ h => h) rfl (⟨hm14.at 0 rfl, hm14.at 1 rfl⟩) ?_
  simp only [nz1, nz2, nz3]
  refine skip_at 13 18 rfl rfl (by kernel_rfl) (by kernel_rfl) (by kernel_rfl) (fun _ _ _ h => h) rfl (⟨hm14.at 0 rfl, hm14.at 1 rfl⟩) ?_
  simp only [nz1, nz2, nz3]
  refine skip_at 14 19 rfl rfl (by kernel_rfl) (by kernel_rfl) (by kernel_rfl) (fun _ _ _ h => h) rfl (⟨hm14.at 0 rfl, hm14.at 1 rfl⟩) ?_
  simp only [nz1, nz2, nz3]
  refine skip_at 15 20 rfl rfl (by kernel_rfl) (by kernel_rfl) (by kernel_rfl) (fun _ _ _ h => h) rfl (⟨hm14.at 0 rfl, hm14.at 1 rfl⟩) ?_
  simp only [nz1, nz2, nz3]
  refine skip_at 17 22 rfl rfl (by kernel_rfl) (by kernel_rfl) (by kernel_rfl) (fun _ _ _ h => h) rfl (⟨hm14.at 0 rfl, hm14.at 1 rfl⟩) ?_
  simp only [nz1, nz2, nz3]
  refine skip_at 18 23 rfl rfl (by kernel_rfl) (by kernel_rfl) (by kernel_rfl) (fun _ _ _ h => h) rfl (⟨hm14.at 0 rfl, hm14.at 1 rfl⟩) ?_
  simp only [nz1, nz2, nz3]
  refine skip_at 19 24 rfl rfl (by kernel_rfl) (by kernel_rfl) (by kernel_rfl) (fun _ _ _ h => h) rfl (⟨hm14.at 0 rfl, hm14.at 1 rfl⟩) ?_
  simp only [nz1, nz2, nz3]
  refine skip_at 20 25 rfl rfl (by kernel_rfl) (by kernel_rfl) (by kernel_rfl) (fun _ _ _ h => h) rfl (⟨hm14.at 0 rfl, hm14.at 1 rfl⟩) ?_
  simp only [nz1, nz2, nz3]
  refine one_ready 16 (by kernel_rfl) ?_
  refine opd_skip 21 rfl rfl rfl ⟨⟨hm14.at 0 rfl, hm14.at 1 rfl⟩, ?_⟩
  simp only [nz1, nz2, nz3]
  refine one_ready 21 (by kernel_rfl) ?_
  refine opd_skip 26 rfl rfl rfl ⟨⟨hm14.at 0 rfl, hm14.at 1 rfl⟩, ?_⟩
  simp only [nz1, nz2, nz3]
  refine skip_at 22 27 rfl rfl (by kernel_rfl) (by kernel_rfl) (by kernel_rfl) (fun _ _ _ h => h) rfl (⟨hm14.at 0 rfl, hm14.at 1 rfl⟩) ?_
  simp only [nz1, nz2, nz3]
  refine tk 23 28 (.bool false) rfl rfl (fun _ hw => run_pickf rfl rfl rfl) (⟨hm14.at 0 rfl, hm14.at 1 rfl⟩) ?_
  simp only [nz1, nz2, nz3]
  refine one_ready 24 (by kernel_rfl) ?_
  refine opd rfl (wanted_none rfl) (w_value 4 (.bool false) rfl (run_as rfl rfl) ⟨⟨hm14.at 0 rfl, hm14.at 1 rfl⟩, ?_⟩)
  simp only [nz1, nz2, nz3]
  refine wpAnyH_done (by kernel_rfl) ?_ _
  refine then_n (hK8 _ _ ?_)
  refine wp_ret ?_
  exact ⟨rfl, .bool false, res_t rfl rfl, ⟨rfl, hm14.below⟩⟩
set_option maxHeartbeats 2000000 in
set_option maxRecDepth 100000 in
theorem rsame_yes (p q : Pn) (hp : p.ok) (hq : q.ok) (h1 : fM p.x q.z = fM q.x p.z) (w : World) : Calls Tryd.prog 22 #[.agg (pq p), .agg (pq q)] w (fun e w' => e = .returned (.bool (decide (fM p.y q.z = fM q.y p.z))) ∧ Below w.heap.size w w') := by
  go_enter Tryd.func22, Tryd.ntmps22
  have hm0 := Mm.nil w
  refine wp_seq_k (fun K1 hK1 => ?_)
  refine wp_region_lit ?_
  refine lst (wanted_none rfl) (m_alloc (c := pq p) (T := 25) hm0 2 rfl (run_box rfl rfl) (fun g2 w3 (hm4 : Mm w w3 [(g2, pq p, 25)]) => ?_))
  simp only [nz1, nz2, nz3]
  refine lst (wanted_none rfl) (m_alloc (c := pq q) (T := 25) hm4 3 rfl (run_box rfl rfl) (fun g5 w6 (hm7 : Mm w w6 [(g2, pq p, 25), (g5, pq q, 25)]) => ?_))
  simp only [nz1, nz2, nz3]
  refine lv 4 (.bool false) rfl rfl (run_as rfl rfl) ?_
  simp only [nz1, nz2, nz3]
  refine wpList_nil ?_
  refine then_n (hK1 _ _ ?_)
  refine wp_seq_k (fun K8 hK8 => ?_)
  have hm9 := hm7.drew
  refine wp_region_held_drew (S := fun w' => Sym.Blk w' g2 (pq p) 25 ∧ Sym.Blk w' g5 (pq q) 25) (by kernel_rfl) (⟨hm9.at 0 rfl, hm9.at 1 rfl⟩) (fun _ => ?_)
  generalize w6.drew = w10 at *
  refine tk 0 5 (.pointer (some ⟨g2, 0, none⟩)) rfl rfl (fun _ hw => r_f0 g2 rfl rfl) (⟨hm9.at 0 rfl, hm9.at 1 rfl⟩) ?_
  simp only [nz1, nz2, nz3]
  refine tk 1 6 (.agg (bs p.x)) rfl rfl (fun _ hw => r_c0 (x := p.x) (y := p.y) (z := p.z) (t := p.t) g2 hw.1 rfl rfl) (⟨hm9.at 0 rfl, hm9.at 1 rfl⟩) ?_
  simp only [nz1, nz2, nz3]
  refine tk 2 7 (.pointer (some ⟨g5, 64, none⟩)) rfl rfl (fun _ hw => r_f2 g5 rfl rfl) (⟨hm9.at 0 rfl, hm9.at 1 rfl⟩) ?_
  simp only [nz1, nz2, nz3]
  refine tk 3 8 (.agg (bs q.z)) rfl rfl (fun _ hw => r_c2 (x := q.x) (y := q.y) (z := q.z) (t := q.t) g5 hw.2 rfl rfl) (⟨hm9.at 0 rfl, hm9.at 1 rfl⟩) ?_
  simp only [nz1, nz2, nz3]
  refine tk 5 10 (.pointer (some ⟨g5, 0, none⟩)) rfl rfl (fun _ hw => r_f0 g5 rfl rfl) (⟨hm9.at 0 rfl, hm9.at 1 rfl⟩) ?_
  simp only [nz1, nz2, nz3]
  refine tk 6 11 (.agg (bs q.x)) rfl rfl (fun _ hw => r_c0 (x := q.x) (y := q.y) (z := q.z) (t := q.t) g5 hw.2 rfl rfl) (⟨hm9.at 0 rfl, hm9.at 1 rfl⟩) ?_
  simp only [nz1, nz2, nz3]
  refine tk 7 12 (.pointer (some ⟨g2, 64, none⟩)) rfl rfl (fun _ hw => r_f2 g2 rfl rfl) (⟨hm9.at 0 rfl, hm9.at 1 rfl⟩) ?_
  simp only [nz1, nz2, nz3]
  refine tk 8 13 (.agg (bs p.z)) rfl rfl (fun _ hw => r_c2 (x := p.x) (y := p.y) (z := p.z) (t := p.t) g2 hw.1 rfl rfl) (⟨hm9.at 0 rfl, hm9.at 1 rfl⟩) ?_
  simp only [nz1, nz2, nz3]
  refine one_ready 4 (by kernel_rfl) ?_
  refine opd rfl (wanted_none rfl) (m_call hm9 9 (.agg (bs (fM p.x q.z))) rfl (run_gMul rfl rfl rfl) (rmul_f p.x q.z hp.x hq.z _) (fun w11 hm12 => ?_))
  refine ⟨⟨hm12.at 0 rfl, hm12.at 1 rfl⟩, ?_⟩
  simp only [nz1, nz2, nz3]
  refine one_ready 9 (by kernel_rfl) ?_
  refine opd rfl (wanted_none rfl) (m_call hm12 14 (.agg (bs (fM q.x p.z))) rfl (run_gMul rfl rfl rfl) (rmul_f q.x p.z hq.x hp.z _) (fun w13 hm14 => ?_))
  refine ⟨⟨hm14.at 0 rfl, hm14.at 1 rfl⟩, ?_⟩
  simp only [nz1, nz2, nz3]
  refine tk 10 15 (.bool true) rfl rfl (fun _ hw => run_eqlM (fM p.x q.z) (fM q.x p.z) (f_lt (fM_lt _ _)) (f_lt (fM_lt _ _)) true (decide_eq_true h1) rfl rfl rfl) (⟨hm14.at 0 rfl, hm14.at 1 rfl⟩) ?_
  simp only [nz1, nz2, nz3]
  refine tk 11 16 (.bool true) rfl rfl (fun _ hw => run_mv rfl rfl) (⟨hm14.at 0 rfl, hm14.at 1 rfl⟩) ?_
  simp only [nz1, nz2, nz3]
  refine Sym.take_at 12 17 (.pointer (some ⟨g2, 32, none⟩)) rfl rfl (by kernel_rfl) (by kernel_rfl) (by kernel_rfl) (fun _ _ _ h => h) rfl (fun _ hw => r_f1 g2 rfl rfl) (⟨hm14.at 0 rfl, hm14.at 1 rfl⟩) ?_
  simp only [nz1, nz2, nz3]
  refine Sym.take_at 13 18 (.agg (bs p.y)) rfl rfl (by kernel_rfl) (by kernel_rfl) (by kernel_rfl) (fun _ _ _ h => h) rfl (fun _ hw => r_c1 (x := p.x) (y := p.y) (z := p.z) (t := p.t) g2 hw.1 rfl rfl) (⟨hm14.at 0 rfl, hm14.at 1 rfl⟩) ?_
  simp only [nz1, nz2, nz3]
  refine Sym.take_at 14 19 (.pointer (some ⟨g5, 64, none⟩)) rfl rfl (by kernel_rfl) (by kernel_rfl) (by kernel_rfl) (fun _ _ _ h => h) rfl (fun _ hw => r_f2 g5 rfl rfl) (⟨hm14.at 0 rfl, hm14.at 1 rfl⟩) ?_
  simp only [nz1, nz2, nz3]
  refine Sym.take_at 15 20 (.agg (bs q.z)) rfl rfl (by kernel_rfl) (by kernel_rfl) (by kernel_rfl) (fun _ _ _ h => h) rfl (fun _ hw => r_c2 (x := q.x) (y := q.y) (z := q.z) (t := q.t) g5 hw.2 rfl rfl) (⟨hm14.at 0 rfl, hm14.at 1 rfl⟩) ?_
  simp only [nz1, nz2, nz3]
  refine Sym.take_at 17 22 (.pointer (some ⟨g5, 32, none⟩)) rfl rfl (by kernel_rfl) (by kernel_rfl) (by kernel_rfl) (fun _ _ _ h => h) rfl (fun _ hw => r_f1 g5 rfl rfl) (⟨hm14.at 0 rfl, hm14.at 1 rfl⟩) ?_
  simp only [nz1, nz2, nz3]
  refine Sym.take_at 18 23 (.agg (bs q.y)) rfl rfl (by kernel_rfl) (by kernel_rfl) (by kernel_rfl) (fun _ _ _ h => h) rfl (fun _ hw => r_c1 (x := q.x) (y := q.y) (z := q.z) (t := q.t) g5 hw.2 rfl rfl) (⟨hm14.at 0 rfl, hm14.at 1 rfl⟩) ?_
  simp only [nz1, nz2, nz3]
  refine Sym.take_at 19 24 (.pointer (some ⟨g2, 64, none⟩)) rfl rfl (by kernel_rfl) (by kernel_rfl) (by kernel_rfl) (fun _ _ _ h => h) rfl (fun _ hw => r_f2 g2 rfl rfl) (⟨hm14.at 0 rfl, hm14.at 1 rfl⟩) ?_
  simp only [nz1, nz2, nz3]
  refine Sym.take_at 20 25 (.agg (bs p.z)) rfl rfl (by kernel_rfl) (by kernel_rfl) (by kernel_rfl) (fun _ _ _ h => h) rfl (fun _ hw => r_c2 (x := p.x) (y := p.y) (z := p.z) (t := p.t) g2 hw.1 rfl rfl) (⟨hm14.at 0 rfl, hm14.at 1 rfl⟩) ?_
  simp only [nz1, nz2, nz3]
  refine one_ready 16 (by kernel_rfl) ?_
  refine opd rfl rfl (m_call hm14 21 (.agg (bs (fM p.y q.z))) rfl (run_gMul rfl rfl rfl) (rmul_f p.y q.z hp.y hq.z _) (fun w15 hm16 => ?_))
  refine ⟨⟨hm16.at 0 rfl, hm16.at 1 rfl⟩, ?_⟩
  simp only [nz1, nz2, nz3]
  refine one_ready 21 (by kernel_rfl) ?_
  refine opd rfl rfl (m_call hm16 26 (.agg (bs (fM q.y p.z))) rfl (run_gMul rfl rfl rfl) (rmul_f q.y p.z hq.y hp.z _) (fun w17 hm18 => ?_))
  refine ⟨⟨hm18.at 0 rfl, hm18.at 1 rfl⟩, ?_⟩
  simp only [nz1, nz2, nz3]
  refine Sym.take_at 22 27 (.bool (decide ((fM p.y q.z) = (fM q.y p.z)))) rfl rfl (by kernel_rfl) (by kernel_rfl) (by kernel_rfl) (fun _ _ _ h => h) rfl (fun _ hw => run_eqlM (fM p.y q.z) (fM q.y p.z) (f_lt (fM_lt _ _)) (f_lt (fM_lt _ _)) (decide ((fM p.y q.z) = (fM q.y p.z))) rfl rfl rfl rfl) (⟨hm18.at 0 rfl, hm18.at 1 rfl⟩) ?_
  simp only [nz1, nz2, nz3]
  refine tk 23 28 (.bool (decide ((fM p.y q.z) = (fM q.y p.z)))) rfl rfl (fun _ hw => run_pick rfl rfl rfl) (⟨hm18.at 0 rfl, hm18.at 1 rfl⟩) ?_
  simp only [nz1, nz2, nz3]
  refine one_ready 24 (by kernel_rfl) ?_
  refine opd rfl (wanted_none rfl) (w_value 4 (.bool (decide ((fM p.y q.z) = (fM q.y p.z)))) rfl (run_as rfl rfl) ⟨⟨hm18.at 0 rfl, hm18.at 1 rfl⟩, ?_⟩)
  simp only [nz1, nz2, nz3]
  refine wpAnyH_done (by kernel_rfl) ?_ _
  refine then_n (hK8 _ _ ?_)
  refine wp_ret ?_
  exact ⟨rfl, .bool (decide ((fM p.y q.z) = (fM q.y p.z))), res_t rfl rfl, ⟨rfl, hm18.below⟩⟩
theorem rsame_p (p q : Pn) (hp : p.ok) (hq : q.ok) (w : World) : Calls Tryd.prog 22 #[.agg (pq p), .agg (pq q)] w (fun e w' => e = .returned (.bool (decide (sameP p q))) ∧ Below w.heap.size w w') := by
  by_cases h1 : fM p.x q.z = fM q.x p.z
  · have h := rsame_yes p q hp hq h1 w
    rw [show decide (fM p.y q.z = fM q.y p.z) = decide (sameP p q) from decide_eq_decide.2 ⟨fun h => ⟨h1, h⟩, fun h => h.2⟩] at h
    exact h
  · have h := rsame_no p q hp hq h1 w
    rw [show false = decide (sameP p q) from (decide_eq_false fun h => h1 h.1).symm] at h
    exact h
set_option maxHeartbeats 2000000 in
set_option maxRecDepth 100000 in
theorem ron_0 (p : Pn) (hp : p.ok) (h1 : fR p.z = 0) (w : World) : Calls Tryd.prog 15 #[.agg (pq p)] w (fun e w' => e = .returned (.bool false) ∧ Below w.heap.size w w') := by
  go_enter Tryd.func15, Tryd.ntmps15
  have hm0 := Mm.nil w
  refine wp_seq_k (fun K1 hK1 => ?_)
  refine wp_region_lit ?_
  refine lst (wanted_none rfl) (m_alloc (c := pq p) (T := 25) hm0 1 rfl (run_box rfl rfl) (fun g2 w3 (hm4 : Mm w w3 [(g2, pq p, 25)]) => ?_))
  simp only [nz1, nz2, nz3]
  refine lv 2 (.bool false) rfl rfl (run_as rfl rfl) ?_
  simp only [nz1, nz2, nz3]
  refine wpList_nil ?_
  refine then_n (hK1 _ _ ?_)
  refine wp_seq_k (fun K5 hK5 => ?_)
  refine wp_seq_k (fun K6 hK6 => ?_)
  have hm7 := hm4.drew
  refine wp_region_held_drew (S := fun w' => Sym.Blk w' g2 (pq p) 25) (by kernel_rfl) (hm7.at 0 rfl) (fun _ => ?_)
  generalize w3.drew = w8 at *
  refine tk 0 5 (.pointer (some ⟨g2, 64, none⟩)) rfl rfl (fun _ hw => r_f2 g2 rfl rfl) (hm7.at 0 rfl) ?_
  simp only [nz1, nz2, nz3]
  refine tk 1 6 (.agg (bs p.z)) rfl rfl (fun _ hw => r_c2 (x := p.x) (y := p.y) (z := p.z) (t := p.t) g2 hw rfl rfl) (hm7.at 0 rfl) ?_
  simp only [nz1, nz2, nz3]
  refine tk 3 8 (.agg (bs 0)) rfl rfl (fun _ hw => by unfold execOp; go_simp; rfl) (hm7.at 0 rfl) ?_
  simp only [nz1, nz2, nz3]
  refine one_ready 2 (by kernel_rfl) ?_
  refine opd rfl (wanted_none rfl) (m_call hm7 7 (.agg (bs (fR p.z))) rfl (run_gReduce rfl rfl) (rreduce_f p.z hp.z _) (fun w9 hm10 => ?_))
  refine ⟨hm10.at 0 rfl, ?_⟩
  simp only [nz1, nz2, nz3]
  refine tk 4 9 (.bool true) rfl rfl (fun _ hw => run_eqlM (fR p.z) 0 (f_lt (fR_lt _)) (by decide) true (decide_eq_true h1) rfl rfl rfl) (hm10.at 0 rfl) ?_
  simp only [nz1, nz2, nz3]
  refine tk 5 10 (.bool true) rfl rfl (fun _ hw => run_mv rfl rfl) (hm10.at 0 rfl) ?_
  simp only [nz1, nz2, nz3]
  refine skip_at 6 11 rfl rfl (by kernel_rfl) (by kernel_rfl) (by kernel_rfl) (fun _ _ _ h => h) rfl (hm10.at 0 rfl) ?_
  simp only [nz1, nz2, nz3]
  refine skip_at 7 12 rfl rfl (by kernel_rfl) (by kernel_rfl) (by kernel_rfl) (fun _ _ _ h => h) rfl (hm10.at 0 rfl) ?_
  simp only [nz1, nz2, nz3]
  refine skip_at 8 13 rfl rfl (by kernel_rfl) (by kernel_rfl) (by kernel_rfl) (fun _ _ _ h => h) rfl (hm10.at 0 rfl) ?_
  simp only [nz1, nz2, nz3]
  refine skip_at 9 14 rfl rfl (by kernel_rfl) (by kernel_rfl) (by kernel_rfl) (fun _ _ _ h => h) rfl (hm10.at 0 rfl) ?_
  simp only [nz1, nz2, nz3]
  refine skip_at 11 16 rfl rfl (by kernel_rfl) (by kernel_rfl) (by kernel_rfl) (fun _ _ _ h => h) rfl (hm10.at 0 rfl) ?_
  simp only [nz1, nz2, nz3]
  refine skip_at 12 17 rfl rfl (by kernel_rfl) (by kernel_rfl) (by kernel_rfl) (fun _ _ _ h => h) rfl (hm10.at 0 rfl) ?_
  simp only [nz1, nz2, nz3]
  refine skip_at 13 18 rfl rfl (by kernel_rfl) (by kernel_rfl) (by kernel_rfl) (fun _ _ _ h => h) rfl (hm10.at 0 rfl) ?_
  simp only [nz1, nz2, nz3]
  refine skip_at 14 19 rfl rfl (by kernel_rfl) (by kernel_rfl) (by kernel_rfl) (fun _ _ _ h => h) rfl (hm10.at 0 rfl) ?_
  simp only [nz1, nz2, nz3]
  refine one_ready 10 (by kernel_rfl) ?_
  refine opd_skip 15 rfl rfl rfl ⟨hm10.at 0 rfl, ?_⟩
  simp only [nz1, nz2, nz3]
  refine one_ready 15 (by kernel_rfl) ?_
  refine opd_skip 20 rfl rfl rfl ⟨hm10.at 0 rfl, ?_⟩
  simp only [nz1, nz2, nz3]
  refine skip_at 16 21 rfl rfl (by kernel_rfl) (by kernel_rfl) (by kernel_rfl) (fun _ _ _ h => h) rfl (hm10.at 0 rfl) ?_
  simp only [nz1, nz2, nz3]
  refine tk 17 22 (.bool true) rfl rfl (fun _ hw => run_pick rfl rfl rfl) (hm10.at 0 rfl) ?_
  simp only [nz1, nz2, nz3]
  refine wpAnyH_done (by kernel_rfl) ?_ _
  refine then_n (hK6 _ _ ?_)
  refine cond_t rfl ?_
  refine wp_seq_k (fun K11 hK11 => ?_)
  refine wp_region_lit ?_
  refine lv 2 (.bool false) rfl rfl (run_as rfl rfl) ?_
  simp only [nz1, nz2, nz3]
  refine wpList_nil ?_
  refine then_n (hK11 _ _ ?_)
  refine wp_ret ?_
  refine then_r ?_
  exact ⟨rfl, .bool false, res_t rfl rfl, ⟨rfl, hm10.below⟩⟩
set_option maxHeartbeats 2000000 in
set_option maxRecDepth 100000 in
theorem ron_1 (p : Pn) (hp : p.ok) (h1 : ¬ fR p.z = 0) (h2 : ¬ fM p.t p.z = fM p.x p.y) (w : World) : Calls Tryd.prog 15 #[.agg (pq p)] w (fun e w' => e = .returned (.bool false) ∧ Below w.heap.size w w') := by
  go_enter Tryd.func15, Tryd.ntmps15
  have hm0 := Mm.nil w
  refine wp_seq_k (fun K1 hK1 => ?_)
  refine wp_region_lit ?_
  refine lst (wanted_none rfl) (m_alloc (c := pq p) (T := 25) hm0 1 rfl (run_box rfl rfl) (fun g2 w3 (hm4 : Mm w w3 [(g2, pq p, 25)]) => ?_))
  simp only [nz1, nz2, nz3]
  refine lv 2 (.bool false) rfl rfl (run_as rfl rfl) ?_
  simp only [nz1, nz2, nz3]
  refine wpList_nil ?_
  refine then_n (hK1 _ _ ?_)
  refine wp_seq_k (fun K5 hK5 => ?_)
  refine wp_seq_k (fun K6 hK6 => ?_)
  have hm7 := hm4.drew
  refine wp_region_held_drew (S := fun w' => Sym.Blk w' g2 (pq p) 25) (by kernel_rfl) (hm7.at 0 rfl) (fun _ => ?_)
  generalize w3.drew = w8 at *
  refine tk 0 5 (.pointer (some ⟨g2, 64, none⟩)) rfl rfl (fun _ hw => r_f2 g2 rfl rfl) (hm7.at 0 rfl) ?_
  simp only [nz1, nz2, nz3]
  refine tk 1 6 (.agg (bs p.z)) rfl rfl (fun _ hw => r_c2 (x := p.x) (y := p.y) (z := p.z) (t := p.t) g2 hw rfl rfl) (hm7.at 0 rfl) ?_
  simp only [nz1, nz2, nz3]
  refine tk 3 8 (.agg (bs 0)) rfl rfl (fun _ hw => by unfold execOp; go_simp; rfl) (hm7.at 0 rfl) ?_
  simp only [nz1, nz2, nz3]
  refine one_ready 2 (by kernel_rfl) ?_
  refine opd rfl (wanted_none rfl) (m_call hm7 7 (.agg (bs (fR p.z))) rfl (run_gReduce rfl rfl) (rreduce_f p.z hp.z _) (fun w9 hm10 => ?_))
  refine ⟨hm10.at 0 rfl, ?_⟩
  simp only [nz1, nz2, nz3]
  refine tk 4 9 (.bool false) rfl rfl (fun _ hw => run_eqlM (fR p.z) 0 (f_lt (fR_lt _)) (by decide) false (decide_eq_false h1) rfl rfl rfl) (hm10.at 0 rfl) ?_
  simp only [nz1, nz2, nz3]
  refine tk 5 10 (.bool false) rfl rfl (fun _ hw => run_mv rfl rfl) (hm10.at 0 rfl) ?_
  simp only [nz1, nz2, nz3]
  refine Sym.take_at 6 11 (.pointer (some ⟨g2, 96, none⟩)) rfl rfl (by kernel_rfl) (by kernel_rfl) (by kernel_rfl) (fun _ _ _ h => h) rfl (fun _ hw => r_f3 g2 rfl rfl) (hm10.at 0 rfl) ?_
  simp only [nz1, nz2, nz3]
  refine Sym.take_at 7 12 (.agg (bs p.t)) rfl rfl (by kernel_rfl) (by kernel_rfl) (by kernel_rfl) (fun _ _ _ h => h) rfl (fun _ hw => r_c3 (x := p.x) (y := p.y) (z := p.z) (t := p.t) g2 hw rfl rfl) (hm10.at 0 rfl) ?_
  simp only [nz1, nz2, nz3]
  refine Sym.take_at 8 13 (.pointer (some ⟨g2, 64, none⟩)) rfl rfl (by kernel_rfl) (by kernel_rfl) (by kernel_rfl) (fun _ _ _ h => h) rfl (fun _ hw => r_f2 g2 rfl rfl) (hm10.at 0 rfl) ?_
  simp only [nz1, nz2, nz3]
  refine Sym.take_at 9 14 (.agg (bs p.z)) rfl rfl (by kernel_rfl) (by kernel_rfl) (by kernel_rfl) (fun _ _ _ h => h) rfl (fun _ hw => r_c2 (x := p.x) (y := p.y) (z := p.z) (t := p.t) g2 hw rfl rfl) (hm10.at 0 rfl) ?_
  simp only [nz1, nz2, nz3]
  refine Sym.take_at 11 16 (.pointer (some ⟨g2, 0, none⟩)) rfl rfl (by kernel_rfl) (by kernel_rfl) (by kernel_rfl) (fun _ _ _ h => h) rfl (fun _ hw => r_f0 g2 rfl rfl) (hm10.at 0 rfl) ?_
  simp only [nz1, nz2, nz3]
  refine Sym.take_at 12 17 (.agg (bs p.x)) rfl rfl (by kernel_rfl) (by kernel_rfl) (by kernel_rfl) (fun _ _ _ h => h) rfl (fun _ hw => r_c0 (x := p.x) (y := p.y) (z := p.z) (t := p.t) g2 hw rfl rfl) (hm10.at 0 rfl) ?_
  simp only [nz1, nz2, nz3]
  refine Sym.take_at 13 18 (.pointer (some ⟨g2, 32, none⟩)) rfl rfl (by kernel_rfl) (by kernel_rfl) (by kernel_rfl) (fun _ _ _ h => h) rfl (fun _ hw => r_f1 g2 rfl rfl) (hm10.at 0 rfl) ?_
  simp only [nz1, nz2, nz3]
  refine Sym.take_at 14 19 (.agg (bs p.y)) rfl rfl (by kernel_rfl) (by kernel_rfl) (by kernel_rfl) (fun _ _ _ h => h) rfl (fun _ hw => r_c1 (x := p.x) (y := p.y) (z := p.z) (t := p.t) g2 hw rfl rfl) (hm10.at 0 rfl) ?_
  simp only [nz1, nz2, nz3]
  refine one_ready 10 (by kernel_rfl) ?_
  refine opd rfl rfl (m_call hm10 15 (.agg (bs (fM p.t p.z))) rfl (run_gMul rfl rfl rfl) (rmul_f p.t p.z hp.t hp.z _) (fun w11 hm12 => ?_))
  refine ⟨hm12.at 0 rfl, ?_⟩
  simp only [nz1, nz2, nz3]
  refine one_ready 15 (by kernel_rfl) ?_
  refine opd rfl rfl (m_call hm12 20 (.agg (bs (fM p.x p.y))) rfl (run_gMul rfl rfl rfl) (rmul_f p.x p.y hp.x hp.y _) (fun w13 hm14 => ?_))
  refine ⟨hm14.at 0 rfl, ?_⟩
  simp only [nz1, nz2, nz3]
  refine Sym.take_at 16 21 (.bool true) rfl rfl (by kernel_rfl) (by kernel_rfl) (by kernel_rfl) (fun _ _ _ h => h) rfl (fun _ hw => run_neqM (fM p.t p.z) (fM p.x p.y) (f_lt (fM_lt _ _)) (f_lt (fM_lt _ _)) true (decide_eq_true h2) rfl rfl rfl) (hm14.at 0 rfl) ?_
  simp only [nz1, nz2, nz3]
  refine tk 17 22 (.bool true) rfl rfl (fun _ hw => run_pickf rfl rfl rfl) (hm14.at 0 rfl) ?_
  simp only [nz1, nz2, nz3]
  refine wpAnyH_done (by kernel_rfl) ?_ _
  refine then_n (hK6 _ _ ?_)
  refine cond_t rfl ?_
  refine wp_seq_k (fun K15 hK15 => ?_)
  refine wp_region_lit ?_
  refine lv 2 (.bool false) rfl rfl (run_as rfl rfl) ?_
  simp only [nz1, nz2, nz3]
  refine wpList_nil ?_
  refine then_n (hK15 _ _ ?_)
  refine wp_ret ?_
  refine then_r ?_
  exact ⟨rfl, .bool false, res_t rfl rfl, ⟨rfl, hm14.below⟩⟩
set_option maxHeartbeats 4000000 in
set_option maxRecDepth 100000 in
theorem ron_2 (p : Pn) (hp : p.ok) (h1 : ¬ fR p.z = 0) (h2 : fM p.t p.z = fM p.x p.y) (w : World) : Calls Tryd.prog 15 #[.agg (pq p)] w (fun e w' => e = .returned (.bool (decide (fS (fM p.y p.y) (fM p.x p.x) = fA (fM p.z p.z) (fM dN (fM p.t p.t))))) ∧ Below w.heap.size w w') := by
  go_enter Tryd.func15, Tryd.ntmps15
  have hm0 := Mm.nil w
  refine wp_seq_k (fun K1 hK1 => ?_)
  refine wp_region_lit ?_
  refine lst (wanted_none rfl) (m_alloc (c := pq p) (T := 25) hm0 1 rfl (run_box rfl rfl) (fun g2 w3 (hm4 : Mm w w3 [(g2, pq p, 25)]) => ?_))
  simp only [nz1, nz2, nz3]
  refine lv 2 (.bool false) rfl rfl (run_as rfl rfl) ?_
  simp only [nz1, nz2, nz3]
  refine wpList_nil ?_
  refine then_n (hK1 _ _ ?_)
  refine wp_seq_k (fun K5 hK5 => ?_)
  refine wp_seq_k (fun K6 hK6 => ?_)
  have hm7 := hm4.drew
  refine wp_region_held_drew (S := fun w' => Sym.Blk w' g2 (pq p) 25) (by kernel_rfl) (hm7.at 0 rfl) (fun _ => ?_)
  generalize w3.drew = w8 at *
  refine tk 0 5 (.pointer (some ⟨g2, 64, none⟩)) rfl rfl (fun _ hw => r_f2 g2 rfl rfl) (hm7.at 0 rfl) ?_
  simp only [nz1, nz2, nz3]
  refine tk 1 6 (.agg (bs p.z)) rfl rfl (fun _ hw => r_c2 (x := p.x) (y := p.y) (z := p.z) (t := p.t) g2 hw rfl rfl) (hm7.at 0 rfl) ?_
  simp only [nz1, nz2, nz3]
  refine tk 3 8 (.agg (bs 0)) rfl rfl (fun _ hw => by unfold execOp; go_simp; rfl) (hm7.at 0 rfl) ?_
  simp only [nz1, nz2, nz3]
  refine one_ready 2 (by kernel_rfl) ?_
  refine opd rfl (wanted_none rfl) (m_call hm7 7 (.agg (bs (fR p.z))) rfl (run_gReduce rfl rfl) (rreduce_f p.z hp.z _) (fun w9 hm10 => ?_))
  refine ⟨hm10.at 0 rfl, ?_⟩
  simp only [nz1, nz2, nz3]
  refine tk 4 9 (.bool false) rfl rfl (fun _ hw => run_eqlM (fR p.z) 0 (f_lt (fR_lt _)) (by decide) false (decide_eq_false h1) rfl rfl rfl) (hm10.at 0 rfl) ?_
  simp only [nz1, nz2, nz3]
  refine tk 5 10 (.bool false) rfl rfl (fun _ hw => run_mv rfl rfl) (hm10.at 0 rfl) ?_
  simp only [nz1, nz2, nz3]
  refine Sym.take_at 6 11 (.pointer (some ⟨g2, 96, none⟩)) rfl rfl (by kernel_rfl) (by kernel_rfl) (by kernel_rfl) (fun _ _ _ h => h) rfl (fun _ hw => r_f3 g2 rfl rfl) (hm10.at 0 rfl) ?_
  simp only [nz1, nz2, nz3]
  refine Sym.take_at 7 12 (.agg (bs p.t)) rfl rfl (by kernel_rfl) (by kernel_rfl) (by kernel_rfl) (fun _ _ _ h => h) rfl (fun _ hw => r_c3 (x := p.x) (y := p.y) (z := p.z) (t := p.t) g2 hw rfl rfl) (hm10.at 0 rfl) ?_
  simp only [nz1, nz2, nz3]
  refine Sym.take_at 8 13 (.pointer (some ⟨g2, 64, none⟩)) rfl rfl (by kernel_rfl) (by kernel_rfl) (by kernel_rfl) (fun _ _ _ h => h) rfl (fun _ hw => r_f2 g2 rfl rfl) (hm10.at 0 rfl) ?_
  simp only [nz1, nz2, nz3]
  refine Sym.take_at 9 14 (.agg (bs p.z)) rfl rfl (by kernel_rfl) (by kernel_rfl) (by kernel_rfl) (fun _ _ _ h => h) rfl (fun _ hw => r_c2 (x := p.x) (y := p.y) (z := p.z) (t := p.t) g2 hw rfl rfl) (hm10.at 0 rfl) ?_
  simp only [nz1, nz2, nz3]
  refine Sym.take_at 11 16 (.pointer (some ⟨g2, 0, none⟩)) rfl rfl (by kernel_rfl) (by kernel_rfl) (by kernel_rfl) (fun _ _ _ h => h) rfl (fun _ hw => r_f0 g2 rfl rfl) (hm10.at 0 rfl) ?_
  simp only [nz1, nz2, nz3]
  refine Sym.take_at 12 17 (.agg (bs p.x)) rfl rfl (by kernel_rfl) (by kernel_rfl) (by kernel_rfl) (fun _ _ _ h => h) rfl (fun _ hw => r_c0 (x := p.x) (y := p.y) (z := p.z) (t := p.t) g2 hw rfl rfl) (hm10.at 0 rfl) ?_
  simp only [nz1, nz2, nz3]
  refine Sym.take_at 13 18 (.pointer (some ⟨g2, 32, none⟩)) rfl rfl (by kernel_rfl) (by kernel_rfl) (by kernel_rfl) (fun _ _ _ h => h) rfl (fun _ hw => r_f1 g2 rfl rfl) (hm10.at 0 rfl) ?_
  simp only [nz1, nz2, nz3]
  refine Sym.take_at 14 19 (.agg (bs p.y)) rfl rfl (by kernel_rfl) (by kernel_rfl) (by kernel_rfl) (fun _ _ _ h => h) rfl (fun _ hw => r_c1 (x := p.x) (y := p.y) (z := p.z) (t := p.t) g2 hw rfl rfl) (hm10.at 0 rfl) ?_
  simp only [nz1, nz2, nz3]
  refine one_ready 10 (by kernel_rfl) ?_
  refine opd rfl rfl (m_call hm10 15 (.agg (bs (fM p.t p.z))) rfl (run_gMul rfl rfl rfl) (rmul_f p.t p.z hp.t hp.z _) (fun w11 hm12 => ?_))
  refine ⟨hm12.at 0 rfl, ?_⟩
  simp only [nz1, nz2, nz3]
  refine one_ready 15 (by kernel_rfl) ?_
  refine opd rfl rfl (m_call hm12 20 (.agg (bs (fM p.x p.y))) rfl (run_gMul rfl rfl rfl) (rmul_f p.x p.y hp.x hp.y _) (fun w13 hm14 => ?_))
  refine ⟨hm14.at 0 rfl, ?_⟩
  simp only [nz1, nz2, nz3]
  refine Sym.take_at 16 21 (.bool false) rfl rfl (by kernel_rfl) (by kernel_rfl) (by kernel_rfl) (fun _ _ _ h => h) rfl (fun _ hw => run_neqM (fM p.t p.z) (fM p.x p.y) (f_lt (fM_lt _ _)) (f_lt (fM_lt _ _)) false (decide_eq_false (fun h => h h2)) rfl rfl rfl) (hm14.at 0 rfl) ?_
  simp only [nz1, nz2, nz3]
  refine tk 17 22 (.bool false) rfl rfl (fun _ hw => run_pickf rfl rfl rfl) (hm14.at 0 rfl) ?_
  simp only [nz1, nz2, nz3]
  refine wpAnyH_done (by kernel_rfl) ?_ _
  refine then_n (hK6 _ _ ?_)
  refine cond_f rfl ?_
  refine wp_skip ?_
  refine then_n (hK5 _ _ ?_)
  refine wp_seq_k (fun K15 hK15 => ?_)
  refine wp_mono (Q := fun e a' w' => e = Exit.normal ∧ ∃ g24 : Nat, a' = ⟨#[.agg (pq p), .pointer (some ⟨g2, 0, none⟩), .bool false, .pointer (some ⟨g24, 0, none⟩), undef, .pointer (some ⟨g2, 64, none⟩), .agg (bs p.z), .agg (bs (fR p.z)), .agg (bs 0), .bool false, .bool false, .pointer (some ⟨g2, 96, none⟩), .agg (bs p.t), .pointer (some ⟨g2, 64, none⟩), .agg (bs p.z), .agg (bs (fM p.t p.z)), .pointer (some ⟨g2, 0, none⟩), .agg (bs p.x), .pointer (some ⟨g2, 32, none⟩), .agg (bs p.y), .agg (bs (fM p.x p.y)), .bool false, .bool false, .pointer (some ⟨g2, 32, none⟩), .agg (bs p.y), .pointer (some ⟨g2, 32, none⟩), .agg (bs p.y), .agg (bs (fM p.y p.y)), .pointer (some ⟨g2, 0, none⟩), .agg (bs p.x), .pointer (some ⟨g2, 0, none⟩), .agg (bs p.x), .agg (bs (fM p.x p.x)), .agg (bs (fS (fM p.y p.y) (fM p.x p.x))), undef, undef, undef, undef, undef, undef, undef, undef, undef, undef, undef, undef, undef, undef, undef, undef], []⟩ ∧ Mm w w' [(g2, pq p, 25), (g24, bs (fS (fM p.y p.y) (fM p.x p.x)), 23)]) ?_ ?_
  · have hm16 := hm14.drew
    refine wp_region_held_drew (S := fun w' => Sym.Blk w' g2 (pq p) 25) (by kernel_rfl) (hm16.at 0 rfl) (fun _ => ?_)
    generalize w13.drew = w17 at *
    refine Sym.take_at 0 23 (.pointer (some ⟨g2, 32, none⟩)) rfl rfl (by kernel_rfl) (by kernel_rfl) (by kernel_rfl) (fun _ _ _ h => nomatch h.1) rfl (fun _ hw => r_f1 g2 rfl rfl) (hm16.at 0 rfl) ?_
    simp only [nz1, nz2, nz3]
    refine Sym.take_at 1 24 (.agg (bs p.y)) rfl rfl (by kernel_rfl) (by kernel_rfl) (by kernel_rfl) (fun _ _ _ h => nomatch h.1) rfl (fun _ hw => r_c1 (x := p.x) (y := p.y) (z := p.z) (t := p.t) g2 hw rfl rfl) (hm16.at 0 rfl) ?_
    simp only [nz1, nz2, nz3]
    refine Sym.take_at 2 25 (.pointer (some ⟨g2, 32, none⟩)) rfl rfl (by kernel_rfl) (by kernel_rfl) (by kernel_rfl) (fun _ _ _ h => nomatch h.1) rfl (fun _ hw => r_f1 g2 rfl rfl) (hm16.at 0 rfl) ?_
    simp only [nz1, nz2, nz3]
    refine Sym.take_at 3 26 (.agg (bs p.y)) rfl rfl (by kernel_rfl) (by kernel_rfl) (by kernel_rfl) (fun _ _ _ h => nomatch h.1) rfl (fun _ hw => r_c1 (x := p.x) (y := p.y) (z := p.z) (t := p.t) g2 hw rfl rfl) (hm16.at 0 rfl) ?_
    simp only [nz1, nz2, nz3]
    refine Sym.take_at 5 28 (.pointer (some ⟨g2, 0, none⟩)) rfl rfl (by kernel_rfl) (by kernel_rfl) (by kernel_rfl) (fun _ _ _ h => nomatch h.1) rfl (fun _ hw => r_f0 g2 rfl rfl) (hm16.at 0 rfl) ?_
    simp only [nz1, nz2, nz3]
    refine Sym.take_at 6 29 (.agg (bs p.x)) rfl rfl (by kernel_rfl) (by kernel_rfl) (by kernel_rfl) (fun _ _ _ h => nomatch h.1) rfl (fun _ hw => r_c0 (x := p.x) (y := p.y) (z := p.z) (t := p.t) g2 hw rfl rfl) (hm16.at 0 rfl) ?_
    simp only [nz1, nz2, nz3]
    refine Sym.take_at 7 30 (.pointer (some ⟨g2, 0, none⟩)) rfl rfl (by kernel_rfl) (by kernel_rfl) (by kernel_rfl) (fun _ _ _ h => nomatch h.1) rfl (fun _ hw => r_f0 g2 rfl rfl) (hm16.at 0 rfl) ?_
    simp only [nz1, nz2, nz3]
    refine Sym.take_at 8 31 (.agg (bs p.x)) rfl rfl (by kernel_rfl) (by kernel_rfl) (by kernel_rfl) (fun _ _ _ h => nomatch h.1) rfl (fun _ hw => r_c0 (x := p.x) (y := p.y) (z := p.z) (t := p.t) g2 hw rfl rfl) (hm16.at 0 rfl) ?_
    simp only [nz1, nz2, nz3]
    refine two_ready 4 11 (by kernel_rfl) ?_ ?_
    · refine opd rfl rfl (m_call hm16 27 (.agg (bs (fM p.y p.y))) rfl (run_gMul rfl rfl rfl) (rmul_f p.y p.y hp.y hp.y _) (fun w18 hm19 => ?_))
      refine ⟨hm19.at 0 rfl, ?_⟩
      simp only [nz1, nz2, nz3]
      refine two_ready 9 11 (by kernel_rfl) ?_ ?_
      · refine opd rfl rfl (m_call hm19 32 (.agg (bs (fM p.x p.x))) rfl (run_gMul rfl rfl rfl) (rmul_f p.x p.x hp.x hp.x _) (fun w20 hm21 => ?_))
        refine ⟨hm21.at 0 rfl, ?_⟩
        simp only [nz1, nz2, nz3]
        refine two_ready 10 11 (by kernel_rfl) ?_ ?_
        · refine opd rfl rfl (m_call hm21 33 (.agg (bs (fS (fM p.y p.y) (fM p.x p.x)))) rfl (run_gSub rfl rfl rfl) (rsub_f (fM p.y p.y) (fM p.x p.x) (f_lt (fM_lt _ _)) (f_lt (fM_lt _ _)) _) (fun w22 hm23 => ?_))
          refine ⟨hm23.at 0 rfl, ?_⟩
          simp only [nz1, nz2, nz3]
          refine one_ready 11 (by kernel_rfl) ?_
          refine opd rfl rfl (m_alloc (c := bs 0) (T := 23) hm23 3 rfl (run_alN rfl) (fun g24 w25 hm26 => ?_))
          refine ⟨hm26.at 0 rfl, ?_⟩
          simp only [nz1, nz2, nz3]
          refine one_ready 12 (by kernel_rfl) ?_
          refine opd rfl rfl (m_store 1 23 _ _ (bs (fS (fM p.y p.y) (fM p.x p.x))) (old := bs 0) hm26 rfl rfl rfl rfl rfl (by rw [bs_sz]; exact info_b) ((bs_sz _).trans (bs_sz _).symm) (bs_one _) (fun w27 hm28 => ?_))
          refine ⟨hm28.at 0 rfl, ?_⟩
          refine wpAnyH_done (by kernel_rfl) ?_ _
          exact ⟨rfl, g24, rfl, hm28⟩
        · refine opd rfl rfl (m_alloc (c := bs 0) (T := 23) hm21 3 rfl (run_alN rfl) (fun g29 w30 hm31 => ?_))
          refine ⟨hm31.at 0 rfl, ?_⟩
          simp only [nz1, nz2, nz3]
          refine one_ready 10 (by kernel_rfl) ?_
          refine opd rfl rfl (m_call hm31 33 (.agg (bs (fS (fM p.y p.y) (fM p.x p.x)))) rfl (run_gSub rfl rfl rfl) (rsub_f (fM p.y p.y) (fM p.x p.x) (f_lt (fM_lt _ _)) (f_lt (fM_lt _ _)) _) (fun w32 hm33 => ?_))
          refine ⟨hm33.at 0 rfl, ?_⟩
          simp only [nz1, nz2, nz3]
          refine one_ready 12 (by kernel_rfl) ?_
          refine opd rfl rfl (m_store 1 23 _ _ (bs (fS (fM p.y p.y) (fM p.x p.x))) (old := bs 0) hm33 rfl rfl rfl rfl rfl (by rw [bs_sz]; exact info_b) ((bs_sz _).trans (bs_sz _).symm) (bs_one _) (fun w34 hm35 => ?_))
          refine ⟨hm35.at 0 rfl, ?_⟩
          refine wpAnyH_done (by kernel_rfl) ?_ _
          exact ⟨rfl, g29, rfl, hm35⟩
      · refine opd rfl rfl (m_alloc (c := bs 0) (T := 23) hm19 3 rfl (run_alN rfl) (fun g36 w37 hm38 => ?_))
        refine ⟨hm38.at 0 rfl, ?_⟩
        simp only [nz1, nz2, nz3]
        refine one_ready 9 (by kernel_rfl) ?_
        refine opd rfl rfl (m_call hm38 32 (.agg (bs (fM p.x p.x))) rfl (run_gMul rfl rfl rfl) (rmul_f p.x p.x hp.x hp.x _) (fun w39 hm40 => ?_))
        refine ⟨hm40.at 0 rfl, ?_⟩
        simp only [nz1, nz2, nz3]
        refine one_ready 10 (by kernel_rfl) ?_
        refine opd rfl rfl (m_call hm40 33 (.agg (bs (fS (fM p.y p.y) (fM p.x p.x)))) rfl (run_gSub rfl rfl rfl) (rsub_f (fM p.y p.y) (fM p.x p.x) (f_lt (fM_lt _ _)) (f_lt (fM_lt _ _)) _) (fun w41 hm42 => ?_))
        refine ⟨hm42.at 0 rfl, ?_⟩
        simp only [nz1, nz2, nz3]
        refine one_ready 12 (by kernel_rfl) ?_
        refine opd rfl rfl (m_store 1 23 _ _ (bs (fS (fM p.y p.y) (fM p.x p.x))) (old := bs 0) hm42 rfl rfl rfl rfl rfl (by rw [bs_sz]; exact info_b) ((bs_sz _).trans (bs_sz _).symm) (bs_one _) (fun w43 hm44 => ?_))
        refine ⟨hm44.at 0 rfl, ?_⟩
        refine wpAnyH_done (by kernel_rfl) ?_ _
        exact ⟨rfl, g36, rfl, hm44⟩
    · refine opd rfl rfl (m_alloc (c := bs 0) (T := 23) hm16 3 rfl (run_alN rfl) (fun g45 w46 hm47 => ?_))
      refine ⟨hm47.at 0 rfl, ?_⟩
      simp only [nz1, nz2, nz3]
      refine one_ready 4 (by kernel_rfl) ?_
      refine opd rfl rfl (m_call hm47 27 (.agg (bs (fM p.y p.y))) rfl (run_gMul rfl rfl rfl) (rmul_f p.y p.y hp.y hp.y _) (fun w48 hm49 => ?_))
      refine ⟨hm49.at 0 rfl, ?_⟩
      simp only [nz1, nz2, nz3]
      refine one_ready 9 (by kernel_rfl) ?_
      refine opd rfl rfl (m_call hm49 32 (.agg (bs (fM p.x p.x))) rfl (run_gMul rfl rfl rfl) (rmul_f p.x p.x hp.x hp.x _) (fun w50 hm51 => ?_))
      refine ⟨hm51.at 0 rfl, ?_⟩
      simp only [nz1, nz2, nz3]
      refine one_ready 10 (by kernel_rfl) ?_
      refine opd rfl rfl (m_call hm51 33 (.agg (bs (fS (fM p.y p.y) (fM p.x p.x)))) rfl (run_gSub rfl rfl rfl) (rsub_f (fM p.y p.y) (fM p.x p.x) (f_lt (fM_lt _ _)) (f_lt (fM_lt _ _)) _) (fun w52 hm53 => ?_))
      refine ⟨hm53.at 0 rfl, ?_⟩
      simp only [nz1, nz2, nz3]
      refine one_ready 12 (by kernel_rfl) ?_
      refine opd rfl rfl (m_store 1 23 _ _ (bs (fS (fM p.y p.y) (fM p.x p.x))) (old := bs 0) hm53 rfl rfl rfl rfl rfl (by rw [bs_sz]; exact info_b) ((bs_sz _).trans (bs_sz _).symm) (bs_one _) (fun w54 hm55 => ?_))
      refine ⟨hm55.at 0 rfl, ?_⟩
      refine wpAnyH_done (by kernel_rfl) ?_ _
      exact ⟨rfl, g45, rfl, hm55⟩
  clear hm14
  rintro _ _ w56 ⟨rfl, g24, rfl, hm57⟩
  refine then_n (hK15 _ _ ?_)
  refine wp_seq_k (fun K58 hK58 => ?_)
  refine wp_mono (Q := fun e a' w' => e = Exit.normal ∧ ∃ g71 : Nat, a' = ⟨#[.agg (pq p), .pointer (some ⟨g2, 0, none⟩), .bool false, .pointer (some ⟨g24, 0, none⟩), .pointer (some ⟨g71, 0, none⟩), .pointer (some ⟨g2, 64, none⟩), .agg (bs p.z), .agg (bs (fR p.z)), .agg (bs 0), .bool false, .bool false, .pointer (some ⟨g2, 96, none⟩), .agg (bs p.t), .pointer (some ⟨g2, 64, none⟩), .agg (bs p.z), .agg (bs (fM p.t p.z)), .pointer (some ⟨g2, 0, none⟩), .agg (bs p.x), .pointer (some ⟨g2, 32, none⟩), .agg (bs p.y), .agg (bs (fM p.x p.y)), .bool false, .bool false, .pointer (some ⟨g2, 32, none⟩), .agg (bs p.y), .pointer (some ⟨g2, 32, none⟩), .agg (bs p.y), .agg (bs (fM p.y p.y)), .pointer (some ⟨g2, 0, none⟩), .agg (bs p.x), .pointer (some ⟨g2, 0, none⟩), .agg (bs p.x), .agg (bs (fM p.x p.x)), .agg (bs (fS (fM p.y p.y) (fM p.x p.x))), .pointer (some ⟨g2, 64, none⟩), .agg (bs p.z), .pointer (some ⟨g2, 64, none⟩), .agg (bs p.z), .agg (bs (fM p.z p.z)), .agg (bs dN), .pointer (some ⟨g2, 96, none⟩), .agg (bs p.t), .pointer (some ⟨g2, 96, none⟩), .agg (bs p.t), .agg (bs (fM p.t p.t)), .agg (bs (fM dN (fM p.t p.t))), .agg (bs (fA (fM p.z p.z) (fM dN (fM p.t p.t)))), undef, undef, undef], []⟩ ∧ Mm w w' [(g2, pq p, 25), (g24, bs (fS (fM p.y p.y) (fM p.x p.x)), 23), (g71, bs (fA (fM p.z p.z) (fM dN (fM p.t p.t))), 23)]) ?_ ?_
  · have hm59 := hm57.drew
    refine wp_region_held_drew (S := fun w' => Sym.Blk w' g2 (pq p) 25) (by kernel_rfl) (hm59.at 0 rfl) (fun _ => ?_)
    generalize w56.drew = w60 at *
    refine Sym.take_at 0 34 (.pointer (some ⟨g2, 64, none⟩)) rfl rfl (by kernel_rfl) (by kernel_rfl) (by kernel_rfl) (fun _ _ _ h => nomatch h.1) rfl (fun _ hw => r_f2 g2 rfl rfl) (hm59.at 0 rfl) ?_
    simp only [nz1, nz2, nz3]
    refine Sym.take_at 1 35 (.agg (bs p.z)) rfl rfl (by kernel_rfl) (by kernel_rfl) (by kernel_rfl) (fun _ _ _ h => nomatch h.1) rfl (fun _ hw => r_c2 (x := p.x) (y := p.y) (z := p.z) (t := p.t) g2 hw rfl rfl) (hm59.at 0 rfl) ?_
    simp only [nz1, nz2, nz3]
    refine Sym.take_at 2 36 (.pointer (some ⟨g2, 64, none⟩)) rfl rfl (by kernel_rfl) (by kernel_rfl) (by kernel_rfl) (fun _ _ _ h => nomatch h.1) rfl (fun _ hw => r_f2 g2 rfl rfl) (hm59.at 0 rfl) ?_
    simp only [nz1, nz2, nz3]
    refine Sym.take_at 3 37 (.agg (bs p.z)) rfl rfl (by kernel_rfl) (by kernel_rfl) (by kernel_rfl) (fun _ _ _ h => nomatch h.1) rfl (fun _ hw => r_c2 (x := p.x) (y := p.y) (z := p.z) (t := p.t) g2 hw rfl rfl) (hm59.at 0 rfl) ?_
    simp only [nz1, nz2, nz3]
    refine Sym.take_at 6 40 (.pointer (some ⟨g2, 96, none⟩)) rfl rfl (by kernel_rfl) (by kernel_rfl) (by kernel_rfl) (fun _ _ _ h => nomatch h.1) rfl (fun _ hw => r_f3 g2 rfl rfl) (hm59.at 0 rfl) ?_
    simp only [nz1, nz2, nz3]
    refine Sym.take_at 7 41 (.agg (bs p.t)) rfl rfl (by kernel_rfl) (by kernel_rfl) (by kernel_rfl) (fun _ _ _ h => nomatch h.1) rfl (fun _ hw => r_c3 (x := p.x) (y := p.y) (z := p.z) (t := p.t) g2 hw rfl rfl) (hm59.at 0 rfl) ?_
    simp only [nz1, nz2, nz3]
    refine Sym.take_at 8 42 (.pointer (some ⟨g2, 96, none⟩)) rfl rfl (by kernel_rfl) (by kernel_rfl) (by kernel_rfl) (fun _ _ _ h => nomatch h.1) rfl (fun _ hw => r_f3 g2 rfl rfl) (hm59.at 0 rfl) ?_
    simp only [nz1, nz2, nz3]
    refine Sym.take_at 9 43 (.agg (bs p.t)) rfl rfl (by kernel_rfl) (by kernel_rfl) (by kernel_rfl) (fun _ _ _ h => nomatch h.1) rfl (fun _ hw => r_c3 (x := p.x) (y := p.y) (z := p.z) (t := p.t) g2 hw rfl rfl) (hm59.at 0 rfl) ?_
    simp only [nz1, nz2, nz3]
    refine two_ready 4 13 (by kernel_rfl) ?_ ?_
    · refine opd rfl rfl (m_call hm59 38 (.agg (bs (fM p.z p.z))) rfl (run_gMul rfl rfl rfl) (rmul_f p.z p.z hp.z hp.z _) (fun w61 hm62 => ?_))
      refine ⟨hm62.at 0 rfl, ?_⟩
      simp only [nz1, nz2, nz3]
      refine two_ready 5 13 (by kernel_rfl) ?_ ?_
      · refine opd rfl rfl (m_call hm62 39 (.agg (bs dN)) rfl (run_factor rfl) (factor_any _) (fun w63 hm64 => ?_))
        refine ⟨hm64.at 0 rfl, ?_⟩
        simp only [nz1, nz2, nz3]
        refine two_ready 10 13 (by kernel_rfl) ?_ ?_
        · refine opd rfl rfl (m_call hm64 44 (.agg (bs (fM p.t p.t))) rfl (run_gMul rfl rfl rfl) (rmul_f p.t p.t hp.t hp.t _) (fun w65 hm66 => ?_))
          refine ⟨hm66.at 0 rfl, ?_⟩
          simp only [nz1, nz2, nz3]
          refine two_ready 11 13 (by kernel_rfl) ?_ ?_
          · refine opd rfl rfl (m_call hm66 45 (.agg (bs (fM dN (fM p.t p.t)))) rfl (run_gMul rfl rfl rfl) (rmul_f dN (fM p.t p.t) dN_lt (f_lt (fM_lt _ _)) _) (fun w67 hm68 => ?_))
            refine ⟨hm68.at 0 rfl, ?_⟩
            simp only [nz1, nz2, nz3]
            refine two_ready 12 13 (by kernel_rfl) ?_ ?_
            · refine opd rfl rfl (m_call hm68 46 (.agg (bs (fA (fM p.z p.z) (fM dN (fM p.t p.t))))) rfl (run_gAdd rfl rfl rfl) (radd_f (fM p.z p.z) (fM dN (fM p.t p.t)) (f_lt (fM_lt _ _)) (f_lt (fM_lt _ _)) _) (fun w69 hm70 => ?_))
              refine ⟨hm70.at 0 rfl, ?_⟩
              simp only [nz1, nz2, nz3]
              refine one_ready 13 (by kernel_rfl) ?_
              refine opd rfl rfl (m_alloc (c := bs 0) (T := 23) hm70 4 rfl (run_alN rfl) (fun g71 w72 hm73 => ?_))
              refine ⟨hm73.at 0 rfl, ?_⟩
              simp only [nz1, nz2, nz3]
              refine one_ready 14 (by kernel_rfl) ?_
              refine opd rfl rfl (m_store 2 23 _ _ (bs (fA (fM p.z p.z) (fM dN (fM p.t p.t)))) (old := bs 0) hm73 rfl rfl rfl rfl rfl (by rw [bs_sz]; exact info_b) ((bs_sz _).trans (bs_sz _).symm) (bs_one _) (fun w74 hm75 => ?_))
              refine ⟨hm75.at 0 rfl, ?_⟩
              refine wpAnyH_done (by kernel_rfl) ?_ _
              exact ⟨rfl, g71, rfl, hm75⟩
            · refine opd rfl rfl (m_alloc (c := bs 0) (T := 23) hm68 4 rfl (run_alN rfl) (fun g76 w77 hm78 => ?_))
              refine ⟨hm78.at 0 rfl, ?_⟩
              simp only [nz1, nz2, nz3]
              refine one_ready 12 (by kernel_rfl) ?_
              refine opd rfl rfl (m_call hm78 46 (.agg (bs (fA (fM p.z p.z) (fM dN (fM p.t p.t))))) rfl (run_gAdd rfl rfl rfl) (radd_f (fM p.z p.z) (fM dN (fM p.t p.t)) (f_lt (fM_lt _ _)) (f_lt (fM_lt _ _)) _) (fun w79 hm80 => ?_))
              refine ⟨hm80.at 0 rfl, ?_⟩
              simp only [nz1, nz2, nz3]
              refine one_ready 14 (by kernel_rfl) ?_
              refine opd rfl rfl (m_store 2 23 _ _ (bs (fA (fM p.z p.z) (fM dN (fM p.t p.t)))) (old := bs 0) hm80 rfl rfl rfl rfl rfl (by rw [bs_sz]; exact info_b) ((bs_sz _).trans (bs_sz _).symm) (bs_one _) (fun w81 hm82 => ?_))
              refine ⟨hm82.at 0 rfl, ?_⟩
              refine wpAnyH_done (by kernel_rfl) ?_ _
              exact ⟨rfl, g76, rfl, hm82⟩
          · refine opd rfl rfl (m_alloc (c := bs 0) (T := 23) hm66 4 rfl (run_alN rfl) (fun g83 w84 hm85 => ?_))
            refine ⟨hm85.at 0 rfl, ?_⟩
            simp only [nz1, nz2, nz3]
            refine one_ready 11 (by kernel_rfl) ?_
            refine opd rfl rfl (m_call hm85 45 (.agg (bs (fM dN (fM p.t p.t)))) rfl (run_gMul rfl rfl rfl) (rmul_f dN (fM p.t p.t) dN_lt (f_lt (fM_lt _ _)) _) (fun w86 hm87 => ?_))
            refine ⟨hm87.at 0 rfl, ?_⟩
            simp only [nz1, nz2, nz3]
            refine one_ready 12 (by kernel_rfl) ?_
            refine opd rfl rfl (m_call hm87 46 (.agg (bs (fA (fM p.z p.z) (fM dN (fM p.t p.t))))) rfl (run_gAdd rfl rfl rfl) (radd_f (fM p.z p.z) (fM dN (fM p.t p.t)) (f_lt (fM_lt _ _)) (f_lt (fM_lt _ _)) _) (fun w88 hm89 => ?_))
            refine ⟨hm89.at 0 rfl, ?_⟩
            simp only [nz1, nz2, nz3]
            refine one_ready 14 (by kernel_rfl) ?_
            refine opd rfl rfl (m_store 2 23 _ _ (bs (fA (fM p.z p.z) (fM dN (fM p.t p.t)))) (old := bs 0) hm89 rfl rfl rfl rfl rfl (by rw [bs_sz]; exact info_b) ((bs_sz _).trans (bs_sz _).symm) (bs_one _) (fun w90 hm91 => ?_))
            refine ⟨hm91.at 0 rfl, ?_⟩
            refine wpAnyH_done (by kernel_rfl) ?_ _
            exact ⟨rfl, g83, rfl, hm91⟩
        · refine opd rfl rfl (m_alloc (c := bs 0) (T := 23) hm64 4 rfl (run_alN rfl) (fun g92 w93 hm94 => ?_))
          refine ⟨hm94.at 0 rfl, ?_⟩
          simp only [nz1, nz2, nz3]
          refine one_ready 10 (by kernel_rfl) ?_
          refine opd rfl rfl (m_call hm94 44 (.agg (bs (fM p.t p.t))) rfl (run_gMul rfl rfl rfl) (rmul_f p.t p.t hp.t hp.t _) (fun w95 hm96 => ?_))
          refine ⟨hm96.at 0 rfl, ?_⟩
          simp only [nz1, nz2, nz3]
          refine one_ready 11 (by kernel_rfl) ?_
          refine opd rfl rfl (m_call hm96 45 (.agg (bs (fM dN (fM p.t p.t)))) rfl (run_gMul rfl rfl rfl) (rmul_f dN (fM p.t p.t) dN_lt (f_lt (fM_lt _ _)) _) (fun w97 hm98 => ?_))
          refine ⟨hm98.at 0 rfl, ?_⟩
          simp only [nz1, nz2, nz3]
          refine one_ready 12 (by kernel_rfl) ?_
          refine opd rfl rfl (m_call hm98 46 (.agg (bs (fA (fM p.z p.z) (fM dN (fM p.t p.t))))) rfl (run_gAdd rfl rfl rfl) (radd_f (fM p.z p.z) (fM dN (fM p.t p.t)) (f_lt (fM_lt _ _)) (f_lt (fM_lt _ _)) _) (fun w99 hm100 => ?_))
          refine ⟨hm100.at 0 rfl, ?_⟩
          simp only [nz1, nz2, nz3]
          refine one_ready 14 (by kernel_rfl) ?_
          refine opd rfl rfl (m_store 2 23 _ _ (bs (fA (fM p.z p.z) (fM dN (fM p.t p.t)))) (old := bs 0) hm100 rfl rfl rfl rfl rfl (by rw [bs_sz]; exact info_b) ((bs_sz _).trans (bs_sz _).symm) (bs_one _) (fun w101 hm102 => ?_))
          refine ⟨hm102.at 0 rfl, ?_⟩
          refine wpAnyH_done (by kernel_rfl) ?_ _
          exact ⟨rfl, g92, rfl, hm102⟩
      · refine opd rfl rfl (m_alloc (c := bs 0) (T := 23) hm62 4 rfl (run_alN rfl) (fun g103 w104 hm105 => ?_))
        refine ⟨hm105.at 0 rfl, ?_⟩
        simp only [nz1, nz2, nz3]
        refine one_ready 5 (by kernel_rfl) ?_
        refine opd rfl rfl (m_call hm105 39 (.agg (bs dN)) rfl (run_factor rfl) (factor_any _) (fun w106 hm107 => ?_))
        refine ⟨hm107.at 0 rfl, ?_⟩
        simp only [nz1, nz2, nz3]
        refine one_ready 10 (by kernel_rfl) ?_
        refine opd rfl rfl (m_call hm107 44 (.agg (bs (fM p.t p.t))) rfl (run_gMul rfl rfl rfl) (rmul_f p.t p.t hp.t hp.t _) (fun w108 hm109 => ?_))
        refine ⟨hm109.at 0 rfl, ?_⟩
        simp only [nz1, nz2, nz3]
        refine one_ready 11 (by kernel_rfl) ?_
        refine opd rfl rfl (m_call hm109 45 (.agg (bs (fM dN (fM p.t p.t)))) rfl (run_gMul rfl rfl rfl) (rmul_f dN (fM p.t p.t) dN_lt (f_lt (fM_lt _ _)) _) (fun w110 hm111 => ?_))
        refine ⟨hm111.at 0 rfl, ?_⟩
        simp only [nz1, nz2, nz3]
        refine one_ready 12 (by kernel_rfl) ?_
        refine opd rfl rfl (m_call hm111 46 (.agg (bs (fA (fM p.z p.z) (fM dN (fM p.t p.t))))) rfl (run_gAdd rfl rfl rfl) (radd_f (fM p.z p.z) (fM dN (fM p.t p.t)) (f_lt (fM_lt _ _)) (f_lt (fM_lt _ _)) _) (fun w112 hm113 => ?_))
        refine ⟨hm113.at 0 rfl, ?_⟩
        simp only [nz1, nz2, nz3]
        refine one_ready 14 (by kernel_rfl) ?_
        refine opd rfl rfl (m_store 2 23 _ _ (bs (fA (fM p.z p.z) (fM dN (fM p.t p.t)))) (old := bs 0) hm113 rfl rfl rfl rfl rfl (by rw [bs_sz]; exact info_b) ((bs_sz _).trans (bs_sz _).symm) (bs_one _) (fun w114 hm115 => ?_))
        refine ⟨hm115.at 0 rfl, ?_⟩
        refine wpAnyH_done (by kernel_rfl) ?_ _
        exact ⟨rfl, g103, rfl, hm115⟩
    · refine opd rfl rfl (m_alloc (c := bs 0) (T := 23) hm59 4 rfl (run_alN rfl) (fun g116 w117 hm118 => ?_))
      refine ⟨hm118.at 0 rfl, ?_⟩
      simp only [nz1, nz2, nz3]
      refine one_ready 4 (by kernel_rfl) ?_
      refine opd rfl rfl (m_call hm118 38 (.agg (bs (fM p.z p.z))) rfl (run_gMul rfl rfl rfl) (rmul_f p.z p.z hp.z hp.z _) (fun w119 hm120 => ?_))
      refine ⟨hm120.at 0 rfl, ?_⟩
      simp only [nz1, nz2, nz3]
      refine one_ready 5 (by kernel_rfl) ?_
      refine opd rfl rfl (m_call hm120 39 (.agg (bs dN)) rfl (run_factor rfl) (factor_any _) (fun w121 hm122 => ?_))
      refine ⟨hm122.at 0 rfl, ?_⟩
      simp only [nz1, nz2, nz3]
      refine one_ready 10 (by kernel_rfl) ?_
      refine opd rfl rfl (m_call hm122 44 (.agg (bs (fM p.t p.t))) rfl (run_gMul rfl rfl rfl) (rmul_f p.t p.t hp.t hp.t _) (fun w123 hm124 => ?_))
      refine ⟨hm124.at 0 rfl, ?_⟩
      simp only [nz1, nz2, nz3]
      refine one_ready 11 (by kernel_rfl) ?_
      refine opd rfl rfl (m_call hm124 45 (.agg (bs (fM dN (fM p.t p.t)))) rfl (run_gMul rfl rfl rfl) (rmul_f dN (fM p.t p.t) dN_lt (f_lt (fM_lt _ _)) _) (fun w125 hm126 => ?_))
      refine ⟨hm126.at 0 rfl, ?_⟩
      simp only [nz1, nz2, nz3]
      refine one_ready 12 (by kernel_rfl) ?_
      refine opd rfl rfl (m_call hm126 46 (.agg (bs (fA (fM p.z p.z) (fM dN (fM p.t p.t))))) rfl (run_gAdd rfl rfl rfl) (radd_f (fM p.z p.z) (fM dN (fM p.t p.t)) (f_lt (fM_lt _ _)) (f_lt (fM_lt _ _)) _) (fun w127 hm128 => ?_))
      refine ⟨hm128.at 0 rfl, ?_⟩
      simp only [nz1, nz2, nz3]
      refine one_ready 14 (by kernel_rfl) ?_
      refine opd rfl rfl (m_store 2 23 _ _ (bs (fA (fM p.z p.z) (fM dN (fM p.t p.t)))) (old := bs 0) hm128 rfl rfl rfl rfl rfl (by rw [bs_sz]; exact info_b) ((bs_sz _).trans (bs_sz _).symm) (bs_one _) (fun w129 hm130 => ?_))
      refine ⟨hm130.at 0 rfl, ?_⟩
      refine wpAnyH_done (by kernel_rfl) ?_ _
      exact ⟨rfl, g116, rfl, hm130⟩
  clear hm57
  rintro _ _ w131 ⟨rfl, g71, rfl, hm132⟩
  refine then_n (hK58 _ _ ?_)
  refine wp_seq_k (fun K133 hK133 => ?_)
  refine wp_region_lit ?_
  refine lv 47 (.agg (bs (fS (fM p.y p.y) (fM p.x p.x)))) rfl rfl (run_row rfl rfl (hm132.at 1 rfl) Tryd.underlying23 rfl (by rw [bs_sz]; exact info_b)) ?_
  simp only [nz1, nz2, nz3]
  refine lv 48 (.agg (bs (fA (fM p.z p.z) (fM dN (fM p.t p.t))))) rfl rfl (run_row rfl rfl (hm132.at 2 rfl) Tryd.underlying23 rfl (by rw [bs_sz]; exact info_b)) ?_
  simp only [nz1, nz2, nz3]
  refine lv 49 (.bool (decide ((fS (fM p.y p.y) (fM p.x p.x)) = (fA (fM p.z p.z) (fM dN (fM p.t p.t)))))) rfl rfl (run_eqlM (fS (fM p.y p.y) (fM p.x p.x)) (fA (fM p.z p.z) (fM dN (fM p.t p.t))) (f_lt (fS_lt _ _)) (f_lt (fA_lt _ _)) (decide ((fS (fM p.y p.y) (fM p.x p.x)) = (fA (fM p.z p.z) (fM dN (fM p.t p.t))))) rfl rfl rfl rfl) ?_
  simp only [nz1, nz2, nz3]
  refine lv 2 (.bool (decide ((fS (fM p.y p.y) (fM p.x p.x)) = (fA (fM p.z p.z) (fM dN (fM p.t p.t)))))) rfl rfl (run_as rfl rfl) ?_
  simp only [nz1, nz2, nz3]
  refine wpList_nil ?_
  refine then_n (hK133 _ _ ?_)
  refine wp_ret ?_
  exact ⟨rfl, .bool (decide ((fS (fM p.y p.y) (fM p.x p.x)) = (fA (fM p.z p.z) (fM dN (fM p.t p.t))))), res_t rfl rfl, ⟨rfl, hm132.below⟩⟩
theorem ron_p (p : Pn) (hp : p.ok) (w : World) : Calls Tryd.prog 15 #[.agg (pq p)] w (fun e w' => e = .returned (.bool (decide (onP p))) ∧ Below w.heap.size w w') := by
  by_cases h1 : fR p.z = 0
  · have h := ron_0 p hp h1 w
    rw [show false = decide (onP p) from (decide_eq_false fun h => h.1 h1).symm] at h
    exact h
  · by_cases h2 : fM p.t p.z = fM p.x p.y
    · have h := ron_2 p hp h1 h2 w
      rw [show decide (fS (fM p.y p.y) (fM p.x p.x) = fA (fM p.z p.z) (fM dN (fM p.t p.t))) = decide (onP p) from decide_eq_decide.2 ⟨fun h => ⟨h1, h2, h⟩, fun h => h.2.2⟩] at h
      exact h
    · have h := ron_1 p hp h1 h2 w
      rw [show false = decide (onP p) from (decide_eq_false fun h => h2 h.2.1).symm] at h
      exact h
end Go.Proofs.YtfpphinnngblgaaDoor.Fld
