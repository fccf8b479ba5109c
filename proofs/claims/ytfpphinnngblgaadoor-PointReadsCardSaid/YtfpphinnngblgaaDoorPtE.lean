/- Layer 5: on the curve. -/
import Derived.Test.YtfpphinnngblgaaDoorPtB
namespace Go.Proofs.YtfpphinnngblgaaDoor.Fld
open Go.RowKit Go.Lib
open Go.Proofs.YtfpphinnngblgaaDoor.Num (val up val_congr val_add val_lt val_up val_digits val_word)
open Go.Proofs.YtfpphinnngblgaaDoor.Arr Go.Proofs.YtfpphinnngblgaaDoor.Sym Go.Proofs.YtfpphinnngblgaaDoor.Sx

set_option maxHeartbeats 2000000 in
set_option maxRecDepth 100000 in
theorem on_0 (p : Pn) (hp : p.ok) (h1 : fR p.z = 0) (w : World) : Calls Tryd.prog 13 #[.agg (pq p)] w (fun e w' => e = .returned (.bool false) ∧ Below w.heap.size w w') := by
  go_enter Tryd.func13, Tryd.ntmps13
  have hm0 := Mm.nil w
  refine wp_seq_k (fun K1 hK1 => ?_)
  refine wp_region_lit ?_
  refine lst (wanted_none rfl) (m_alloc (c := pq p) (T := 25) hm0 1 rfl (run_box rfl rfl) (fun g2 w3 (hm4 : Mm w w3 [(g2, pq p, 25)]) => ?_))
  simp only [nz1, nz2, nz3]
  refine lv 2 (.bool false) rfl rfl (run_as rfl rfl) ?_
  simp only [nz1, nz2, nz3]
  refine wpList_nil ?_
  refine then_n (hK1 _ _ ?_)
  refine wp_seq_k (fun K5 hK5 => ?_)
  refine wp_seq_k (fun K6 hK6 => ?_)
  have hm7 := hm4.drew
  refine wp_region_held_drew (S := fun w' => Sym.Blk w' g2 (pq p) 25) (by kernel_rfl) (hm7.at 0 rfl) (fun _ => ?_)
  generalize w3.drew = w8 at *
  refine tk 0 5 (.pointer (some ⟨g2, 64, none⟩)) rfl rfl (fun _ hw => r_f2 g2 rfl rfl) (hm7.at 0 rfl) ?_
  simp only [nz1, nz2, nz3]
  refine tk 1 6 (.agg (bs p.z)) rfl rfl (fun _ hw => r_c2 (x := p.x) (y := p.y) (z := p.z) (t := p.t) g2 hw rfl rfl) (hm7.at 0 rfl) ?_
  simp only [nz1, nz2, nz3]
  refine tk 3 8 (.agg (bs 0)) rfl rfl (fun _ hw => by unfold execOp; go_simp; rfl) (hm7.at 0 rfl) ?_
  simp only [nz1, nz2, nz3]
  refine one_ready 2 (by kernel_rfl) ?_
  refine opd rfl (wanted_none rfl) (m_call hm7 7 (.agg (bs (fR p.z))) rfl (run_fReduce rfl rfl) (reduce_f p.z hp.z _) (fun w9 hm10 => ?_))
  refine ⟨hm10.at 0 rfl, ?_⟩
  simp only [nz1, nz2, nz3]
  refine tk 4 9 (.bool true) rfl rfl (fun _ hw => run_eqlM (fR p.z) 0 (f_lt (fR_lt _)) (by decide) true (decide_eq_true h1) rfl rfl rfl) (hm10.at 0 rfl) ?_
  simp only [nz1, nz2, nz3]
  refine tk 5 10 (.bool true) rfl rfl (fun _ hw => run_mv rfl rfl) (hm10.at 0 rfl) ?_
  simp only [nz1, nz2, nz3]
  refine skip_at 6 11 rfl rfl (by kernel_rfl) (by kernel_rfl) (by kernel_rfl) (fun _ _ _ h => h) rfl (hm10.at 0 rfl) ?_
  simp only [nz1, nz2, nz3]
  refine skip_at 7 12 rfl rfl (by kernel_rfl) (by kernel_rfl) (by kernel_rfl) (fun _ _ _ h => h) rfl (hm10.at 0 rfl) ?_
  simp only [nz1, nz2, nz3]
  refine skip_at 8 13 rfl rfl (by kernel_rfl) (by kernel_rfl) (by kernel_rfl) (fun _ _ _ h => h) rfl (hm10.at 0 rfl) ?_
  simp only [nz1, nz2, nz3]
  refine skip_at 9 14 rfl rfl (by kernel_rfl) (by kernel_rfl) (by kernel_rfl) (fun _ _ _ h => h) rfl (hm10.at 0 rfl) ?_
  simp only [nz1, nz2, nz3]
  refine skip_at 11 16 rfl rfl (by kernel_rfl) (by kernel_rfl) (by kernel_rfl) (fun _ _ _ h => h) rfl (hm10.at 0 rfl) ?_
  simp only [nz1, nz2, nz3]
  refine skip_at 12 17 rfl rfl (by kernel_rfl) (by kernel_rfl) (by kernel_rfl) (fun _ _ _ h => h) rfl (hm10.at 0 rfl) ?_
  simp only [nz1, nz2, nz3]
  refine skip_at 13 18 rfl rfl (by kernel_rfl) (by kernel_rfl) (by kernel_rfl) (fun _ _ _ h => h) rfl (hm10.at 0 rfl) ?_
  simp only [nz1, nz2, nz3]
  refine skip_at 14 19 rfl rfl (by kernel_rfl) (by kernel_rfl) (by kernel_rfl) (fun _ _ _ h => h) rfl (hm10.at 0 rfl) ?_
  simp only [nz1, nz2, nz3]
  refine one_ready 10 (by kernel_rfl) ?_
  refine opd_skip 15 rfl rfl rfl ⟨hm10.at 0 rfl, ?_⟩
  simp only [nz1, nz2, nz3]
  refine one_ready 15 (by kernel_rfl) ?_
  refine opd_skip 20 rfl rfl rfl ⟨hm10.at 0 rfl, ?_⟩
  simp only [nz1, nz2, nz3]
  refine skip_at 16 21 rfl rfl (by kernel_rfl) (by kernel_rfl) (by kernel_rfl) (fun _ _ _ h => h) rfl (hm10.at 0 rfl) ?_
  simp only [nz1, nz2, nz3]
  refine tk 17 22 (.bool true) rfl rfl (fun _ hw => run_pick rfl rfl rfl) (hm10.at 0 rfl) ?_
  simp only [nz1, nz2, nz3]
  refine wpAnyH_done (by kernel_rfl) ?_ _
  refine then_n (hK6 _ _ ?_)
  refine cond_t rfl ?_
  refine wp_seq_k (fun K11 hK11 => ?_)
  refine wp_region_lit ?_
  refine lv 2 (.bool false) rfl rfl (run_as rfl rfl) ?_
  simp only [nz1, nz2, nz3]
  refine wpList_nil ?_
  refine then_n (hK11 _ _ ?_)
  refine wp_ret ?_
  refine then_r ?_
  exact ⟨rfl, .bool false, res_t rfl rfl, ⟨rfl, hm10.below⟩⟩
set_option maxHeartbeats 2000000 in
set_option maxRecDepth 100000 in
theorem on_1 (p : Pn) (hp : p.ok) (h1 : ¬ fR p.z = 0) (h2 : ¬ fM p.t p.z = fM p.x p.y) (w : World) : Calls Tryd.prog 13 #[.agg (pq p)] w (fun e w' => e = .returned (.bool false) ∧ Below w.heap.size w w') := by
  go_enter Tryd.func13, Tryd.ntmps13
  have hm0 := Mm.nil w
  refine wp_seq_k (fun K1 hK1 => ?_)
  refine wp_region_lit ?_
  refine lst (wanted_none rfl) (m_alloc (c := pq p) (T := 25) hm0 1 rfl (run_box rfl rfl) (fun g2 w3 (hm4 : Mm w w3 [(g2, pq p, 25)]) => ?_))
  simp only [nz1, nz2, nz3]
  refine lv 2 (.bool false) rfl rfl (run_as rfl rfl) ?_
  simp only [nz1, nz2, nz3]
  refine wpList_nil ?_
  refine then_n (hK1 _ _ ?_)
  refine wp_seq_k (fun K5 hK5 => ?_)
  refine wp_seq_k (fun K6 hK6 => ?_)
  have hm7 := hm4.drew
  refine wp_region_held_drew (S := fun w' => Sym.Blk w' g2 (pq p) 25) (by kernel_rfl) (hm7.at 0 rfl) (fun _ => ?_)
  generalize w3.drew = w8 at *
  refine tk 0 5 (.pointer (some ⟨g2, 64, none⟩)) rfl rfl (fun _ hw => r_f2 g2 rfl rfl) (hm7.at 0 rfl) ?_
  simp only [nz1, nz2, nz3]
  refine tk 1 6 (.agg (bs p.z)) rfl rfl (fun _ hw => r_c2 (x := p.x) (y := p.y) (z := p.z) (t := p.t) g2 hw rfl rfl) (hm7.at 0 rfl) ?_
  simp only [nz1, nz2, nz3]
  refine tk 3 8 (.agg (bs 0)) rfl rfl (fun _ hw => by unfold execOp; go_simp; rfl) (hm7.at 0 rfl) ?_
  simp only [nz1, nz2, nz3]
  refine one_ready 2 (by kernel_rfl) ?_
  refine opd rfl (wanted_none rfl) (m_call hm7 7 (.agg (bs (fR p.z))) rfl (run_fReduce rfl rfl) (reduce_f p.z hp.z _) (fun w9 hm10 => ?_))
  refine ⟨hm10.at 0 rfl, ?_⟩
  simp only [nz1, nz2, nz3]
  refine tk 4 9 (.bool false) rfl rfl (fun _ hw => run_eqlM (fR p.z) 0 (f_lt (fR_lt _)) (by decide) false (decide_eq_false h1) rfl rfl rfl) (hm10.at 0 rfl) ?_
  simp only [nz1, nz2, nz3]
  refine tk 5 10 (.bool false) rfl rfl (fun _ hw => run_mv rfl rfl) (hm10.at 0 rfl) ?_
  simp only [nz1, nz2, nz3]
  refine Sym.take_at 6 11 (.pointer (some ⟨g2, 96, none⟩)) rfl rfl (by kernel_rfl) (by kernel_rfl) (by kernel_rfl) (fun _ _ _ h => h) rfl (fun _ hw => r_f3 g2 rfl rfl) (hm10.at 0 rfl) ?_
  simp only [nz1, nz2, nz3]
  refine Sym.take_at 7 12 (.agg (bs p.t)) rfl rfl (by kernel_rfl) (by kernel_rfl) (by kernel_rfl) (fun _ _ _ h => h) rfl (fun _ hw => r_c3 (x := p.x) (y := p.y) (z := p.z) (t := p.t) g2 hw rfl rfl) (hm10.at 0 rfl) ?_
  simp only [nz1, nz2, nz3]
  refine Sym.take_at 8 13 (.pointer (some ⟨g2, 64, none⟩)) rfl rfl (by kernel_rfl) (by kernel_rfl) (by kernel_rfl) (fun _ _ _ h => h) rfl (fun _ hw => r_f2 g2 rfl rfl) (hm10.at 0 rfl) ?_
  simp only [nz1, nz2, nz3]
  refine Sym.take_at 9 14 (.agg (bs p.z)) rfl rfl (by kernel_rfl) (by kernel_rfl) (by kernel_rfl) (fun _ _ _ h => h) rfl (fun _ hw => r_c2 (x := p.x) (y := p.y) (z := p.z) (t := p.t) g2 hw rfl rfl) (hm10.at 0 rfl) ?_
  simp only [nz1, nz2, nz3]
  refine Sym.take_at 11 16 (.pointer (some ⟨g2, 0, none⟩)) rfl rfl (by kernel_rfl) (by kernel_rfl) (by kernel_rfl) (fun _ _ _ h => h) rfl (fun _ hw => r_f0 g2 rfl rfl) (hm10.at 0 rfl) ?_
  simp only [nz1, nz2, nz3]
  refine Sym.take_at 12 17 (.agg (bs p.x)) rfl rfl (by kernel_rfl) (by kernel_rfl) (by kernel_rfl) (fun _ _ _ h => h) rfl (fun _ hw => r_c0 (x := p.x) (y := p.y) (z := p.z) (t := p.t) g2 hw rfl rfl) (hm10.at 0 rfl) ?_
  simp only [nz1, nz2, nz3]
  refine Sym.take_at 13 18 (.pointer (some ⟨g2, 32, none⟩)) rfl rfl (by kernel_rfl) (by kernel_rfl) (by kernel_rfl) (fun _ _ _ h => h) rfl (fun _ hw => r_f1 g2 rfl rfl) (hm10.at 0 rfl) ?_
  simp only [nz1, nz2, nz3]
  refine Sym.take_at 14 19 (.agg (bs p.y)) rfl rfl (by kernel_rfl) (by kernel_rfl) (by kernel_rfl) (fun _ _ _ h => h) rfl (fun _ hw => r_c1 (x := p.x) (y := p.y) (z := p.z) (t := p.t) g2 hw rfl rfl) (hm10.at 0 rfl) ?_
  simp only [nz1, nz2, nz3]
  refine one_ready 10 (by kernel_rfl) ?_
  refine opd rfl rfl (m_call hm10 15 (.agg (bs (fM p.t p.z))) rfl (run_fMul rfl rfl rfl) (mul_f p.t p.z hp.t hp.z _) (fun w11 hm12 => ?_))
  refine ⟨hm12.at 0 rfl, ?_⟩
  simp only [nz1, nz2, nz3]
  refine one_ready 15 (by kernel_rfl) ?_
  refine opd rfl rfl (m_call hm12 20 (.agg (bs (fM p.x p.y))) rfl (run_fMul rfl rfl rfl) (mul_f p.x p.y hp.x hp.y _) (fun w13 hm14 => ?_))
  refine ⟨hm14.at 0 rfl, ?_⟩
  simp only [nz1, nz2, nz3]
  refine Sym.take_at 16 21 (.bool true) rfl rfl (by kernel_rfl) (by kernel_rfl) (by kernel_rfl) (fun _ _ _ h => h) rfl (fun _ hw => run_neqM (fM p.t p.z) (fM p.x p.y) (f_lt (fM_lt _ _)) (f_lt (fM_lt _ _)) true (decide_eq_true h2) rfl rfl rfl) (hm14.at 0 rfl) ?_
  simp only [nz1, nz2, nz3]
  refine tk 17 22 (.bool true) rfl rfl (fun _ hw => run_pickf rfl rfl rfl) (hm14.at 0 rfl) ?_
  simp only [nz1, nz2, nz3]
  refine wpAnyH_done (by kernel_rfl) ?_ _
  refine then_n (hK6 _ _ ?_)
  refine cond_t rfl ?_
  refine wp_seq_k (fun K15 hK15 => ?_)
  refine wp_region_lit ?_
  refine lv 2 (.bool false) rfl rfl (run_as rfl rfl) ?_
  simp only [nz1, nz2, nz3]
  refine wpList_nil ?_
  refine then_n (hK15 _ _ ?_)
  refine wp_ret ?_
  refine then_r ?_
  exact ⟨rfl, .bool false, res_t rfl rfl, ⟨rfl, hm14.below⟩⟩
set_option maxHeartbeats 4000000 in
set_option maxRecDepth 100000 in
theorem on_2 (p : Pn) (hp : p.ok) (h1 : ¬ fR p.z = 0) (h2 : fM p.t p.z = fM p.x p.y) (w : World) (hd : DD w) : Calls Tryd.prog 13 #[.agg (pq p)] w (fun e w' => e = .returned (.bool (decide (fS (fM p.y p.y) (fM p.x p.x) = fA (fM p.z p.z) (fM dN (fM p.t p.t))))) ∧ Below w.heap.size w w') := by
  go_enter Tryd.func13, Tryd.ntmps13
  have hm0 := Mm.nil w
  refine wp_seq_k (fun K1 hK1 => ?_)
  refine wp_region_lit ?_
  refine lst (wanted_none rfl) (m_alloc (c := pq p) (T := 25) hm0 1 rfl (run_box rfl rfl) (fun g2 w3 (hm4 : Mm w w3 [(g2, pq p, 25)]) => ?_))
  simp only [nz1, nz2, nz3]
  refine lv 2 (.bool false) rfl rfl (run_as rfl rfl) ?_
  simp only [nz1, nz2, nz3]
  refine wpList_nil ?_
  refine then_n (hK1 _ _ ?_)
  refine wp_seq_k (fun K5 hK5 => ?_)
  refine wp_seq_k (fun K6 hK6 => ?_)
  have hm7 := hm4.drew
  refine wp_region_held_drew (S := fun w' => Sym.Blk w' g2 (pq p) 25) (by kernel_rfl) (hm7.at 0 rfl) (fun _ => ?_)
  generalize w3.drew = w8 at *
  refine tk 0 5 (.pointer (some ⟨g2, 64, none⟩)) rfl rfl (fun _ hw => r_f2 g2 rfl rfl) (hm7.at 0 rfl) ?_
  simp only [nz1, nz2, nz3]
  refine tk 1 6 (.agg (bs p.z)) rfl rfl (fun _ hw => r_c2 (x := p.x) (y := p.y) (z := p.z) (t := p.t) g2 hw rfl rfl) (hm7.at 0 rfl) ?_
  simp only [nz1, nz2, nz3]
  refine tk 3 8 (.agg (bs 0)) rfl rfl (fun _ hw => by unfold execOp; go_simp; rfl) (hm7.at 0 rfl) ?_
  simp only [nz1, nz2, nz3]
  refine one_ready 2 (by kernel_rfl) ?_
  refine opd rfl (wanted_none rfl) (m_call hm7 7 (.agg (bs (fR p.z))) rfl (run_fReduce rfl rfl) (reduce_f p.z hp.z _) (fun w9 hm10 => ?_))
  refine ⟨hm10.at 0 rfl, ?_⟩
  simp only [nz1, nz2, nz3]
  refine tk 4 9 (.bool false) rfl rfl (fun _ hw => run_eqlM (fR p.z) 0 (f_lt (fR_lt _)) (by decide) false (decide_eq_false h1) rfl rfl rfl) (hm10.at 0 rfl) ?_
  simp only [nz1, nz2, nz3]
  refine tk 5 10 (.bool false) rfl rfl (fun _ hw => run_mv rfl rfl) (hm10.at 0 rfl) ?_
  simp only [nz1, nz2, nz3]
  refine Sym.take_at 6 11 (.pointer (some ⟨g2, 96, none⟩)) rfl rfl (by kernel_rfl) (by kernel_rfl) (by kernel_rfl) (fun _ _ _ h => h) rfl (fun _ hw => r_f3 g2 rfl rfl) (hm10.at 0 rfl) ?_
  simp only [nz1, nz2, nz3]
  refine Sym.take_at 7 12 (.agg (bs p.t)) rfl rfl (by kernel_rfl) (by kernel_rfl) (by kernel_rfl) (fun _ _ _ h => h) rfl (fun _ hw => r_c3 (x := p.x) (y := p.y) (z := p.z) (t := p.t) g2 hw rfl rfl) (hm10.at 0 rfl) ?_
  simp only [nz1, nz2, nz3]
  refine Sym.take_at 8 13 (.pointer (some ⟨g2, 64, none⟩)) rfl rfl (by kernel_rfl) (by kernel_rfl) (by kernel_rfl) (fun _ _ _ h => h) rfl (fun _ hw => r_f2 g2 rfl rfl) (hm10.at 0 rfl) ?_
  simp only [nz1, nz2, nz3]
  refine Sym.take_at 9 14 (.agg (bs p.z)) rfl rfl (by kernel_rfl) (by kernel_rfl) (by kernel_rfl) (fun _ _ _ h => h) rfl (fun _ hw => r_c2 (x := p.x) (y := p.y) (z := p.z) (t := p.t) g2 hw rfl rfl) (hm10.at 0 rfl) ?_
  simp only [nz1, nz2, nz3]
  refine Sym.take_at 11 16 (.pointer (some ⟨g2, 0, none⟩)) rfl rfl (by kernel_rfl) (by kernel_rfl) (by kernel_rfl) (fun _ _ _ h => h) rfl (fun _ hw => r_f0 g2 rfl rfl) (hm10.at 0 rfl) ?_
  simp only [nz1, nz2, nz3]
  refine Sym.take_at 12 17 (.agg (bs p.x)) rfl rfl (by kernel_rfl) (by kernel_rfl) (by kernel_rfl) (fun _ _ _ h => h) rfl (fun _ hw => r_c0 (x := p.x) (y := p.y) (z := p.z) (t := p.t) g2 hw rfl rfl) (hm10.at 0 rfl) ?_
  simp only [nz1, nz2, nz3]
  refine Sym.take_at 13 18 (.pointer (some ⟨g2, 32, none⟩)) rfl rfl (by kernel_rfl) (by kernel_rfl) (by kernel_rfl) (fun _ _ _ h => h) rfl (fun _ hw => r_f1 g2 rfl rfl) (hm10.at 0 rfl) ?_
  simp only [nz1, nz2, nz3]
  refine Sym.take_at 14 19 (.agg (bs p.y)) rfl rfl (by kernel_rfl) (by kernel_rfl) (by kernel_rfl) (fun _ _ _ h => h) rfl (fun _ hw => r_c1 (x := p.x) (y := p.y) (z := p.z) (t := p.t) g2 hw rfl rfl) (hm10.at 0 rfl) ?_
  simp only [nz1, nz2, nz3]
  refine one_ready 10 (by kernel_rfl) ?_
  refine opd rfl rfl (m_call hm10 15 (.agg (bs (fM p.t p.z))) rfl (run_fMul rfl rfl rfl) (mul_f p.t p.z hp.t hp.z _) (fun w11 hm12 => ?_))
  refine ⟨hm12.at 0 rfl, ?_⟩
  simp only [nz1, nz2, nz3]
  refine one_ready 15 (by kernel_rfl) ?_
  refine opd rfl rfl (m_call hm12 20 (.agg (bs (fM p.x p.y))) rfl (run_fMul rfl rfl rfl) (mul_f p.x p.y hp.x hp.y _) (fun w13 hm14 => ?_))
  refine ⟨hm14.at 0 rfl, ?_⟩
  simp only [nz1, nz2, nz3]
  refine Sym.take_at 16 21 (.bool false) rfl rfl (by kernel_rfl) (by kernel_rfl) (by kernel_rfl) (fun _ _ _ h => h) rfl (fun _ hw => run_neqM (fM p.t p.z) (fM p.x p.y) (f_lt (fM_lt _ _)) (f_lt (fM_lt _ _)) false (decide_eq_false (fun h => h h2)) rfl rfl rfl) (hm14.at 0 rfl) ?_
  simp only [nz1, nz2, nz3]
  refine tk 17 22 (.bool false) rfl rfl (fun _ hw => run_pickf rfl rfl rfl) (hm14.at 0 rfl) ?_
  simp only [nz1, nz2, nz3]
  refine wpAnyH_done (by kernel_rfl) ?_ _
  refine then_n (hK6 _ _ ?_)
  refine cond_f rfl ?_
  refine wp_skip ?_
  refine then_n (hK5 _ _ ?_)
  refine wp_seq_k (fun K15 hK15 => ?_)
  refine wp_mono (Q := fun e a' w' => e = Exit.normal ∧ ∃ g24 : Nat, a' = ⟨#[.agg (pq p), .pointer (some ⟨g2, 0, none⟩), .bool false, .pointer (some ⟨g24, 0, none⟩), undef, .pointer (some ⟨g2, 64, none⟩), .agg (bs p.z), .agg (bs (fR p.z)), .agg (bs 0), .bool false, .bool false, .pointer (some ⟨g2, 96, none⟩), .agg (bs p.t), .pointer (some ⟨g2, 64, none⟩), .agg (bs p.z), .agg (bs (fM p.t p.z)), .pointer (some ⟨g2, 0, none⟩), .agg (bs p.x), .pointer (some ⟨g2, 32, none⟩), .agg (bs p.y), .agg (bs (fM p.x p.y)), .bool false, .bool false, .pointer (some ⟨g2, 32, none⟩), .agg (bs p.y), .pointer (some ⟨g2, 32, none⟩), .agg (bs p.y), .agg (bs (fM p.y p.y)), .pointer (some ⟨g2, 0, none⟩), .agg (bs p.x), .pointer (some ⟨g2, 0, none⟩), .agg (bs p.x), .agg (bs (fM p.x p.x)), .agg (bs (fS (fM p.y p.y) (fM p.x p.x))), undef, undef, undef, undef, undef, undef, undef, undef, undef, undef, undef, undef, undef, undef, undef, undef], []⟩ ∧ Mm w w' [(g2, pq p, 25), (g24, bs (fS (fM p.y p.y) (fM p.x p.x)), 23)]) ?_ ?_
  · have hm16 := hm14.drew
    refine wp_region_held_drew (S := fun w' => Sym.Blk w' g2 (pq p) 25) (by kernel_rfl) (hm16.at 0 rfl) (fun _ => ?_)
    generalize w13.drew = w17 at *
    refine Sym.take_at 0 23 (.pointer (some ⟨g2, 32, none⟩)) rfl rfl (by kernel_rfl) (by kernel_rfl) (by kernel_rfl) (fun _ _ _ h => nomatch h.1) rfl (fun _ hw => r_f1 g2 rfl rfl) (hm16.at 0 rfl) ?_
    simp only [nz1, nz2, nz3]
    refine Sym.take_at 1 24 (.agg (bs p.y)) rfl rfl (by kernel_rfl) (by kernel_rfl) (by kernel_rfl) (fun _ _ _ h => nomatch h.1) rfl (fun _ hw => r_c1 (x := p.x) (y := p.y) (z := p.z) (t := p.t) g2 hw rfl rfl) (hm16.at 0 rfl) ?_
    simp only [nz1, nz2, nz3]
    refine Sym.take_at 2 25 (.pointer (some ⟨g2, 32, none⟩)) rfl rfl (by kernel_rfl) (by kernel_rfl) (by kernel_rfl) (fun _ _ _ h => nomatch h.1) rfl (fun _ hw => r_f1 g2 rfl rfl) (hm16.at 0 rfl) ?_
    simp only [nz1, nz2, nz3]
    refine Sym.take_at 3 26 (.agg (bs p.y)) rfl rfl (by kernel_rfl) (by kernel_rfl) (by kernel_rfl) (fun _ _ _ h => nomatch h.1) rfl (fun _ hw => r_c1 (x := p.x) (y := p.y) (z := p.z) (t := p.t) g2 hw rfl rfl) (hm16.at 0 rfl) ?_
    simp only [nz1, nz2, nz3]
    refine Sym.take_at 5 28 (.pointer (some ⟨g2, 0, none⟩)) rfl rfl (by kernel_rfl) (by kernel_rfl) (by kernel_rfl) (fun _ _ _ h => nomatch h.1) rfl (fun _ hw => r_f0 g2 rfl rfl) (hm16.at 0 rfl) ?_
    simp only [nz1, nz2, nz3]
    refine Sym.take_at 6 29 (.agg (bs p.x)) rfl rfl (by kernel_rfl) (by kernel_rfl) (by kernel_rfl) (fun _ _ _ h => nomatch h.1) rfl (fun _ hw => r_c0 (x := p.x) (y := p.y) (z := p.z) (t := p.t) g2 hw rfl rfl) (hm16.at 0 rfl) ?_
    simp only [nz1, nz2, nz3]
    refine Sym.take_at 7 30 (.pointer (some ⟨g2, 0, none⟩)) rfl rfl (by kernel_rfl) (by kernel_rfl) (by kernel_rfl) (fun _ _ _ h => nomatch h.1) rfl (fun _ hw => r_f0 g2 rfl rfl) (hm16.at 0 rfl) ?_
    simp only [nz1, nz2, nz3]
    refine Sym.take_at 8 31 (.agg (bs p.x)) rfl rfl (by kernel_rfl) (by kernel_rfl) (by kernel_rfl) (fun _ _ _ h => nomatch h.1) rfl (fun _ hw => r_c0 (x := p.x) (y := p.y) (z := p.z) (t := p.t) g2 hw rfl rfl) (hm16.at 0 rfl) ?_
    simp only [nz1, nz2, nz3]
    refine two_ready 4 11 (by kernel_rfl) ?_ ?_
    · refine opd rfl rfl (m_call hm16 27 (.agg (bs (fM p.y p.y))) rfl (run_fMul rfl rfl rfl) (mul_f p.y p.y hp.y hp.y _) (fun w18 hm19 => ?_))
      refine ⟨hm19.at 0 rfl, ?_⟩
      simp only [nz1, nz2, nz3]
      refine two_ready 9 11 (by kernel_rfl) ?_ ?_
      · refine opd rfl rfl (m_call hm19 32 (.agg (bs (fM p.x p.x))) rfl (run_fMul rfl rfl rfl) (mul_f p.x p.x hp.x hp.x _) (fun w20 hm21 => ?_))
        refine ⟨hm21.at 0 rfl, ?_⟩
        simp only [nz1, nz2, nz3]
        refine two_ready 10 11 (by kernel_rfl) ?_ ?_
        · refine opd rfl rfl (m_call hm21 33 (.agg (bs (fS (fM p.y p.y) (fM p.x p.x)))) rfl (run_fSub rfl rfl rfl) (sub_f (fM p.y p.y) (fM p.x p.x) (f_lt (fM_lt _ _)) (f_lt (fM_lt _ _)) _) (fun w22 hm23 => ?_))
          refine ⟨hm23.at 0 rfl, ?_⟩
          simp only [nz1, nz2, nz3]
          refine one_ready 11 (by kernel_rfl) ?_
          refine opd rfl rfl (m_alloc (c := bs 0) (T := 23) hm23 3 rfl (run_alN rfl) (fun g24 w25 hm26 => ?_))
          refine ⟨hm26.at 0 rfl, ?_⟩
          simp only [nz1, nz2, nz3]
          refine one_ready 12 (by kernel_rfl) ?_
          refine opd rfl rfl (m_store 1 23 _ _ (bs (fS (fM p.y p.y) (fM p.x p.x))) (old := bs 0) hm26 rfl rfl rfl rfl rfl (by rw [bs_sz]; exact info_b) ((bs_sz _).trans (bs_sz _).symm) (bs_one _) (fun w27 hm28 => ?_))
          refine ⟨hm28.at 0 rfl, ?_⟩
          refine wpAnyH_done (by kernel_rfl) ?_ _
          exact ⟨rfl, g24, rfl, hm28⟩
        · refine opd rfl rfl (m_alloc (c := bs 0) (T := 23) hm21 3 rfl (run_alN rfl) (fun g29 w30 hm31 => ?_))
          refine ⟨hm31.at 0 rfl, ?_⟩
          simp only [nz1, nz2, nz3]
          refine one_ready 10 (by kernel_rfl) ?_
          refine opd rfl rfl (m_call hm31 33 (.agg (bs (fS (fM p.y p.y) (fM p.x p.x)))) rfl (run_fSub rfl rfl rfl) (sub_f (fM p.y p.y) (fM p.x p.x) (f_lt (fM_lt _ _)) (f_lt (fM_lt _ _)) _) (fun w32 hm33 => ?_))
          refine ⟨hm33.at 0 rfl, ?_⟩
          simp only [nz1, nz2, nz3]
          refine one_ready 12 (by kernel_rfl) ?_
          refine opd rfl rfl (m_store 1 23 _ _ (bs (fS (fM p.y p.y) (fM p.x p.x))) (old := bs 0) hm33 rfl rfl rfl rfl rfl (by rw [bs_sz]; exact info_b) ((bs_sz _).trans (bs_sz _).symm) (bs_one _) (fun w34 hm35 => ?_))
          refine ⟨hm35.at 0 rfl, ?_⟩
          refine wpAnyH_done (by kernel_rfl) ?_ _
          exact ⟨rfl, g29, rfl, hm35⟩
      · refine opd rfl rfl (m_alloc (c := bs 0) (T := 23) hm19 3 rfl (run_alN rfl) (fun g36 w37 hm38 => ?_))
        refine ⟨hm38.at 0 rfl, ?_⟩
        simp only [nz1, nz2, nz3]
        refine one_ready 9 (by kernel_rfl) ?_
        refine opd rfl rfl (m_call hm38 32 (.agg (bs (fM p.x p.x))) rfl (run_fMul rfl rfl rfl) (mul_f p.x p.x hp.x hp.x _) (fun w39 hm40 => ?_))
        refine ⟨hm40.at 0 rfl, ?_⟩
        simp only [nz1, nz2, nz3]
        refine one_ready 10 (by kernel_rfl) ?_
        refine opd rfl rfl (m_call hm40 33 (.agg (bs (fS (fM p.y p.y) (fM p.x p.x)))) rfl (run_fSub rfl rfl rfl) (sub_f (fM p.y p.y) (fM p.x p.x) (f_lt (fM_lt _ _)) (f_lt (fM_lt _ _)) _) (fun w41 hm42 => ?_))
        refine ⟨hm42.at 0 rfl, ?_⟩
        simp only [nz1, nz2, nz3]
        refine one_ready 12 (by kernel_rfl) ?_
        refine opd rfl rfl (m_store 1 23 _ _ (bs (fS (fM p.y p.y) (fM p.x p.x))) (old := bs 0) hm42 rfl rfl rfl rfl rfl (by rw [bs_sz]; exact info_b) ((bs_sz _).trans (bs_sz _).symm) (bs_one _) (fun w43 hm44 => ?_))
        refine ⟨hm44.at 0 rfl, ?_⟩
        refine wpAnyH_done (by kernel_rfl) ?_ _
        exact ⟨rfl, g36, rfl, hm44⟩
    · refine opd rfl rfl (m_alloc (c := bs 0) (T := 23) hm16 3 rfl (run_alN rfl) (fun g45 w46 hm47 => ?_))
      refine ⟨hm47.at 0 rfl, ?_⟩
      simp only [nz1, nz2, nz3]
      refine one_ready 4 (by kernel_rfl) ?_
      refine opd rfl rfl (m_call hm47 27 (.agg (bs (fM p.y p.y))) rfl (run_fMul rfl rfl rfl) (mul_f p.y p.y hp.y hp.y _) (fun w48 hm49 => ?_))
      refine ⟨hm49.at 0 rfl, ?_⟩
      simp only [nz1, nz2, nz3]
      refine one_ready 9 (by kernel_rfl) ?_
      refine opd rfl rfl (m_call hm49 32 (.agg (bs (fM p.x p.x))) rfl (run_fMul rfl rfl rfl) (mul_f p.x p.x hp.x hp.x _) (fun w50 hm51 => ?_))
      refine ⟨hm51.at 0 rfl, ?_⟩
      simp only [nz1, nz2, nz3]
      refine one_ready 10 (by kernel_rfl) ?_
      refine opd rfl rfl (m_call hm51 33 (.agg (bs (fS (fM p.y p.y) (fM p.x p.x)))) rfl (run_fSub rfl rfl rfl) (sub_f (fM p.y p.y) (fM p.x p.x) (f_lt (fM_lt _ _)) (f_lt (fM_lt _ _)) _) (fun w52 hm53 => ?_))
      refine ⟨hm53.at 0 rfl, ?_⟩
      simp only [nz1, nz2, nz3]
      refine one_ready 12 (by kernel_rfl) ?_
      refine opd rfl rfl (m_store 1 23 _ _ (bs (fS (fM p.y p.y) (fM p.x p.x))) (old := bs 0) hm53 rfl rfl rfl rfl rfl (by rw [bs_sz]; exact info_b) ((bs_sz _).trans (bs_sz _).symm) (bs_one _) (fun w54 hm55 => ?_))
      refine ⟨hm55.at 0 rfl, ?_⟩
      refine wpAnyH_done (by kernel_rfl) ?_ _
      exact ⟨rfl, g45, rfl, hm55⟩
  clear hm14
  rintro _ _ w56 ⟨rfl, g24, rfl, hm57⟩
  refine then_n (hK15 _ _ ?_)
  refine wp_seq_k (fun K58 hK58 => ?_)
  refine wp_mono (Q := fun e a' w' => e = Exit.normal ∧ ∃ g69 : Nat, a' = ⟨#[.agg (pq p), .pointer (some ⟨g2, 0, none⟩), .bool false, .pointer (some ⟨g24, 0, none⟩), .pointer (some ⟨g69, 0, none⟩), .pointer (some ⟨g2, 64, none⟩), .agg (bs p.z), .agg (bs (fR p.z)), .agg (bs 0), .bool false, .bool false, .pointer (some ⟨g2, 96, none⟩), .agg (bs p.t), .pointer (some ⟨g2, 64, none⟩), .agg (bs p.z), .agg (bs (fM p.t p.z)), .pointer (some ⟨g2, 0, none⟩), .agg (bs p.x), .pointer (some ⟨g2, 32, none⟩), .agg (bs p.y), .agg (bs (fM p.x p.y)), .bool false, .bool false, .pointer (some ⟨g2, 32, none⟩), .agg (bs p.y), .pointer (some ⟨g2, 32, none⟩), .agg (bs p.y), .agg (bs (fM p.y p.y)), .pointer (some ⟨g2, 0, none⟩), .agg (bs p.x), .pointer (some ⟨g2, 0, none⟩), .agg (bs p.x), .agg (bs (fM p.x p.x)), .agg (bs (fS (fM p.y p.y) (fM p.x p.x))), .pointer (some ⟨g2, 64, none⟩), .agg (bs p.z), .pointer (some ⟨g2, 64, none⟩), .agg (bs p.z), .agg (bs (fM p.z p.z)), .agg (bs dN), .pointer (some ⟨g2, 96, none⟩), .agg (bs p.t), .pointer (some ⟨g2, 96, none⟩), .agg (bs p.t), .agg (bs (fM p.t p.t)), .agg (bs (fM dN (fM p.t p.t))), .agg (bs (fA (fM p.z p.z) (fM dN (fM p.t p.t)))), undef, undef, undef], []⟩ ∧ Mm w w' [(g2, pq p, 25), (g24, bs (fS (fM p.y p.y) (fM p.x p.x)), 23), (g69, bs (fA (fM p.z p.z) (fM dN (fM p.t p.t))), 23)]) ?_ ?_
  · have hm59 := hm57.drew
    refine wp_region_held_drew (S := fun w' => Sym.Blk w' g2 (pq p) 25 ∧ Sym.Blk w' 0 (bs dN) 23) (by kernel_rfl) (⟨hm59.at 0 rfl, (kept hd hm59.below)⟩) (fun _ => ?_)
    generalize w56.drew = w60 at *
    refine Sym.take_at 0 34 (.pointer (some ⟨g2, 64, none⟩)) rfl rfl (by kernel_rfl) (by kernel_rfl) (by kernel_rfl) (fun _ _ _ h => nomatch h.1) rfl (fun _ hw => r_f2 g2 rfl rfl) (⟨hm59.at 0 rfl, (kept hd hm59.below)⟩) ?_
    simp only [nz1, nz2, nz3]
    refine Sym.take_at 1 35 (.agg (bs p.z)) rfl rfl (by kernel_rfl) (by kernel_rfl) (by kernel_rfl) (fun _ _ _ h => nomatch h.1) rfl (fun _ hw => r_c2 (x := p.x) (y := p.y) (z := p.z) (t := p.t) g2 hw.1 rfl rfl) (⟨hm59.at 0 rfl, (kept hd hm59.below)⟩) ?_
    simp only [nz1, nz2, nz3]
    refine Sym.take_at 2 36 (.pointer (some ⟨g2, 64, none⟩)) rfl rfl (by kernel_rfl) (by kernel_rfl) (by kernel_rfl) (fun _ _ _ h => nomatch h.1) rfl (fun _ hw => r_f2 g2 rfl rfl) (⟨hm59.at 0 rfl, (kept hd hm59.below)⟩) ?_
    simp only [nz1, nz2, nz3]
    refine Sym.take_at 3 37 (.agg (bs p.z)) rfl rfl (by kernel_rfl) (by kernel_rfl) (by kernel_rfl) (fun _ _ _ h => nomatch h.1) rfl (fun _ hw => r_c2 (x := p.x) (y := p.y) (z := p.z) (t := p.t) g2 hw.1 rfl rfl) (⟨hm59.at 0 rfl, (kept hd hm59.below)⟩) ?_
    simp only [nz1, nz2, nz3]
    refine Sym.take_at 5 39 (.agg (bs dN)) rfl rfl (by kernel_rfl) (by kernel_rfl) (by kernel_rfl) (fun _ _ _ h => nomatch h.1) rfl (fun _ hw => run_row rfl rfl hw.2 Tryd.underlying23 rfl (by rw [bs_sz]; exact info_b)) (⟨hm59.at 0 rfl, (kept hd hm59.below)⟩) ?_
    simp only [nz1, nz2, nz3]
    refine Sym.take_at 6 40 (.pointer (some ⟨g2, 96, none⟩)) rfl rfl (by kernel_rfl) (by kernel_rfl) (by kernel_rfl) (fun _ _ _ h => nomatch h.1) rfl (fun _ hw => r_f3 g2 rfl rfl) (⟨hm59.at 0 rfl, (kept hd hm59.below)⟩) ?_
    simp only [nz1, nz2, nz3]
    refine Sym.take_at 7 41 (.agg (bs p.t)) rfl rfl (by kernel_rfl) (by kernel_rfl) (by kernel_rfl) (fun _ _ _ h => nomatch h.1) rfl (fun _ hw => r_c3 (x := p.x) (y := p.y) (z := p.z) (t := p.t) g2 hw.1 rfl rfl) (⟨hm59.at 0 rfl, (kept hd hm59.below)⟩) ?_
    simp only [nz1, nz2, nz3]
    refine Sym.take_at 8 42 (.pointer (some ⟨g2, 96, none⟩)) rfl rfl (by kernel_rfl) (by kernel_rfl) (by kernel_rfl) (fun _ _ _ h => nomatch h.1) rfl (fun _ hw => r_f3 g2 rfl rfl) (⟨hm59.at 0 rfl, (kept hd hm59.below)⟩) ?_
    simp only [nz1, nz2, nz3]
    refine Sym.take_at 9 43 (.agg (bs p.t)) rfl rfl (by kernel_rfl) (by kernel_rfl) (by kernel_rfl) (fun _ _ _ h => nomatch h.1) rfl (fun _ hw => r_c3 (x := p.x) (y := p.y) (z := p.z) (t := p.t) g2 hw.1 rfl rfl) (⟨hm59.at 0 rfl, (kept hd hm59.below)⟩) ?_
    simp only [nz1, nz2, nz3]
    refine two_ready 4 13 (by kernel_rfl) ?_ ?_
    · refine opd rfl rfl (m_call hm59 38 (.agg (bs (fM p.z p.z))) rfl (run_fMul rfl rfl rfl) (mul_f p.z p.z hp.z hp.z _) (fun w61 hm62 => ?_))
      refine ⟨⟨hm62.at 0 rfl, (kept hd hm62.below)⟩, ?_⟩
      simp only [nz1, nz2, nz3]
      refine two_ready 10 13 (by kernel_rfl) ?_ ?_
      · refine opd rfl rfl (m_call hm62 44 (.agg (bs (fM p.t p.t))) rfl (run_fMul rfl rfl rfl) (mul_f p.t p.t hp.t hp.t _) (fun w63 hm64 => ?_))
        refine ⟨⟨hm64.at 0 rfl, (kept hd hm64.below)⟩, ?_⟩
        simp only [nz1, nz2, nz3]
        refine two_ready 11 13 (by kernel_rfl) ?_ ?_
        · refine opd rfl rfl (m_call hm64 45 (.agg (bs (fM dN (fM p.t p.t)))) rfl (run_fMul rfl rfl rfl) (mul_f dN (fM p.t p.t) dN_lt (f_lt (fM_lt _ _)) _) (fun w65 hm66 => ?_))
          refine ⟨⟨hm66.at 0 rfl, (kept hd hm66.below)⟩, ?_⟩
          simp only [nz1, nz2, nz3]
          refine two_ready 12 13 (by kernel_rfl) ?_ ?_
          · refine opd rfl rfl (m_call hm66 46 (.agg (bs (fA (fM p.z p.z) (fM dN (fM p.t p.t))))) rfl (run_fAdd rfl rfl rfl) (add_f (fM p.z p.z) (fM dN (fM p.t p.t)) (f_lt (fM_lt _ _)) (f_lt (fM_lt _ _)) _) (fun w67 hm68 => ?_))
            refine ⟨⟨hm68.at 0 rfl, (kept hd hm68.below)⟩, ?_⟩
            simp only [nz1, nz2, nz3]
            refine one_ready 13 (by kernel_rfl) ?_
            refine opd rfl rfl (m_alloc (c := bs 0) (T := 23) hm68 4 rfl (run_alN rfl) (fun g69 w70 hm71 => ?_))
            refine ⟨⟨hm71.at 0 rfl, (kept hd hm71.below)⟩, ?_⟩
            simp only [nz1, nz2, nz3]
            refine one_ready 14 (by kernel_rfl) ?_
            refine opd rfl rfl (m_store 2 23 _ _ (bs (fA (fM p.z p.z) (fM dN (fM p.t p.t)))) (old := bs 0) hm71 rfl rfl rfl rfl rfl (by rw [bs_sz]; exact info_b) ((bs_sz _).trans (bs_sz _).symm) (bs_one _) (fun w72 hm73 => ?_))
            refine ⟨⟨hm73.at 0 rfl, (kept hd hm73.below)⟩, ?_⟩
            refine wpAnyH_done (by kernel_rfl) ?_ _
            exact ⟨rfl, g69, rfl, hm73⟩
          · refine opd rfl rfl (m_alloc (c := bs 0) (T := 23) hm66 4 rfl (run_alN rfl) (fun g74 w75 hm76 => ?_))
            refine ⟨⟨hm76.at 0 rfl, (kept hd hm76.below)⟩, ?_⟩
            simp only [nz1, nz2, nz3]
            refine one_ready 12 (by kernel_rfl) ?_
            refine opd rfl rfl (m_call hm76 46 (.agg (bs (fA (fM p.z p.z) (fM dN (fM p.t p.t))))) rfl (run_fAdd rfl rfl rfl) (add_f (fM p.z p.z) (fM dN (fM p.t p.t)) (f_lt (fM_lt _ _)) (f_lt (fM_lt _ _)) _) (fun w77 hm78 => ?_))
            refine ⟨⟨hm78.at 0 rfl, (kept hd hm78.below)⟩, ?_⟩
            simp only [nz1, nz2, nz3]
            refine one_ready 14 (by kernel_rfl) ?_
            refine opd rfl rfl (m_store 2 23 _ _ (bs (fA (fM p.z p.z) (fM dN (fM p.t p.t)))) (old := bs 0) hm78 rfl rfl rfl rfl rfl (by rw [bs_sz]; exact info_b) ((bs_sz _).trans (bs_sz _).symm) (bs_one _) (fun w79 hm80 => ?_))
            refine ⟨⟨hm80.at 0 rfl, (kept hd hm80.below)⟩, ?_⟩
            refine wpAnyH_done (by kernel_rfl) ?_ _
            exact ⟨rfl, g74, rfl, hm80⟩
        · refine opd rfl rfl (m_alloc (c := bs 0) (T := 23) hm64 4 rfl (run_alN rfl) (fun g81 w82 hm83 => ?_))
          refine ⟨⟨hm83.at 0 rfl, (kept hd hm83.below)⟩, ?_⟩
          simp only [nz1, nz2, nz3]
          refine one_ready 11 (by kernel_rfl) ?_
          refine opd rfl rfl (m_call hm83 45 (.agg (bs (fM dN (fM p.t p.t)))) rfl (run_fMul rfl rfl rfl) (mul_f dN (fM p.t p.t) dN_lt (f_lt (fM_lt _ _)) _) (fun w84 hm85 => ?_))
          refine ⟨⟨hm85.at 0 rfl, (kept hd hm85.below)⟩, ?_⟩
          simp only [nz1, nz2, nz3]
          refine one_ready 12 (by kernel_rfl) ?_
          refine opd rfl rfl (m_call hm85 46 (.agg (bs (fA (fM p.z p.z) (fM dN (fM p.t p.t))))) rfl (run_fAdd rfl rfl rfl) (add_f (fM p.z p.z) (fM dN (fM p.t p.t)) (f_lt (fM_lt _ _)) (f_lt (fM_lt _ _)) _) (fun w86 hm87 => ?_))
          refine ⟨⟨hm87.at 0 rfl, (kept hd hm87.below)⟩, ?_⟩
          simp only [nz1, nz2, nz3]
          refine one_ready 14 (by kernel_rfl) ?_
          refine opd rfl rfl (m_store 2 23 _ _ (bs (fA (fM p.z p.z) (fM dN (fM p.t p.t)))) (old := bs 0) hm87 rfl rfl rfl rfl rfl (by rw [bs_sz]; exact info_b) ((bs_sz _).trans (bs_sz _).symm) (bs_one _) (fun w88 hm89 => ?_))
          refine ⟨⟨hm89.at 0 rfl, (kept hd hm89.below)⟩, ?_⟩
          refine wpAnyH_done (by kernel_rfl) ?_ _
          exact ⟨rfl, g81, rfl, hm89⟩
      · refine opd rfl rfl (m_alloc (c := bs 0) (T := 23) hm62 4 rfl (run_alN rfl) (fun g90 w91 hm92 => ?_))
        refine ⟨⟨hm92.at 0 rfl, (kept hd hm92.below)⟩, ?_⟩
        simp only [nz1, nz2, nz3]
        refine one_ready 10 (by kernel_rfl) ?_
        refine opd rfl rfl (m_call hm92 44 (.agg (bs (fM p.t p.t))) rfl (run_fMul rfl rfl rfl) (mul_f p.t p.t hp.t hp.t _) (fun w93 hm94 => ?_))
        refine ⟨⟨hm94.at 0 rfl, (kept hd hm94.below)⟩, ?_⟩
        simp only [nz1, nz2, nz3]
        refine one_ready 11 (by kernel_rfl) ?_
        refine opd rfl rfl (m_call hm94 45 (.agg (bs (fM dN (fM p.t p.t)))) rfl (run_fMul rfl rfl rfl) (mul_f dN (fM p.t p.t) dN_lt (f_lt (fM_lt _ _)) _) (fun w95 hm96 => ?_))
        refine ⟨⟨hm96.at 0 rfl, (kept hd hm96.below)⟩, ?_⟩
        simp only [nz1, nz2, nz3]
        refine one_ready 12 (by kernel_rfl) ?_
        refine opd rfl rfl (m_call hm96 46 (.agg (bs (fA (fM p.z p.z) (fM dN (fM p.t p.t))))) rfl (run_fAdd rfl rfl rfl) (add_f (fM p.z p.z) (fM dN (fM p.t p.t)) (f_lt (fM_lt _ _)) (f_lt (fM_lt _ _)) _) (fun w97 hm98 => ?_))
        refine ⟨⟨hm98.at 0 rfl, (kept hd hm98.below)⟩, ?_⟩
        simp only [nz1, nz2, nz3]
        refine one_ready 14 (by kernel_rfl) ?_
        refine opd rfl rfl (m_store 2 23 _ _ (bs (fA (fM p.z p.z) (fM dN (fM p.t p.t)))) (old := bs 0) hm98 rfl rfl rfl rfl rfl (by rw [bs_sz]; exact info_b) ((bs_sz _).trans (bs_sz _).symm) (bs_one _) (fun w99 hm100 => ?_))
        refine ⟨⟨hm100.at 0 rfl, (kept hd hm100.below)⟩, ?_⟩
        refine wpAnyH_done (by kernel_rfl) ?_ _
        exact ⟨rfl, g90, rfl, hm100⟩
    · refine opd rfl rfl (m_alloc (c := bs 0) (T := 23) hm59 4 rfl (run_alN rfl) (fun g101 w102 hm103 => ?_))
      refine ⟨⟨hm103.at 0 rfl, (kept hd hm103.below)⟩, ?_⟩
      simp only [nz1, nz2, nz3]
      refine one_ready 4 (by kernel_rfl) ?_
      refine opd rfl rfl (m_call hm103 38 (.agg (bs (fM p.z p.z))) rfl (run_fMul rfl rfl rfl) (mul_f p.z p.z hp.z hp.z _) (fun w104 hm105 => ?_))
      refine ⟨⟨hm105.at 0 rfl, (kept hd hm105.below)⟩, ?_⟩
      simp only [nz1, nz2, nz3]
      refine one_ready 10 (by kernel_rfl) ?_
      refine opd rfl rfl (m_call hm105 44 (.agg (bs (fM p.t p.t))) rfl (run_fMul rfl rfl rfl) (mul_f p.t p.t hp.t hp.t _) (fun w106 hm107 => ?_))
      refine ⟨⟨hm107.at 0 rfl, (kept hd hm107.below)⟩, ?_⟩
      simp only [nz1, nz2, nz3]
      refine one_ready 11 (by kernel_rfl) ?_
      refine opd rfl rfl (m_call hm107 45 (.agg (bs (fM dN (fM p.t p.t)))) rfl (run_fMul rfl rfl rfl) (mul_f dN (fM p.t p.t) dN_lt (f_lt (fM_lt _ _)) _) (fun w108 hm109 => ?_))
      refine ⟨⟨hm109.at 0 rfl, (kept hd hm109.below)⟩, ?_⟩
      simp only [nz1, nz2, nz3]
      refine one_ready 12 (by kernel_rfl) ?_
      refine opd rfl rfl (m_call hm109 46 (.agg (bs (fA (fM p.z p.z) (fM dN (fM p.t p.t))))) rfl (run_fAdd rfl rfl rfl) (add_f (fM p.z p.z) (fM dN (fM p.t p.t)) (f_lt (fM_lt _ _)) (f_lt (fM_lt _ _)) _) (fun w110 hm111 => ?_))
      refine ⟨⟨hm111.at 0 rfl, (kept hd hm111.below)⟩, ?_⟩
      simp only [nz1, nz2, nz3]
      refine one_ready 14 (by kernel_rfl) ?_
      refine opd rfl rfl (m_store 2 23 _ _ (bs (fA (fM p.z p.z) (fM dN (fM p.t p.t)))) (old := bs 0) hm111 rfl rfl rfl rfl rfl (by rw [bs_sz]; exact info_b) ((bs_sz _).trans (bs_sz _).symm) (bs_one _) (fun w112 hm113 => ?_))
      refine ⟨⟨hm113.at 0 rfl, (kept hd hm113.below)⟩, ?_⟩
      refine wpAnyH_done (by kernel_rfl) ?_ _
      exact ⟨rfl, g101, rfl, hm113⟩
  clear hm57
  rintro _ _ w114 ⟨rfl, g69, rfl, hm115⟩
  refine then_n (hK58 _ _ ?_)
  refine wp_seq_k (fun K116 hK116 => ?_)
  refine wp_region_lit ?_
  refine lv 47 (.agg (bs (fS (fM p.y p.y) (fM p.x p.x)))) rfl rfl (run_row rfl rfl (hm115.at 1 rfl) Tryd.underlying23 rfl (by rw [bs_sz]; exact info_b)) ?_
  simp only [nz1, nz2, nz3]
  refine lv 48 (.agg (bs (fA (fM p.z p.z) (fM dN (fM p.t p.t))))) rfl rfl (run_row rfl rfl (hm115.at 2 rfl) Tryd.underlying23 rfl (by rw [bs_sz]; exact info_b)) ?_
  simp only [nz1, nz2, nz3]
  refine lv 49 (.bool (decide ((fS (fM p.y p.y) (fM p.x p.x)) = (fA (fM p.z p.z) (fM dN (fM p.t p.t)))))) rfl rfl (run_eqlM (fS (fM p.y p.y) (fM p.x p.x)) (fA (fM p.z p.z) (fM dN (fM p.t p.t))) (f_lt (fS_lt _ _)) (f_lt (fA_lt _ _)) (decide ((fS (fM p.y p.y) (fM p.x p.x)) = (fA (fM p.z p.z) (fM dN (fM p.t p.t))))) rfl rfl rfl rfl) ?_
  simp only [nz1, nz2, nz3]
  refine lv 2 (.bool (decide ((fS (fM p.y p.y) (fM p.x p.x)) = (fA (fM p.z p.z) (fM dN (fM p.t p.t)))))) rfl rfl (run_as rfl rfl) ?_
  simp only [nz1, nz2, nz3]
  refine wpList_nil ?_
  refine then_n (hK116 _ _ ?_)
  refine wp_ret ?_
  exact ⟨rfl, .bool (decide ((fS (fM p.y p.y) (fM p.x p.x)) = (fA (fM p.z p.z) (fM dN (fM p.t p.t))))), res_t rfl rfl, ⟨rfl, hm115.below⟩⟩
theorem on_p (p : Pn) (hp : p.ok) (w : World) (hd : DD w) : Calls Tryd.prog 13 #[.agg (pq p)] w (fun e w' => e = .returned (.bool (decide (onP p))) ∧ Below w.heap.size w w') := by
  by_cases h1 : fR p.z = 0
  · have h := on_0 p hp h1 w
    rw [show false = decide (onP p) from (decide_eq_false fun h => h.1 h1).symm] at h
    exact h
  · by_cases h2 : fM p.t p.z = fM p.x p.y
    · have h := on_2 p hp h1 h2 w hd
      rw [show decide (fS (fM p.y p.y) (fM p.x p.x) = fA (fM p.z p.z) (fM dN (fM p.t p.t))) = decide (onP p) from decide_eq_decide.2 ⟨fun h => ⟨h1, h2, h⟩, fun h => h.2.2⟩] at h
      exact h
    · have h := on_1 p hp h1 h2 w
      rw [show false = decide (onP p) from (decide_eq_false fun h => h2 h.2.1).symm] at h
      exact h
end Go.Proofs.YtfpphinnngblgaaDoor.Fld
