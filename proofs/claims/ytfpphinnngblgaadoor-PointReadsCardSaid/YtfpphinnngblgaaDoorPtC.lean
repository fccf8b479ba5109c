/- Layer 5: what the package offers: the same, on the curve, so often. -/
import Derived.Test.YtfpphinnngblgaaDoorPtB
namespace Go.Proofs.YtfpphinnngblgaaDoor.Fld
open Go.RowKit Go.Lib
open Go.Proofs.YtfpphinnngblgaaDoor.Num (val up val_congr val_add val_lt val_up val_digits val_word)
open Go.Proofs.YtfpphinnngblgaaDoor.Arr Go.Proofs.YtfpphinnngblgaaDoor.Sym Go.Proofs.YtfpphinnngblgaaDoor.Sx

set_option maxHeartbeats 2000000 in
set_option maxRecDepth 100000 in
theorem same_no (p q : Pn) (hp : p.ok) (hq : q.ok) (h1 : ¬ fM p.x q.z = fM q.x p.z) (w : World) : Calls Tryd.prog 21 #[.agg (pq p), .agg (pq q)] w (fun e w' => e = .returned (.bool false) ∧ Below w.heap.size w w') := by
  go_enter Tryd.func21, Tryd.ntmps21
  have hm0 := Mm.nil w
  refine wp_seq_k (fun K1 hK1 => ?_)
  refine wp_region_lit ?_
  refine lst (wanted_none rfl) (m_alloc (c := pq p) (T := 25) hm0 2 rfl (run_box rfl rfl) (fun g2 w3 (hm4 : Mm w w3 [(g2, pq p, 25)]) => ?_))
  simp only [nz1, nz2, nz3]
  refine lst (wanted_none rfl) (m_alloc (c := pq q) (T := 25) hm4 3 rfl (run_box rfl rfl) (fun g5 w6 (hm7 : Mm w w6 [(g2, pq p, 25), (g5, pq q, 25)]) => ?_))
  simp only [nz1, nz2, nz3]
  refine lv 4 (.bool false) rfl rfl (run_as rfl rfl) ?_
  simp only [nz1, nz2, nz3]
  refine wpList_nil ?_
  refine then_n (hK1 _ _ ?_)
  refine wp_seq_k (fun K8 hK8 => ?_)
  have hm9 := hm7.drew
  refine wp_region_held_drew (S := fun w' => Sym.Blk w' g2 (pq p) 25 ∧ Sym.Blk w' g5 (pq q) 25) (by kernel_rfl) (⟨hm9.at 0 rfl, hm9.at 1 rfl⟩) (fun _ => ?_)
  generalize w6.drew = w10 at *
  refine tk 0 5 (.pointer (some ⟨g2, 0, none⟩)) rfl rfl (fun _ hw => r_f0 g2 rfl rfl) (⟨hm9.at 0 rfl, hm9.at 1 rfl⟩) ?_
  simp only [nz1, nz2, nz3]
  refine tk 1 6 (.agg (bs p.x)) rfl rfl (fun _ hw => r_c0 (x := p.x) (y := p.y) (z := p.z) (t := p.t) g2 hw.1 rfl rfl) (⟨hm9.at 0 rfl, hm9.at 1 rfl⟩) ?_
  simp only [nz1, nz2, nz3]
  refine tk 2 7 (.pointer (some ⟨g5, 64, none⟩)) rfl rfl (fun _ hw => r_f2 g5 rfl rfl) (⟨hm9.at 0 rfl, hm9.at 1 rfl⟩) ?_
  simp only [nz1, nz2, nz3]
  refine tk 3 8 (.agg (bs q.z)) rfl rfl (fun _ hw => r_c2 (x := q.x) (y := q.y) (z := q.z) (t := q.t) g5 hw.2 rfl rfl) (⟨hm9.at 0 rfl, hm9.at 1 rfl⟩) ?_
  simp only [nz1, nz2, nz3]
  refine tk 5 10 (.pointer (some ⟨g5, 0, none⟩)) rfl rfl (fun _ hw => r_f0 g5 rfl rfl) (⟨hm9.at 0 rfl, hm9.at 1 rfl⟩) ?_
  simp only [nz1, nz2, nz3]
  refine tk 6 11 (.agg (bs q.x)) rfl rfl (fun _ hw => r_c0 (x := q.x) (y := q.y) (z := q.z) (t := q.t) g5 hw.2 rfl rfl) (⟨hm9.at 0 rfl, hm9.at 1 rfl⟩) ?_
  simp only [nz1, nz2, nz3]
  refine tk 7 12 (.pointer (some ⟨g2, 64, none⟩)) rfl rfl (fun _ hw => r_f2 g2 rfl rfl) (⟨hm9.at 0 rfl, hm9.at 1 rfl⟩) ?_
  simp only [nz1, nz2, nz3]
  refine tk 8 13 (.agg (bs p.z)) rfl rfl (fun _ hw => r_c2 (x := p.x) (y := p.y) (z := p.z) (t := p.t) g2 hw.1 rfl rfl) (⟨hm9.at 0 rfl, hm9.at 1 rfl⟩) ?_
  simp only [nz1, nz2, nz3]
  refine one_ready 4 (by kernel_rfl) ?_
  refine opd rfl (wanted_none rfl) (m_call hm9 9 (.agg (bs (fM p.x q.z))) rfl (run_fMul rfl rfl rfl) (mul_f p.x q.z hp.x hq.z _) (fun w11 hm12 => ?_))
  refine ⟨⟨hm12.at 0 rfl, hm12.at 1 rfl⟩, ?_⟩
  simp only [nz1, nz2, nz3]
  refine one_ready 9 (by kernel_rfl) ?_
  refine opd rfl (wanted_none rfl) (m_call hm12 14 (.agg (bs (fM q.x p.z))) rfl (run_fMul rfl rfl rfl) (mul_f q.x p.z hq.x hp.z _) (fun w13 hm14 => ?_))
  refine ⟨⟨hm14.at 0 rfl, hm14.at 1 rfl⟩, ?_⟩
  simp only [nz1, nz2, nz3]
  refine tk 10 15 (.bool false) rfl rfl (fun _ hw => run_eqlM (fM p.x q.z) (fM q.x p.z) (f_lt (fM_lt _ _)) (f_lt (fM_lt _ _)) false (decide_eq_false h1) rfl rfl rfl) (⟨hm14.at 0 rfl, hm14.at 1 rfl⟩) ?_
  simp only [nz1, nz2, nz3]
  refine tk 11 16 (.bool false) rfl rfl (fun _ hw => run_mv rfl rfl) (⟨hm14.at 0 rfl, hm14.at 1 rfl⟩) ?_
  simp only [nz1, nz2, nz3]
  refine skip_at 12 17 rfl rfl (by kernel_rfl) (by kernel_rfl) (by kernel_rfl) (fun _ _ _ h => h) rfl (⟨hm14.at 0 rfl, hm14.at 1 rfl⟩) ?_
  simp only [nz1, nz2, nz3]
  refine skip_at 13 18 rfl rfl (by kernel_rfl) (by kernel_rfl) (by kernel_rfl) (fun _ _ _ h => h) rfl (⟨hm14.at 0 rfl, hm14.at 1 rfl⟩) ?_
  simp only [nz1, nz2, nz3]
  refine skip_at 14 19 rfl rfl (by kernel_rfl) (by kernel_rfl) (by kernel_rfl) (fun _ _ _ h => h) rfl (⟨hm14.at 0 rfl, hm14.at 1 rfl⟩) ?_
  simp only [nz1, nz2, nz3]
  refine skip_at 15 20 rfl rfl (by kernel_rfl) (by kernel_rfl) (by kernel_rfl) (fun _ _ _ h => h) rfl (⟨hm14.at 0 rfl, hm14.at 1 rfl⟩) ?_
  simp only [nz1, nz2, nz3]
  refine skip_at 17 22 rfl rfl (by kernel_rfl) (by kernel_rfl) (by kernel_rfl) (fun _ _ _ h => h) rfl (⟨hm14.at 0 rfl, hm14.at 1 rfl⟩) ?_
  simp only [nz1, nz2, nz3]
  refine skip_at 18 23 rfl rfl (by kernel_rfl) (by kernel_rfl) (by kernel_rfl) (fun _ _ _ h => h) rfl (⟨hm14.at 0 rfl, hm14.at 1 rfl⟩) ?_
  simp only [nz1, nz2, nz3]
  refine skip_at 19 24 rfl rfl (by kernel_rfl) (by kernel_rfl) (by kernel_rfl) (fun _ _ _ h => h) rfl (⟨hm14.at 0 rfl, hm14.at 1 rfl⟩) ?_
  simp only [nz1, nz2, nz3]
  refine skip_at 20 25 rfl rfl (by kernel_rfl) (by kernel_rfl) (by kernel_rfl) (fun _ _ _ h => h) rfl (⟨hm14.at 0 rfl, hm14.at 1 rfl⟩) ?_
  simp only [nz1, nz2, nz3]
  refine one_ready 16 (by kernel_rfl) ?_
  refine opd_skip 21 rfl rfl rfl ⟨⟨hm14.at 0 rfl, hm14.at 1 rfl⟩, ?_⟩
  simp only [nz1, nz2, nz3]
  refine one_ready 21 (by kernel_rfl) ?_
  refine opd_skip 26 rfl rfl rfl ⟨⟨hm14.at 0 rfl, hm14.at 1 rfl⟩, ?_⟩
  simp only [nz1, nz2, nz3]
  refine skip_at 22 27 rfl rfl (by kernel_rfl) (by kernel_rfl) (by kernel_rfl) (fun _ _ _ h => h) rfl (⟨hm14.at 0 rfl, hm14.at 1 rfl⟩) ?_
  simp only [nz1, nz2, nz3]
  refine tk 23 28 (.bool false) rfl rfl (fun _ hw => run_pickf rfl rfl rfl) (⟨hm14.at 0 rfl, hm14.at 1 rfl⟩) ?_
  simp only [nz1, nz2, nz3]
  refine one_ready 24 (by kernel_rfl) ?_
  refine opd rfl (wanted_none rfl) (w_value 4 (.bool false) rfl (run_as rfl rfl) ⟨⟨hm14.at 0 rfl, hm14.at 1 rfl⟩, ?_⟩)
  simp only [nz1, nz2, nz3]
  refine wpAnyH_done (by kernel_rfl) ?_ _
  refine then_n (hK8 _ _ ?_)
  refine wp_ret ?_
  exact ⟨rfl, .bool false, res_t rfl rfl, ⟨rfl, hm14.below⟩⟩
set_option maxHeartbeats 2000000 in
set_option maxRecDepth 100000 in
theorem same_yes (p q : Pn) (hp : p.ok) (hq : q.ok) (h1 : fM p.x q.z = fM q.x p.z) (w : World) : Calls Tryd.prog 21 #[.agg (pq p), .agg (pq q)] w (fun e w' => e = .returned (.bool (decide (fM p.y q.z = fM q.y p.z))) ∧ Below w.heap.size w w') := by
  go_enter Tryd.func21, Tryd.ntmps21
  have hm0 := Mm.nil w
  refine wp_seq_k (fun K1 hK1 => ?_)
  refine wp_region_lit ?_
  refine lst (wanted_none rfl) (m_alloc (c := pq p) (T := 25) hm0 2 rfl (run_box rfl rfl) (fun g2 w3 (hm4 : Mm w w3 [(g2, pq p, 25)]) => ?_))
  simp only [nz1, nz2, nz3]
  refine lst (wanted_none rfl) (m_alloc (c := pq q) (T := 25) hm4 3 rfl (run_box rfl rfl) (fun g5 w6 (hm7 : Mm w w6 [(g2, pq p, 25), (g5, pq q, 25)]) => ?_))
  simp only [nz1, nz2, nz3]
  refine lv 4 (.bool false) rfl rfl (run_as rfl rfl) ?_
  simp only [nz1, nz2, nz3]
  refine wpList_nil ?_
  refine then_n (hK1 _ _ ?_)
  refine wp_seq_k (fun K8 hK8 => ?_)
  have hm9 := hm7.drew
  refine wp_region_held_drew (S := fun w' => Sym.Blk w' g2 (pq p) 25 ∧ Sym.Blk w' g5 (pq q) 25) (by kernel_rfl) (⟨hm9.at 0 rfl, hm9.at 1 rfl⟩) (fun _ => ?_)
  generalize w6.drew = w10 at *
  refine tk 0 5 (.pointer (some ⟨g2, 0, none⟩)) rfl rfl (fun _ hw => r_f0 g2 rfl rfl) (⟨hm9.at 0 rfl, hm9.at 1 rfl⟩) ?_
  simp only [nz1, nz2, nz3]
  refine tk 1 6 (.agg (bs p.x)) rfl rfl (fun _ hw => r_c0 (x := p.x) (y := p.y) (z := p.z) (t := p.t) g2 hw.1 rfl rfl) (⟨hm9.at 0 rfl, hm9.at 1 rfl⟩) ?_
  simp only [nz1, nz2, nz3]
  refine tk 2 7 (.pointer (some ⟨g5, 64, none⟩)) rfl rfl (fun _ hw => r_f2 g5 rfl rfl) (⟨hm9.at 0 rfl, hm9.at 1 rfl⟩) ?_
  simp only [nz1, nz2, nz3]
  refine tk 3 8 (.agg (bs q.z)) rfl rfl (fun _ hw => r_c2 (x := q.x) (y := q.y) (z := q.z) (t := q.t) g5 hw.2 rfl rfl) (⟨hm9.at 0 rfl, hm9.at 1 rfl⟩) ?_
  simp only [nz1, nz2, nz3]
  refine tk 5 10 (.pointer (some ⟨g5, 0, none⟩)) rfl rfl (fun _ hw => r_f0 g5 rfl rfl) (⟨hm9.at 0 rfl, hm9.at 1 rfl⟩) ?_
  simp only [nz1, nz2, nz3]
  refine tk 6 11 (.agg (bs q.x)) rfl rfl (fun _ hw => r_c0 (x := q.x) (y := q.y) (z := q.z) (t := q.t) g5 hw.2 rfl rfl) (⟨hm9.at 0 rfl, hm9.at 1 rfl⟩) ?_
  simp only [nz1, nz2, nz3]
  refine tk 7 12 (.pointer (some ⟨g2, 64, none⟩)) rfl rfl (fun _ hw => r_f2 g2 rfl rfl) (⟨hm9.at 0 rfl, hm9.at 1 rfl⟩) ?_
  simp only [nz1, nz2, nz3]
  refine tk 8 13 (.agg (bs p.z)) rfl rfl (fun _ hw => r_c2 (x := p.x) (y := p.y) (z := p.z) (t := p.t) g2 hw.1 rfl rfl) (⟨hm9.at 0 rfl, hm9.at 1 rfl⟩) ?_
  simp only [nz1, nz2, nz3]
  refine one_ready 4 (by kernel_rfl) ?_
  refine opd rfl (wanted_none rfl) (m_call hm9 9 (.agg (bs (fM p.x q.z))) rfl (run_fMul rfl rfl rfl) (mul_f p.x q.z hp.x hq.z _) (fun w11 hm12 => ?_))
  refine ⟨⟨hm12.at 0 rfl, hm12.at 1 rfl⟩, ?_⟩
  simp only [nz1, nz2, nz3]
  refine one_ready 9 (by kernel_rfl) ?_
  refine opd rfl (wanted_none rfl) (m_call hm12 14 (.agg (bs (fM q.x p.z))) rfl (run_fMul rfl rfl rfl) (mul_f q.x p.z hq.x hp.z _) (fun w13 hm14 => ?_))
  refine ⟨⟨hm14.at 0 rfl, hm14.at 1 rfl⟩, ?_⟩
  simp only [nz1, nz2, nz3]
  refine tk 10 15 (.bool true) rfl rfl (fun _ hw => run_eqlM (fM p.x q.z) (fM q.x p.z) (f_lt (fM_lt _ _)) (f_lt (fM_lt _ _)) true (decide_eq_true h1) rfl rfl rfl) (⟨hm14.at 0 rfl, hm14.at 1 rfl⟩) ?_
  simp only [nz1, nz2, nz3]
  refine tk 11 16 (.bool true) rfl rfl (fun _ hw => run_mv rfl rfl) (⟨hm14.at 0 rfl, hm14.at 1 rfl⟩) ?_
  simp only [nz1, nz2, nz3]
  refine Sym.take_at 12 17 (.pointer (some ⟨g2, 32, none⟩)) rfl rfl (by kernel_rfl) (by kernel_rfl) (by kernel_rfl) (fun _ _ _ h => h) rfl (fun _ hw => r_f1 g2 rfl rfl) (⟨hm14.at 0 rfl, hm14.at 1 rfl⟩) ?_
  simp only [nz1, nz2, nz3]
  refine Sym.take_at 13 18 (.agg (bs p.y)) rfl rfl (by kernel_rfl) (by kernel_rfl) (by kernel_rfl) (fun _ _ _ h => h) rfl (fun _ hw => r_c1 (x := p.x) (y := p.y) (z := p.z) (t := p.t) g2 hw.1 rfl rfl) (⟨hm14.at 0 rfl, hm14.at 1 rfl⟩) ?_
  simp only [nz1, nz2, nz3]
  refine Sym.take_at 14 19 (.pointer (some ⟨g5, 64, none⟩)) rfl rfl (by kernel_rfl) (by kernel_rfl) (by kernel_rfl) (fun _ _ _ h => h) rfl (fun _ hw => r_f2 g5 rfl rfl) (⟨hm14.at 0 rfl, hm14.at 1 rfl⟩) ?_
  simp only [nz1, nz2, nz3]
  refine Sym.take_at 15 20 (.agg (bs q.z)) rfl rfl (by kernel_rfl) (by kernel_rfl) (by kernel_rfl) (fun _ _ _ h => h) rfl (fun _ hw => r_c2 (x := q.x) (y := q.y) (z := q.z) (t := q.t) g5 hw.2 rfl rfl) (⟨hm14.at 0 rfl, hm14.at 1 rfl⟩) ?_
  simp only [nz1, nz2, nz3]
  refine Sym.take_at 17 22 (.pointer (some ⟨g5, 32, none⟩)) rfl rfl (by kernel_rfl) (by kernel_rfl) (by kernel_rfl) (fun _ _ _ h => h) rfl (fun _ hw => r_f1 g5 rfl rfl) (⟨hm14.at 0 rfl, hm14.at 1 rfl⟩) ?_
  simp only [nz1, nz2, nz3]
  refine Sym.take_at 18 23 (.agg (bs q.y)) rfl rfl (by kernel_rfl) (by kernel_rfl) (by kernel_rfl) (fun _ _ _ h => h) rfl (fun _ hw => r_c1 (x := q.x) (y := q.y) (z := q.z) (t := q.t) g5 hw.2 rfl rfl) (⟨hm14.at 0 rfl, hm14.at 1 rfl⟩) ?_
  simp only [nz1, nz2, nz3]
  refine Sym.take_at 19 24 (.pointer (some ⟨g2, 64, none⟩)) rfl rfl (by kernel_rfl) (by kernel_rfl) (by kernel_rfl) (fun _ _ _ h => h) rfl (fun _ hw => r_f2 g2 rfl rfl) (⟨hm14.at 0 rfl, hm14.at 1 rfl⟩) ?_
  simp only [nz1, nz2, nz3]
  refine Sym.take_at 20 25 (.agg (bs p.z)) rfl rfl (by kernel_rfl) (by kernel_rfl) (by kernel_rfl) (fun _ _ _ h => h) rfl (fun _ hw => r_c2 (x := p.x) (y := p.y) (z := p.z) (t := p.t) g2 hw.1 rfl rfl) (⟨hm14.at 0 rfl, hm14.at 1 rfl⟩) ?_
  simp only [nz1, nz2, nz3]
  refine one_ready 16 (by kernel_rfl) ?_
  refine opd rfl rfl (m_call hm14 21 (.agg (bs (fM p.y q.z))) rfl (run_fMul rfl rfl rfl) (mul_f p.y q.z hp.y hq.z _) (fun w15 hm16 => ?_))
  refine ⟨⟨hm16.at 0 rfl, hm16.at 1 rfl⟩, ?_⟩
  simp only [nz1, nz2, nz3]
  refine one_ready 21 (by kernel_rfl) ?_
  refine opd rfl rfl (m_call hm16 26 (.agg (bs (fM q.y p.z))) rfl (run_fMul rfl rfl rfl) (mul_f q.y p.z hq.y hp.z _) (fun w17 hm18 => ?_))
  refine ⟨⟨hm18.at 0 rfl, hm18.at 1 rfl⟩, ?_⟩
  simp only [nz1, nz2, nz3]
  refine Sym.take_at 22 27 (.bool (decide ((fM p.y q.z) = (fM q.y p.z)))) rfl rfl (by kernel_rfl) (by kernel_rfl) (by kernel_rfl) (fun _ _ _ h => h) rfl (fun _ hw => run_eqlM (fM p.y q.z) (fM q.y p.z) (f_lt (fM_lt _ _)) (f_lt (fM_lt _ _)) (decide ((fM p.y q.z) = (fM q.y p.z))) rfl rfl rfl rfl) (⟨hm18.at 0 rfl, hm18.at 1 rfl⟩) ?_
  simp only [nz1, nz2, nz3]
  refine tk 23 28 (.bool (decide ((fM p.y q.z) = (fM q.y p.z)))) rfl rfl (fun _ hw => run_pick rfl rfl rfl) (⟨hm18.at 0 rfl, hm18.at 1 rfl⟩) ?_
  simp only [nz1, nz2, nz3]
  refine one_ready 24 (by kernel_rfl) ?_
  refine opd rfl (wanted_none rfl) (w_value 4 (.bool (decide ((fM p.y q.z) = (fM q.y p.z)))) rfl (run_as rfl rfl) ⟨⟨hm18.at 0 rfl, hm18.at 1 rfl⟩, ?_⟩)
  simp only [nz1, nz2, nz3]
  refine wpAnyH_done (by kernel_rfl) ?_ _
  refine then_n (hK8 _ _ ?_)
  refine wp_ret ?_
  exact ⟨rfl, .bool (decide ((fM p.y q.z) = (fM q.y p.z))), res_t rfl rfl, ⟨rfl, hm18.below⟩⟩
theorem same_p (p q : Pn) (hp : p.ok) (hq : q.ok) (w : World) : Calls Tryd.prog 21 #[.agg (pq p), .agg (pq q)] w (fun e w' => e = .returned (.bool (decide (sameP p q))) ∧ Below w.heap.size w w') := by
  by_cases h1 : fM p.x q.z = fM q.x p.z
  · have h := same_yes p q hp hq h1 w
    rw [show decide (fM p.y q.z = fM q.y p.z) = decide (sameP p q) from decide_eq_decide.2 ⟨fun h => ⟨h1, h⟩, fun h => h.2⟩] at h
    exact h
  · have h := same_no p q hp hq h1 w
    rw [show false = decide (sameP p q) from (decide_eq_false fun h => h1 h.1).symm] at h
    exact h
theorem bit8 (n m : Nat) : bt n (m / 8) / 2 ^ (m % 8) &&& 1 = n / 2 ^ m % 2 := by
  rw [Nat.and_one_is_mod]
  unfold bt
  rw [show (256 : Nat) = 2 ^ 8 from rfl, ← Nat.pow_mul]
  have e : m = 8 * (m / 8) + m % 8 := by omega
  conv => rhs; rw [e, Nat.pow_add, ← Nat.div_div_eq_div_mul]
  generalize n / 2 ^ (8 * (m / 8)) = x
  have h8 : m % 8 < 8 := Nat.mod_lt _ (by decide)
  generalize m % 8 = r at *
  rw [show (2 : Nat) ^ 8 = 2 ^ r * 2 ^ (8 - r) by rw [← Nat.pow_add]; congr 1; omega, Nat.mod_mul_right_div_self]
  rw [show 8 - r = (7 - r) + 1 by omega, Nat.pow_succ]
  exact Nat.mod_mul_left_mod _ _ _
set_option maxHeartbeats 4000000 in
set_option maxRecDepth 100000 in
theorem times_p (n : Nat) (p : Pn) (hp : p.ok) (w : World) (hd : DD w) : Calls Tryd.prog 23 #[.agg (bs n), .agg (pq p)] w (fun e w' => e = .returned (.agg (pq (timesP n p 256))) ∧ Below w.heap.size w w') := by
  go_enter Tryd.func23, Tryd.ntmps23
  have hm0 := Mm.nil w
  refine wp_seq_k (fun K1 hK1 => ?_)
  refine wp_region_lit ?_
  refine lst (wanted_none rfl) (m_alloc (c := bs n) (T := 23) hm0 2 rfl (run_box rfl rfl) (fun g2 w3 (hm4 : Mm w w3 [(g2, bs n, 23)]) => ?_))
  simp only [nz1, nz2, nz3]
  refine lst (wanted_none rfl) (m_alloc (c := pq p) (T := 25) hm4 3 rfl (run_box rfl rfl) (fun g5 w6 (hm7 : Mm w w6 [(g2, bs n, 23), (g5, pq p, 25)]) => ?_))
  simp only [nz1, nz2, nz3]
  refine lst (wanted_none rfl) (m_alloc (c := pt 0 0 0 0) (T := 25) hm7 4 rfl (al_P rfl) (fun g8 w9 (hm10 : Mm w w9 [(g2, bs n, 23), (g5, pq p, 25), (g8, pt 0 0 0 0, 25)]) => ?_))
  simp only [nz1, nz2, nz3]
  refine wpList_nil ?_
  refine then_n (hK1 _ _ ?_)
  refine wp_seq_k (fun K11 hK11 => ?_)
  refine wp_region_lit ?_
  refine lst (wanted_none rfl) (m_call hm10 7 (.agg (pq zeroP)) rfl (run_pZero rfl) (zero_any _) (fun w12 hm13 => ?_))
  simp only [nz1, nz2, nz3]
  refine lst (wanted_none rfl) (m_alloc (c := pt 0 0 0 0) (T := 25) hm13 5 rfl (al_P rfl) (fun g14 w15 (hm16 : Mm w w15 [(g2, bs n, 23), (g5, pq p, 25), (g8, pt 0 0 0 0, 25), (g14, pt 0 0 0 0, 25)]) => ?_))
  simp only [nz1, nz2, nz3]
  refine lst (wanted_none rfl) (m_store 3 25 _ _ (pq zeroP) (old := pt 0 0 0 0) hm16 rfl rfl rfl rfl rfl (by rw [pq_sz]; exact info_p) ((pt_sz _ _ _ _).trans (pq_sz _).symm) (pq_one _) (fun w17 (hm18 : Mm w w17 [(g2, bs n, 23), (g5, pq p, 25), (g8, pt 0 0 0 0, 25), (g14, pq zeroP, 25)]) => ?_))
  refine wpList_nil ?_
  have hm19 : Mm w w17 [(g2, bs n, 23), (g5, pq p, 25), (g8, pt 0 0 0 0, 25), (g14, pq (timesP n p 0), 25)] := by rw [show (pq (timesP n p 0) : Array Value) = pq zeroP from rfl]; exact hm18
  refine then_n (hK11 _ _ ?_)
  refine wp_seq_k (fun K20 hK20 => ?_)
  refine wp_seq_k (fun K21 hK21 => ?_)
  refine wp_region_lit ?_
  refine lv 6 (.int .i64 255) rfl rfl (run_as rfl rfl) ?_
  simp only [nz1, nz2, nz3]
  refine wpList_nil ?_
  refine then_n (hK21 _ _ ?_)
  refine wp_block ?_
  refine wp_loop_n (fun n' a' w' => ∃ (k : Nat) (z : Int) (u0 : Nat → Value), n' = 256 - k ∧ (k ≤ 256) ∧ (z = 255 - (k : Int)) ∧ a' = ⟨#[.agg (bs n), .agg (pq p), .pointer (some ⟨g2, 0, none⟩), .pointer (some ⟨g5, 0, none⟩), .pointer (some ⟨g8, 0, none⟩), .pointer (some ⟨g14, 0, none⟩), .int .i64 (z), .agg (pq zeroP), u0 0, u0 1, u0 2, u0 3, u0 4, u0 5, u0 6, u0 7, u0 8, u0 9, u0 10, u0 11, u0 12, u0 13, u0 14, u0 15, u0 16, u0 17, u0 18, undef], []⟩ ∧ Mm w w' [(g2, bs n, 23), (g5, pq p, 25), (g8, pt 0 0 0 0, 25), (g14, pq (timesP n p k), 25)]) ⟨0, 255, (fun qq => List.getD [undef, undef, undef, undef, undef, undef, undef, undef, undef, undef, undef, undef, undef, undef, undef, undef, undef, undef, undef] qq undef), rfl, (by omega), (by decide), rfl, hm19⟩ ?_
  clear hm19
  rintro _ _ w22 ⟨k, z, u0, hn0, hk, hz, rfl, hm23⟩ R24 hR24
  refine wp_seq_k (fun K25 hK25 => ?_)
  refine wp_seq_k (fun K26 hK26 => ?_)
  refine wp_region_lit ?_
  refine lv 8 (.int .i64 (z)) rfl rfl (run_mv rfl rfl) ?_
  simp only [nz1, nz2, nz3]
  refine lv 9 (.bool (decide (((0 : Nat) : Int) ≤ z))) rfl rfl (r_geqZ (z) (((0 : Nat) : Int)) rfl rfl rfl) ?_
  simp only [nz1, nz2, nz3]
  refine wpList_nil ?_
  refine then_n (hK26 _ _ ?_)
  refine cond_d (((0 : Nat) : Int) ≤ z) rfl (fun hc27 => ?_) (fun hc27 => ?_)
  · obtain ⟨m, rfl⟩ : ∃ m : Nat, z = (m : Int) := ⟨(255 - k), by omega⟩
    obtain ⟨hkm, hm255⟩ : m = 255 - k ∧ m < 256 := by omega
    refine wp_skip ?_
    refine then_n (hK25 _ _ ?_)
    refine wp_seq_k (fun K28 hK28 => ?_)
    refine wp_block ?_
    refine wp_seq_k (fun K29 hK29 => ?_)
    refine wp_region_lit ?_
    refine lv 12 (.agg (pq (timesP n p k))) rfl rfl (run_row rfl rfl (hm23.at 3 rfl) Tryd.underlying25 rfl (by rw [pq_sz]; exact info_p)) ?_
    simp only [nz1, nz2, nz3]
    refine lv 13 (.agg (pq (timesP n p k))) rfl rfl (run_row rfl rfl (hm23.at 3 rfl) Tryd.underlying25 rfl (by rw [pq_sz]; exact info_p)) ?_
    simp only [nz1, nz2, nz3]
    refine lst (wanted_none rfl) (m_call hm23 14 (.agg (pq (addP (timesP n p k) (timesP n p k)))) rfl (run_pAdd rfl rfl rfl) (add_p (timesP n p k) (timesP n p k) (timesP_ok _ _ _) (timesP_ok _ _ _) _ (kept hd hm23.below)) (fun w30 hm31 => ?_))
    simp only [nz1, nz2, nz3]
    refine lst (wanted_none rfl) (m_store 3 25 _ _ (pq (addP (timesP n p k) (timesP n p k))) (old := pq (timesP n p k)) hm31 rfl rfl rfl rfl rfl (by rw [pq_sz]; exact info_p) ((pq_sz _).trans (pq_sz _).symm) (pq_one _) (fun w32 (hm33 : Mm w w32 [(g2, bs n, 23), (g5, pq p, 25), (g8, pt 0 0 0 0, 25), (g14, pq (addP (timesP n p k) (timesP n p k)), 25)]) => ?_))
    refine wpList_nil ?_
    refine then_n (hK29 _ _ ?_)
    refine wp_seq_k (fun K34 hK34 => ?_)
    refine wp_region_lit ?_
    refine lv 15 (.int .i64 ((m : Nat) : Int)) rfl rfl (run_mv rfl rfl) ?_
    simp only [nz1, nz2, nz3]
    refine lv 16 (.int .i64 (((m / 8) : Nat) : Int)) rfl rfl (r_quo m 8 (show m < 9223372036854775808 from by omega) (by decide) rfl rfl rfl) ?_
    simp only [nz1, nz2, nz3]
    refine lv 17 (.pointer (some ⟨g2, (m / 8), none⟩)) rfl rfl (r_ix g2 (m / 8) (by omega) Tryd.underlying23 one_u8 rfl rfl rfl) ?_
    simp only [nz1, nz2, nz3]
    refine lv 18 (.int .u8 (((bt n) (m / 8) : Nat) : Int)) rfl rfl (r_cell (f := (bt n)) (n := 32) g2 (m / 8) (by omega) (hm33.at 0 rfl) Tryd.underlying5 rfl rfl) ?_
    simp only [nz1, nz2, nz3]
    refine lv 19 (.int .i64 ((m : Nat) : Int)) rfl rfl (run_mv rfl rfl) ?_
    simp only [nz1, nz2, nz3]
    refine lv 20 (.int .i64 (((m % 8) : Nat) : Int)) rfl rfl (r_rem m 8 (show m < 9223372036854775808 from by omega) (by decide) rfl rfl rfl) ?_
    simp only [nz1, nz2, nz3]
    refine lv 21 (.int .u8 (((((bt n) (m / 8)) / 2 ^ (m % 8)) : Nat) : Int)) rfl rfl (r_shr ((bt n) (m / 8)) (m % 8) (show m % 8 ≤ 8 from by omega) rfl rfl rfl) ?_
    simp only [nz1, nz2, nz3]
    refine lv 22 (.int .u8 (((n / 2 ^ m % 2) : Nat) : Int)) rfl rfl (r_andx (((bt n) (m / 8)) / 2 ^ (m % 8)) 1 8 (n / 2 ^ m % 2) (by decide) (Nat.lt_of_le_of_lt (Nat.div_le_self _ _) (bt_lt _ _)) (by decide) (bit8 n m) rfl rfl rfl) ?_
    simp only [nz1, nz2, nz3]
    refine lv 23 (.bool (decide ((n / 2 ^ m % 2) = 1))) rfl rfl (r_eql (n / 2 ^ m % 2) 1 rfl rfl rfl) ?_
    simp only [nz1, nz2, nz3]
    refine wpList_nil ?_
    refine then_n (hK34 _ _ ?_)
    refine cond_d ((n / 2 ^ m % 2) = 1) rfl (fun hc35 => ?_) (fun hc35 => ?_)
    · refine wp_region_lit ?_
      refine lv 24 (.agg (pq (addP (timesP n p k) (timesP n p k)))) rfl rfl (run_row rfl rfl (hm33.at 3 rfl) Tryd.underlying25 rfl (by rw [pq_sz]; exact info_p)) ?_
      simp only [nz1, nz2, nz3]
      refine lv 25 (.agg (pq p)) rfl rfl (run_row rfl rfl (hm33.at 1 rfl) Tryd.underlying25 rfl (by rw [pq_sz]; exact info_p)) ?_
      simp only [nz1, nz2, nz3]
      refine lst (wanted_none rfl) (m_call hm33 26 (.agg (pq (addP (addP (timesP n p k) (timesP n p k)) p))) rfl (run_pAdd rfl rfl rfl) (add_p (addP (timesP n p k) (timesP n p k)) p (addP_ok _ _) hp _ (kept hd hm33.below)) (fun w36 hm37 => ?_))
      simp only [nz1, nz2, nz3]
      refine lst (wanted_none rfl) (m_store 3 25 _ _ (pq (addP (addP (timesP n p k) (timesP n p k)) p)) (old := pq (addP (timesP n p k) (timesP n p k))) hm37 rfl rfl rfl rfl rfl (by rw [pq_sz]; exact info_p) ((pq_sz _).trans (pq_sz _).symm) (pq_one _) (fun w38 (hm39 : Mm w w38 [(g2, bs n, 23), (g5, pq p, 25), (g8, pt 0 0 0 0, 25), (g14, pq (addP (addP (timesP n p k) (timesP n p k)) p), 25)]) => ?_))
      refine wpList_nil ?_
      have hm40 : Mm w w38 [(g2, bs n, 23), (g5, pq p, 25), (g8, pt 0 0 0 0, 25), (g14, pq (timesP n p (k + 1)), 25)] := by rw [show (pq (timesP n p (k + 1)) : Array Value) = pq (addP (addP (timesP n p k) (timesP n p k)) p) from by rw [timesP, if_pos (by rw [← hkm]; exact hc35)]]; exact hm39
      refine blk_n ?_
      refine then_n (hK28 _ _ ?_)
      refine wp_region_lit ?_
      refine lv 10 (.int .i64 ((m : Nat) : Int)) rfl rfl (run_mv rfl rfl) ?_
      simp only [nz1, nz2, nz3]
      refine lv 11 (.int .i64 (((m : Nat) : Int) - 1)) rfl rfl (r_subZ ((m : Nat) : Int) ((1 : Nat) : Int) _ (IntWalk.i64_in _ (by omega)) rfl rfl rfl) ?_
      simp only [nz1, nz2, nz3]
      refine lv 6 (.int .i64 (((m : Nat) : Int) - 1)) rfl rfl (run_as rfl rfl) ?_
      simp only [nz1, nz2, nz3]
      refine wpList_nil ?_
      refine then_n (hR24 _ _ _ ⟨(k + 1), _, (fun qq => List.getD [.int .i64 ((m : Nat) : Int), .bool (decide (((0 : Nat) : Int) ≤ ((m : Nat) : Int))), .int .i64 ((m : Nat) : Int), .int .i64 (((m : Nat) : Int) - 1), .agg (pq (timesP n p k)), .agg (pq (timesP n p k)), .agg (pq (addP (timesP n p k) (timesP n p k))), .int .i64 ((m : Nat) : Int), .int .i64 (((m / 8) : Nat) : Int), .pointer (some ⟨g2, (m / 8), none⟩), .int .u8 (((bt n) (m / 8) : Nat) : Int), .int .i64 ((m : Nat) : Int), .int .i64 (((m % 8) : Nat) : Int), .int .u8 (((((bt n) (m / 8)) / 2 ^ (m % 8)) : Nat) : Int), .int .u8 (((n / 2 ^ m % 2) : Nat) : Int), .bool (decide ((n / 2 ^ m % 2) = 1)), .agg (pq (addP (timesP n p k) (timesP n p k))), .agg (pq p), .agg (pq (addP (addP (timesP n p k) (timesP n p k)) p))] qq undef), rfl, (by omega), (by omega), rfl, hm40⟩ ?_)
      omega
    · have hm41 : Mm w w32 [(g2, bs n, 23), (g5, pq p, 25), (g8, pt 0 0 0 0, 25), (g14, pq (timesP n p (k + 1)), 25)] := by rw [show (pq (timesP n p (k + 1)) : Array Value) = pq (addP (timesP n p k) (timesP n p k)) from by rw [timesP, if_neg (by rw [← hkm]; exact hc35)]]; exact hm33
      refine wp_skip ?_
      refine blk_n ?_
      refine then_n (hK28 _ _ ?_)
      refine wp_region_lit ?_
      refine lv 10 (.int .i64 ((m : Nat) : Int)) rfl rfl (run_mv rfl rfl) ?_
      simp only [nz1, nz2, nz3]
      refine lv 11 (.int .i64 (((m : Nat) : Int) - 1)) rfl rfl (r_subZ ((m : Nat) : Int) ((1 : Nat) : Int) _ (IntWalk.i64_in _ (by omega)) rfl rfl rfl) ?_
      simp only [nz1, nz2, nz3]
      refine lv 6 (.int .i64 (((m : Nat) : Int) - 1)) rfl rfl (run_as rfl rfl) ?_
      simp only [nz1, nz2, nz3]
      refine wpList_nil ?_
      refine then_n (hR24 _ _ _ ⟨(k + 1), _, (fun qq => List.getD [.int .i64 ((m : Nat) : Int), .bool (decide (((0 : Nat) : Int) ≤ ((m : Nat) : Int))), .int .i64 ((m : Nat) : Int), .int .i64 (((m : Nat) : Int) - 1), .agg (pq (timesP n p k)), .agg (pq (timesP n p k)), .agg (pq (addP (timesP n p k) (timesP n p k))), .int .i64 ((m : Nat) : Int), .int .i64 (((m / 8) : Nat) : Int), .pointer (some ⟨g2, (m / 8), none⟩), .int .u8 (((bt n) (m / 8) : Nat) : Int), .int .i64 ((m : Nat) : Int), .int .i64 (((m % 8) : Nat) : Int), .int .u8 (((((bt n) (m / 8)) / 2 ^ (m % 8)) : Nat) : Int), .int .u8 (((n / 2 ^ m % 2) : Nat) : Int), .bool (decide ((n / 2 ^ m % 2) = 1)), u0 16, u0 17, u0 18] qq undef), rfl, (by omega), (by omega), rfl, hm41⟩ ?_)
      omega
  · obtain rfl : k = 256 := by omega
    refine wp_exit ?_
    refine then_x ?_
    refine then_x ?_
    refine blk_x ?_
    refine then_n (hK20 _ _ ?_)
    refine wp_seq_k (fun K42 hK42 => ?_)
    refine wp_region_lit ?_
    refine lv 27 (.agg (pq (timesP n p 256))) rfl rfl (run_row rfl rfl (hm23.at 3 rfl) Tryd.underlying25 rfl (by rw [pq_sz]; exact info_p)) ?_
    simp only [nz1, nz2, nz3]
    refine lst (wanted_none rfl) (m_store 2 25 _ _ (pq (timesP n p 256)) (old := pt 0 0 0 0) hm23 rfl rfl rfl rfl rfl (by rw [pq_sz]; exact info_p) ((pt_sz _ _ _ _).trans (pq_sz _).symm) (pq_one _) (fun w43 (hm44 : Mm w w43 [(g2, bs n, 23), (g5, pq p, 25), (g8, pq (timesP n p 256), 25), (g14, pq (timesP n p 256), 25)]) => ?_))
    refine wpList_nil ?_
    refine then_n (hK42 _ _ ?_)
    refine wp_ret ?_
    exact ⟨rfl, .agg (pq (timesP n p 256)), res_c rfl rfl (hm44.at 2 rfl) Tryd.underlying25 rfl (by rw [pq_sz]; exact info_p), ⟨rfl, hm44.below⟩⟩
end Go.Proofs.YtfpphinnngblgaaDoor.Fld
