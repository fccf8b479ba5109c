/- A point taken no times is zero, once itself, twice its sum with itself, three times that and itself: PointSmall returns true, for every text. No condition, but that the package's variable d is as the text lays it. -/
import Derived.Test.YtfpphinnngblgaaDoorRows
import Derived.Test.YtfpphinnngblgaaDoorPtT
import Derived.Test.YtfpphinnngblgaaDoorPtO
import Derived.Test.YtfpphinnngblgaaDoorCrvN
import Derived.Test.YtfpphinnngblgaaDoorPtI
import Derived.WalkKit
import Derived.ProofKit
import Derived.OpenShut
import Derived.ShutString
import Derived.ChangeMaps5
import Derived.LaidMore
import Derived.SevenTiedAt
import Derived.Test.YtfpphinnngblgaaDoorTie
import Derived.Test.YtfpphinnngblgaaDoorCards
namespace Go.Proofs.YtfpphinnngblgaaDoor.pointSmall
open Go.ChangeShapes Go.WideShapes Go.ChangeAt Go.RowKit Go.ChangeMaps
open Go.Proofs.YtfpphinnngblgaaDoor Go.Proofs.YtfpphinnngblgaaDoor.Fld Go.Proofs.YtfpphinnngblgaaDoor.Arr Go.Proofs.YtfpphinnngblgaaDoor.Sym Go.Proofs.YtfpphinnngblgaaDoor.Sx Go.Proofs.YtfpphinnngblgaaDoor.Crv
set_option linter.unusedVariables false

theorem own : ownKnob Tryd.prog.godebug = none := by kernel_rfl
set_option maxHeartbeats 4000000 in
set_option maxRecDepth 100000 in
theorem walk_some (s : ByteArray) (p : Pn) (hs : unP s = some p) (hp : p.ok) (F1 : sameP (timesP 0 p 256) zeroP) (F2 : sameP (timesP 1 p 256) p) (F3 : sameP (timesP 2 p 256) (addP p p)) (F4 : sameP (timesP 3 p 256) (addP p (addP p p))) (w : World) (hd : DD w) : Calls Tryd.prog 9 #[.string s] w (fun e w' => e = .returned (.bool true) ∧ Below w.heap.size w w') := by
  go_enter Tryd.func9, Tryd.ntmps9
  have hm0 := Mm.nil w
  refine wp_seq_k (fun K1 hK1 => ?_)
  refine wp_region_lit ?_
  refine lst (wanted_none rfl) (w_value 2 (.bool false) rfl (run_as rfl rfl) ?_)
  simp only [List.setIfInBounds_toArray, List.set_cons_zero, List.set_cons_succ]
  refine wpList_nil ?_
  refine then_n (hK1 _ _ ?_)
  refine wp_seq_k (fun K2 hK2 => ?_)
  refine wp_region_lit ?_
  refine lst (wanted_none rfl) (w_value 6 (.string s) rfl (run_mv rfl rfl) ?_)
  simp only [List.setIfInBounds_toArray, List.set_cons_zero, List.set_cons_succ]
  refine lst (wanted_none rfl) (m_call hm0 7 (.tuple #[.agg (pq p), .bool true]) rfl (run_pUnpack rfl rfl) (un_at s p hs _ (kept hd hm0.below)) (fun w3 hm4 => ?_))
  simp only [List.setIfInBounds_toArray, List.set_cons_zero, List.set_cons_succ]
  refine lst (wanted_none rfl) (w_value 5 (.tuple #[.agg (pq p), .bool true]) rfl (run_mv rfl rfl) ?_)
  simp only [List.setIfInBounds_toArray, List.set_cons_zero, List.set_cons_succ]
  refine lst (wanted_none rfl) (w_value 8 (.agg (pq p)) rfl (run_ex rfl rfl rfl) ?_)
  simp only [List.setIfInBounds_toArray, List.set_cons_zero, List.set_cons_succ]
  refine lst (wanted_none rfl) (w_value 9 (.bool true) rfl (run_ex rfl rfl rfl) ?_)
  simp only [List.setIfInBounds_toArray, List.set_cons_zero, List.set_cons_succ]
  refine lst (wanted_none rfl) (m_alloc (c := pt 0 0 0 0) (T := 25) hm4 3 rfl (al_P rfl) (fun g5 w6 (hm7 : Mm w w6 [(g5, pt 0 0 0 0, 25)]) => ?_))
  simp only [List.setIfInBounds_toArray, List.set_cons_zero, List.set_cons_succ]
  refine lst (wanted_none rfl) (m_store 0 25 _ _ (pq p) (old := pt 0 0 0 0) hm7 rfl rfl rfl rfl rfl (by rw [pq_sz]; exact info_p) ((pt_sz _ _ _ _).trans (pq_sz _).symm) (pq_one _) (fun w8 (hm9 : Mm w w8 [(g5, pq p, 25)]) => ?_))
  refine lst (wanted_none rfl) (w_value 4 (.bool true) rfl (run_as rfl rfl) ?_)
  simp only [List.setIfInBounds_toArray, List.set_cons_zero, List.set_cons_succ]
  refine wpList_nil ?_
  refine then_n (hK2 _ _ ?_)
  refine wp_seq_k (fun K10 hK10 => ?_)
  refine wp_seq_k (fun K11 hK11 => ?_)
  refine wp_region_lit ?_
  refine lst (wanted_none rfl) (w_value 10 (.bool true) rfl (run_mv rfl rfl) ?_)
  simp only [List.setIfInBounds_toArray, List.set_cons_zero, List.set_cons_succ]
  refine lst (wanted_none rfl) (w_value 11 (.bool false) rfl (r_not true rfl rfl) ?_)
  simp only [List.setIfInBounds_toArray, List.set_cons_zero, List.set_cons_succ]
  refine wpList_nil ?_
  refine then_n (hK11 _ _ ?_)
  refine cond_f rfl ?_
  refine wp_skip ?_
  refine then_n (hK10 _ _ ?_)
  refine wp_seq_k (fun K12 hK12 => ?_)
  have hm13 := hm9.drew
  refine wp_region_held_drew (S := fun w' => Sym.Blk w' g5 (pq p) 25) (by kernel_rfl) (hm13.at 0 rfl) (fun _ => ?_)
  generalize w8.drew = w14 at *
  refine one_ready 0 (by kernel_rfl) ?_
  refine opd rfl (wanted_none rfl) (m_call hm13 13 (.bool true) rfl (run_awake5 rfl) (awake5_any _ (kept hd hm13.below)) (fun w15 hm16 => ?_))
  refine ⟨hm16.at 0 rfl, ?_⟩
  simp only [List.setIfInBounds_toArray, List.set_cons_zero, List.set_cons_succ]
  refine Sym.take_at 1 14 (.bool true) rfl rfl (by kernel_rfl) (by kernel_rfl) (by kernel_rfl) (fun _ _ _ h => h) (wanted_none rfl) (fun _ hw => run_mv rfl rfl) (hm16.at 0 rfl) ?_
  simp only [List.setIfInBounds_toArray, List.set_cons_zero, List.set_cons_succ]
  refine Sym.take_at 2 15 (.agg (bs 0)) rfl rfl (by kernel_rfl) (by kernel_rfl) (by kernel_rfl) (fun _ _ _ h => h) rfl (fun _ hw => by unfold execOp; go_simp; rfl) (hm16.at 0 rfl) ?_
  simp only [List.setIfInBounds_toArray, List.set_cons_zero, List.set_cons_succ]
  refine Sym.take_at 3 16 (.agg (pq p)) rfl rfl (by kernel_rfl) (by kernel_rfl) (by kernel_rfl) (fun _ _ _ h => h) rfl (fun _ hw => run_row rfl rfl hw Tryd.underlying25 rfl (by rw [pq_sz]; exact info_p)) (hm16.at 0 rfl) ?_
  simp only [List.setIfInBounds_toArray, List.set_cons_zero, List.set_cons_succ]
  refine one_ready 4 (by kernel_rfl) ?_
  refine opd rfl rfl (m_call hm16 17 (.agg (pq (timesP 0 p 256))) rfl (run_pTimes rfl rfl rfl) (times_p 0 p hp _ (kept hd hm16.below)) (fun w17 hm18 => ?_))
  refine ⟨hm18.at 0 rfl, ?_⟩
  simp only [List.setIfInBounds_toArray, List.set_cons_zero, List.set_cons_succ]
  refine one_ready 5 (by kernel_rfl) ?_
  refine opd rfl rfl (m_call hm18 18 (.agg (pq zeroP)) rfl (run_pZero rfl) (zero_any _) (fun w19 hm20 => ?_))
  refine ⟨hm20.at 0 rfl, ?_⟩
  simp only [List.setIfInBounds_toArray, List.set_cons_zero, List.set_cons_succ]
  refine one_ready 6 (by kernel_rfl) ?_
  refine opd rfl rfl (m_call hm20 19 (.bool true) rfl (run_pSame rfl rfl rfl) (same_c (timesP 0 p 256) zeroP (timesP_ok _ _ _) (zeroP_ok) true (decide_eq_true F1) _) (fun w21 hm22 => ?_))
  refine ⟨hm22.at 0 rfl, ?_⟩
  simp only [List.setIfInBounds_toArray, List.set_cons_zero, List.set_cons_succ]
  refine Sym.take_at 7 20 (.bool true) rfl rfl (by kernel_rfl) (by kernel_rfl) (by kernel_rfl) (fun _ _ _ h => h) (wanted_none rfl) (fun _ hw => run_pick rfl rfl rfl) (hm22.at 0 rfl) ?_
  simp only [List.setIfInBounds_toArray, List.set_cons_zero, List.set_cons_succ]
  refine Sym.take_at 8 21 (.bool true) rfl rfl (by kernel_rfl) (by kernel_rfl) (by kernel_rfl) (fun _ _ _ h => h) (wanted_none rfl) (fun _ hw => run_mv rfl rfl) (hm22.at 0 rfl) ?_
  simp only [List.setIfInBounds_toArray, List.set_cons_zero, List.set_cons_succ]
  refine Sym.take_at 9 22 (.agg (bs 1)) rfl rfl (by kernel_rfl) (by kernel_rfl) (by kernel_rfl) (fun _ _ _ h => h) rfl (fun _ hw => by unfold execOp; go_simp; rfl) (hm22.at 0 rfl) ?_
  simp only [List.setIfInBounds_toArray, List.set_cons_zero, List.set_cons_succ]
  refine Sym.take_at 10 23 (.agg (pq p)) rfl rfl (by kernel_rfl) (by kernel_rfl) (by kernel_rfl) (fun _ _ _ h => h) rfl (fun _ hw => run_row rfl rfl hw Tryd.underlying25 rfl (by rw [pq_sz]; exact info_p)) (hm22.at 0 rfl) ?_
  simp only [List.setIfInBounds_toArray, List.set_cons_zero, List.set_cons_succ]
  refine Sym.take_at 12 25 (.agg (pq p)) rfl rfl (by kernel_rfl) (by kernel_rfl) (by kernel_rfl) (fun _ _ _ h => h) rfl (fun _ hw => run_row rfl rfl hw Tryd.underlying25 rfl (by rw [pq_sz]; exact info_p)) (hm22.at 0 rfl) ?_
  simp only [List.setIfInBounds_toArray, List.set_cons_zero, List.set_cons_succ]
  refine one_ready 11 (by kernel_rfl) ?_
  refine opd rfl rfl (m_call hm22 24 (.agg (pq (timesP 1 p 256))) rfl (run_pTimes rfl rfl rfl) (times_p 1 p hp _ (kept hd hm22.below)) (fun w23 hm24 => ?_))
  refine ⟨hm24.at 0 rfl, ?_⟩
  simp only [List.setIfInBounds_toArray, List.set_cons_zero, List.set_cons_succ]
  refine one_ready 13 (by kernel_rfl) ?_
  refine opd rfl rfl (m_call hm24 26 (.bool true) rfl (run_pSame rfl rfl rfl) (same_c (timesP 1 p 256) p (timesP_ok _ _ _) hp true (decide_eq_true F2) _) (fun w25 hm26 => ?_))
  refine ⟨hm26.at 0 rfl, ?_⟩
  simp only [List.setIfInBounds_toArray, List.set_cons_zero, List.set_cons_succ]
  refine Sym.take_at 14 27 (.bool true) rfl rfl (by kernel_rfl) (by kernel_rfl) (by kernel_rfl) (fun _ _ _ h => h) (wanted_none rfl) (fun _ hw => run_pick rfl rfl rfl) (hm26.at 0 rfl) ?_
  simp only [List.setIfInBounds_toArray, List.set_cons_zero, List.set_cons_succ]
  refine Sym.take_at 15 28 (.bool true) rfl rfl (by kernel_rfl) (by kernel_rfl) (by kernel_rfl) (fun _ _ _ h => h) (wanted_none rfl) (fun _ hw => run_mv rfl rfl) (hm26.at 0 rfl) ?_
  simp only [List.setIfInBounds_toArray, List.set_cons_zero, List.set_cons_succ]
  refine Sym.take_at 16 29 (.agg (bs 2)) rfl rfl (by kernel_rfl) (by kernel_rfl) (by kernel_rfl) (fun _ _ _ h => h) rfl (fun _ hw => by unfold execOp; go_simp; rfl) (hm26.at 0 rfl) ?_
  simp only [List.setIfInBounds_toArray, List.set_cons_zero, List.set_cons_succ]
  refine Sym.take_at 17 30 (.agg (pq p)) rfl rfl (by kernel_rfl) (by kernel_rfl) (by kernel_rfl) (fun _ _ _ h => h) rfl (fun _ hw => run_row rfl rfl hw Tryd.underlying25 rfl (by rw [pq_sz]; exact info_p)) (hm26.at 0 rfl) ?_
  simp only [List.setIfInBounds_toArray, List.set_cons_zero, List.set_cons_succ]
  refine Sym.take_at 19 32 (.agg (pq p)) rfl rfl (by kernel_rfl) (by kernel_rfl) (by kernel_rfl) (fun _ _ _ h => h) rfl (fun _ hw => run_row rfl rfl hw Tryd.underlying25 rfl (by rw [pq_sz]; exact info_p)) (hm26.at 0 rfl) ?_
  simp only [List.setIfInBounds_toArray, List.set_cons_zero, List.set_cons_succ]
  refine Sym.take_at 20 33 (.agg (pq p)) rfl rfl (by kernel_rfl) (by kernel_rfl) (by kernel_rfl) (fun _ _ _ h => h) rfl (fun _ hw => run_row rfl rfl hw Tryd.underlying25 rfl (by rw [pq_sz]; exact info_p)) (hm26.at 0 rfl) ?_
  simp only [List.setIfInBounds_toArray, List.set_cons_zero, List.set_cons_succ]
  refine one_ready 18 (by kernel_rfl) ?_
  refine opd rfl rfl (m_call hm26 31 (.agg (pq (timesP 2 p 256))) rfl (run_pTimes rfl rfl rfl) (times_p 2 p hp _ (kept hd hm26.below)) (fun w27 hm28 => ?_))
  refine ⟨hm28.at 0 rfl, ?_⟩
  simp only [List.setIfInBounds_toArray, List.set_cons_zero, List.set_cons_succ]
  refine one_ready 21 (by kernel_rfl) ?_
  refine opd rfl rfl (m_call hm28 34 (.agg (pq (addP p p))) rfl (run_pAdd rfl rfl rfl) (add_p p p hp hp _ (kept hd hm28.below)) (fun w29 hm30 => ?_))
  refine ⟨hm30.at 0 rfl, ?_⟩
  simp only [List.setIfInBounds_toArray, List.set_cons_zero, List.set_cons_succ]
  refine one_ready 22 (by kernel_rfl) ?_
  refine opd rfl rfl (m_call hm30 35 (.bool true) rfl (run_pSame rfl rfl rfl) (same_c (timesP 2 p 256) (addP p p) (timesP_ok _ _ _) (addP_ok _ _) true (decide_eq_true F3) _) (fun w31 hm32 => ?_))
  refine ⟨hm32.at 0 rfl, ?_⟩
  simp only [List.setIfInBounds_toArray, List.set_cons_zero, List.set_cons_succ]
  refine Sym.take_at 23 36 (.bool true) rfl rfl (by kernel_rfl) (by kernel_rfl) (by kernel_rfl) (fun _ _ _ h => h) (wanted_none rfl) (fun _ hw => run_pick rfl rfl rfl) (hm32.at 0 rfl) ?_
  simp only [List.setIfInBounds_toArray, List.set_cons_zero, List.set_cons_succ]
  refine Sym.take_at 24 37 (.bool true) rfl rfl (by kernel_rfl) (by kernel_rfl) (by kernel_rfl) (fun _ _ _ h => h) (wanted_none rfl) (fun _ hw => run_mv rfl rfl) (hm32.at 0 rfl) ?_
  simp only [List.setIfInBounds_toArray, List.set_cons_zero, List.set_cons_succ]
  refine Sym.take_at 25 38 (.agg (bs 3)) rfl rfl (by kernel_rfl) (by kernel_rfl) (by kernel_rfl) (fun _ _ _ h => h) rfl (fun _ hw => by unfold execOp; go_simp; rfl) (hm32.at 0 rfl) ?_
  simp only [List.setIfInBounds_toArray, List.set_cons_zero, List.set_cons_succ]
  refine Sym.take_at 26 39 (.agg (pq p)) rfl rfl (by kernel_rfl) (by kernel_rfl) (by kernel_rfl) (fun _ _ _ h => h) rfl (fun _ hw => run_row rfl rfl hw Tryd.underlying25 rfl (by rw [pq_sz]; exact info_p)) (hm32.at 0 rfl) ?_
  simp only [List.setIfInBounds_toArray, List.set_cons_zero, List.set_cons_succ]
  refine Sym.take_at 28 41 (.agg (pq p)) rfl rfl (by kernel_rfl) (by kernel_rfl) (by kernel_rfl) (fun _ _ _ h => h) rfl (fun _ hw => run_row rfl rfl hw Tryd.underlying25 rfl (by rw [pq_sz]; exact info_p)) (hm32.at 0 rfl) ?_
  simp only [List.setIfInBounds_toArray, List.set_cons_zero, List.set_cons_succ]
  refine Sym.take_at 29 42 (.agg (pq p)) rfl rfl (by kernel_rfl) (by kernel_rfl) (by kernel_rfl) (fun _ _ _ h => h) rfl (fun _ hw => run_row rfl rfl hw Tryd.underlying25 rfl (by rw [pq_sz]; exact info_p)) (hm32.at 0 rfl) ?_
  simp only [List.setIfInBounds_toArray, List.set_cons_zero, List.set_cons_succ]
  refine Sym.take_at 30 43 (.agg (pq p)) rfl rfl (by kernel_rfl) (by kernel_rfl) (by kernel_rfl) (fun _ _ _ h => h) rfl (fun _ hw => run_row rfl rfl hw Tryd.underlying25 rfl (by rw [pq_sz]; exact info_p)) (hm32.at 0 rfl) ?_
  simp only [List.setIfInBounds_toArray, List.set_cons_zero, List.set_cons_succ]
  refine one_ready 27 (by kernel_rfl) ?_
  refine opd rfl rfl (m_call hm32 40 (.agg (pq (timesP 3 p 256))) rfl (run_pTimes rfl rfl rfl) (times_p 3 p hp _ (kept hd hm32.below)) (fun w33 hm34 => ?_))
  refine ⟨hm34.at 0 rfl, ?_⟩
  simp only [List.setIfInBounds_toArray, List.set_cons_zero, List.set_cons_succ]
  refine one_ready 31 (by kernel_rfl) ?_
  refine opd rfl rfl (m_call hm34 44 (.agg (pq (addP p p))) rfl (run_pAdd rfl rfl rfl) (add_p p p hp hp _ (kept hd hm34.below)) (fun w35 hm36 => ?_))
  refine ⟨hm36.at 0 rfl, ?_⟩
  simp only [List.setIfInBounds_toArray, List.set_cons_zero, List.set_cons_succ]
  refine one_ready 32 (by kernel_rfl) ?_
  refine opd rfl rfl (m_call hm36 45 (.agg (pq (addP p (addP p p)))) rfl (run_pAdd rfl rfl rfl) (add_p p (addP p p) hp (addP_ok _ _) _ (kept hd hm36.below)) (fun w37 hm38 => ?_))
  refine ⟨hm38.at 0 rfl, ?_⟩
  simp only [List.setIfInBounds_toArray, List.set_cons_zero, List.set_cons_succ]
  refine one_ready 33 (by kernel_rfl) ?_
  refine opd rfl rfl (m_call hm38 46 (.bool true) rfl (run_pSame rfl rfl rfl) (same_c (timesP 3 p 256) (addP p (addP p p)) (timesP_ok _ _ _) (addP_ok _ _) true (decide_eq_true F4) _) (fun w39 hm40 => ?_))
  refine ⟨hm40.at 0 rfl, ?_⟩
  simp only [List.setIfInBounds_toArray, List.set_cons_zero, List.set_cons_succ]
  refine Sym.take_at 34 47 (.bool true) rfl rfl (by kernel_rfl) (by kernel_rfl) (by kernel_rfl) (fun _ _ _ h => h) (wanted_none rfl) (fun _ hw => run_pick rfl rfl rfl) (hm40.at 0 rfl) ?_
  simp only [List.setIfInBounds_toArray, List.set_cons_zero, List.set_cons_succ]
  refine one_ready 35 (by kernel_rfl) ?_
  refine opd rfl (wanted_none rfl) (w_value 2 (.bool true) rfl (run_as rfl rfl) ⟨hm40.at 0 rfl, ?_⟩)
  simp only [List.setIfInBounds_toArray, List.set_cons_zero, List.set_cons_succ]
  refine wpAnyH_done (by kernel_rfl) ?_ _
  refine then_n (hK12 _ _ ?_)
  refine wp_ret ?_
  exact ⟨rfl, .bool true, res_t rfl rfl, ⟨rfl, hm40.below⟩⟩
set_option maxHeartbeats 4000000 in
set_option maxRecDepth 100000 in
theorem walk_none (s : ByteArray) (hs : unP s = none) (w : World) (hd : DD w) : Calls Tryd.prog 9 #[.string s] w (fun e w' => e = .returned (.bool true) ∧ Below w.heap.size w w') := by
  go_enter Tryd.func9, Tryd.ntmps9
  have hm0 := Mm.nil w
  refine wp_seq_k (fun K1 hK1 => ?_)
  refine wp_region_lit ?_
  refine lst (wanted_none rfl) (w_value 2 (.bool false) rfl (run_as rfl rfl) ?_)
  simp only [List.setIfInBounds_toArray, List.set_cons_zero, List.set_cons_succ]
  refine wpList_nil ?_
  refine then_n (hK1 _ _ ?_)
  refine wp_seq_k (fun K2 hK2 => ?_)
  refine wp_region_lit ?_
  refine lst (wanted_none rfl) (w_value 6 (.string s) rfl (run_mv rfl rfl) ?_)
  simp only [List.setIfInBounds_toArray, List.set_cons_zero, List.set_cons_succ]
  refine lst (wanted_none rfl) (m_call hm0 7 (.tuple #[.agg (pt 0 0 0 0), .bool false]) rfl (run_pUnpack rfl rfl) (un_no s hs _ (kept hd hm0.below)) (fun w3 hm4 => ?_))
  simp only [List.setIfInBounds_toArray, List.set_cons_zero, List.set_cons_succ]
  refine lst (wanted_none rfl) (w_value 5 (.tuple #[.agg (pt 0 0 0 0), .bool false]) rfl (run_mv rfl rfl) ?_)
  simp only [List.setIfInBounds_toArray, List.set_cons_zero, List.set_cons_succ]
  refine lst (wanted_none rfl) (w_value 8 (.agg (pt 0 0 0 0)) rfl (run_ex rfl rfl rfl) ?_)
  simp only [List.setIfInBounds_toArray, List.set_cons_zero, List.set_cons_succ]
  refine lst (wanted_none rfl) (w_value 9 (.bool false) rfl (run_ex rfl rfl rfl) ?_)
  simp only [List.setIfInBounds_toArray, List.set_cons_zero, List.set_cons_succ]
  refine lst (wanted_none rfl) (m_alloc (c := pt 0 0 0 0) (T := 25) hm4 3 rfl (al_P rfl) (fun g5 w6 (hm7 : Mm w w6 [(g5, pt 0 0 0 0, 25)]) => ?_))
  simp only [List.setIfInBounds_toArray, List.set_cons_zero, List.set_cons_succ]
  refine lst (wanted_none rfl) (m_store 0 25 _ _ (pt 0 0 0 0) (old := pt 0 0 0 0) hm7 rfl rfl rfl rfl rfl (by rw [pt_sz]; exact info_p) ((pt_sz _ _ _ _).trans (pt_sz _ _ _ _).symm) (pt_one _ _ _ _) (fun w8 (hm9 : Mm w w8 [(g5, pt 0 0 0 0, 25)]) => ?_))
  refine lst (wanted_none rfl) (w_value 4 (.bool false) rfl (run_as rfl rfl) ?_)
  simp only [List.setIfInBounds_toArray, List.set_cons_zero, List.set_cons_succ]
  refine wpList_nil ?_
  refine then_n (hK2 _ _ ?_)
  refine wp_seq_k (fun K10 hK10 => ?_)
  refine wp_seq_k (fun K11 hK11 => ?_)
  refine wp_region_lit ?_
  refine lst (wanted_none rfl) (w_value 10 (.bool false) rfl (run_mv rfl rfl) ?_)
  simp only [List.setIfInBounds_toArray, List.set_cons_zero, List.set_cons_succ]
  refine lst (wanted_none rfl) (w_value 11 (.bool true) rfl (r_not false rfl rfl) ?_)
  simp only [List.setIfInBounds_toArray, List.set_cons_zero, List.set_cons_succ]
  refine wpList_nil ?_
  refine then_n (hK11 _ _ ?_)
  refine cond_t rfl ?_
  refine wp_seq_k (fun K12 hK12 => ?_)
  refine wp_region_lit ?_
  refine lst (wanted_none rfl) (m_call hm9 12 (.bool true) rfl (run_awake5 rfl) (awake5_any _ (kept hd hm9.below)) (fun w13 hm14 => ?_))
  simp only [List.setIfInBounds_toArray, List.set_cons_zero, List.set_cons_succ]
  refine lst (wanted_none rfl) (w_value 2 (.bool true) rfl (run_as rfl rfl) ?_)
  simp only [List.setIfInBounds_toArray, List.set_cons_zero, List.set_cons_succ]
  refine wpList_nil ?_
  refine then_n (hK12 _ _ ?_)
  refine wp_ret ?_
  refine then_r ?_
  exact ⟨rfl, .bool true, res_t rfl rfl, ⟨rfl, hm14.below⟩⟩
theorem walk (s : ByteArray) (w : World) (hd : DD w) : Calls Tryd.prog 9 #[.string s] w (fun e w' => e = .returned (.bool true) ∧ Below w.heap.size w w') := by
  cases h : unP s with
  | none => exact walk_none s h w hd
  | some p =>
    obtain ⟨P, hR, _⟩ := unP_R h
    exact walk_some s p h (unP_ok h) (l_t0 hR) (l_t1 hR) (l_t2 hR) (l_t3 hR) w hd
set_option maxRecDepth 100000 in
theorem lifted (os : Os) (started : os.Started) (H : Type) (enc : TypeId × Value → H) :
    ReturnsInHanded {} Tryd.checked os 9 .any (fun w args => (Rows.pointSmallSpec.pre enc Tryd.prog Tryd.f9 [] false w args ∧ laidMetH Tryd.prog dLaid w) ∧ sizedMet enc Tryd.prog Tryd.f9 (OpenSpec.ofChange Rows.pointSmallSpec) false w args) (Rows.pointSmallSpec.post enc Tryd.prog Tryd.f9 false true false false) := by
  refine handed (X := fun w _ => laidMetH Tryd.prog dLaid w) (fun _ _ _ hh h => h.of_heap hh) own started (by kernel_rfl) Tryd.func9
    (ChangeSpec.witness_shaped (enc := enc) (C := Tryd.checked) (os := os) (X := fun w _ => laidMetH Tryd.prog dLaid w) false (World.doorLaid Tryd.prog 400 os) #[.string .empty] 8 rfl (World.shaped_of_RefB (by kernel_rfl) (by kernel_rfl)) (by kernel_rfl) (by kernel_rfl) (by kernel_rfl) (met_d os _)) ?_
  intro W base args ds gs before hval0 hW hL hS
  have hval : ∀ (j : Nat) t v, Tryd.f9.params[j]? = some t → args[j]? = some v → Value.okWide Tryd.prog W .any base t v := hval0
  have hW' := hW
  obtain ⟨p, q, hA0, hV, rfl, hfz, hnd⟩ := hW
  have hA : DataW.TrodAll enc Tryd.prog W 0 (fun _ => true) true Tryd.f9.params.toList args.toList ds p := hA0
  rw [Tryd.params9] at hA hval
  obtain ⟨v0, vs0, d0, ds0, p0, q0, hargs, rfl, rfl, h0, r0⟩ := trodAll_cons hA
  obtain ⟨rfl, rfl, rfl⟩ := trodAll_nil r0
  obtain rfl : args = #[v0] := by cases args; simp_all
  obtain ⟨rfl, rfl⟩ := trodVars_none hV
  obtain ⟨a0, rfl, rfl, rfl, m0⟩ := open_string Tryd.underlying9 (hval 0 9 v0 rfl rfl) h0
  clear hA0 hval0
  simp only [List.append_nil] at hW'
  refine (walk a0 W (of_d hS hL)).mono fun e W' ⟨he, hg⟩ => ?_
  subst he
  exact ⟨_, rfl, _, _, _, [], [], [], hW', (trodAll_cons_mk (shut_bool Tryd.underlying4 _) trodAll_mk0), (trodAll_cons_mk (shut_string Tryd.underlying9 m0) trodAll_mk0), rfl, hg.frame _, fun h => by cases h⟩

theorem over : Rows.pointSmallRow.holds Tryd.pinned (OpenSpec.ofChange Rows.pointSmallSpec) :=
  OpenClaim.holds_of_wide 9 Tryd.f9 rfl rfl rfl rfl rfl rfl rfl ⟨rfl, rfl, rfl, rfl, rfl⟩ rfl rfl rfl rfl rfl (by kernel_rfl) Tryd.func9 (by kernel_rfl)
    (of_decide_eq_true (by kernel_rfl)) (by unfold Func.isWrapper; first | (rw [if_pos (by decide +kernel)]; kernel_rfl) | (rw [if_neg (by decide +kernel)]; exact ⟨rfl, rfl⟩))
    (fun os started H enc _ => lifted os started H enc)

/-- The statement: the tied card. -/
theorem proved : Rows.PointSmallCardSaid :=
  Claim7.holds_tied_plain_at .later [] [.data] true (true, "fc2542975b301c68a361b8d8db791a19a70359d4a606d8fae6164062f6963a2a") false
    over (fun _ h => by cases h) (by kernel_rfl) (fun _ h => by cases h) pointSmall_row_tie rfl ⟨rfl, rfl⟩ (by kernel_rfl) rfl
    (fun f fn hf hfn => by
      obtain rfl : f = 9 := Option.some.inj ((show Tryd.prog.funcNamed "holdall/holdalllaw05.PointSmall" = some 9 by kernel_rfl).symm.trans hf) |>.symm
      obtain rfl : fn = Tryd.f9 := (Option.some.inj (Tryd.func9.symm.trans hfn)).symm
      exact ⟨by kernel_rfl, fun j t ht => by
        rw [Tryd.params9] at ht
        have hm : t ∈ [9] := by simpa using Array.mem_of_getElem? ht
        have hall : ([9].all fun u => !Tryd.prog.wantsStandIn u) = true := by kernel_rfl
        exact (show Tryd.prog.wantsStandIn t = false by simpa using List.all_eq_true.1 hall t hm)⟩)
    (by kernel_rfl)
#print axioms proved
end Go.Proofs.YtfpphinnngblgaaDoor.pointSmall
