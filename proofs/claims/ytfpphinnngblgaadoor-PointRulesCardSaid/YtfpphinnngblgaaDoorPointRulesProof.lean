/- Sums of points of the curve are points of it, and don't mind the order, nor how they are put together; the zero point changes none: PointRules returns true, for every three texts. No condition, but that the package's variable d is as the text lays it. -/
import Derived.Test.YtfpphinnngblgaaDoorRows
import Derived.Test.YtfpphinnngblgaaDoorPtT
import Derived.Test.YtfpphinnngblgaaDoorPtO
import Derived.Test.YtfpphinnngblgaaDoorCrvN
import Derived.Test.YtfpphinnngblgaaDoorPtI
import Derived.WalkKit
import Derived.ProofKit
import Derived.OpenShut
import Derived.ShutString
import Derived.ChangeMaps5
import Derived.LaidMore
import Derived.SevenTiedAt
import Derived.Test.YtfpphinnngblgaaDoorTie
import Derived.Test.YtfpphinnngblgaaDoorCards
namespace Go.Proofs.YtfpphinnngblgaaDoor.pointRules
open Go.ChangeShapes Go.WideShapes Go.ChangeAt Go.RowKit Go.ChangeMaps
open Go.Proofs.YtfpphinnngblgaaDoor Go.Proofs.YtfpphinnngblgaaDoor.Fld Go.Proofs.YtfpphinnngblgaaDoor.Arr Go.Proofs.YtfpphinnngblgaaDoor.Sym Go.Proofs.YtfpphinnngblgaaDoor.Sx Go.Proofs.YtfpphinnngblgaaDoor.Crv
set_option linter.unusedVariables false

theorem own : ownKnob Tryd.prog.godebug = none := by kernel_rfl
set_option maxHeartbeats 4000000 in
set_option maxRecDepth 100000 in
theorem walk_sss (a : ByteArray) (p : Pn) (ha : unP a = some p) (hp : p.ok) (b : ByteArray) (q : Pn) (hb : unP b = some q) (hq : q.ok) (c : ByteArray) (r : Pn) (hc : unP c = some r) (hr : r.ok) (G1 : onP (addP p q)) (F1 : sameP (addP p q) (addP q p)) (F2 : sameP (addP (addP p q) r) (addP p (addP q r))) (F3 : sameP (addP p zeroP) p) (F4 : sameP (addP p (negP p)) zeroP)  (w : World) (hd : DD w) : Calls Tryd.prog 6 #[.string a, .string b, .string c] w (fun e w' => e = .returned (.bool true) ∧ Below w.heap.size w w') := by
  go_enter Tryd.func6, Tryd.ntmps6
  have hm0 := Mm.nil w
  refine wp_seq_k (fun K1 hK1 => ?_)
  refine wp_region_lit ?_
  refine lst (wanted_none rfl) (w_value 6 (.bool false) rfl (run_as rfl rfl) ?_)
  simp only [List.setIfInBounds_toArray, List.set_cons_zero, List.set_cons_succ]
  refine wpList_nil ?_
  refine then_n (hK1 _ _ ?_)
  refine wp_seq_k (fun K2 hK2 => ?_)
  refine wp_region_lit ?_
  refine lst (wanted_none rfl) (w_value 15 (.string a) rfl (run_mv rfl rfl) ?_)
  simp only [List.setIfInBounds_toArray, List.set_cons_zero, List.set_cons_succ]
  refine lst (wanted_none rfl) (m_call hm0 16 (.tuple #[.agg (pq p), .bool true]) rfl (run_pUnpack rfl rfl) (un_at a p ha _ (kept hd hm0.below)) (fun w3 hm4 => ?_))
  simp only [List.setIfInBounds_toArray, List.set_cons_zero, List.set_cons_succ]
  refine lst (wanted_none rfl) (w_value 14 (.tuple #[.agg (pq p), .bool true]) rfl (run_mv rfl rfl) ?_)
  simp only [List.setIfInBounds_toArray, List.set_cons_zero, List.set_cons_succ]
  refine lst (wanted_none rfl) (w_value 17 (.agg (pq p)) rfl (run_ex rfl rfl rfl) ?_)
  simp only [List.setIfInBounds_toArray, List.set_cons_zero, List.set_cons_succ]
  refine lst (wanted_none rfl) (w_value 18 (.bool true) rfl (run_ex rfl rfl rfl) ?_)
  simp only [List.setIfInBounds_toArray, List.set_cons_zero, List.set_cons_succ]
  refine lst (wanted_none rfl) (m_alloc (c := pt 0 0 0 0) (T := 25) hm4 7 rfl (al_P rfl) (fun g5 w6 (hm7 : Mm w w6 [(g5, pt 0 0 0 0, 25)]) => ?_))
  simp only [List.setIfInBounds_toArray, List.set_cons_zero, List.set_cons_succ]
  refine lst (wanted_none rfl) (m_store 0 25 _ _ (pq p) (old := pt 0 0 0 0) hm7 rfl rfl rfl rfl rfl (by rw [pq_sz]; exact info_p) ((pt_sz _ _ _ _).trans (pq_sz _).symm) (pq_one _) (fun w8 (hm9 : Mm w w8 [(g5, pq p, 25)]) => ?_))
  refine lst (wanted_none rfl) (w_value 8 (.bool true) rfl (run_as rfl rfl) ?_)
  simp only [List.setIfInBounds_toArray, List.set_cons_zero, List.set_cons_succ]
  refine wpList_nil ?_
  refine then_n (hK2 _ _ ?_)
  refine wp_seq_k (fun K10 hK10 => ?_)
  refine wp_region_lit ?_
  refine lst (wanted_none rfl) (w_value 20 (.string b) rfl (run_mv rfl rfl) ?_)
  simp only [List.setIfInBounds_toArray, List.set_cons_zero, List.set_cons_succ]
  refine lst (wanted_none rfl) (m_call hm9 21 (.tuple #[.agg (pq q), .bool true]) rfl (run_pUnpack rfl rfl) (un_at b q hb _ (kept hd hm9.below)) (fun w11 hm12 => ?_))
  simp only [List.setIfInBounds_toArray, List.set_cons_zero, List.set_cons_succ]
  refine lst (wanted_none rfl) (w_value 19 (.tuple #[.agg (pq q), .bool true]) rfl (run_mv rfl rfl) ?_)
  simp only [List.setIfInBounds_toArray, List.set_cons_zero, List.set_cons_succ]
  refine lst (wanted_none rfl) (w_value 22 (.agg (pq q)) rfl (run_ex rfl rfl rfl) ?_)
  simp only [List.setIfInBounds_toArray, List.set_cons_zero, List.set_cons_succ]
  refine lst (wanted_none rfl) (w_value 23 (.bool true) rfl (run_ex rfl rfl rfl) ?_)
  simp only [List.setIfInBounds_toArray, List.set_cons_zero, List.set_cons_succ]
  refine lst (wanted_none rfl) (m_alloc (c := pt 0 0 0 0) (T := 25) hm12 9 rfl (al_P rfl) (fun g13 w14 (hm15 : Mm w w14 [(g5, pq p, 25), (g13, pt 0 0 0 0, 25)]) => ?_))
  simp only [List.setIfInBounds_toArray, List.set_cons_zero, List.set_cons_succ]
  refine lst (wanted_none rfl) (m_store 1 25 _ _ (pq q) (old := pt 0 0 0 0) hm15 rfl rfl rfl rfl rfl (by rw [pq_sz]; exact info_p) ((pt_sz _ _ _ _).trans (pq_sz _).symm) (pq_one _) (fun w16 (hm17 : Mm w w16 [(g5, pq p, 25), (g13, pq q, 25)]) => ?_))
  refine lst (wanted_none rfl) (w_value 10 (.bool true) rfl (run_as rfl rfl) ?_)
  simp only [List.setIfInBounds_toArray, List.set_cons_zero, List.set_cons_succ]
  refine wpList_nil ?_
  refine then_n (hK10 _ _ ?_)
  refine wp_seq_k (fun K18 hK18 => ?_)
  refine wp_region_lit ?_
  refine lst (wanted_none rfl) (w_value 25 (.string c) rfl (run_mv rfl rfl) ?_)
  simp only [List.setIfInBounds_toArray, List.set_cons_zero, List.set_cons_succ]
  refine lst (wanted_none rfl) (m_call hm17 26 (.tuple #[.agg (pq r), .bool true]) rfl (run_pUnpack rfl rfl) (un_at c r hc _ (kept hd hm17.below)) (fun w19 hm20 => ?_))
  simp only [List.setIfInBounds_toArray, List.set_cons_zero, List.set_cons_succ]
  refine lst (wanted_none rfl) (w_value 24 (.tuple #[.agg (pq r), .bool true]) rfl (run_mv rfl rfl) ?_)
  simp only [List.setIfInBounds_toArray, List.set_cons_zero, List.set_cons_succ]
  refine lst (wanted_none rfl) (w_value 27 (.agg (pq r)) rfl (run_ex rfl rfl rfl) ?_)
  simp only [List.setIfInBounds_toArray, List.set_cons_zero, List.set_cons_succ]
  refine lst (wanted_none rfl) (w_value 28 (.bool true) rfl (run_ex rfl rfl rfl) ?_)
  simp only [List.setIfInBounds_toArray, List.set_cons_zero, List.set_cons_succ]
  refine lst (wanted_none rfl) (m_alloc (c := pt 0 0 0 0) (T := 25) hm20 11 rfl (al_P rfl) (fun g21 w22 (hm23 : Mm w w22 [(g5, pq p, 25), (g13, pq q, 25), (g21, pt 0 0 0 0, 25)]) => ?_))
  simp only [List.setIfInBounds_toArray, List.set_cons_zero, List.set_cons_succ]
  refine lst (wanted_none rfl) (m_store 2 25 _ _ (pq r) (old := pt 0 0 0 0) hm23 rfl rfl rfl rfl rfl (by rw [pq_sz]; exact info_p) ((pt_sz _ _ _ _).trans (pq_sz _).symm) (pq_one _) (fun w24 (hm25 : Mm w w24 [(g5, pq p, 25), (g13, pq q, 25), (g21, pq r, 25)]) => ?_))
  refine lst (wanted_none rfl) (w_value 12 (.bool true) rfl (run_as rfl rfl) ?_)
  simp only [List.setIfInBounds_toArray, List.set_cons_zero, List.set_cons_succ]
  refine wpList_nil ?_
  refine then_n (hK18 _ _ ?_)
  refine wp_seq_k (fun K26 hK26 => ?_)
  refine wp_seq_k (fun K27 hK27 => ?_)
  refine wp_region_lit ?_
  refine lst (wanted_none rfl) (w_value 29 (.bool true) rfl (run_mv rfl rfl) ?_)
  simp only [List.setIfInBounds_toArray, List.set_cons_zero, List.set_cons_succ]
  refine lst (wanted_none rfl) (w_value 30 (.bool false) rfl (r_not true rfl rfl) ?_)
  simp only [List.setIfInBounds_toArray, List.set_cons_zero, List.set_cons_succ]
  refine lst (wanted_none rfl) (w_value 31 (.bool false) rfl (run_mv rfl rfl) ?_)
  simp only [List.setIfInBounds_toArray, List.set_cons_zero, List.set_cons_succ]
  refine lst rfl (w_value 32 (.bool true) rfl (run_mv rfl rfl) ?_)
  simp only [List.setIfInBounds_toArray, List.set_cons_zero, List.set_cons_succ]
  refine lst rfl (w_value 33 (.bool false) rfl (r_not true rfl rfl) ?_)
  simp only [List.setIfInBounds_toArray, List.set_cons_zero, List.set_cons_succ]
  refine lst (wanted_none rfl) (w_value 34 (.bool false) rfl (run_pickf rfl rfl rfl) ?_)
  simp only [List.setIfInBounds_toArray, List.set_cons_zero, List.set_cons_succ]
  refine lst (wanted_none rfl) (w_value 35 (.bool false) rfl (run_mv rfl rfl) ?_)
  simp only [List.setIfInBounds_toArray, List.set_cons_zero, List.set_cons_succ]
  refine lst rfl (w_value 36 (.bool true) rfl (run_mv rfl rfl) ?_)
  simp only [List.setIfInBounds_toArray, List.set_cons_zero, List.set_cons_succ]
  refine lst rfl (w_value 37 (.bool false) rfl (r_not true rfl rfl) ?_)
  simp only [List.setIfInBounds_toArray, List.set_cons_zero, List.set_cons_succ]
  refine lst (wanted_none rfl) (w_value 38 (.bool false) rfl (run_pickf rfl rfl rfl) ?_)
  simp only [List.setIfInBounds_toArray, List.set_cons_zero, List.set_cons_succ]
  refine wpList_nil ?_
  refine then_n (hK27 _ _ ?_)
  refine cond_f rfl ?_
  refine wp_skip ?_
  refine then_n (hK26 _ _ ?_)
  refine wp_seq_k (fun K28 hK28 => ?_)
  refine wp_region_lit ?_
  refine lst (wanted_none rfl) (w_value 40 (.agg (pq p)) rfl (run_row rfl rfl (hm25.at 0 rfl) Tryd.underlying25 rfl (by rw [pq_sz]; exact info_p)) ?_)
  simp only [List.setIfInBounds_toArray, List.set_cons_zero, List.set_cons_succ]
  refine lst (wanted_none rfl) (w_value 41 (.agg (pq q)) rfl (run_row rfl rfl (hm25.at 1 rfl) Tryd.underlying25 rfl (by rw [pq_sz]; exact info_p)) ?_)
  simp only [List.setIfInBounds_toArray, List.set_cons_zero, List.set_cons_succ]
  refine lst (wanted_none rfl) (m_call hm25 42 (.agg (pq (addP p q))) rfl (run_pAdd rfl rfl rfl) (add_p p q hp hq _ (kept hd hm25.below)) (fun w29 hm30 => ?_))
  simp only [List.setIfInBounds_toArray, List.set_cons_zero, List.set_cons_succ]
  refine lst (wanted_none rfl) (m_alloc (c := pt 0 0 0 0) (T := 25) hm30 13 rfl (al_P rfl) (fun g31 w32 (hm33 : Mm w w32 [(g5, pq p, 25), (g13, pq q, 25), (g21, pq r, 25), (g31, pt 0 0 0 0, 25)]) => ?_))
  simp only [List.setIfInBounds_toArray, List.set_cons_zero, List.set_cons_succ]
  refine lst (wanted_none rfl) (m_store 3 25 _ _ (pq (addP p q)) (old := pt 0 0 0 0) hm33 rfl rfl rfl rfl rfl (by rw [pq_sz]; exact info_p) ((pt_sz _ _ _ _).trans (pq_sz _).symm) (pq_one _) (fun w34 (hm35 : Mm w w34 [(g5, pq p, 25), (g13, pq q, 25), (g21, pq r, 25), (g31, pq (addP p q), 25)]) => ?_))
  refine wpList_nil ?_
  refine then_n (hK28 _ _ ?_)
  refine wp_seq_k (fun K36 hK36 => ?_)
  have hm37 := hm35.drew
  refine wp_region_held_drew (S := fun w' => Sym.Blk w' g31 (pq (addP p q)) 25 ∧ Sym.Blk w' g13 (pq q) 25 ∧ Sym.Blk w' g5 (pq p) 25 ∧ Sym.Blk w' g21 (pq r) 25) (by kernel_rfl) (⟨hm37.at 3 rfl, hm37.at 1 rfl, hm37.at 0 rfl, hm37.at 2 rfl⟩) (fun _ => ?_)
  generalize w34.drew = w38 at *
  refine one_ready 0 (by kernel_rfl) ?_
  refine opd rfl (wanted_none rfl) (m_call hm37 43 (.bool true) rfl (run_awake5 rfl) (awake5_any _ (kept hd hm37.below)) (fun w39 hm40 => ?_))
  refine ⟨⟨hm40.at 3 rfl, hm40.at 1 rfl, hm40.at 0 rfl, hm40.at 2 rfl⟩, ?_⟩
  simp only [List.setIfInBounds_toArray, List.set_cons_zero, List.set_cons_succ]
  refine Sym.take_at 1 44 (.bool true) rfl rfl (by kernel_rfl) (by kernel_rfl) (by kernel_rfl) (fun _ _ _ h => h) (wanted_none rfl) (fun _ hw => run_mv rfl rfl) (⟨hm40.at 3 rfl, hm40.at 1 rfl, hm40.at 0 rfl, hm40.at 2 rfl⟩) ?_
  simp only [List.setIfInBounds_toArray, List.set_cons_zero, List.set_cons_succ]
  refine Sym.take_at 2 45 (.agg (pq (addP p q))) rfl rfl (by kernel_rfl) (by kernel_rfl) (by kernel_rfl) (fun _ _ _ h => h) rfl (fun _ hw => run_row rfl rfl hw.1 Tryd.underlying25 rfl (by rw [pq_sz]; exact info_p)) (⟨hm40.at 3 rfl, hm40.at 1 rfl, hm40.at 0 rfl, hm40.at 2 rfl⟩) ?_
  simp only [List.setIfInBounds_toArray, List.set_cons_zero, List.set_cons_succ]
  refine one_ready 3 (by kernel_rfl) ?_
  refine opd rfl rfl (m_call hm40 46 (.bool true) rfl (run_pOn rfl rfl) (on_c (addP p q) (addP_ok _ _) G1 _ (kept hd hm40.below)) (fun w41 hm42 => ?_))
  refine ⟨⟨hm42.at 3 rfl, hm42.at 1 rfl, hm42.at 0 rfl, hm42.at 2 rfl⟩, ?_⟩
  simp only [List.setIfInBounds_toArray, List.set_cons_zero, List.set_cons_succ]
  refine Sym.take_at 4 47 (.bool true) rfl rfl (by kernel_rfl) (by kernel_rfl) (by kernel_rfl) (fun _ _ _ h => h) (wanted_none rfl) (fun _ hw => run_pick rfl rfl rfl) (⟨hm42.at 3 rfl, hm42.at 1 rfl, hm42.at 0 rfl, hm42.at 2 rfl⟩) ?_
  simp only [List.setIfInBounds_toArray, List.set_cons_zero, List.set_cons_succ]
  refine Sym.take_at 5 48 (.bool true) rfl rfl (by kernel_rfl) (by kernel_rfl) (by kernel_rfl) (fun _ _ _ h => h) (wanted_none rfl) (fun _ hw => run_mv rfl rfl) (⟨hm42.at 3 rfl, hm42.at 1 rfl, hm42.at 0 rfl, hm42.at 2 rfl⟩) ?_
  simp only [List.setIfInBounds_toArray, List.set_cons_zero, List.set_cons_succ]
  refine Sym.take_at 6 49 (.agg (pq (addP p q))) rfl rfl (by kernel_rfl) (by kernel_rfl) (by kernel_rfl) (fun _ _ _ h => h) rfl (fun _ hw => run_row rfl rfl hw.1 Tryd.underlying25 rfl (by rw [pq_sz]; exact info_p)) (⟨hm42.at 3 rfl, hm42.at 1 rfl, hm42.at 0 rfl, hm42.at 2 rfl⟩) ?_
  simp only [List.setIfInBounds_toArray, List.set_cons_zero, List.set_cons_succ]
  refine Sym.take_at 7 50 (.agg (pq q)) rfl rfl (by kernel_rfl) (by kernel_rfl) (by kernel_rfl) (fun _ _ _ h => h) rfl (fun _ hw => run_row rfl rfl hw.2.1 Tryd.underlying25 rfl (by rw [pq_sz]; exact info_p)) (⟨hm42.at 3 rfl, hm42.at 1 rfl, hm42.at 0 rfl, hm42.at 2 rfl⟩) ?_
  simp only [List.setIfInBounds_toArray, List.set_cons_zero, List.set_cons_succ]
  refine Sym.take_at 8 51 (.agg (pq p)) rfl rfl (by kernel_rfl) (by kernel_rfl) (by kernel_rfl) (fun _ _ _ h => h) rfl (fun _ hw => run_row rfl rfl hw.2.2.1 Tryd.underlying25 rfl (by rw [pq_sz]; exact info_p)) (⟨hm42.at 3 rfl, hm42.at 1 rfl, hm42.at 0 rfl, hm42.at 2 rfl⟩) ?_
  simp only [List.setIfInBounds_toArray, List.set_cons_zero, List.set_cons_succ]
  refine one_ready 9 (by kernel_rfl) ?_
  refine opd rfl rfl (m_call hm42 52 (.agg (pq (addP q p))) rfl (run_pAdd rfl rfl rfl) (add_p q p hq hp _ (kept hd hm42.below)) (fun w43 hm44 => ?_))
  refine ⟨⟨hm44.at 3 rfl, hm44.at 1 rfl, hm44.at 0 rfl, hm44.at 2 rfl⟩, ?_⟩
  simp only [List.setIfInBounds_toArray, List.set_cons_zero, List.set_cons_succ]
  refine one_ready 10 (by kernel_rfl) ?_
  refine opd rfl rfl (m_call hm44 53 (.bool true) rfl (run_pSame rfl rfl rfl) (same_c (addP p q) (addP q p) (addP_ok _ _) (addP_ok _ _) true (decide_eq_true F1) _) (fun w45 hm46 => ?_))
  refine ⟨⟨hm46.at 3 rfl, hm46.at 1 rfl, hm46.at 0 rfl, hm46.at 2 rfl⟩, ?_⟩
  simp only [List.setIfInBounds_toArray, List.set_cons_zero, List.set_cons_succ]
  refine Sym.take_at 11 54 (.bool true) rfl rfl (by kernel_rfl) (by kernel_rfl) (by kernel_rfl) (fun _ _ _ h => h) (wanted_none rfl) (fun _ hw => run_pick rfl rfl rfl) (⟨hm46.at 3 rfl, hm46.at 1 rfl, hm46.at 0 rfl, hm46.at 2 rfl⟩) ?_
  simp only [List.setIfInBounds_toArray, List.set_cons_zero, List.set_cons_succ]
  refine Sym.take_at 12 55 (.bool true) rfl rfl (by kernel_rfl) (by kernel_rfl) (by kernel_rfl) (fun _ _ _ h => h) (wanted_none rfl) (fun _ hw => run_mv rfl rfl) (⟨hm46.at 3 rfl, hm46.at 1 rfl, hm46.at 0 rfl, hm46.at 2 rfl⟩) ?_
  simp only [List.setIfInBounds_toArray, List.set_cons_zero, List.set_cons_succ]
  refine Sym.take_at 13 56 (.agg (pq (addP p q))) rfl rfl (by kernel_rfl) (by kernel_rfl) (by kernel_rfl) (fun _ _ _ h => h) rfl (fun _ hw => run_row rfl rfl hw.1 Tryd.underlying25 rfl (by rw [pq_sz]; exact info_p)) (⟨hm46.at 3 rfl, hm46.at 1 rfl, hm46.at 0 rfl, hm46.at 2 rfl⟩) ?_
  simp only [List.setIfInBounds_toArray, List.set_cons_zero, List.set_cons_succ]
  refine Sym.take_at 14 57 (.agg (pq r)) rfl rfl (by kernel_rfl) (by kernel_rfl) (by kernel_rfl) (fun _ _ _ h => h) rfl (fun _ hw => run_row rfl rfl hw.2.2.2 Tryd.underlying25 rfl (by rw [pq_sz]; exact info_p)) (⟨hm46.at 3 rfl, hm46.at 1 rfl, hm46.at 0 rfl, hm46.at 2 rfl⟩) ?_
  simp only [List.setIfInBounds_toArray, List.set_cons_zero, List.set_cons_succ]
  refine Sym.take_at 16 59 (.agg (pq p)) rfl rfl (by kernel_rfl) (by kernel_rfl) (by kernel_rfl) (fun _ _ _ h => h) rfl (fun _ hw => run_row rfl rfl hw.2.2.1 Tryd.underlying25 rfl (by rw [pq_sz]; exact info_p)) (⟨hm46.at 3 rfl, hm46.at 1 rfl, hm46.at 0 rfl, hm46.at 2 rfl⟩) ?_
  simp only [List.setIfInBounds_toArray, List.set_cons_zero, List.set_cons_succ]
  refine Sym.take_at 17 60 (.agg (pq q)) rfl rfl (by kernel_rfl) (by kernel_rfl) (by kernel_rfl) (fun _ _ _ h => h) rfl (fun _ hw => run_row rfl rfl hw.2.1 Tryd.underlying25 rfl (by rw [pq_sz]; exact info_p)) (⟨hm46.at 3 rfl, hm46.at 1 rfl, hm46.at 0 rfl, hm46.at 2 rfl⟩) ?_
  simp only [List.setIfInBounds_toArray, List.set_cons_zero, List.set_cons_succ]
  refine Sym.take_at 18 61 (.agg (pq r)) rfl rfl (by kernel_rfl) (by kernel_rfl) (by kernel_rfl) (fun _ _ _ h => h) rfl (fun _ hw => run_row rfl rfl hw.2.2.2 Tryd.underlying25 rfl (by rw [pq_sz]; exact info_p)) (⟨hm46.at 3 rfl, hm46.at 1 rfl, hm46.at 0 rfl, hm46.at 2 rfl⟩) ?_
  simp only [List.setIfInBounds_toArray, List.set_cons_zero, List.set_cons_succ]
  refine one_ready 15 (by kernel_rfl) ?_
  refine opd rfl rfl (m_call hm46 58 (.agg (pq (addP (addP p q) r))) rfl (run_pAdd rfl rfl rfl) (add_p (addP p q) r (addP_ok _ _) hr _ (kept hd hm46.below)) (fun w47 hm48 => ?_))
  refine ⟨⟨hm48.at 3 rfl, hm48.at 1 rfl, hm48.at 0 rfl, hm48.at 2 rfl⟩, ?_⟩
  simp only [List.setIfInBounds_toArray, List.set_cons_zero, List.set_cons_succ]
  refine one_ready 19 (by kernel_rfl) ?_
  refine opd rfl rfl (m_call hm48 62 (.agg (pq (addP q r))) rfl (run_pAdd rfl rfl rfl) (add_p q r hq hr _ (kept hd hm48.below)) (fun w49 hm50 => ?_))
  refine ⟨⟨hm50.at 3 rfl, hm50.at 1 rfl, hm50.at 0 rfl, hm50.at 2 rfl⟩, ?_⟩
  simp only [List.setIfInBounds_toArray, List.set_cons_zero, List.set_cons_succ]
  refine one_ready 20 (by kernel_rfl) ?_
  refine opd rfl rfl (m_call hm50 63 (.agg (pq (addP p (addP q r)))) rfl (run_pAdd rfl rfl rfl) (add_p p (addP q r) hp (addP_ok _ _) _ (kept hd hm50.below)) (fun w51 hm52 => ?_))
  refine ⟨⟨hm52.at 3 rfl, hm52.at 1 rfl, hm52.at 0 rfl, hm52.at 2 rfl⟩, ?_⟩
  simp only [List.setIfInBounds_toArray, List.set_cons_zero, List.set_cons_succ]
  refine one_ready 21 (by kernel_rfl) ?_
  refine opd rfl rfl (m_call hm52 64 (.bool true) rfl (run_pSame rfl rfl rfl) (same_c (addP (addP p q) r) (addP p (addP q r)) (addP_ok _ _) (addP_ok _ _) true (decide_eq_true F2) _) (fun w53 hm54 => ?_))
  refine ⟨⟨hm54.at 3 rfl, hm54.at 1 rfl, hm54.at 0 rfl, hm54.at 2 rfl⟩, ?_⟩
  simp only [List.setIfInBounds_toArray, List.set_cons_zero, List.set_cons_succ]
  refine Sym.take_at 22 65 (.bool true) rfl rfl (by kernel_rfl) (by kernel_rfl) (by kernel_rfl) (fun _ _ _ h => h) (wanted_none rfl) (fun _ hw => run_pick rfl rfl rfl) (⟨hm54.at 3 rfl, hm54.at 1 rfl, hm54.at 0 rfl, hm54.at 2 rfl⟩) ?_
  simp only [List.setIfInBounds_toArray, List.set_cons_zero, List.set_cons_succ]
  refine Sym.take_at 23 66 (.bool true) rfl rfl (by kernel_rfl) (by kernel_rfl) (by kernel_rfl) (fun _ _ _ h => h) (wanted_none rfl) (fun _ hw => run_mv rfl rfl) (⟨hm54.at 3 rfl, hm54.at 1 rfl, hm54.at 0 rfl, hm54.at 2 rfl⟩) ?_
  simp only [List.setIfInBounds_toArray, List.set_cons_zero, List.set_cons_succ]
  refine Sym.take_at 24 67 (.agg (pq p)) rfl rfl (by kernel_rfl) (by kernel_rfl) (by kernel_rfl) (fun _ _ _ h => h) rfl (fun _ hw => run_row rfl rfl hw.2.2.1 Tryd.underlying25 rfl (by rw [pq_sz]; exact info_p)) (⟨hm54.at 3 rfl, hm54.at 1 rfl, hm54.at 0 rfl, hm54.at 2 rfl⟩) ?_
  simp only [List.setIfInBounds_toArray, List.set_cons_zero, List.set_cons_succ]
  refine Sym.take_at 27 70 (.agg (pq p)) rfl rfl (by kernel_rfl) (by kernel_rfl) (by kernel_rfl) (fun _ _ _ h => h) rfl (fun _ hw => run_row rfl rfl hw.2.2.1 Tryd.underlying25 rfl (by rw [pq_sz]; exact info_p)) (⟨hm54.at 3 rfl, hm54.at 1 rfl, hm54.at 0 rfl, hm54.at 2 rfl⟩) ?_
  simp only [List.setIfInBounds_toArray, List.set_cons_zero, List.set_cons_succ]
  refine one_ready 25 (by kernel_rfl) ?_
  refine opd rfl rfl (m_call hm54 68 (.agg (pq zeroP)) rfl (run_pZero rfl) (zero_any _) (fun w55 hm56 => ?_))
  refine ⟨⟨hm56.at 3 rfl, hm56.at 1 rfl, hm56.at 0 rfl, hm56.at 2 rfl⟩, ?_⟩
  simp only [List.setIfInBounds_toArray, List.set_cons_zero, List.set_cons_succ]
  refine one_ready 26 (by kernel_rfl) ?_
  refine opd rfl rfl (m_call hm56 69 (.agg (pq (addP p zeroP))) rfl (run_pAdd rfl rfl rfl) (add_p p zeroP hp (zeroP_ok) _ (kept hd hm56.below)) (fun w57 hm58 => ?_))
  refine ⟨⟨hm58.at 3 rfl, hm58.at 1 rfl, hm58.at 0 rfl, hm58.at 2 rfl⟩, ?_⟩
  simp only [List.setIfInBounds_toArray, List.set_cons_zero, List.set_cons_succ]
  refine one_ready 28 (by kernel_rfl) ?_
  refine opd rfl rfl (m_call hm58 71 (.bool true) rfl (run_pSame rfl rfl rfl) (same_c (addP p zeroP) p (addP_ok _ _) hp true (decide_eq_true F3) _) (fun w59 hm60 => ?_))
  refine ⟨⟨hm60.at 3 rfl, hm60.at 1 rfl, hm60.at 0 rfl, hm60.at 2 rfl⟩, ?_⟩
  simp only [List.setIfInBounds_toArray, List.set_cons_zero, List.set_cons_succ]
  refine Sym.take_at 29 72 (.bool true) rfl rfl (by kernel_rfl) (by kernel_rfl) (by kernel_rfl) (fun _ _ _ h => h) (wanted_none rfl) (fun _ hw => run_pick rfl rfl rfl) (⟨hm60.at 3 rfl, hm60.at 1 rfl, hm60.at 0 rfl, hm60.at 2 rfl⟩) ?_
  simp only [List.setIfInBounds_toArray, List.set_cons_zero, List.set_cons_succ]
  refine Sym.take_at 30 73 (.bool true) rfl rfl (by kernel_rfl) (by kernel_rfl) (by kernel_rfl) (fun _ _ _ h => h) (wanted_none rfl) (fun _ hw => run_mv rfl rfl) (⟨hm60.at 3 rfl, hm60.at 1 rfl, hm60.at 0 rfl, hm60.at 2 rfl⟩) ?_
  simp only [List.setIfInBounds_toArray, List.set_cons_zero, List.set_cons_succ]
  refine Sym.take_at 31 74 (.agg (pq p)) rfl rfl (by kernel_rfl) (by kernel_rfl) (by kernel_rfl) (fun _ _ _ h => h) rfl (fun _ hw => run_row rfl rfl hw.2.2.1 Tryd.underlying25 rfl (by rw [pq_sz]; exact info_p)) (⟨hm60.at 3 rfl, hm60.at 1 rfl, hm60.at 0 rfl, hm60.at 2 rfl⟩) ?_
  simp only [List.setIfInBounds_toArray, List.set_cons_zero, List.set_cons_succ]
  refine Sym.take_at 32 75 (.agg (pq p)) rfl rfl (by kernel_rfl) (by kernel_rfl) (by kernel_rfl) (fun _ _ _ h => h) rfl (fun _ hw => run_row rfl rfl hw.2.2.1 Tryd.underlying25 rfl (by rw [pq_sz]; exact info_p)) (⟨hm60.at 3 rfl, hm60.at 1 rfl, hm60.at 0 rfl, hm60.at 2 rfl⟩) ?_
  simp only [List.setIfInBounds_toArray, List.set_cons_zero, List.set_cons_succ]
  refine one_ready 33 (by kernel_rfl) ?_
  refine opd rfl rfl (m_call hm60 76 (.agg (pq (negP p))) rfl (run_pNeg rfl rfl) (neg_p p hp _) (fun w61 hm62 => ?_))
  refine ⟨⟨hm62.at 3 rfl, hm62.at 1 rfl, hm62.at 0 rfl, hm62.at 2 rfl⟩, ?_⟩
  simp only [List.setIfInBounds_toArray, List.set_cons_zero, List.set_cons_succ]
  refine one_ready 34 (by kernel_rfl) ?_
  refine opd rfl rfl (m_call hm62 77 (.agg (pq (addP p (negP p)))) rfl (run_pAdd rfl rfl rfl) (add_p p (negP p) hp (negP_ok _) _ (kept hd hm62.below)) (fun w63 hm64 => ?_))
  refine ⟨⟨hm64.at 3 rfl, hm64.at 1 rfl, hm64.at 0 rfl, hm64.at 2 rfl⟩, ?_⟩
  simp only [List.setIfInBounds_toArray, List.set_cons_zero, List.set_cons_succ]
  refine one_ready 35 (by kernel_rfl) ?_
  refine opd rfl rfl (m_call hm64 78 (.agg (pq zeroP)) rfl (run_pZero rfl) (zero_any _) (fun w65 hm66 => ?_))
  refine ⟨⟨hm66.at 3 rfl, hm66.at 1 rfl, hm66.at 0 rfl, hm66.at 2 rfl⟩, ?_⟩
  simp only [List.setIfInBounds_toArray, List.set_cons_zero, List.set_cons_succ]
  refine one_ready 36 (by kernel_rfl) ?_
  refine opd rfl rfl (m_call hm66 79 (.bool true) rfl (run_pSame rfl rfl rfl) (same_c (addP p (negP p)) zeroP (addP_ok _ _) (zeroP_ok) true (decide_eq_true F4) _) (fun w67 hm68 => ?_))
  refine ⟨⟨hm68.at 3 rfl, hm68.at 1 rfl, hm68.at 0 rfl, hm68.at 2 rfl⟩, ?_⟩
  simp only [List.setIfInBounds_toArray, List.set_cons_zero, List.set_cons_succ]
  refine Sym.take_at 37 80 (.bool true) rfl rfl (by kernel_rfl) (by kernel_rfl) (by kernel_rfl) (fun _ _ _ h => h) (wanted_none rfl) (fun _ hw => run_pick rfl rfl rfl) (⟨hm68.at 3 rfl, hm68.at 1 rfl, hm68.at 0 rfl, hm68.at 2 rfl⟩) ?_
  simp only [List.setIfInBounds_toArray, List.set_cons_zero, List.set_cons_succ]
  refine one_ready 38 (by kernel_rfl) ?_
  refine opd rfl (wanted_none rfl) (w_value 6 (.bool true) rfl (run_as rfl rfl) ⟨⟨hm68.at 3 rfl, hm68.at 1 rfl, hm68.at 0 rfl, hm68.at 2 rfl⟩, ?_⟩)
  simp only [List.setIfInBounds_toArray, List.set_cons_zero, List.set_cons_succ]
  refine wpAnyH_done (by kernel_rfl) ?_ _
  refine then_n (hK36 _ _ ?_)
  refine wp_ret ?_
  exact ⟨rfl, .bool true, res_t rfl rfl, ⟨rfl, hm68.below⟩⟩
set_option maxHeartbeats 4000000 in
set_option maxRecDepth 100000 in
theorem walk_ssn (a : ByteArray) (p : Pn) (ha : unP a = some p) (hp : p.ok) (b : ByteArray) (q : Pn) (hb : unP b = some q) (hq : q.ok) (c : ByteArray) (hc : unP c = none)  (w : World) (hd : DD w) : Calls Tryd.prog 6 #[.string a, .string b, .string c] w (fun e w' => e = .returned (.bool true) ∧ Below w.heap.size w w') := by
  go_enter Tryd.func6, Tryd.ntmps6
  have hm0 := Mm.nil w
  refine wp_seq_k (fun K1 hK1 => ?_)
  refine wp_region_lit ?_
  refine lst (wanted_none rfl) (w_value 6 (.bool false) rfl (run_as rfl rfl) ?_)
  simp only [List.setIfInBounds_toArray, List.set_cons_zero, List.set_cons_succ]
  refine wpList_nil ?_
  refine then_n (hK1 _ _ ?_)
  refine wp_seq_k (fun K2 hK2 => ?_)
  refine wp_region_lit ?_
  refine lst (wanted_none rfl) (w_value 15 (.string a) rfl (run_mv rfl rfl) ?_)
  simp only [List.setIfInBounds_toArray, List.set_cons_zero, List.set_cons_succ]
  refine lst (wanted_none rfl) (m_call hm0 16 (.tuple #[.agg (pq p), .bool true]) rfl (run_pUnpack rfl rfl) (un_at a p ha _ (kept hd hm0.below)) (fun w3 hm4 => ?_))
  simp only [List.setIfInBounds_toArray, List.set_cons_zero, List.set_cons_succ]
  refine lst (wanted_none rfl) (w_value 14 (.tuple #[.agg (pq p), .bool true]) rfl (run_mv rfl rfl) ?_)
  simp only [List.setIfInBounds_toArray, List.set_cons_zero, List.set_cons_succ]
  refine lst (wanted_none rfl) (w_value 17 (.agg (pq p)) rfl (run_ex rfl rfl rfl) ?_)
  simp only [List.setIfInBounds_toArray, List.set_cons_zero, List.set_cons_succ]
  refine lst (wanted_none rfl) (w_value 18 (.bool true) rfl (run_ex rfl rfl rfl) ?_)
  simp only [List.setIfInBounds_toArray, List.set_cons_zero, List.set_cons_succ]
  refine lst (wanted_none rfl) (m_alloc (c := pt 0 0 0 0) (T := 25) hm4 7 rfl (al_P rfl) (fun g5 w6 (hm7 : Mm w w6 [(g5, pt 0 0 0 0, 25)]) => ?_))
  simp only [List.setIfInBounds_toArray, List.set_cons_zero, List.set_cons_succ]
  refine lst (wanted_none rfl) (m_store 0 25 _ _ (pq p) (old := pt 0 0 0 0) hm7 rfl rfl rfl rfl rfl (by rw [pq_sz]; exact info_p) ((pt_sz _ _ _ _).trans (pq_sz _).symm) (pq_one _) (fun w8 (hm9 : Mm w w8 [(g5, pq p, 25)]) => ?_))
  refine lst (wanted_none rfl) (w_value 8 (.bool true) rfl (run_as rfl rfl) ?_)
  simp only [List.setIfInBounds_toArray, List.set_cons_zero, List.set_cons_succ]
  refine wpList_nil ?_
  refine then_n (hK2 _ _ ?_)
  refine wp_seq_k (fun K10 hK10 => ?_)
  refine wp_region_lit ?_
  refine lst (wanted_none rfl) (w_value 20 (.string b) rfl (run_mv rfl rfl) ?_)
  simp only [List.setIfInBounds_toArray, List.set_cons_zero, List.set_cons_succ]
  refine lst (wanted_none rfl) (m_call hm9 21 (.tuple #[.agg (pq q), .bool true]) rfl (run_pUnpack rfl rfl) (un_at b q hb _ (kept hd hm9.below)) (fun w11 hm12 => ?_))
  simp only [List.setIfInBounds_toArray, List.set_cons_zero, List.set_cons_succ]
  refine lst (wanted_none rfl) (w_value 19 (.tuple #[.agg (pq q), .bool true]) rfl (run_mv rfl rfl) ?_)
  simp only [List.setIfInBounds_toArray, List.set_cons_zero, List.set_cons_succ]
  refine lst (wanted_none rfl) (w_value 22 (.agg (pq q)) rfl (run_ex rfl rfl rfl) ?_)
  simp only [List.setIfInBounds_toArray, List.set_cons_zero, List.set_cons_succ]
  refine lst (wanted_none rfl) (w_value 23 (.bool true) rfl (run_ex rfl rfl rfl) ?_)
  simp only [List.setIfInBounds_toArray, List.set_cons_zero, List.set_cons_succ]
  refine lst (wanted_none rfl) (m_alloc (c := pt 0 0 0 0) (T := 25) hm12 9 rfl (al_P rfl) (fun g13 w14 (hm15 : Mm w w14 [(g5, pq p, 25), (g13, pt 0 0 0 0, 25)]) => ?_))
  simp only [List.setIfInBounds_toArray, List.set_cons_zero, List.set_cons_succ]
  refine lst (wanted_none rfl) (m_store 1 25 _ _ (pq q) (old := pt 0 0 0 0) hm15 rfl rfl rfl rfl rfl (by rw [pq_sz]; exact info_p) ((pt_sz _ _ _ _).trans (pq_sz _).symm) (pq_one _) (fun w16 (hm17 : Mm w w16 [(g5, pq p, 25), (g13, pq q, 25)]) => ?_))
  refine lst (wanted_none rfl) (w_value 10 (.bool true) rfl (run_as rfl rfl) ?_)
  simp only [List.setIfInBounds_toArray, List.set_cons_zero, List.set_cons_succ]
  refine wpList_nil ?_
  refine then_n (hK10 _ _ ?_)
  refine wp_seq_k (fun K18 hK18 => ?_)
  refine wp_region_lit ?_
  refine lst (wanted_none rfl) (w_value 25 (.string c) rfl (run_mv rfl rfl) ?_)
  simp only [List.setIfInBounds_toArray, List.set_cons_zero, List.set_cons_succ]
  refine lst (wanted_none rfl) (m_call hm17 26 (.tuple #[.agg (pt 0 0 0 0), .bool false]) rfl (run_pUnpack rfl rfl) (un_no c hc _ (kept hd hm17.below)) (fun w19 hm20 => ?_))
  simp only [List.setIfInBounds_toArray, List.set_cons_zero, List.set_cons_succ]
  refine lst (wanted_none rfl) (w_value 24 (.tuple #[.agg (pt 0 0 0 0), .bool false]) rfl (run_mv rfl rfl) ?_)
  simp only [List.setIfInBounds_toArray, List.set_cons_zero, List.set_cons_succ]
  refine lst (wanted_none rfl) (w_value 27 (.agg (pt 0 0 0 0)) rfl (run_ex rfl rfl rfl) ?_)
  simp only [List.setIfInBounds_toArray, List.set_cons_zero, List.set_cons_succ]
  refine lst (wanted_none rfl) (w_value 28 (.bool false) rfl (run_ex rfl rfl rfl) ?_)
  simp only [List.setIfInBounds_toArray, List.set_cons_zero, List.set_cons_succ]
  refine lst (wanted_none rfl) (m_alloc (c := pt 0 0 0 0) (T := 25) hm20 11 rfl (al_P rfl) (fun g21 w22 (hm23 : Mm w w22 [(g5, pq p, 25), (g13, pq q, 25), (g21, pt 0 0 0 0, 25)]) => ?_))
  simp only [List.setIfInBounds_toArray, List.set_cons_zero, List.set_cons_succ]
  refine lst (wanted_none rfl) (m_store 2 25 _ _ (pt 0 0 0 0) (old := pt 0 0 0 0) hm23 rfl rfl rfl rfl rfl (by rw [pt_sz]; exact info_p) ((pt_sz _ _ _ _).trans (pt_sz _ _ _ _).symm) (pt_one _ _ _ _) (fun w24 (hm25 : Mm w w24 [(g5, pq p, 25), (g13, pq q, 25), (g21, pt 0 0 0 0, 25)]) => ?_))
  refine lst (wanted_none rfl) (w_value 12 (.bool false) rfl (run_as rfl rfl) ?_)
  simp only [List.setIfInBounds_toArray, List.set_cons_zero, List.set_cons_succ]
  refine wpList_nil ?_
  refine then_n (hK18 _ _ ?_)
  refine wp_seq_k (fun K26 hK26 => ?_)
  refine wp_seq_k (fun K27 hK27 => ?_)
  refine wp_region_lit ?_
  refine lst (wanted_none rfl) (w_value 29 (.bool true) rfl (run_mv rfl rfl) ?_)
  simp only [List.setIfInBounds_toArray, List.set_cons_zero, List.set_cons_succ]
  refine lst (wanted_none rfl) (w_value 30 (.bool false) rfl (r_not true rfl rfl) ?_)
  simp only [List.setIfInBounds_toArray, List.set_cons_zero, List.set_cons_succ]
  refine lst (wanted_none rfl) (w_value 31 (.bool false) rfl (run_mv rfl rfl) ?_)
  simp only [List.setIfInBounds_toArray, List.set_cons_zero, List.set_cons_succ]
  refine lst rfl (w_value 32 (.bool true) rfl (run_mv rfl rfl) ?_)
  simp only [List.setIfInBounds_toArray, List.set_cons_zero, List.set_cons_succ]
  refine lst rfl (w_value 33 (.bool false) rfl (r_not true rfl rfl) ?_)
  simp only [List.setIfInBounds_toArray, List.set_cons_zero, List.set_cons_succ]
  refine lst (wanted_none rfl) (w_value 34 (.bool false) rfl (run_pickf rfl rfl rfl) ?_)
  simp only [List.setIfInBounds_toArray, List.set_cons_zero, List.set_cons_succ]
  refine lst (wanted_none rfl) (w_value 35 (.bool false) rfl (run_mv rfl rfl) ?_)
  simp only [List.setIfInBounds_toArray, List.set_cons_zero, List.set_cons_succ]
  refine lst rfl (w_value 36 (.bool false) rfl (run_mv rfl rfl) ?_)
  simp only [List.setIfInBounds_toArray, List.set_cons_zero, List.set_cons_succ]
  refine lst rfl (w_value 37 (.bool true) rfl (r_not false rfl rfl) ?_)
  simp only [List.setIfInBounds_toArray, List.set_cons_zero, List.set_cons_succ]
  refine lst (wanted_none rfl) (w_value 38 (.bool true) rfl (run_pickf rfl rfl rfl) ?_)
  simp only [List.setIfInBounds_toArray, List.set_cons_zero, List.set_cons_succ]
  refine wpList_nil ?_
  refine then_n (hK27 _ _ ?_)
  refine cond_t rfl ?_
  refine wp_seq_k (fun K28 hK28 => ?_)
  refine wp_region_lit ?_
  refine lst (wanted_none rfl) (m_call hm25 39 (.bool true) rfl (run_awake5 rfl) (awake5_any _ (kept hd hm25.below)) (fun w29 hm30 => ?_))
  simp only [List.setIfInBounds_toArray, List.set_cons_zero, List.set_cons_succ]
  refine lst (wanted_none rfl) (w_value 6 (.bool true) rfl (run_as rfl rfl) ?_)
  simp only [List.setIfInBounds_toArray, List.set_cons_zero, List.set_cons_succ]
  refine wpList_nil ?_
  refine then_n (hK28 _ _ ?_)
  refine wp_ret ?_
  refine then_r ?_
  exact ⟨rfl, .bool true, res_t rfl rfl, ⟨rfl, hm30.below⟩⟩
set_option maxHeartbeats 4000000 in
set_option maxRecDepth 100000 in
theorem walk_sns (a : ByteArray) (p : Pn) (ha : unP a = some p) (hp : p.ok) (b : ByteArray) (hb : unP b = none) (c : ByteArray) (r : Pn) (hc : unP c = some r) (hr : r.ok)  (w : World) (hd : DD w) : Calls Tryd.prog 6 #[.string a, .string b, .string c] w (fun e w' => e = .returned (.bool true) ∧ Below w.heap.size w w') := by
  go_enter Tryd.func6, Tryd.ntmps6
  have hm0 := Mm.nil w
  refine wp_seq_k (fun K1 hK1 => ?_)
  refine wp_region_lit ?_
  refine lst (wanted_none rfl) (w_value 6 (.bool false) rfl (run_as rfl rfl) ?_)
  simp only [List.setIfInBounds_toArray, List.set_cons_zero, List.set_cons_succ]
  refine wpList_nil ?_
  refine then_n (hK1 _ _ ?_)
  refine wp_seq_k (fun K2 hK2 => ?_)
  refine wp_region_lit ?_
  refine lst (wanted_none rfl) (w_value 15 (.string a) rfl (run_mv rfl rfl) ?_)
  simp only [List.setIfInBounds_toArray, List.set_cons_zero, List.set_cons_succ]
  refine lst (wanted_none rfl) (m_call hm0 16 (.tuple #[.agg (pq p), .bool true]) rfl (run_pUnpack rfl rfl) (un_at a p ha _ (kept hd hm0.below)) (fun w3 hm4 => ?_))
  simp only [List.setIfInBounds_toArray, List.set_cons_zero, List.set_cons_succ]
  refine lst (wanted_none rfl) (w_value 14 (.tuple #[.agg (pq p), .bool true]) rfl (run_mv rfl rfl) ?_)
  simp only [List.setIfInBounds_toArray, List.set_cons_zero, List.set_cons_succ]
  refine lst (wanted_none rfl) (w_value 17 (.agg (pq p)) rfl (run_ex rfl rfl rfl) ?_)
  simp only [List.setIfInBounds_toArray, List.set_cons_zero, List.set_cons_succ]
  refine lst (wanted_none rfl) (w_value 18 (.bool true) rfl (run_ex rfl rfl rfl) ?_)
  simp only [List.setIfInBounds_toArray, List.set_cons_zero, List.set_cons_succ]
  refine lst (wanted_none rfl) (m_alloc (c := pt 0 0 0 0) (T := 25) hm4 7 rfl (al_P rfl) (fun g5 w6 (hm7 : Mm w w6 [(g5, pt 0 0 0 0, 25)]) => ?_))
  simp only [List.setIfInBounds_toArray, List.set_cons_zero, List.set_cons_succ]
  refine lst (wanted_none rfl) (m_store 0 25 _ _ (pq p) (old := pt 0 0 0 0) hm7 rfl rfl rfl rfl rfl (by rw [pq_sz]; exact info_p) ((pt_sz _ _ _ _).trans (pq_sz _).symm) (pq_one _) (fun w8 (hm9 : Mm w w8 [(g5, pq p, 25)]) => ?_))
  refine lst (wanted_none rfl) (w_value 8 (.bool true) rfl (run_as rfl rfl) ?_)
  simp only [List.setIfInBounds_toArray, List.set_cons_zero, List.set_cons_succ]
  refine wpList_nil ?_
  refine then_n (hK2 _ _ ?_)
  refine wp_seq_k (fun K10 hK10 => ?_)
  refine wp_region_lit ?_
  refine lst (wanted_none rfl) (w_value 20 (.string b) rfl (run_mv rfl rfl) ?_)
  simp only [List.setIfInBounds_toArray, List.set_cons_zero, List.set_cons_succ]
  refine lst (wanted_none rfl) (m_call hm9 21 (.tuple #[.agg (pt 0 0 0 0), .bool false]) rfl (run_pUnpack rfl rfl) (un_no b hb _ (kept hd hm9.below)) (fun w11 hm12 => ?_))
  simp only [List.setIfInBounds_toArray, List.set_cons_zero, List.set_cons_succ]
  refine lst (wanted_none rfl) (w_value 19 (.tuple #[.agg (pt 0 0 0 0), .bool false]) rfl (run_mv rfl rfl) ?_)
  simp only [List.setIfInBounds_toArray, List.set_cons_zero, List.set_cons_succ]
  refine lst (wanted_none rfl) (w_value 22 (.agg (pt 0 0 0 0)) rfl (run_ex rfl rfl rfl) ?_)
  simp only [List.setIfInBounds_toArray, List.set_cons_zero, List.set_cons_succ]
  refine lst (wanted_none rfl) (w_value 23 (.bool false) rfl (run_ex rfl rfl rfl) ?_)
  simp only [List.setIfInBounds_toArray, List.set_cons_zero, List.set_cons_succ]
  refine lst (wanted_none rfl) (m_alloc (c := pt 0 0 0 0) (T := 25) hm12 9 rfl (al_P rfl) (fun g13 w14 (hm15 : Mm w w14 [(g5, pq p, 25), (g13, pt 0 0 0 0, 25)]) => ?_))
  simp only [List.setIfInBounds_toArray, List.set_cons_zero, List.set_cons_succ]
  refine lst (wanted_none rfl) (m_store 1 25 _ _ (pt 0 0 0 0) (old := pt 0 0 0 0) hm15 rfl rfl rfl rfl rfl (by rw [pt_sz]; exact info_p) ((pt_sz _ _ _ _).trans (pt_sz _ _ _ _).symm) (pt_one _ _ _ _) (fun w16 (hm17 : Mm w w16 [(g5, pq p, 25), (g13, pt 0 0 0 0, 25)]) => ?_))
  refine lst (wanted_none rfl) (w_value 10 (.bool false) rfl (run_as rfl rfl) ?_)
  simp only [List.setIfInBounds_toArray, List.set_cons_zero, List.set_cons_succ]
  refine wpList_nil ?_
  refine then_n (hK10 _ _ ?_)
  refine wp_seq_k (fun K18 hK18 => ?_)
  refine wp_region_lit ?_
  refine lst (wanted_none rfl) (w_value 25 (.string c) rfl (run_mv rfl rfl) ?_)
  simp only [List.setIfInBounds_toArray, List.set_cons_zero, List.set_cons_succ]
  refine lst (wanted_none rfl) (m_call hm17 26 (.tuple #[.agg (pq r), .bool true]) rfl (run_pUnpack rfl rfl) (un_at c r hc _ (kept hd hm17.below)) (fun w19 hm20 => ?_))
  simp only [List.setIfInBounds_toArray, List.set_cons_zero, List.set_cons_succ]
  refine lst (wanted_none rfl) (w_value 24 (.tuple #[.agg (pq r), .bool true]) rfl (run_mv rfl rfl) ?_)
  simp only [List.setIfInBounds_toArray, List.set_cons_zero, List.set_cons_succ]
  refine lst (wanted_none rfl) (w_value 27 (.agg (pq r)) rfl (run_ex rfl rfl rfl) ?_)
  simp only [List.setIfInBounds_toArray, List.set_cons_zero, List.set_cons_succ]
  refine lst (wanted_none rfl) (w_value 28 (.bool true) rfl (run_ex rfl rfl rfl) ?_)
  simp only [List.setIfInBounds_toArray, List.set_cons_zero, List.set_cons_succ]
  refine lst (wanted_none rfl) (m_alloc (c := pt 0 0 0 0) (T := 25) hm20 11 rfl (al_P rfl) (fun g21 w22 (hm23 : Mm w w22 [(g5, pq p, 25), (g13, pt 0 0 0 0, 25), (g21, pt 0 0 0 0, 25)]) => ?_))
  simp only [List.setIfInBounds_toArray, List.set_cons_zero, List.set_cons_succ]
  refine lst (wanted_none rfl) (m_store 2 25 _ _ (pq r) (old := pt 0 0 0 0) hm23 rfl rfl rfl rfl rfl (by rw [pq_sz]; exact info_p) ((pt_sz _ _ _ _).trans (pq_sz _).symm) (pq_one _) (fun w24 (hm25 : Mm w w24 [(g5, pq p, 25), (g13, pt 0 0 0 0, 25), (g21, pq r, 25)]) => ?_))
  refine lst (wanted_none rfl) (w_value 12 (.bool true) rfl (run_as rfl rfl) ?_)
  simp only [List.setIfInBounds_toArray, List.set_cons_zero, List.set_cons_succ]
  refine wpList_nil ?_
  refine then_n (hK18 _ _ ?_)
  refine wp_seq_k (fun K26 hK26 => ?_)
  refine wp_seq_k (fun K27 hK27 => ?_)
  refine wp_region_lit ?_
  refine lst (wanted_none rfl) (w_value 29 (.bool true) rfl (run_mv rfl rfl) ?_)
  simp only [List.setIfInBounds_toArray, List.set_cons_zero, List.set_cons_succ]
  refine lst (wanted_none rfl) (w_value 30 (.bool false) rfl (r_not true rfl rfl) ?_)
  simp only [List.setIfInBounds_toArray, List.set_cons_zero, List.set_cons_succ]
  refine lst (wanted_none rfl) (w_value 31 (.bool false) rfl (run_mv rfl rfl) ?_)
  simp only [List.setIfInBounds_toArray, List.set_cons_zero, List.set_cons_succ]
  refine lst rfl (w_value 32 (.bool false) rfl (run_mv rfl rfl) ?_)
  simp only [List.setIfInBounds_toArray, List.set_cons_zero, List.set_cons_succ]
  refine lst rfl (w_value 33 (.bool true) rfl (r_not false rfl rfl) ?_)
  simp only [List.setIfInBounds_toArray, List.set_cons_zero, List.set_cons_succ]
  refine lst (wanted_none rfl) (w_value 34 (.bool true) rfl (run_pickf rfl rfl rfl) ?_)
  simp only [List.setIfInBounds_toArray, List.set_cons_zero, List.set_cons_succ]
  refine lst (wanted_none rfl) (w_value 35 (.bool true) rfl (run_mv rfl rfl) ?_)
  simp only [List.setIfInBounds_toArray, List.set_cons_zero, List.set_cons_succ]
  refine lst_skip 36 rfl rfl ?_
  simp only [List.setIfInBounds_toArray, List.set_cons_zero, List.set_cons_succ]
  refine lst_skip 37 rfl rfl ?_
  simp only [List.setIfInBounds_toArray, List.set_cons_zero, List.set_cons_succ]
  refine lst (wanted_none rfl) (w_value 38 (.bool true) rfl (run_pick rfl rfl rfl) ?_)
  simp only [List.setIfInBounds_toArray, List.set_cons_zero, List.set_cons_succ]
  refine wpList_nil ?_
  refine then_n (hK27 _ _ ?_)
  refine cond_t rfl ?_
  refine wp_seq_k (fun K28 hK28 => ?_)
  refine wp_region_lit ?_
  refine lst (wanted_none rfl) (m_call hm25 39 (.bool true) rfl (run_awake5 rfl) (awake5_any _ (kept hd hm25.below)) (fun w29 hm30 => ?_))
  simp only [List.setIfInBounds_toArray, List.set_cons_zero, List.set_cons_succ]
  refine lst (wanted_none rfl) (w_value 6 (.bool true) rfl (run_as rfl rfl) ?_)
  simp only [List.setIfInBounds_toArray, List.set_cons_zero, List.set_cons_succ]
  refine wpList_nil ?_
  refine then_n (hK28 _ _ ?_)
  refine wp_ret ?_
  refine then_r ?_
  exact ⟨rfl, .bool true, res_t rfl rfl, ⟨rfl, hm30.below⟩⟩
set_option maxHeartbeats 4000000 in
set_option maxRecDepth 100000 in
theorem walk_snn (a : ByteArray) (p : Pn) (ha : unP a = some p) (hp : p.ok) (b : ByteArray) (hb : unP b = none) (c : ByteArray) (hc : unP c = none)  (w : World) (hd : DD w) : Calls Tryd.prog 6 #[.string a, .string b, .string c] w (fun e w' => e = .returned (.bool true) ∧ Below w.heap.size w w') := by
  go_enter Tryd.func6, Tryd.ntmps6
  have hm0 := Mm.nil w
  refine wp_seq_k (fun K1 hK1 => ?_)
  refine wp_region_lit ?_
  refine lst (wanted_none rfl) (w_value 6 (.bool false) rfl (run_as rfl rfl) ?_)
  simp only [List.setIfInBounds_toArray, List.set_cons_zero, List.set_cons_succ]
  refine wpList_nil ?_
  refine then_n (hK1 _ _ ?_)
  refine wp_seq_k (fun K2 hK2 => ?_)
  refine wp_region_lit ?_
  refine lst (wanted_none rfl) (w_value 15 (.string a) rfl (run_mv rfl rfl) ?_)
  simp only [List.setIfInBounds_toArray, List.set_cons_zero, List.set_cons_succ]
  refine lst (wanted_none rfl) (m_call hm0 16 (.tuple #[.agg (pq p), .bool true]) rfl (run_pUnpack rfl rfl) (un_at a p ha _ (kept hd hm0.below)) (fun w3 hm4 => ?_))
  simp only [List.setIfInBounds_toArray, List.set_cons_zero, List.set_cons_succ]
  refine lst (wanted_none rfl) (w_value 14 (.tuple #[.agg (pq p), .bool true]) rfl (run_mv rfl rfl) ?_)
  simp only [List.setIfInBounds_toArray, List.set_cons_zero, List.set_cons_succ]
  refine lst (wanted_none rfl) (w_value 17 (.agg (pq p)) rfl (run_ex rfl rfl rfl) ?_)
  simp only [List.setIfInBounds_toArray, List.set_cons_zero, List.set_cons_succ]
  refine lst (wanted_none rfl) (w_value 18 (.bool true) rfl (run_ex rfl rfl rfl) ?_)
  simp only [List.setIfInBounds_toArray, List.set_cons_zero, List.set_cons_succ]
  refine lst (wanted_none rfl) (m_alloc (c := pt 0 0 0 0) (T := 25) hm4 7 rfl (al_P rfl) (fun g5 w6 (hm7 : Mm w w6 [(g5, pt 0 0 0 0, 25)]) => ?_))
  simp only [List.setIfInBounds_toArray, List.set_cons_zero, List.set_cons_succ]
  refine lst (wanted_none rfl) (m_store 0 25 _ _ (pq p) (old := pt 0 0 0 0) hm7 rfl rfl rfl rfl rfl (by rw [pq_sz]; exact info_p) ((pt_sz _ _ _ _).trans (pq_sz _).symm) (pq_one _) (fun w8 (hm9 : Mm w w8 [(g5, pq p, 25)]) => ?_))
  refine lst (wanted_none rfl) (w_value 8 (.bool true) rfl (run_as rfl rfl) ?_)
  simp only [List.setIfInBounds_toArray, List.set_cons_zero, List.set_cons_succ]
  refine wpList_nil ?_
  refine then_n (hK2 _ _ ?_)
  refine wp_seq_k (fun K10 hK10 => ?_)
  refine wp_region_lit ?_
  refine lst (wanted_none rfl) (w_value 20 (.string b) rfl (run_mv rfl rfl) ?_)
  simp only [List.setIfInBounds_toArray, List.set_cons_zero, List.set_cons_succ]
  refine lst (wanted_none rfl) (m_call hm9 21 (.tuple #[.agg (pt 0 0 0 0), .bool false]) rfl (run_pUnpack rfl rfl) (un_no b hb _ (kept hd hm9.below)) (fun w11 hm12 => ?_))
  simp only [List.setIfInBounds_toArray, List.set_cons_zero, List.set_cons_succ]
  refine lst (wanted_none rfl) (w_value 19 (.tuple #[.agg (pt 0 0 0 0), .bool false]) rfl (run_mv rfl rfl) ?_)
  simp only [List.setIfInBounds_toArray, List.set_cons_zero, List.set_cons_succ]
  refine lst (wanted_none rfl) (w_value 22 (.agg (pt 0 0 0 0)) rfl (run_ex rfl rfl rfl) ?_)
  simp only [List.setIfInBounds_toArray, List.set_cons_zero, List.set_cons_succ]
  refine lst (wanted_none rfl) (w_value 23 (.bool false) rfl (run_ex rfl rfl rfl) ?_)
  simp only [List.setIfInBounds_toArray, List.set_cons_zero, List.set_cons_succ]
  refine lst (wanted_none rfl) (m_alloc (c := pt 0 0 0 0) (T := 25) hm12 9 rfl (al_P rfl) (fun g13 w14 (hm15 : Mm w w14 [(g5, pq p, 25), (g13, pt 0 0 0 0, 25)]) => ?_))
  simp only [List.setIfInBounds_toArray, List.set_cons_zero, List.set_cons_succ]
  refine lst (wanted_none rfl) (m_store 1 25 _ _ (pt 0 0 0 0) (old := pt 0 0 0 0) hm15 rfl rfl rfl rfl rfl (by rw [pt_sz]; exact info_p) ((pt_sz _ _ _ _).trans (pt_sz _ _ _ _).symm) (pt_one _ _ _ _) (fun w16 (hm17 : Mm w w16 [(g5, pq p, 25), (g13, pt 0 0 0 0, 25)]) => ?_))
  refine lst (wanted_none rfl) (w_value 10 (.bool false) rfl (run_as rfl rfl) ?_)
  simp only [List.setIfInBounds_toArray, List.set_cons_zero, List.set_cons_succ]
  refine wpList_nil ?_
  refine then_n (hK10 _ _ ?_)
  refine wp_seq_k (fun K18 hK18 => ?_)
  refine wp_region_lit ?_
  refine lst (wanted_none rfl) (w_value 25 (.string c) rfl (run_mv rfl rfl) ?_)
  simp only [List.setIfInBounds_toArray, List.set_cons_zero, List.set_cons_succ]
  refine lst (wanted_none rfl) (m_call hm17 26 (.tuple #[.agg (pt 0 0 0 0), .bool false]) rfl (run_pUnpack rfl rfl) (un_no c hc _ (kept hd hm17.below)) (fun w19 hm20 => ?_))
  simp only [List.setIfInBounds_toArray, List.set_cons_zero, List.set_cons_succ]
  refine lst (wanted_none rfl) (w_value 24 (.tuple #[.agg (pt 0 0 0 0), .bool false]) rfl (run_mv rfl rfl) ?_)
  simp only [List.setIfInBounds_toArray, List.set_cons_zero, List.set_cons_succ]
  refine lst (wanted_none rfl) (w_value 27 (.agg (pt 0 0 0 0)) rfl (run_ex rfl rfl rfl) ?_)
  simp only [List.setIfInBounds_toArray, List.set_cons_zero, List.set_cons_succ]
  refine lst (wanted_none rfl) (w_value 28 (.bool false) rfl (run_ex rfl rfl rfl) ?_)
  simp only [List.setIfInBounds_toArray, List.set_cons_zero, List.set_cons_succ]
  refine lst (wanted_none rfl) (m_alloc (c := pt 0 0 0 0) (T := 25) hm20 11 rfl (al_P rfl) (fun g21 w22 (hm23 : Mm w w22 [(g5, pq p, 25), (g13, pt 0 0 0 0, 25), (g21, pt 0 0 0 0, 25)]) => ?_))
  simp only [List.setIfInBounds_toArray, List.set_cons_zero, List.set_cons_succ]
  refine lst (wanted_none rfl) (m_store 2 25 _ _ (pt 0 0 0 0) (old := pt 0 0 0 0) hm23 rfl rfl rfl rfl rfl (by rw [pt_sz]; exact info_p) ((pt_sz _ _ _ _).trans (pt_sz _ _ _ _).symm) (pt_one _ _ _ _) (fun w24 (hm25 : Mm w w24 [(g5, pq p, 25), (g13, pt 0 0 0 0, 25), (g21, pt 0 0 0 0, 25)]) => ?_))
  refine lst (wanted_none rfl) (w_value 12 (.bool false) rfl (run_as rfl rfl) ?_)
  simp only [List.setIfInBounds_toArray, List.set_cons_zero, List.set_cons_succ]
  refine wpList_nil ?_
  refine then_n (hK18 _ _ ?_)
  refine wp_seq_k (fun K26 hK26 => ?_)
  refine wp_seq_k (fun K27 hK27 => ?_)
  refine wp_region_lit ?_
  refine lst (wanted_none rfl) (w_value 29 (.bool true) rfl (run_mv rfl rfl) ?_)
  simp only [List.setIfInBounds_toArray, List.set_cons_zero, List.set_cons_succ]
  refine lst (wanted_none rfl) (w_value 30 (.bool false) rfl (r_not true rfl rfl) ?_)
  simp only [List.setIfInBounds_toArray, List.set_cons_zero, List.set_cons_succ]
  refine lst (wanted_none rfl) (w_value 31 (.bool false) rfl (run_mv rfl rfl) ?_)
  simp only [List.setIfInBounds_toArray, List.set_cons_zero, List.set_cons_succ]
  refine lst rfl (w_value 32 (.bool false) rfl (run_mv rfl rfl) ?_)
  simp only [List.setIfInBounds_toArray, List.set_cons_zero, List.set_cons_succ]
  refine lst rfl (w_value 33 (.bool true) rfl (r_not false rfl rfl) ?_)
  simp only [List.setIfInBounds_toArray, List.set_cons_zero, List.set_cons_succ]
  refine lst (wanted_none rfl) (w_value 34 (.bool true) rfl (run_pickf rfl rfl rfl) ?_)
  simp only [List.setIfInBounds_toArray, List.set_cons_zero, List.set_cons_succ]
  refine lst (wanted_none rfl) (w_value 35 (.bool true) rfl (run_mv rfl rfl) ?_)
  simp only [List.setIfInBounds_toArray, List.set_cons_zero, List.set_cons_succ]
  refine lst_skip 36 rfl rfl ?_
  simp only [List.setIfInBounds_toArray, List.set_cons_zero, List.set_cons_succ]
  refine lst_skip 37 rfl rfl ?_
  simp only [List.setIfInBounds_toArray, List.set_cons_zero, List.set_cons_succ]
  refine lst (wanted_none rfl) (w_value 38 (.bool true) rfl (run_pick rfl rfl rfl) ?_)
  simp only [List.setIfInBounds_toArray, List.set_cons_zero, List.set_cons_succ]
  refine wpList_nil ?_
  refine then_n (hK27 _ _ ?_)
  refine cond_t rfl ?_
  refine wp_seq_k (fun K28 hK28 => ?_)
  refine wp_region_lit ?_
  refine lst (wanted_none rfl) (m_call hm25 39 (.bool true) rfl (run_awake5 rfl) (awake5_any _ (kept hd hm25.below)) (fun w29 hm30 => ?_))
  simp only [List.setIfInBounds_toArray, List.set_cons_zero, List.set_cons_succ]
  refine lst (wanted_none rfl) (w_value 6 (.bool true) rfl (run_as rfl rfl) ?_)
  simp only [List.setIfInBounds_toArray, List.set_cons_zero, List.set_cons_succ]
  refine wpList_nil ?_
  refine then_n (hK28 _ _ ?_)
  refine wp_ret ?_
  refine then_r ?_
  exact ⟨rfl, .bool true, res_t rfl rfl, ⟨rfl, hm30.below⟩⟩
set_option maxHeartbeats 4000000 in
set_option maxRecDepth 100000 in
theorem walk_nss (a : ByteArray) (ha : unP a = none) (b : ByteArray) (q : Pn) (hb : unP b = some q) (hq : q.ok) (c : ByteArray) (r : Pn) (hc : unP c = some r) (hr : r.ok)  (w : World) (hd : DD w) : Calls Tryd.prog 6 #[.string a, .string b, .string c] w (fun e w' => e = .returned (.bool true) ∧ Below w.heap.size w w') := by
  go_enter Tryd.func6, Tryd.ntmps6
  have hm0 := Mm.nil w
  refine wp_seq_k (fun K1 hK1 => ?_)
  refine wp_region_lit ?_
  refine lst (wanted_none rfl) (w_value 6 (.bool false) rfl (run_as rfl rfl) ?_)
  simp only [List.setIfInBounds_toArray, List.set_cons_zero, List.set_cons_succ]
  refine wpList_nil ?_
  refine then_n (hK1 _ _ ?_)
  refine wp_seq_k (fun K2 hK2 => ?_)
  refine wp_region_lit ?_
  refine lst (wanted_none rfl) (w_value 15 (.string a) rfl (run_mv rfl rfl) ?_)
  simp only [List.setIfInBounds_toArray, List.set_cons_zero, List.set_cons_succ]
  refine lst (wanted_none rfl) (m_call hm0 16 (.tuple #[.agg (pt 0 0 0 0), .bool false]) rfl (run_pUnpack rfl rfl) (un_no a ha _ (kept hd hm0.below)) (fun w3 hm4 => ?_))
  simp only [List.setIfInBounds_toArray, List.set_cons_zero, List.set_cons_succ]
  refine lst (wanted_none rfl) (w_value 14 (.tuple #[.agg (pt 0 0 0 0), .bool false]) rfl (run_mv rfl rfl) ?_)
  simp only [List.setIfInBounds_toArray, List.set_cons_zero, List.set_cons_succ]
  refine lst (wanted_none rfl) (w_value 17 (.agg (pt 0 0 0 0)) rfl (run_ex rfl rfl rfl) ?_)
  simp only [List.setIfInBounds_toArray, List.set_cons_zero, List.set_cons_succ]
  refine lst (wanted_none rfl) (w_value 18 (.bool false) rfl (run_ex rfl rfl rfl) ?_)
  simp only [List.setIfInBounds_toArray, List.set_cons_zero, List.set_cons_succ]
  refine lst (wanted_none rfl) (m_alloc (c := pt 0 0 0 0) (T := 25) hm4 7 rfl (al_P rfl) (fun g5 w6 (hm7 : Mm w w6 [(g5, pt 0 0 0 0, 25)]) => ?_))
  simp only [List.setIfInBounds_toArray, List.set_cons_zero, List.set_cons_succ]
  refine lst (wanted_none rfl) (m_store 0 25 _ _ (pt 0 0 0 0) (old := pt 0 0 0 0) hm7 rfl rfl rfl rfl rfl (by rw [pt_sz]; exact info_p) ((pt_sz _ _ _ _).trans (pt_sz _ _ _ _).symm) (pt_one _ _ _ _) (fun w8 (hm9 : Mm w w8 [(g5, pt 0 0 0 0, 25)]) => ?_))
  refine lst (wanted_none rfl) (w_value 8 (.bool false) rfl (run_as rfl rfl) ?_)
  simp only [List.setIfInBounds_toArray, List.set_cons_zero, List.set_cons_succ]
  refine wpList_nil ?_
  refine then_n (hK2 _ _ ?_)
  refine wp_seq_k (fun K10 hK10 => ?_)
  refine wp_region_lit ?_
  refine lst (wanted_none rfl) (w_value 20 (.string b) rfl (run_mv rfl rfl) ?_)
  simp only [List.setIfInBounds_toArray, List.set_cons_zero, List.set_cons_succ]
  refine lst (wanted_none rfl) (m_call hm9 21 (.tuple #[.agg (pq q), .bool true]) rfl (run_pUnpack rfl rfl) (un_at b q hb _ (kept hd hm9.below)) (fun w11 hm12 => ?_))
  simp only [List.setIfInBounds_toArray, List.set_cons_zero, List.set_cons_succ]
  refine lst (wanted_none rfl) (w_value 19 (.tuple #[.agg (pq q), .bool true]) rfl (run_mv rfl rfl) ?_)
  simp only [List.setIfInBounds_toArray, List.set_cons_zero, List.set_cons_succ]
  refine lst (wanted_none rfl) (w_value 22 (.agg (pq q)) rfl (run_ex rfl rfl rfl) ?_)
  simp only [List.setIfInBounds_toArray, List.set_cons_zero, List.set_cons_succ]
  refine lst (wanted_none rfl) (w_value 23 (.bool true) rfl (run_ex rfl rfl rfl) ?_)
  simp only [List.setIfInBounds_toArray, List.set_cons_zero, List.set_cons_succ]
  refine lst (wanted_none rfl) (m_alloc (c := pt 0 0 0 0) (T := 25) hm12 9 rfl (al_P rfl) (fun g13 w14 (hm15 : Mm w w14 [(g5, pt 0 0 0 0, 25), (g13, pt 0 0 0 0, 25)]) => ?_))
  simp only [List.setIfInBounds_toArray, List.set_cons_zero, List.set_cons_succ]
  refine lst (wanted_none rfl) (m_store 1 25 _ _ (pq q) (old := pt 0 0 0 0) hm15 rfl rfl rfl rfl rfl (by rw [pq_sz]; exact info_p) ((pt_sz _ _ _ _).trans (pq_sz _).symm) (pq_one _) (fun w16 (hm17 : Mm w w16 [(g5, pt 0 0 0 0, 25), (g13, pq q, 25)]) => ?_))
  refine lst (wanted_none rfl) (w_value 10 (.bool true) rfl (run_as rfl rfl) ?_)
  simp only [List.setIfInBounds_toArray, List.set_cons_zero, List.set_cons_succ]
  refine wpList_nil ?_
  refine then_n (hK10 _ _ ?_)
  refine wp_seq_k (fun K18 hK18 => ?_)
  refine wp_region_lit ?_
  refine lst (wanted_none rfl) (w_value 25 (.string c) rfl (run_mv rfl rfl) ?_)
  simp only [List.setIfInBounds_toArray, List.set_cons_zero, List.set_cons_succ]
  refine lst (wanted_none rfl) (m_call hm17 26 (.tuple #[.agg (pq r), .bool true]) rfl (run_pUnpack rfl rfl) (un_at c r hc _ (kept hd hm17.below)) (fun w19 hm20 => ?_))
  simp only [List.setIfInBounds_toArray, List.set_cons_zero, List.set_cons_succ]
  refine lst (wanted_none rfl) (w_value 24 (.tuple #[.agg (pq r), .bool true]) rfl (run_mv rfl rfl) ?_)
  simp only [List.setIfInBounds_toArray, List.set_cons_zero, List.set_cons_succ]
  refine lst (wanted_none rfl) (w_value 27 (.agg (pq r)) rfl (run_ex rfl rfl rfl) ?_)
  simp only [List.setIfInBounds_toArray, List.set_cons_zero, List.set_cons_succ]
  refine lst (wanted_none rfl) (w_value 28 (.bool true) rfl (run_ex rfl rfl rfl) ?_)
  simp only [List.setIfInBounds_toArray, List.set_cons_zero, List.set_cons_succ]
  refine lst (wanted_none rfl) (m_alloc (c := pt 0 0 0 0) (T := 25) hm20 11 rfl (al_P rfl) (fun g21 w22 (hm23 : Mm w w22 [(g5, pt 0 0 0 0, 25), (g13, pq q, 25), (g21, pt 0 0 0 0, 25)]) => ?_))
  simp only [List.setIfInBounds_toArray, List.set_cons_zero, List.set_cons_succ]
  refine lst (wanted_none rfl) (m_store 2 25 _ _ (pq r) (old := pt 0 0 0 0) hm23 rfl rfl rfl rfl rfl (by rw [pq_sz]; exact info_p) ((pt_sz _ _ _ _).trans (pq_sz _).symm) (pq_one _) (fun w24 (hm25 : Mm w w24 [(g5, pt 0 0 0 0, 25), (g13, pq q, 25), (g21, pq r, 25)]) => ?_))
  refine lst (wanted_none rfl) (w_value 12 (.bool true) rfl (run_as rfl rfl) ?_)
  simp only [List.setIfInBounds_toArray, List.set_cons_zero, List.set_cons_succ]
  refine wpList_nil ?_
  refine then_n (hK18 _ _ ?_)
  refine wp_seq_k (fun K26 hK26 => ?_)
  refine wp_seq_k (fun K27 hK27 => ?_)
  refine wp_region_lit ?_
  refine lst (wanted_none rfl) (w_value 29 (.bool false) rfl (run_mv rfl rfl) ?_)
  simp only [List.setIfInBounds_toArray, List.set_cons_zero, List.set_cons_succ]
  refine lst (wanted_none rfl) (w_value 30 (.bool true) rfl (r_not false rfl rfl) ?_)
  simp only [List.setIfInBounds_toArray, List.set_cons_zero, List.set_cons_succ]
  refine lst (wanted_none rfl) (w_value 31 (.bool true) rfl (run_mv rfl rfl) ?_)
  simp only [List.setIfInBounds_toArray, List.set_cons_zero, List.set_cons_succ]
  refine lst_skip 32 rfl rfl ?_
  simp only [List.setIfInBounds_toArray, List.set_cons_zero, List.set_cons_succ]
  refine lst_skip 33 rfl rfl ?_
  simp only [List.setIfInBounds_toArray, List.set_cons_zero, List.set_cons_succ]
  refine lst (wanted_none rfl) (w_value 34 (.bool true) rfl (run_pick rfl rfl rfl) ?_)
  simp only [List.setIfInBounds_toArray, List.set_cons_zero, List.set_cons_succ]
  refine lst (wanted_none rfl) (w_value 35 (.bool true) rfl (run_mv rfl rfl) ?_)
  simp only [List.setIfInBounds_toArray, List.set_cons_zero, List.set_cons_succ]
  refine lst_skip 36 rfl rfl ?_
  simp only [List.setIfInBounds_toArray, List.set_cons_zero, List.set_cons_succ]
  refine lst_skip 37 rfl rfl ?_
  simp only [List.setIfInBounds_toArray, List.set_cons_zero, List.set_cons_succ]
  refine lst (wanted_none rfl) (w_value 38 (.bool true) rfl (run_pick rfl rfl rfl) ?_)
  simp only [List.setIfInBounds_toArray, List.set_cons_zero, List.set_cons_succ]
  refine wpList_nil ?_
  refine then_n (hK27 _ _ ?_)
  refine cond_t rfl ?_
  refine wp_seq_k (fun K28 hK28 => ?_)
  refine wp_region_lit ?_
  refine lst (wanted_none rfl) (m_call hm25 39 (.bool true) rfl (run_awake5 rfl) (awake5_any _ (kept hd hm25.below)) (fun w29 hm30 => ?_))
  simp only [List.setIfInBounds_toArray, List.set_cons_zero, List.set_cons_succ]
  refine lst (wanted_none rfl) (w_value 6 (.bool true) rfl (run_as rfl rfl) ?_)
  simp only [List.setIfInBounds_toArray, List.set_cons_zero, List.set_cons_succ]
  refine wpList_nil ?_
  refine then_n (hK28 _ _ ?_)
  refine wp_ret ?_
  refine then_r ?_
  exact ⟨rfl, .bool true, res_t rfl rfl, ⟨rfl, hm30.below⟩⟩
set_option maxHeartbeats 4000000 in
set_option maxRecDepth 100000 in
theorem walk_nsn (a : ByteArray) (ha : unP a = none) (b : ByteArray) (q : Pn) (hb : unP b = some q) (hq : q.ok) (c : ByteArray) (hc : unP c = none)  (w : World) (hd : DD w) : Calls Tryd.prog 6 #[.string a, .string b, .string c] w (fun e w' => e = .returned (.bool true) ∧ Below w.heap.size w w') := by
  go_enter Tryd.func6, Tryd.ntmps6
  have hm0 := Mm.nil w
  refine wp_seq_k (fun K1 hK1 => ?_)
  refine wp_region_lit ?_
  refine lst (wanted_none rfl) (w_value 6 (.bool false) rfl (run_as rfl rfl) ?_)
  simp only [List.setIfInBounds_toArray, List.set_cons_zero, List.set_cons_succ]
  refine wpList_nil ?_
  refine then_n (hK1 _ _ ?_)
  refine wp_seq_k (fun K2 hK2 => ?_)
  refine wp_region_lit ?_
  refine lst (wanted_none rfl) (w_value 15 (.string a) rfl (run_mv rfl rfl) ?_)
  simp only [List.setIfInBounds_toArray, List.set_cons_zero, List.set_cons_succ]
  refine lst (wanted_none rfl) (m_call hm0 16 (.tuple #[.agg (pt 0 0 0 0), .bool false]) rfl (run_pUnpack rfl rfl) (un_no a ha _ (kept hd hm0.below)) (fun w3 hm4 => ?_))
  simp only [List.setIfInBounds_toArray, List.set_cons_zero, List.set_cons_succ]
  refine lst (wanted_none rfl) (w_value 14 (.tuple #[.agg (pt 0 0 0 0), .bool false]) rfl (run_mv rfl rfl) ?_)
  simp only [List.setIfInBounds_toArray, List.set_cons_zero, List.set_cons_succ]
  refine lst (wanted_none rfl) (w_value 17 (.agg (pt 0 0 0 0)) rfl (run_ex rfl rfl rfl) ?_)
  simp only [List.setIfInBounds_toArray, List.set_cons_zero, List.set_cons_succ]
  refine lst (wanted_none rfl) (w_value 18 (.bool false) rfl (run_ex rfl rfl rfl) ?_)
  simp only [List.setIfInBounds_toArray, List.set_cons_zero, List.set_cons_succ]
  refine lst (wanted_none rfl) (m_alloc (c := pt 0 0 0 0) (T := 25) hm4 7 rfl (al_P rfl) (fun g5 w6 (hm7 : Mm w w6 [(g5, pt 0 0 0 0, 25)]) => ?_))
  simp only [List.setIfInBounds_toArray, List.set_cons_zero, List.set_cons_succ]
  refine lst (wanted_none rfl) (m_store 0 25 _ _ (pt 0 0 0 0) (old := pt 0 0 0 0) hm7 rfl rfl rfl rfl rfl (by rw [pt_sz]; exact info_p) ((pt_sz _ _ _ _).trans (pt_sz _ _ _ _).symm) (pt_one _ _ _ _) (fun w8 (hm9 : Mm w w8 [(g5, pt 0 0 0 0, 25)]) => ?_))
  refine lst (wanted_none rfl) (w_value 8 (.bool false) rfl (run_as rfl rfl) ?_)
  simp only [List.setIfInBounds_toArray, List.set_cons_zero, List.set_cons_succ]
  refine wpList_nil ?_
  refine then_n (hK2 _ _ ?_)
  refine wp_seq_k (fun K10 hK10 => ?_)
  refine wp_region_lit ?_
  refine lst (wanted_none rfl) (w_value 20 (.string b) rfl (run_mv rfl rfl) ?_)
  simp only [List.setIfInBounds_toArray, List.set_cons_zero, List.set_cons_succ]
  refine lst (wanted_none rfl) (m_call hm9 21 (.tuple #[.agg (pq q), .bool true]) rfl (run_pUnpack rfl rfl) (un_at b q hb _ (kept hd hm9.below)) (fun w11 hm12 => ?_))
  simp only [List.setIfInBounds_toArray, List.set_cons_zero, List.set_cons_succ]
  refine lst (wanted_none rfl) (w_value 19 (.tuple #[.agg (pq q), .bool true]) rfl (run_mv rfl rfl) ?_)
  simp only [List.setIfInBounds_toArray, List.set_cons_zero, List.set_cons_succ]
  refine lst (wanted_none rfl) (w_value 22 (.agg (pq q)) rfl (run_ex rfl rfl rfl) ?_)
  simp only [List.setIfInBounds_toArray, List.set_cons_zero, List.set_cons_succ]
  refine lst (wanted_none rfl) (w_value 23 (.bool true) rfl (run_ex rfl rfl rfl) ?_)
  simp only [List.setIfInBounds_toArray, List.set_cons_zero, List.set_cons_succ]
  refine lst (wanted_none rfl) (m_alloc (c := pt 0 0 0 0) (T := 25) hm12 9 rfl (al_P rfl) (fun g13 w14 (hm15 : Mm w w14 [(g5, pt 0 0 0 0, 25), (g13, pt 0 0 0 0, 25)]) => ?_))
  simp only [List.setIfInBounds_toArray, List.set_cons_zero, List.set_cons_succ]
  refine lst (wanted_none rfl) (m_store 1 25 _ _ (pq q) (old := pt 0 0 0 0) hm15 rfl rfl rfl rfl rfl (by rw [pq_sz]; exact info_p) ((pt_sz _ _ _ _).trans (pq_sz _).symm) (pq_one _) (fun w16 (hm17 : Mm w w16 [(g5, pt 0 0 0 0, 25), (g13, pq q, 25)]) => ?_))
  refine lst (wanted_none rfl) (w_value 10 (.bool true) rfl (run_as rfl rfl) ?_)
  simp only [List.setIfInBounds_toArray, List.set_cons_zero, List.set_cons_succ]
  refine wpList_nil ?_
  refine then_n (hK10 _ _ ?_)
  refine wp_seq_k (fun K18 hK18 => ?_)
  refine wp_region_lit ?_
  refine lst (wanted_none rfl) (w_value 25 (.string c) rfl (run_mv rfl rfl) ?_)
  simp only [List.setIfInBounds_toArray, List.set_cons_zero, List.set_cons_succ]
  refine lst (wanted_none rfl) (m_call hm17 26 (.tuple #[.agg (pt 0 0 0 0), .bool false]) rfl (run_pUnpack rfl rfl) (un_no c hc _ (kept hd hm17.below)) (fun w19 hm20 => ?_))
  simp only [List.setIfInBounds_toArray, List.set_cons_zero, List.set_cons_succ]
  refine lst (wanted_none rfl) (w_value 24 (.tuple #[.agg (pt 0 0 0 0), .bool false]) rfl (run_mv rfl rfl) ?_)
  simp only [List.setIfInBounds_toArray, List.set_cons_zero, List.set_cons_succ]
  refine lst (wanted_none rfl) (w_value 27 (.agg (pt 0 0 0 0)) rfl (run_ex rfl rfl rfl) ?_)
  simp only [List.setIfInBounds_toArray, List.set_cons_zero, List.set_cons_succ]
  refine lst (wanted_none rfl) (w_value 28 (.bool false) rfl (run_ex rfl rfl rfl) ?_)
  simp only [List.setIfInBounds_toArray, List.set_cons_zero, List.set_cons_succ]
  refine lst (wanted_none rfl) (m_alloc (c := pt 0 0 0 0) (T := 25) hm20 11 rfl (al_P rfl) (fun g21 w22 (hm23 : Mm w w22 [(g5, pt 0 0 0 0, 25), (g13, pq q, 25), (g21, pt 0 0 0 0, 25)]) => ?_))
  simp only [List.setIfInBounds_toArray, List.set_cons_zero, List.set_cons_succ]
  refine lst (wanted_none rfl) (m_store 2 25 _ _ (pt 0 0 0 0) (old := pt 0 0 0 0) hm23 rfl rfl rfl rfl rfl (by rw [pt_sz]; exact info_p) ((pt_sz _ _ _ _).trans (pt_sz _ _ _ _).symm) (pt_one _ _ _ _) (fun w24 (hm25 : Mm w w24 [(g5, pt 0 0 0 0, 25), (g13, pq q, 25), (g21, pt 0 0 0 0, 25)]) => ?_))
  refine lst (wanted_none rfl) (w_value 12 (.bool false) rfl (run_as rfl rfl) ?_)
  simp only [List.setIfInBounds_toArray, List.set_cons_zero, List.set_cons_succ]
  refine wpList_nil ?_
  refine then_n (hK18 _ _ ?_)
  refine wp_seq_k (fun K26 hK26 => ?_)
  refine wp_seq_k (fun K27 hK27 => ?_)
  refine wp_region_lit ?_
  refine lst (wanted_none rfl) (w_value 29 (.bool false) rfl (run_mv rfl rfl) ?_)
  simp only [List.setIfInBounds_toArray, List.set_cons_zero, List.set_cons_succ]
  refine lst (wanted_none rfl) (w_value 30 (.bool true) rfl (r_not false rfl rfl) ?_)
  simp only [List.setIfInBounds_toArray, List.set_cons_zero, List.set_cons_succ]
  refine lst (wanted_none rfl) (w_value 31 (.bool true) rfl (run_mv rfl rfl) ?_)
  simp only [List.setIfInBounds_toArray, List.set_cons_zero, List.set_cons_succ]
  refine lst_skip 32 rfl rfl ?_
  simp only [List.setIfInBounds_toArray, List.set_cons_zero, List.set_cons_succ]
  refine lst_skip 33 rfl rfl ?_
  simp only [List.setIfInBounds_toArray, List.set_cons_zero, List.set_cons_succ]
  refine lst (wanted_none rfl) (w_value 34 (.bool true) rfl (run_pick rfl rfl rfl) ?_)
  simp only [List.setIfInBounds_toArray, List.set_cons_zero, List.set_cons_succ]
  refine lst (wanted_none rfl) (w_value 35 (.bool true) rfl (run_mv rfl rfl) ?_)
  simp only [List.setIfInBounds_toArray, List.set_cons_zero, List.set_cons_succ]
  refine lst_skip 36 rfl rfl ?_
  simp only [List.setIfInBounds_toArray, List.set_cons_zero, List.set_cons_succ]
  refine lst_skip 37 rfl rfl ?_
  simp only [List.setIfInBounds_toArray, List.set_cons_zero, List.set_cons_succ]
  refine lst (wanted_none rfl) (w_value 38 (.bool true) rfl (run_pick rfl rfl rfl) ?_)
  simp only [List.setIfInBounds_toArray, List.set_cons_zero, List.set_cons_succ]
  refine wpList_nil ?_
  refine then_n (hK27 _ _ ?_)
  refine cond_t rfl ?_
  refine wp_seq_k (fun K28 hK28 => ?_)
  refine wp_region_lit ?_
  refine lst (wanted_none rfl) (m_call hm25 39 (.bool true) rfl (run_awake5 rfl) (awake5_any _ (kept hd hm25.below)) (fun w29 hm30 => ?_))
  simp only [List.setIfInBounds_toArray, List.set_cons_zero, List.set_cons_succ]
  refine lst (wanted_none rfl) (w_value 6 (.bool true) rfl (run_as rfl rfl) ?_)
  simp only [List.setIfInBounds_toArray, List.set_cons_zero, List.set_cons_succ]
  refine wpList_nil ?_
  refine then_n (hK28 _ _ ?_)
  refine wp_ret ?_
  refine then_r ?_
  exact ⟨rfl, .bool true, res_t rfl rfl, ⟨rfl, hm30.below⟩⟩
set_option maxHeartbeats 4000000 in
set_option maxRecDepth 100000 in
theorem walk_nns (a : ByteArray) (ha : unP a = none) (b : ByteArray) (hb : unP b = none) (c : ByteArray) (r : Pn) (hc : unP c = some r) (hr : r.ok)  (w : World) (hd : DD w) : Calls Tryd.prog 6 #[.string a, .string b, .string c] w (fun e w' => e = .returned (.bool true) ∧ Below w.heap.size w w') := by
  go_enter Tryd.func6, Tryd.ntmps6
  have hm0 := Mm.nil w
  refine wp_seq_k (fun K1 hK1 => ?_)
  refine wp_region_lit ?_
  refine lst (wanted_none rfl) (w_value 6 (.bool false) rfl (run_as rfl rfl) ?_)
  simp only [List.setIfInBounds_toArray, List.set_cons_zero, List.set_cons_succ]
  refine wpList_nil ?_
  refine then_n (hK1 _ _ ?_)
  refine wp_seq_k (fun K2 hK2 => ?_)
  refine wp_region_lit ?_
  refine lst (wanted_none rfl) (w_value 15 (.string a) rfl (run_mv rfl rfl) ?_)
  simp only [List.setIfInBounds_toArray, List.set_cons_zero, List.set_cons_succ]
  refine lst (wanted_none rfl) (m_call hm0 16 (.tuple #[.agg (pt 0 0 0 0), .bool false]) rfl (run_pUnpack rfl rfl) (un_no a ha _ (kept hd hm0.below)) (fun w3 hm4 => ?_))
  simp only [List.setIfInBounds_toArray, List.set_cons_zero, List.set_cons_succ]
  refine lst (wanted_none rfl) (w_value 14 (.tuple #[.agg (pt 0 0 0 0), .bool false]) rfl (run_mv rfl rfl) ?_)
  simp only [List.setIfInBounds_toArray, List.set_cons_zero, List.set_cons_succ]
  refine lst (wanted_none rfl) (w_value 17 (.agg (pt 0 0 0 0)) rfl (run_ex rfl rfl rfl) ?_)
  simp only [List.setIfInBounds_toArray, List.set_cons_zero, List.set_cons_succ]
  refine lst (wanted_none rfl) (w_value 18 (.bool false) rfl (run_ex rfl rfl rfl) ?_)
  simp only [List.setIfInBounds_toArray, List.set_cons_zero, List.set_cons_succ]
  refine lst (wanted_none rfl) (m_alloc (c := pt 0 0 0 0) (T := 25) hm4 7 rfl (al_P rfl) (fun g5 w6 (hm7 : Mm w w6 [(g5, pt 0 0 0 0, 25)]) => ?_))
  simp only [List.setIfInBounds_toArray, List.set_cons_zero, List.set_cons_succ]
  refine lst (wanted_none rfl) (m_store 0 25 _ _ (pt 0 0 0 0) (old := pt 0 0 0 0) hm7 rfl rfl rfl rfl rfl (by rw [pt_sz]; exact info_p) ((pt_sz _ _ _ _).trans (pt_sz _ _ _ _).symm) (pt_one _ _ _ _) (fun w8 (hm9 : Mm w w8 [(g5, pt 0 0 0 0, 25)]) => ?_))
  refine lst (wanted_none rfl) (w_value 8 (.bool false) rfl (run_as rfl rfl) ?_)
  simp only [List.setIfInBounds_toArray, List.set_cons_zero, List.set_cons_succ]
  refine wpList_nil ?_
  refine then_n (hK2 _ _ ?_)
  refine wp_seq_k (fun K10 hK10 => ?_)
  refine wp_region_lit ?_
  refine lst (wanted_none rfl) (w_value 20 (.string b) rfl (run_mv rfl rfl) ?_)
  simp only [List.setIfInBounds_toArray, List.set_cons_zero, List.set_cons_succ]
  refine lst (wanted_none rfl) (m_call hm9 21 (.tuple #[.agg (pt 0 0 0 0), .bool false]) rfl (run_pUnpack rfl rfl) (un_no b hb _ (kept hd hm9.below)) (fun w11 hm12 => ?_))
  simp only [List.setIfInBounds_toArray, List.set_cons_zero, List.set_cons_succ]
  refine lst (wanted_none rfl) (w_value 19 (.tuple #[.agg (pt 0 0 0 0), .bool false]) rfl (run_mv rfl rfl) ?_)
  simp only [List.setIfInBounds_toArray, List.set_cons_zero, List.set_cons_succ]
  refine lst (wanted_none rfl) (w_value 22 (.agg (pt 0 0 0 0)) rfl (run_ex rfl rfl rfl) ?_)
  simp only [List.setIfInBounds_toArray, List.set_cons_zero, List.set_cons_succ]
  refine lst (wanted_none rfl) (w_value 23 (.bool false) rfl (run_ex rfl rfl rfl) ?_)
  simp only [List.setIfInBounds_toArray, List.set_cons_zero, List.set_cons_succ]
  refine lst (wanted_none rfl) (m_alloc (c := pt 0 0 0 0) (T := 25) hm12 9 rfl (al_P rfl) (fun g13 w14 (hm15 : Mm w w14 [(g5, pt 0 0 0 0, 25), (g13, pt 0 0 0 0, 25)]) => ?_))
  simp only [List.setIfInBounds_toArray, List.set_cons_zero, List.set_cons_succ]
  refine lst (wanted_none rfl) (m_store 1 25 _ _ (pt 0 0 0 0) (old := pt 0 0 0 0) hm15 rfl rfl rfl rfl rfl (by rw [pt_sz]; exact info_p) ((pt_sz _ _ _ _).trans (pt_sz _ _ _ _).symm) (pt_one _ _ _ _) (fun w16 (hm17 : Mm w w16 [(g5, pt 0 0 0 0, 25), (g13, pt 0 0 0 0, 25)]) => ?_))
  refine lst (wanted_none rfl) (w_value 10 (.bool false) rfl (run_as rfl rfl) ?_)
  simp only [List.setIfInBounds_toArray, List.set_cons_zero, List.set_cons_succ]
  refine wpList_nil ?_
  refine then_n (hK10 _ _ ?_)
  refine wp_seq_k (fun K18 hK18 => ?_)
  refine wp_region_lit ?_
  refine lst (wanted_none rfl) (w_value 25 (.string c) rfl (run_mv rfl rfl) ?_)
  simp only [List.setIfInBounds_toArray, List.set_cons_zero, List.set_cons_succ]
  refine lst (wanted_none rfl) (m_call hm17 26 (.tuple #[.agg (pq r), .bool true]) rfl (run_pUnpack rfl rfl) (un_at c r hc _ (kept hd hm17.below)) (fun w19 hm20 => ?_))
  simp only [List.setIfInBounds_toArray, List.set_cons_zero, List.set_cons_succ]
  refine lst (wanted_none rfl) (w_value 24 (.tuple #[.agg (pq r), .bool true]) rfl (run_mv rfl rfl) ?_)
  simp only [List.setIfInBounds_toArray, List.set_cons_zero, List.set_cons_succ]
  refine lst (wanted_none rfl) (w_value 27 (.agg (pq r)) rfl (run_ex rfl rfl rfl) ?_)
  simp only [List.setIfInBounds_toArray, List.set_cons_zero, List.set_cons_succ]
  refine lst (wanted_none rfl) (w_value 28 (.bool true) rfl (run_ex rfl rfl rfl) ?_)
  simp only [List.setIfInBounds_toArray, List.set_cons_zero, List.set_cons_succ]
  refine lst (wanted_none rfl) (m_alloc (c := pt 0 0 0 0) (T := 25) hm20 11 rfl (al_P rfl) (fun g21 w22 (hm23 : Mm w w22 [(g5, pt 0 0 0 0, 25), (g13, pt 0 0 0 0, 25), (g21, pt 0 0 0 0, 25)]) => ?_))
  simp only [List.setIfInBounds_toArray, List.set_cons_zero, List.set_cons_succ]
  refine lst (wanted_none rfl) (m_store 2 25 _ _ (pq r) (old := pt 0 0 0 0) hm23 rfl rfl rfl rfl rfl (by rw [pq_sz]; exact info_p) ((pt_sz _ _ _ _).trans (pq_sz _).symm) (pq_one _) (fun w24 (hm25 : Mm w w24 [(g5, pt 0 0 0 0, 25), (g13, pt 0 0 0 0, 25), (g21, pq r, 25)]) => ?_))
  refine lst (wanted_none rfl) (w_value 12 (.bool true) rfl (run_as rfl rfl) ?_)
  simp only [List.setIfInBounds_toArray, List.set_cons_zero, List.set_cons_succ]
  refine wpList_nil ?_
  refine then_n (hK18 _ _ ?_)
  refine wp_seq_k (fun K26 hK26 => ?_)
  refine wp_seq_k (fun K27 hK27 => ?_)
  refine wp_region_lit ?_
  refine lst (wanted_none rfl) (w_value 29 (.bool false) rfl (run_mv rfl rfl) ?_)
  simp only [List.setIfInBounds_toArray, List.set_cons_zero, List.set_cons_succ]
  refine lst (wanted_none rfl) (w_value 30 (.bool true) rfl (r_not false rfl rfl) ?_)
  simp only [List.setIfInBounds_toArray, List.set_cons_zero, List.set_cons_succ]
  refine lst (wanted_none rfl) (w_value 31 (.bool true) rfl (run_mv rfl rfl) ?_)
  simp only [List.setIfInBounds_toArray, List.set_cons_zero, List.set_cons_succ]
  refine lst_skip 32 rfl rfl ?_
  simp only [List.setIfInBounds_toArray, List.set_cons_zero, List.set_cons_succ]
  refine lst_skip 33 rfl rfl ?_
  simp only [List.setIfInBounds_toArray, List.set_cons_zero, List.set_cons_succ]
  refine lst (wanted_none rfl) (w_value 34 (.bool true) rfl (run_pick rfl rfl rfl) ?_)
  simp only [List.setIfInBounds_toArray, List.set_cons_zero, List.set_cons_succ]
  refine lst (wanted_none rfl) (w_value 35 (.bool true) rfl (run_mv rfl rfl) ?_)
  simp only [List.setIfInBounds_toArray, List.set_cons_zero, List.set_cons_succ]
  refine lst_skip 36 rfl rfl ?_
  simp only [List.setIfInBounds_toArray, List.set_cons_zero, List.set_cons_succ]
  refine lst_skip 37 rfl rfl ?_
  simp only [List.setIfInBounds_toArray, List.set_cons_zero, List.set_cons_succ]
  refine lst (wanted_none rfl) (w_value 38 (.bool true) rfl (run_pick rfl rfl rfl) ?_)
  simp only [List.setIfInBounds_toArray, List.set_cons_zero, List.set_cons_succ]
  refine wpList_nil ?_
  refine then_n (hK27 _ _ ?_)
  refine cond_t rfl ?_
  refine wp_seq_k (fun K28 hK28 => ?_)
  refine wp_region_lit ?_
  refine lst (wanted_none rfl) (m_call hm25 39 (.bool true) rfl (run_awake5 rfl) (awake5_any _ (kept hd hm25.below)) (fun w29 hm30 => ?_))
  simp only [List.setIfInBounds_toArray, List.set_cons_zero, List.set_cons_succ]
  refine lst (wanted_none rfl) (w_value 6 (.bool true) rfl (run_as rfl rfl) ?_)
  simp only [List.setIfInBounds_toArray, List.set_cons_zero, List.set_cons_succ]
  refine wpList_nil ?_
  refine then_n (hK28 _ _ ?_)
  refine wp_ret ?_
  refine then_r ?_
  exact ⟨rfl, .bool true, res_t rfl rfl, ⟨rfl, hm30.below⟩⟩
set_option maxHeartbeats 4000000 in
set_option maxRecDepth 100000 in
theorem walk_nnn (a : ByteArray) (ha : unP a = none) (b : ByteArray) (hb : unP b = none) (c : ByteArray) (hc : unP c = none)  (w : World) (hd : DD w) : Calls Tryd.prog 6 #[.string a, .string b, .string c] w (fun e w' => e = .returned (.bool true) ∧ Below w.heap.size w w') := by
  go_enter Tryd.func6, Tryd.ntmps6
  have hm0 := Mm.nil w
  refine wp_seq_k (fun K1 hK1 => ?_)
  refine wp_region_lit ?_
  refine lst (wanted_none rfl) (w_value 6 (.bool false) rfl (run_as rfl rfl) ?_)
  simp only [List.setIfInBounds_toArray, List.set_cons_zero, List.set_cons_succ]
  refine wpList_nil ?_
  refine then_n (hK1 _ _ ?_)
  refine wp_seq_k (fun K2 hK2 => ?_)
  refine wp_region_lit ?_
  refine lst (wanted_none rfl) (w_value 15 (.string a) rfl (run_mv rfl rfl) ?_)
  simp only [List.setIfInBounds_toArray, List.set_cons_zero, List.set_cons_succ]
  refine lst (wanted_none rfl) (m_call hm0 16 (.tuple #[.agg (pt 0 0 0 0), .bool false]) rfl (run_pUnpack rfl rfl) (un_no a ha _ (kept hd hm0.below)) (fun w3 hm4 => ?_))
  simp only [List.setIfInBounds_toArray, List.set_cons_zero, List.set_cons_succ]
  refine lst (wanted_none rfl) (w_value 14 (.tuple #[.agg (pt 0 0 0 0), .bool false]) rfl (run_mv rfl rfl) ?_)
  simp only [List.setIfInBounds_toArray, List.set_cons_zero, List.set_cons_succ]
  refine lst (wanted_none rfl) (w_value 17 (.agg (pt 0 0 0 0)) rfl (run_ex rfl rfl rfl) ?_)
  simp only [List.setIfInBounds_toArray, List.set_cons_zero, List.set_cons_succ]
  refine lst (wanted_none rfl) (w_value 18 (.bool false) rfl (run_ex rfl rfl rfl) ?_)
  simp only [List.setIfInBounds_toArray, List.set_cons_zero, List.set_cons_succ]
  refine lst (wanted_none rfl) (m_alloc (c := pt 0 0 0 0) (T := 25) hm4 7 rfl (al_P rfl) (fun g5 w6 (hm7 : Mm w w6 [(g5, pt 0 0 0 0, 25)]) => ?_))
  simp only [List.setIfInBounds_toArray, List.set_cons_zero, List.set_cons_succ]
  refine lst (wanted_none rfl) (m_store 0 25 _ _ (pt 0 0 0 0) (old := pt 0 0 0 0) hm7 rfl rfl rfl rfl rfl (by rw [pt_sz]; exact info_p) ((pt_sz _ _ _ _).trans (pt_sz _ _ _ _).symm) (pt_one _ _ _ _) (fun w8 (hm9 : Mm w w8 [(g5, pt 0 0 0 0, 25)]) => ?_))
  refine lst (wanted_none rfl) (w_value 8 (.bool false) rfl (run_as rfl rfl) ?_)
  simp only [List.setIfInBounds_toArray, List.set_cons_zero, List.set_cons_succ]
  refine wpList_nil ?_
  refine then_n (hK2 _ _ ?_)
  refine wp_seq_k (fun K10 hK10 => ?_)
  refine wp_region_lit ?_
  refine lst (wanted_none rfl) (w_value 20 (.string b) rfl (run_mv rfl rfl) ?_)
  simp only [List.setIfInBounds_toArray, List.set_cons_zero, List.set_cons_succ]
  refine lst (wanted_none rfl) (m_call hm9 21 (.tuple #[.agg (pt 0 0 0 0), .bool false]) rfl (run_pUnpack rfl rfl) (un_no b hb _ (kept hd hm9.below)) (fun w11 hm12 => ?_))
  simp only [List.setIfInBounds_toArray, List.set_cons_zero, List.set_cons_succ]
  refine lst (wanted_none rfl) (w_value 19 (.tuple #[.agg (pt 0 0 0 0), .bool false]) rfl (run_mv rfl rfl) ?_)
  simp only [List.setIfInBounds_toArray, List.set_cons_zero, List.set_cons_succ]
  refine lst (wanted_none rfl) (w_value 22 (.agg (pt 0 0 0 0)) rfl (run_ex rfl rfl rfl) ?_)
  simp only [List.setIfInBounds_toArray, List.set_cons_zero, List.set_cons_succ]
  refine lst (wanted_none rfl) (w_value 23 (.bool false) rfl (run_ex rfl rfl rfl) ?_)
  simp only [List.setIfInBounds_toArray, List.set_cons_zero, List.set_cons_succ]
  refine lst (wanted_none rfl) (m_alloc (c := pt 0 0 0 0) (T := 25) hm12 9 rfl (al_P rfl) (fun g13 w14 (hm15 : Mm w w14 [(g5, pt 0 0 0 0, 25), (g13, pt 0 0 0 0, 25)]) => ?_))
  simp only [List.setIfInBounds_toArray, List.set_cons_zero, List.set_cons_succ]
  refine lst (wanted_none rfl) (m_store 1 25 _ _ (pt 0 0 0 0) (old := pt 0 0 0 0) hm15 rfl rfl rfl rfl rfl (by rw [pt_sz]; exact info_p) ((pt_sz _ _ _ _).trans (pt_sz _ _ _ _).symm) (pt_one _ _ _ _) (fun w16 (hm17 : Mm w w16 [(g5, pt 0 0 0 0, 25), (g13, pt 0 0 0 0, 25)]) => ?_))
  refine lst (wanted_none rfl) (w_value 10 (.bool false) rfl (run_as rfl rfl) ?_)
  simp only [List.setIfInBounds_toArray, List.set_cons_zero, List.set_cons_succ]
  refine wpList_nil ?_
  refine then_n (hK10 _ _ ?_)
  refine wp_seq_k (fun K18 hK18 => ?_)
  refine wp_region_lit ?_
  refine lst (wanted_none rfl) (w_value 25 (.string c) rfl (run_mv rfl rfl) ?_)
  simp only [List.setIfInBounds_toArray, List.set_cons_zero, List.set_cons_succ]
  refine lst (wanted_none rfl) (m_call hm17 26 (.tuple #[.agg (pt 0 0 0 0), .bool false]) rfl (run_pUnpack rfl rfl) (un_no c hc _ (kept hd hm17.below)) (fun w19 hm20 => ?_))
  simp only [List.setIfInBounds_toArray, List.set_cons_zero, List.set_cons_succ]
  refine lst (wanted_none rfl) (w_value 24 (.tuple #[.agg (pt 0 0 0 0), .bool false]) rfl (run_mv rfl rfl) ?_)
  simp only [List.setIfInBounds_toArray, List.set_cons_zero, List.set_cons_succ]
  refine lst (wanted_none rfl) (w_value 27 (.agg (pt 0 0 0 0)) rfl (run_ex rfl rfl rfl) ?_)
  simp only [List.setIfInBounds_toArray, List.set_cons_zero, List.set_cons_succ]
  refine lst (wanted_none rfl) (w_value 28 (.bool false) rfl (run_ex rfl rfl rfl) ?_)
  simp only [List.setIfInBounds_toArray, List.set_cons_zero, List.set_cons_succ]
  refine lst (wanted_none rfl) (m_alloc (c := pt 0 0 0 0) (T := 25) hm20 11 rfl (al_P rfl) (fun g21 w22 (hm23 : Mm w w22 [(g5, pt 0 0 0 0, 25), (g13, pt 0 0 0 0, 25), (g21, pt 0 0 0 0, 25)]) => ?_))
  simp only [List.setIfInBounds_toArray, List.set_cons_zero, List.set_cons_succ]
  refine lst (wanted_none rfl) (m_store 2 25 _ _ (pt 0 0 0 0) (old := pt 0 0 0 0) hm23 rfl rfl rfl rfl rfl (by rw [pt_sz]; exact info_p) ((pt_sz _ _ _ _).trans (pt_sz _ _ _ _).symm) (pt_one _ _ _ _) (fun w24 (hm25 : Mm w w24 [(g5, pt 0 0 0 0, 25), (g13, pt 0 0 0 0, 25), (g21, pt 0 0 0 0, 25)]) => ?_))
  refine lst (wanted_none rfl) (w_value 12 (.bool false) rfl (run_as rfl rfl) ?_)
  simp only [List.setIfInBounds_toArray, List.set_cons_zero, List.set_cons_succ]
  refine wpList_nil ?_
  refine then_n (hK18 _ _ ?_)
  refine wp_seq_k (fun K26 hK26 => ?_)
  refine wp_seq_k (fun K27 hK27 => ?_)
  refine wp_region_lit ?_
  refine lst (wanted_none rfl) (w_value 29 (.bool false) rfl (run_mv rfl rfl) ?_)
  simp only [List.setIfInBounds_toArray, List.set_cons_zero, List.set_cons_succ]
  refine lst (wanted_none rfl) (w_value 30 (.bool true) rfl (r_not false rfl rfl) ?_)
  simp only [List.setIfInBounds_toArray, List.set_cons_zero, List.set_cons_succ]
  refine lst (wanted_none rfl) (w_value 31 (.bool true) rfl (run_mv rfl rfl) ?_)
  simp only [List.setIfInBounds_toArray, List.set_cons_zero, List.set_cons_succ]
  refine lst_skip 32 rfl rfl ?_
  simp only [List.setIfInBounds_toArray, List.set_cons_zero, List.set_cons_succ]
  refine lst_skip 33 rfl rfl ?_
  simp only [List.setIfInBounds_toArray, List.set_cons_zero, List.set_cons_succ]
  refine lst (wanted_none rfl) (w_value 34 (.bool true) rfl (run_pick rfl rfl rfl) ?_)
  simp only [List.setIfInBounds_toArray, List.set_cons_zero, List.set_cons_succ]
  refine lst (wanted_none rfl) (w_value 35 (.bool true) rfl (run_mv rfl rfl) ?_)
  simp only [List.setIfInBounds_toArray, List.set_cons_zero, List.set_cons_succ]
  refine lst_skip 36 rfl rfl ?_
  simp only [List.setIfInBounds_toArray, List.set_cons_zero, List.set_cons_succ]
  refine lst_skip 37 rfl rfl ?_
  simp only [List.setIfInBounds_toArray, List.set_cons_zero, List.set_cons_succ]
  refine lst (wanted_none rfl) (w_value 38 (.bool true) rfl (run_pick rfl rfl rfl) ?_)
  simp only [List.setIfInBounds_toArray, List.set_cons_zero, List.set_cons_succ]
  refine wpList_nil ?_
  refine then_n (hK27 _ _ ?_)
  refine cond_t rfl ?_
  refine wp_seq_k (fun K28 hK28 => ?_)
  refine wp_region_lit ?_
  refine lst (wanted_none rfl) (m_call hm25 39 (.bool true) rfl (run_awake5 rfl) (awake5_any _ (kept hd hm25.below)) (fun w29 hm30 => ?_))
  simp only [List.setIfInBounds_toArray, List.set_cons_zero, List.set_cons_succ]
  refine lst (wanted_none rfl) (w_value 6 (.bool true) rfl (run_as rfl rfl) ?_)
  simp only [List.setIfInBounds_toArray, List.set_cons_zero, List.set_cons_succ]
  refine wpList_nil ?_
  refine then_n (hK28 _ _ ?_)
  refine wp_ret ?_
  refine then_r ?_
  exact ⟨rfl, .bool true, res_t rfl rfl, ⟨rfl, hm30.below⟩⟩
theorem walk (a : ByteArray) (b : ByteArray) (c : ByteArray) (w : World) (hd : DD w) : Calls Tryd.prog 6 #[.string a, .string b, .string c] w (fun e w' => e = .returned (.bool true) ∧ Below w.heap.size w w') := by
  cases ha : unP a with
  | none =>
    cases hb : unP b with
    | none =>
      cases hc : unP c with
      | none => exact walk_nnn a ha b hb c hc w hd
      | some r => exact walk_nns a ha b hb c r hc (unP_ok hc) w hd
    | some q =>
      cases hc : unP c with
      | none => exact walk_nsn a ha b q hb (unP_ok hb) c hc w hd
      | some r => exact walk_nss a ha b q hb (unP_ok hb) c r hc (unP_ok hc) w hd
  | some p =>
    cases hb : unP b with
    | none =>
      cases hc : unP c with
      | none => exact walk_snn a p ha (unP_ok ha) b hb c hc w hd
      | some r => exact walk_sns a p ha (unP_ok ha) b hb c r hc (unP_ok hc) w hd
    | some q =>
      cases hc : unP c with
      | none => exact walk_ssn a p ha (unP_ok ha) b q hb (unP_ok hb) c hc w hd
      | some r =>
        obtain ⟨P, hP, _⟩ := unP_R ha
        obtain ⟨Q, hQ, _⟩ := unP_R hb
        obtain ⟨R, hR, _⟩ := unP_R hc
        exact walk_sss a p ha (unP_ok ha) b q hb (unP_ok hb) c r hc (unP_ok hc) (on_R (add_R hP hQ)) (l_comm hP hQ) (l_assoc hP hQ hR) (l_zero hP) (l_neg hP) w hd
set_option maxRecDepth 100000 in
theorem lifted (os : Os) (started : os.Started) (H : Type) (enc : TypeId × Value → H) :
    ReturnsInHanded {} Tryd.checked os 6 .any (fun w args => (Rows.pointRulesSpec.pre enc Tryd.prog Tryd.f6 [] false w args ∧ laidMetH Tryd.prog dLaid w) ∧ sizedMet enc Tryd.prog Tryd.f6 (OpenSpec.ofChange Rows.pointRulesSpec) false w args) (Rows.pointRulesSpec.post enc Tryd.prog Tryd.f6 false true false false) := by
  refine handed (X := fun w _ => laidMetH Tryd.prog dLaid w) (fun _ _ _ hh h => h.of_heap hh) own started (by kernel_rfl) Tryd.func6
    (ChangeSpec.witness_shaped (enc := enc) (C := Tryd.checked) (os := os) (X := fun w _ => laidMetH Tryd.prog dLaid w) false (World.doorLaid Tryd.prog 400 os) #[.string .empty, .string .empty, .string .empty] 8 rfl (World.shaped_of_RefB (by kernel_rfl) (by kernel_rfl)) (by kernel_rfl) (by kernel_rfl) (by kernel_rfl) (met_d os _)) ?_
  intro W base args ds gs before hval0 hW hL hS
  have hval : ∀ (j : Nat) t v, Tryd.f6.params[j]? = some t → args[j]? = some v → Value.okWide Tryd.prog W .any base t v := hval0
  have hW' := hW
  obtain ⟨p, q, hA0, hV, rfl, hfz, hnd⟩ := hW
  have hA : DataW.TrodAll enc Tryd.prog W 0 (fun _ => true) true Tryd.f6.params.toList args.toList ds p := hA0
  rw [Tryd.params6] at hA hval
  obtain ⟨v0, vs0, d0, ds0, p0, q0, hargs, rfl, rfl, h0, r0⟩ := trodAll_cons hA
  obtain ⟨v1, vs1, d1, ds1, p1, q1, rfl, rfl, rfl, h1, r1⟩ := trodAll_cons r0
  obtain ⟨v2, vs2, d2, ds2, p2, q2, rfl, rfl, rfl, h2, r2⟩ := trodAll_cons r1
  obtain ⟨rfl, rfl, rfl⟩ := trodAll_nil r2
  obtain rfl : args = #[v0, v1, v2] := by cases args; simp_all
  obtain ⟨rfl, rfl⟩ := trodVars_none hV
  obtain ⟨a0, rfl, rfl, rfl, m0⟩ := open_string Tryd.underlying9 (hval 0 9 v0 rfl rfl) h0
  obtain ⟨a1, rfl, rfl, rfl, m1⟩ := open_string Tryd.underlying9 (hval 1 9 v1 rfl rfl) h1
  obtain ⟨a2, rfl, rfl, rfl, m2⟩ := open_string Tryd.underlying9 (hval 2 9 v2 rfl rfl) h2
  clear hA0 hval0
  simp only [List.append_nil] at hW'
  refine (walk a0 a1 a2 W (of_d hS hL)).mono fun e W' ⟨he, hg⟩ => ?_
  subst he
  exact ⟨_, rfl, _, _, _, [], [], [], hW', (trodAll_cons_mk (shut_bool Tryd.underlying4 _) trodAll_mk0), (trodAll_cons_mk (shut_string Tryd.underlying9 m0) (trodAll_cons_mk (shut_string Tryd.underlying9 m1) (trodAll_cons_mk (shut_string Tryd.underlying9 m2) trodAll_mk0))), rfl, hg.frame _, fun h => by cases h⟩

theorem over : Rows.pointRulesRow.holds Tryd.pinned (OpenSpec.ofChange Rows.pointRulesSpec) :=
  OpenClaim.holds_of_wide 6 Tryd.f6 rfl rfl rfl rfl rfl rfl rfl ⟨rfl, rfl, rfl, rfl, rfl⟩ rfl rfl rfl rfl rfl (by kernel_rfl) Tryd.func6 (by kernel_rfl)
    (of_decide_eq_true (by kernel_rfl)) (by unfold Func.isWrapper; first | (rw [if_pos (by decide +kernel)]; kernel_rfl) | (rw [if_neg (by decide +kernel)]; exact ⟨rfl, rfl⟩))
    (fun os started H enc _ => lifted os started H enc)

/-- The statement: the tied card. -/
theorem proved : Rows.PointRulesCardSaid :=
  Claim7.holds_tied_plain_at .later [] [.data] true (true, "fc2542975b301c68a361b8d8db791a19a70359d4a606d8fae6164062f6963a2a") false
    over (fun _ h => by cases h) (by kernel_rfl) (fun _ h => by cases h) pointRules_row_tie rfl ⟨rfl, rfl⟩ (by kernel_rfl) rfl
    (fun f fn hf hfn => by
      obtain rfl : f = 6 := Option.some.inj ((show Tryd.prog.funcNamed "holdall/holdalllaw05.PointRules" = some 6 by kernel_rfl).symm.trans hf) |>.symm
      obtain rfl : fn = Tryd.f6 := (Option.some.inj (Tryd.func6.symm.trans hfn)).symm
      exact ⟨by kernel_rfl, fun j t ht => by
        rw [Tryd.params6] at ht
        have hm : t ∈ [9, 9, 9] := by simpa using Array.mem_of_getElem? ht
        have hall : ([9, 9, 9].all fun u => !Tryd.prog.wantsStandIn u) = true := by kernel_rfl
        exact (show Tryd.prog.wantsStandIn t = false by simpa using List.all_eq_true.1 hall t hm)⟩)
    (by kernel_rfl)
#print axioms proved
end Go.Proofs.YtfpphinnngblgaaDoor.pointRules
