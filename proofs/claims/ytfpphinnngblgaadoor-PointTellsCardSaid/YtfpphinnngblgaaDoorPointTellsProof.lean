/- Whether any numbers are a point of the curve, the bytes, opposites and sums of any, and whether two are the same, are the document's: PointTells returns true, for every two points of any four numbers each. No condition, but that the package's variable d is as the text lays it. -/
import Derived.Test.YtfpphinnngblgaaDoorRows
import Derived.Test.YtfpphinnngblgaaDoorPtT
import Derived.Test.YtfpphinnngblgaaDoorPtOI
import Derived.Test.YtfpphinnngblgaaDoorPtD
import Derived.Test.YtfpphinnngblgaaDoorPtF
import Derived.Test.YtfpphinnngblgaaDoorPtY
import Derived.WalkKit
import Derived.ProofKit
import Derived.OpenShut
import Derived.ShutString
import Derived.ChangeMaps5
import Derived.LaidMore
import Derived.SevenTiedAt
import Derived.Test.YtfpphinnngblgaaDoorTie
import Derived.Test.YtfpphinnngblgaaDoorCards
namespace Go.Proofs.YtfpphinnngblgaaDoor.pointTells
open Go.ChangeShapes Go.WideShapes Go.ChangeAt Go.RowKit Go.ChangeMaps
open Go.Proofs.YtfpphinnngblgaaDoor Go.Proofs.YtfpphinnngblgaaDoor.Fld Go.Proofs.YtfpphinnngblgaaDoor.Arr Go.Proofs.YtfpphinnngblgaaDoor.Sym Go.Proofs.YtfpphinnngblgaaDoor.Sx
set_option linter.unusedVariables false

theorem own : ownKnob Tryd.prog.godebug = none := by kernel_rfl
set_option maxHeartbeats 4000000 in
set_option maxRecDepth 100000 in
theorem walk1 (p : Pn) (hp : p.ok) (q : Pn) (hq : q.ok) (w : World) (hd : DD w) : Calls Tryd.prog 4 #[.agg (pq p), .agg (pq q)] w (fun e w' => e = .returned (.bool true) ∧ Below w.heap.size w w') := by
  go_enter Tryd.func4, Tryd.ntmps4
  have hm0 := Mm.nil w
  refine wp_seq_k (fun K1 hK1 => ?_)
  refine wp_region_lit ?_
  refine lst (wanted_none rfl) (m_alloc (c := pq p) (T := 25) hm0 2 rfl (run_box rfl rfl) (fun g2 w3 (hm4 : Mm w w3 [(g2, pq p, 25)]) => ?_))
  simp only [nz1, nz2, nz3]
  refine lst (wanted_none rfl) (m_alloc (c := pq q) (T := 25) hm4 3 rfl (run_box rfl rfl) (fun g5 w6 (hm7 : Mm w w6 [(g2, pq p, 25), (g5, pq q, 25)]) => ?_))
  simp only [nz1, nz2, nz3]
  refine lv 4 (.bool false) rfl rfl (run_as rfl rfl) ?_
  simp only [nz1, nz2, nz3]
  refine wpList_nil ?_
  refine then_n (hK1 _ _ ?_)
  refine wp_seq_k (fun K8 hK8 => ?_)
  have hm9 := hm7.drew
  refine wp_region_held_drew (S := fun w' => Sym.Blk w' g2 (pq p) 25 ∧ Sym.Blk w' g5 (pq q) 25) (by kernel_rfl) (⟨hm9.at 0 rfl, hm9.at 1 rfl⟩) (fun _ => ?_)
  generalize w6.drew = w10 at *
  refine one_ready 0 (by kernel_rfl) ?_
  refine opd rfl (wanted_none rfl) (m_call hm9 5 (.bool true) rfl (run_awake5 rfl) (awake5_any _ (kept hd hm9.below)) (fun w11 hm12 => ?_))
  refine ⟨⟨hm12.at 0 rfl, hm12.at 1 rfl⟩, ?_⟩
  simp only [nz1, nz2, nz3]
  refine tk 1 6 (.bool true) rfl rfl (fun _ hw => run_mv rfl rfl) (⟨hm12.at 0 rfl, hm12.at 1 rfl⟩) ?_
  simp only [nz1, nz2, nz3]
  refine Sym.take_at 2 7 (.agg (pq p)) rfl rfl (by kernel_rfl) (by kernel_rfl) (by kernel_rfl) (fun _ _ _ h => h) rfl (fun _ hw => run_row rfl rfl hw.1 Tryd.underlying25 rfl (by rw [pq_sz]; exact info_p)) (⟨hm12.at 0 rfl, hm12.at 1 rfl⟩) ?_
  simp only [nz1, nz2, nz3]
  refine Sym.take_at 4 9 (.agg (pq p)) rfl rfl (by kernel_rfl) (by kernel_rfl) (by kernel_rfl) (fun _ _ _ h => h) rfl (fun _ hw => run_row rfl rfl hw.1 Tryd.underlying25 rfl (by rw [pq_sz]; exact info_p)) (⟨hm12.at 0 rfl, hm12.at 1 rfl⟩) ?_
  simp only [nz1, nz2, nz3]
  refine one_ready 3 (by kernel_rfl) ?_
  refine opd rfl rfl (m_call hm12 8 (.bool (decide (onP p))) rfl (run_pOn rfl rfl) (on_p p hp _ (kept hd hm12.below)) (fun w13 hm14 => ?_))
  refine ⟨⟨hm14.at 0 rfl, hm14.at 1 rfl⟩, ?_⟩
  simp only [nz1, nz2, nz3]
  refine one_ready 5 (by kernel_rfl) ?_
  refine opd rfl rfl (m_call hm14 10 (.bool (decide (onP p))) rfl (run_qOn rfl rfl) (ron_p p hp _) (fun w15 hm16 => ?_))
  refine ⟨⟨hm16.at 0 rfl, hm16.at 1 rfl⟩, ?_⟩
  simp only [nz1, nz2, nz3]
  refine Sym.take_at 6 11 (.bool true) rfl rfl (by kernel_rfl) (by kernel_rfl) (by kernel_rfl) (fun _ _ _ h => h) rfl (fun _ hw => r_eqlB (decide (onP p)) (decide (onP p)) true (by exact beq_self_eq_true _) rfl rfl rfl) (⟨hm16.at 0 rfl, hm16.at 1 rfl⟩) ?_
  simp only [nz1, nz2, nz3]
  refine tk 7 12 (.bool true) rfl rfl (fun _ hw => run_pick rfl rfl rfl) (⟨hm16.at 0 rfl, hm16.at 1 rfl⟩) ?_
  simp only [nz1, nz2, nz3]
  refine tk 8 13 (.bool true) rfl rfl (fun _ hw => run_mv rfl rfl) (⟨hm16.at 0 rfl, hm16.at 1 rfl⟩) ?_
  simp only [nz1, nz2, nz3]
  refine Sym.take_at 9 14 (.agg (pq p)) rfl rfl (by kernel_rfl) (by kernel_rfl) (by kernel_rfl) (fun _ _ _ h => h) rfl (fun _ hw => run_row rfl rfl hw.1 Tryd.underlying25 rfl (by rw [pq_sz]; exact info_p)) (⟨hm16.at 0 rfl, hm16.at 1 rfl⟩) ?_
  simp only [nz1, nz2, nz3]
  refine Sym.take_at 11 16 (.agg (pq p)) rfl rfl (by kernel_rfl) (by kernel_rfl) (by kernel_rfl) (fun _ _ _ h => h) rfl (fun _ hw => run_row rfl rfl hw.1 Tryd.underlying25 rfl (by rw [pq_sz]; exact info_p)) (⟨hm16.at 0 rfl, hm16.at 1 rfl⟩) ?_
  simp only [nz1, nz2, nz3]
  refine one_ready 10 (by kernel_rfl) ?_
  refine opd rfl rfl (m_call hm16 15 (.string (packS p)) rfl (run_pPack rfl rfl) (pack_p p hp _) (fun w17 hm18 => ?_))
  refine ⟨⟨hm18.at 0 rfl, hm18.at 1 rfl⟩, ?_⟩
  simp only [nz1, nz2, nz3]
  refine one_ready 12 (by kernel_rfl) ?_
  refine opd rfl rfl (m_call hm18 17 (.string (packS p)) rfl (run_qPack rfl rfl) (rpack_p p hp _) (fun w19 hm20 => ?_))
  refine ⟨⟨hm20.at 0 rfl, hm20.at 1 rfl⟩, ?_⟩
  simp only [nz1, nz2, nz3]
  refine Sym.take_at 13 18 (.bool true) rfl rfl (by kernel_rfl) (by kernel_rfl) (by kernel_rfl) (fun _ _ _ h => h) rfl (fun _ hw => r_eqlS (packS p) (packS p) true (decide_eq_true rfl) rfl rfl rfl) (⟨hm20.at 0 rfl, hm20.at 1 rfl⟩) ?_
  simp only [nz1, nz2, nz3]
  refine tk 14 19 (.bool true) rfl rfl (fun _ hw => run_pick rfl rfl rfl) (⟨hm20.at 0 rfl, hm20.at 1 rfl⟩) ?_
  simp only [nz1, nz2, nz3]
  refine tk 15 20 (.bool true) rfl rfl (fun _ hw => run_mv rfl rfl) (⟨hm20.at 0 rfl, hm20.at 1 rfl⟩) ?_
  simp only [nz1, nz2, nz3]
  refine Sym.take_at 16 21 (.agg (pq p)) rfl rfl (by kernel_rfl) (by kernel_rfl) (by kernel_rfl) (fun _ _ _ h => h) rfl (fun _ hw => run_row rfl rfl hw.1 Tryd.underlying25 rfl (by rw [pq_sz]; exact info_p)) (⟨hm20.at 0 rfl, hm20.at 1 rfl⟩) ?_
  simp only [nz1, nz2, nz3]
  refine Sym.take_at 18 23 (.agg (pq p)) rfl rfl (by kernel_rfl) (by kernel_rfl) (by kernel_rfl) (fun _ _ _ h => h) rfl (fun _ hw => run_row rfl rfl hw.1 Tryd.underlying25 rfl (by rw [pq_sz]; exact info_p)) (⟨hm20.at 0 rfl, hm20.at 1 rfl⟩) ?_
  simp only [nz1, nz2, nz3]
  refine one_ready 17 (by kernel_rfl) ?_
  refine opd rfl rfl (m_call hm20 22 (.agg (pq (negP p))) rfl (run_pNeg rfl rfl) (neg_p p hp _) (fun w21 hm22 => ?_))
  refine ⟨⟨hm22.at 0 rfl, hm22.at 1 rfl⟩, ?_⟩
  simp only [nz1, nz2, nz3]
  refine one_ready 19 (by kernel_rfl) ?_
  refine opd rfl rfl (m_call hm22 24 (.agg (pq (negP p))) rfl (run_qNeg rfl rfl) (rneg_pt p hp _) (fun w23 hm24 => ?_))
  refine ⟨⟨hm24.at 0 rfl, hm24.at 1 rfl⟩, ?_⟩
  simp only [nz1, nz2, nz3]
  refine Sym.take_at 20 25 (.bool true) rfl rfl (by kernel_rfl) (by kernel_rfl) (by kernel_rfl) (fun _ _ _ h => h) rfl (fun _ hw => r_eqlQ (negP p) rfl rfl rfl) (⟨hm24.at 0 rfl, hm24.at 1 rfl⟩) ?_
  simp only [nz1, nz2, nz3]
  refine tk 21 26 (.bool true) rfl rfl (fun _ hw => run_pick rfl rfl rfl) (⟨hm24.at 0 rfl, hm24.at 1 rfl⟩) ?_
  simp only [nz1, nz2, nz3]
  refine tk 22 27 (.bool true) rfl rfl (fun _ hw => run_mv rfl rfl) (⟨hm24.at 0 rfl, hm24.at 1 rfl⟩) ?_
  simp only [nz1, nz2, nz3]
  refine Sym.take_at 23 28 (.agg (pq p)) rfl rfl (by kernel_rfl) (by kernel_rfl) (by kernel_rfl) (fun _ _ _ h => h) rfl (fun _ hw => run_row rfl rfl hw.1 Tryd.underlying25 rfl (by rw [pq_sz]; exact info_p)) (⟨hm24.at 0 rfl, hm24.at 1 rfl⟩) ?_
  simp only [nz1, nz2, nz3]
  refine Sym.take_at 24 29 (.agg (pq q)) rfl rfl (by kernel_rfl) (by kernel_rfl) (by kernel_rfl) (fun _ _ _ h => h) rfl (fun _ hw => run_row rfl rfl hw.2 Tryd.underlying25 rfl (by rw [pq_sz]; exact info_p)) (⟨hm24.at 0 rfl, hm24.at 1 rfl⟩) ?_
  simp only [nz1, nz2, nz3]
  refine Sym.take_at 26 31 (.agg (pq p)) rfl rfl (by kernel_rfl) (by kernel_rfl) (by kernel_rfl) (fun _ _ _ h => h) rfl (fun _ hw => run_row rfl rfl hw.1 Tryd.underlying25 rfl (by rw [pq_sz]; exact info_p)) (⟨hm24.at 0 rfl, hm24.at 1 rfl⟩) ?_
  simp only [nz1, nz2, nz3]
  refine Sym.take_at 27 32 (.agg (pq q)) rfl rfl (by kernel_rfl) (by kernel_rfl) (by kernel_rfl) (fun _ _ _ h => h) rfl (fun _ hw => run_row rfl rfl hw.2 Tryd.underlying25 rfl (by rw [pq_sz]; exact info_p)) (⟨hm24.at 0 rfl, hm24.at 1 rfl⟩) ?_
  simp only [nz1, nz2, nz3]
  refine one_ready 25 (by kernel_rfl) ?_
  refine opd rfl rfl (m_call hm24 30 (.agg (pq (addP p q))) rfl (run_pAdd rfl rfl rfl) (add_p p q hp hq _ (kept hd hm24.below)) (fun w25 hm26 => ?_))
  refine ⟨⟨hm26.at 0 rfl, hm26.at 1 rfl⟩, ?_⟩
  simp only [nz1, nz2, nz3]
  refine one_ready 28 (by kernel_rfl) ?_
  refine opd rfl rfl (m_call hm26 33 (.agg (pq (addP p q))) rfl (run_qAdd rfl rfl rfl) (radd_p p q hp hq _) (fun w27 hm28 => ?_))
  refine ⟨⟨hm28.at 0 rfl, hm28.at 1 rfl⟩, ?_⟩
  simp only [nz1, nz2, nz3]
  refine Sym.take_at 29 34 (.bool true) rfl rfl (by kernel_rfl) (by kernel_rfl) (by kernel_rfl) (fun _ _ _ h => h) rfl (fun _ hw => r_eqlQ (addP p q) rfl rfl rfl) (⟨hm28.at 0 rfl, hm28.at 1 rfl⟩) ?_
  simp only [nz1, nz2, nz3]
  refine tk 30 35 (.bool true) rfl rfl (fun _ hw => run_pick rfl rfl rfl) (⟨hm28.at 0 rfl, hm28.at 1 rfl⟩) ?_
  simp only [nz1, nz2, nz3]
  refine tk 31 36 (.bool true) rfl rfl (fun _ hw => run_mv rfl rfl) (⟨hm28.at 0 rfl, hm28.at 1 rfl⟩) ?_
  simp only [nz1, nz2, nz3]
  refine Sym.take_at 32 37 (.agg (pq p)) rfl rfl (by kernel_rfl) (by kernel_rfl) (by kernel_rfl) (fun _ _ _ h => h) rfl (fun _ hw => run_row rfl rfl hw.1 Tryd.underlying25 rfl (by rw [pq_sz]; exact info_p)) (⟨hm28.at 0 rfl, hm28.at 1 rfl⟩) ?_
  simp only [nz1, nz2, nz3]
  refine Sym.take_at 33 38 (.agg (pq q)) rfl rfl (by kernel_rfl) (by kernel_rfl) (by kernel_rfl) (fun _ _ _ h => h) rfl (fun _ hw => run_row rfl rfl hw.2 Tryd.underlying25 rfl (by rw [pq_sz]; exact info_p)) (⟨hm28.at 0 rfl, hm28.at 1 rfl⟩) ?_
  simp only [nz1, nz2, nz3]
  refine Sym.take_at 35 40 (.agg (pq p)) rfl rfl (by kernel_rfl) (by kernel_rfl) (by kernel_rfl) (fun _ _ _ h => h) rfl (fun _ hw => run_row rfl rfl hw.1 Tryd.underlying25 rfl (by rw [pq_sz]; exact info_p)) (⟨hm28.at 0 rfl, hm28.at 1 rfl⟩) ?_
  simp only [nz1, nz2, nz3]
  refine Sym.take_at 36 41 (.agg (pq q)) rfl rfl (by kernel_rfl) (by kernel_rfl) (by kernel_rfl) (fun _ _ _ h => h) rfl (fun _ hw => run_row rfl rfl hw.2 Tryd.underlying25 rfl (by rw [pq_sz]; exact info_p)) (⟨hm28.at 0 rfl, hm28.at 1 rfl⟩) ?_
  simp only [nz1, nz2, nz3]
  refine one_ready 34 (by kernel_rfl) ?_
  refine opd rfl rfl (m_call hm28 39 (.bool (decide (sameP p q))) rfl (run_pSame rfl rfl rfl) (same_p p q hp hq _) (fun w29 hm30 => ?_))
  refine ⟨⟨hm30.at 0 rfl, hm30.at 1 rfl⟩, ?_⟩
  simp only [nz1, nz2, nz3]
  refine one_ready 37 (by kernel_rfl) ?_
  refine opd rfl rfl (m_call hm30 42 (.bool (decide (sameP p q))) rfl (run_qSame rfl rfl rfl) (rsame_p p q hp hq _) (fun w31 hm32 => ?_))
  refine ⟨⟨hm32.at 0 rfl, hm32.at 1 rfl⟩, ?_⟩
  simp only [nz1, nz2, nz3]
  refine Sym.take_at 38 43 (.bool true) rfl rfl (by kernel_rfl) (by kernel_rfl) (by kernel_rfl) (fun _ _ _ h => h) rfl (fun _ hw => r_eqlB (decide (sameP p q)) (decide (sameP p q)) true (by exact beq_self_eq_true _) rfl rfl rfl) (⟨hm32.at 0 rfl, hm32.at 1 rfl⟩) ?_
  simp only [nz1, nz2, nz3]
  refine tk 39 44 (.bool true) rfl rfl (fun _ hw => run_pick rfl rfl rfl) (⟨hm32.at 0 rfl, hm32.at 1 rfl⟩) ?_
  simp only [nz1, nz2, nz3]
  refine one_ready 40 (by kernel_rfl) ?_
  refine opd rfl (wanted_none rfl) (w_value 4 (.bool true) rfl (run_as rfl rfl) ⟨⟨hm32.at 0 rfl, hm32.at 1 rfl⟩, ?_⟩)
  simp only [nz1, nz2, nz3]
  refine wpAnyH_done (by kernel_rfl) ?_ _
  refine then_n (hK8 _ _ ?_)
  refine wp_ret ?_
  exact ⟨rfl, .bool true, res_t rfl rfl, ⟨rfl, hm32.below⟩⟩
theorem walk (p : Pn) (hp : p.ok) (q : Pn) (hq : q.ok) (w : World) (hd : DD w) : Calls Tryd.prog 4 #[.agg (pq p), .agg (pq q)] w (fun e w' => e = .returned (.bool true) ∧ Below w.heap.size w w') := by
  exact walk1 p hp q hq w hd
set_option maxRecDepth 100000 in
theorem lifted (os : Os) (started : os.Started) (H : Type) (enc : TypeId × Value → H) :
    ReturnsInHanded {} Tryd.checked os 4 .any (fun w args => (Rows.pointTellsSpec.pre enc Tryd.prog Tryd.f4 [] false w args ∧ laidMetH Tryd.prog dLaid w) ∧ sizedMet enc Tryd.prog Tryd.f4 (OpenSpec.ofChange Rows.pointTellsSpec) false w args) (Rows.pointTellsSpec.post enc Tryd.prog Tryd.f4 false true false false) := by
  refine handed (X := fun w _ => laidMetH Tryd.prog dLaid w) (fun _ _ _ hh h => h.of_heap hh) own started (by kernel_rfl) Tryd.func4
    (ChangeSpec.witness_shaped (enc := enc) (C := Tryd.checked) (os := os) (X := fun w _ => laidMetH Tryd.prog dLaid w) false (World.doorLaid Tryd.prog 400 os) #[.agg #[.int .u8 0, .int .u8 0, .int .u8 0, .int .u8 0, .int .u8 0, .int .u8 0, .int .u8 0, .int .u8 0, .int .u8 0, .int .u8 0, .int .u8 0, .int .u8 0, .int .u8 0, .int .u8 0, .int .u8 0, .int .u8 0, .int .u8 0, .int .u8 0, .int .u8 0, .int .u8 0, .int .u8 0, .int .u8 0, .int .u8 0, .int .u8 0, .int .u8 0, .int .u8 0, .int .u8 0, .int .u8 0, .int .u8 0, .int .u8 0, .int .u8 0, .int .u8 0, .int .u8 0, .int .u8 0, .int .u8 0, .int .u8 0, .int .u8 0, .int .u8 0, .int .u8 0, .int .u8 0, .int .u8 0, .int .u8 0, .int .u8 0, .int .u8 0, .int .u8 0, .int .u8 0, .int .u8 0, .int .u8 0, .int .u8 0, .int .u8 0, .int .u8 0, .int .u8 0, .int .u8 0, .int .u8 0, .int .u8 0, .int .u8 0, .int .u8 0, .int .u8 0, .int .u8 0, .int .u8 0, .int .u8 0, .int .u8 0, .int .u8 0, .int .u8 0, .int .u8 0, .int .u8 0, .int .u8 0, .int .u8 0, .int .u8 0, .int .u8 0, .int .u8 0, .int .u8 0, .int .u8 0, .int .u8 0, .int .u8 0, .int .u8 0, .int .u8 0, .int .u8 0, .int .u8 0, .int .u8 0, .int .u8 0, .int .u8 0, .int .u8 0, .int .u8 0, .int .u8 0, .int .u8 0, .int .u8 0, .int .u8 0, .int .u8 0, .int .u8 0, .int .u8 0, .int .u8 0, .int .u8 0, .int .u8 0, .int .u8 0, .int .u8 0, .int .u8 0, .int .u8 0, .int .u8 0, .int .u8 0, .int .u8 0, .int .u8 0, .int .u8 0, .int .u8 0, .int .u8 0, .int .u8 0, .int .u8 0, .int .u8 0, .int .u8 0, .int .u8 0, .int .u8 0, .int .u8 0, .int .u8 0, .int .u8 0, .int .u8 0, .int .u8 0, .int .u8 0, .int .u8 0, .int .u8 0, .int .u8 0, .int .u8 0, .int .u8 0, .int .u8 0, .int .u8 0, .int .u8 0, .int .u8 0, .int .u8 0, .int .u8 0], .agg #[.int .u8 0, .int .u8 0, .int .u8 0, .int .u8 0, .int .u8 0, .int .u8 0, .int .u8 0, .int .u8 0, .int .u8 0, .int .u8 0, .int .u8 0, .int .u8 0, .int .u8 0, .int .u8 0, .int .u8 0, .int .u8 0, .int .u8 0, .int .u8 0, .int .u8 0, .int .u8 0, .int .u8 0, .int .u8 0, .int .u8 0, .int .u8 0, .int .u8 0, .int .u8 0, .int .u8 0, .int .u8 0, .int .u8 0, .int .u8 0, .int .u8 0, .int .u8 0, .int .u8 0, .int .u8 0, .int .u8 0, .int .u8 0, .int .u8 0, .int .u8 0, .int .u8 0, .int .u8 0, .int .u8 0, .int .u8 0, .int .u8 0, .int .u8 0, .int .u8 0, .int .u8 0, .int .u8 0, .int .u8 0, .int .u8 0, .int .u8 0, .int .u8 0, .int .u8 0, .int .u8 0, .int .u8 0, .int .u8 0, .int .u8 0, .int .u8 0, .int .u8 0, .int .u8 0, .int .u8 0, .int .u8 0, .int .u8 0, .int .u8 0, .int .u8 0, .int .u8 0, .int .u8 0, .int .u8 0, .int .u8 0, .int .u8 0, .int .u8 0, .int .u8 0, .int .u8 0, .int .u8 0, .int .u8 0, .int .u8 0, .int .u8 0, .int .u8 0, .int .u8 0, .int .u8 0, .int .u8 0, .int .u8 0, .int .u8 0, .int .u8 0, .int .u8 0, .int .u8 0, .int .u8 0, .int .u8 0, .int .u8 0, .int .u8 0, .int .u8 0, .int .u8 0, .int .u8 0, .int .u8 0, .int .u8 0, .int .u8 0, .int .u8 0, .int .u8 0, .int .u8 0, .int .u8 0, .int .u8 0, .int .u8 0, .int .u8 0, .int .u8 0, .int .u8 0, .int .u8 0, .int .u8 0, .int .u8 0, .int .u8 0, .int .u8 0, .int .u8 0, .int .u8 0, .int .u8 0, .int .u8 0, .int .u8 0, .int .u8 0, .int .u8 0, .int .u8 0, .int .u8 0, .int .u8 0, .int .u8 0, .int .u8 0, .int .u8 0, .int .u8 0, .int .u8 0, .int .u8 0, .int .u8 0, .int .u8 0, .int .u8 0]] 8 rfl (World.shaped_of_RefB (by kernel_rfl) (by kernel_rfl)) (by kernel_rfl) (by kernel_rfl) (by kernel_rfl) (met_d os _)) ?_
  intro W base args ds gs before hval0 hW hL hS
  have hval : ∀ (j : Nat) t v, Tryd.f4.params[j]? = some t → args[j]? = some v → Value.okWide Tryd.prog W .any base t v := hval0
  have hW' := hW
  obtain ⟨p, q, hA0, hV, rfl, hfz, hnd⟩ := hW
  have hA : DataW.TrodAll enc Tryd.prog W 0 (fun _ => true) true Tryd.f4.params.toList args.toList ds p := hA0
  rw [Tryd.params4] at hA hval
  obtain ⟨v0, vs0, d0, ds0, p0, q0, hargs, rfl, rfl, h0, r0⟩ := trodAll_cons hA
  obtain ⟨v1, vs1, d1, ds1, p1, q1, rfl, rfl, rfl, h1, r1⟩ := trodAll_cons r0
  obtain ⟨rfl, rfl, rfl⟩ := trodAll_nil r1
  obtain rfl : args = #[v0, v1] := by cases args; simp_all
  obtain ⟨rfl, rfl⟩ := trodVars_none hV
  obtain ⟨x0, y0, z0, t0, c0, rfl, rfl, k0⟩ := open_point (hval 0 25 v0 rfl rfl) h0
  obtain ⟨x1, y1, z1, t1, c1, rfl, rfl, k1⟩ := open_point (hval 1 25 v1 rfl rfl) h1
  clear hA0 hval0
  simp only [List.append_nil] at hW'
  refine (walk ⟨x0, y0, z0, t0⟩ ⟨c0.1, c0.2.1, c0.2.2.1, c0.2.2.2⟩ ⟨x1, y1, z1, t1⟩ ⟨c1.1, c1.2.1, c1.2.2.1, c1.2.2.2⟩ W (of_d hS hL)).mono fun e W' ⟨he, hg⟩ => ?_
  subst he
  exact ⟨_, rfl, _, _, _, [], [], [], hW', (trodAll_cons_mk (shut_bool Tryd.underlying4 _) trodAll_mk0), (trodAll_cons_mk (k0 _ _) (trodAll_cons_mk (k1 _ _) trodAll_mk0)), rfl, hg.frame _, fun h => by cases h⟩

theorem over : Rows.pointTellsRow.holds Tryd.pinned (OpenSpec.ofChange Rows.pointTellsSpec) :=
  OpenClaim.holds_of_wide 4 Tryd.f4 rfl rfl rfl rfl rfl rfl rfl ⟨rfl, rfl, rfl, rfl, rfl⟩ rfl rfl rfl rfl rfl (by kernel_rfl) Tryd.func4 (by kernel_rfl)
    (of_decide_eq_true (by kernel_rfl)) (by unfold Func.isWrapper; first | (rw [if_pos (by decide +kernel)]; kernel_rfl) | (rw [if_neg (by decide +kernel)]; exact ⟨rfl, rfl⟩))
    (fun os started H enc _ => lifted os started H enc)

/-- The statement: the tied card. -/
theorem proved : Rows.PointTellsCardSaid :=
  Claim7.holds_tied_plain_at .later [] [.data] true (true, "fc2542975b301c68a361b8d8db791a19a70359d4a606d8fae6164062f6963a2a") false
    over (fun _ h => by cases h) (by kernel_rfl) (fun _ h => by cases h) pointTells_row_tie rfl ⟨rfl, rfl⟩ (by kernel_rfl) rfl
    (fun f fn hf hfn => by
      obtain rfl : f = 4 := Option.some.inj ((show Tryd.prog.funcNamed "holdall/holdalllaw05.PointTells" = some 4 by kernel_rfl).symm.trans hf) |>.symm
      obtain rfl : fn = Tryd.f4 := (Option.some.inj (Tryd.func4.symm.trans hfn)).symm
      exact ⟨by kernel_rfl, fun j t ht => by
        rw [Tryd.params4] at ht
        have hm : t ∈ [25, 25] := by simpa using Array.mem_of_getElem? ht
        have hall : ([25, 25].all fun u => !Tryd.prog.wantsStandIn u) = true := by kernel_rfl
        exact (show Tryd.prog.wantsStandIn t = false by simpa using List.all_eq_true.1 hall t hm)⟩)
    (by kernel_rfl)
#print axioms proved
end Go.Proofs.YtfpphinnngblgaaDoor.pointTells
