/- Products don't mind the order, sums and products go together as those of numbers do; a number of 32 bytes is what it leaves as one of 64: ScalarRules returns true, for every three numbers of 32 bytes. No condition. -/
import Derived.Test.YtcemcnbhnedaaaaRows
import Derived.Test.YtcemcnbhnedaaaaScI
import Derived.Test.YtcemcnbhnedaaaaScO
import Derived.WalkKit
import Derived.ProofKit
import Derived.OpenShut
import Derived.ChangeMaps5
namespace Go.Proofs.Ytcemcnbhnedaaaa.scalarRules
open Go.ChangeShapes Go.WideShapes Go.ChangeAt Go.RowKit Go.Maps
open Go.Proofs.Ytcemcnbhnedaaaa Go.Proofs.Ytcemcnbhnedaaaa.Fld Go.Proofs.Ytcemcnbhnedaaaa.Arr Go.Proofs.Ytcemcnbhnedaaaa.Sym Go.Proofs.Ytcemcnbhnedaaaa.Sx
set_option linter.unusedVariables false

theorem own : ownKnob Try.prog.godebug = none := by kernel_rfl

set_option maxHeartbeats 4000000 in
set_option maxRecDepth 100000 in
theorem walk_yes (a : Nat) (ha : a < MM) (b : Nat) (hb : b < MM) (c : Nat) (hc : c < MM) (hl : Hid (a < LL)) (w : World) : Calls Try.prog 5 #[.agg (bs a), .agg (bs b), .agg (bs c)] w (fun e w' => e = .returned (.bool true) ∧ Below w.heap.size w w') := by
  have F1 : ((a * b + 0) % LL) = ((b * a + 0) % LL) := by
    simp only [Nat.add_zero]; rw [Nat.mul_comm]
  have F2 : ((((a * b + 0) % LL) * c + 0) % LL) = ((a * ((b * c + 0) % LL) + 0) % LL) := by
    simp only [Nat.add_zero]; rw [Nat.mod_mul_mod, Nat.mul_mod_mod, Nat.mul_assoc]
  have F3 : ((a * ((1 * b + c) % LL) + 0) % LL) = ((a * b + ((a * c + 0) % LL)) % LL) := by
    simp only [Nat.add_zero, Nat.one_mul, Nat.mul_mod_mod, Nat.add_mod_mod, Nat.mul_add]
  have F4 : ((a + MM * 0) % LL) = ((a * 1 + 0) % LL) := by
    simp only [Nat.add_zero, Nat.mul_one, Nat.mul_zero]
  have F5 : ((a + MM * 0) % LL) = a := by
    rw [Nat.mul_zero, Nat.add_zero]; exact Nat.mod_eq_of_lt hl.out
  have Ha := Lib.hid ha
  have Hb := Lib.hid hb
  have Hc := Lib.hid hc
  clear ha
  clear hb
  clear hc
  go_enter Try.func5, Try.ntmps5
  have hm0 := Mm.nil w
  refine wp_seq_k (fun K1 hK1 => ?_)
  refine wp_region_lit ?_
  refine lst (wanted_none rfl) (m_alloc (c := bs a) (T := 23) hm0 3 rfl (run_box rfl rfl) (fun g2 w3 (hm4 : Mm w w3 [(g2, bs a, 23)]) => ?_))
  simp only [List.setIfInBounds_toArray, List.set_cons_zero, List.set_cons_succ]
  refine lst (wanted_none rfl) (m_alloc (c := bs b) (T := 23) hm4 4 rfl (run_box rfl rfl) (fun g5 w6 (hm7 : Mm w w6 [(g2, bs a, 23), (g5, bs b, 23)]) => ?_))
  simp only [List.setIfInBounds_toArray, List.set_cons_zero, List.set_cons_succ]
  refine lst (wanted_none rfl) (m_alloc (c := bs c) (T := 23) hm7 5 rfl (run_box rfl rfl) (fun g8 w9 (hm10 : Mm w w9 [(g2, bs a, 23), (g5, bs b, 23), (g8, bs c, 23)]) => ?_))
  simp only [List.setIfInBounds_toArray, List.set_cons_zero, List.set_cons_succ]
  refine lst (wanted_none rfl) (w_value 6 (.bool false) rfl (run_as rfl rfl) ?_)
  simp only [List.setIfInBounds_toArray, List.set_cons_zero, List.set_cons_succ]
  refine wpList_nil ?_
  refine then_n (hK1 _ _ ?_)
  refine wp_seq_k (fun K11 hK11 => ?_)
  refine wp_region_lit ?_
  refine lst (wanted_none rfl) (w_value 14 (.agg (bs 0)) rfl (by unfold execOp; go_simp; rfl) ?_)
  simp only [List.setIfInBounds_toArray, List.set_cons_zero, List.set_cons_succ]
  refine lst (wanted_none rfl) (w_value 15 (.agg (bs 1)) rfl (by unfold execOp; go_simp; rfl) ?_)
  simp only [List.setIfInBounds_toArray, List.set_cons_zero, List.set_cons_succ]
  refine lst (wanted_none rfl) (m_alloc (c := bs 0) (T := 23) hm10 7 rfl (al_N rfl) (fun g12 w13 (hm14 : Mm w w13 [(g2, bs a, 23), (g5, bs b, 23), (g8, bs c, 23), (g12, bs 0, 23)]) => ?_))
  simp only [List.setIfInBounds_toArray, List.set_cons_zero, List.set_cons_succ]
  refine lst (wanted_none rfl) (m_alloc (c := bs 0) (T := 23) hm14 8 rfl (al_N rfl) (fun g15 w16 (hm17 : Mm w w16 [(g2, bs a, 23), (g5, bs b, 23), (g8, bs c, 23), (g12, bs 0, 23), (g15, bs 0, 23)]) => ?_))
  simp only [List.setIfInBounds_toArray, List.set_cons_zero, List.set_cons_succ]
  refine lst (wanted_none rfl) (m_store 3 23 _ _ (bs 0) (old := bs 0) hm17 rfl rfl rfl rfl rfl (by rw [bs_sz]; exact info_b) ((bs_sz _).trans (bs_sz _).symm) (bs_one _) (fun w18 (hm19 : Mm w w18 [(g2, bs a, 23), (g5, bs b, 23), (g8, bs c, 23), (g12, bs 0, 23), (g15, bs 0, 23)]) => ?_))
  refine lst (wanted_none rfl) (m_store 4 23 _ _ (bs 1) (old := bs 0) hm19 rfl rfl rfl rfl rfl (by rw [bs_sz]; exact info_b) ((bs_sz _).trans (bs_sz _).symm) (bs_one _) (fun w20 (hm21 : Mm w w20 [(g2, bs a, 23), (g5, bs b, 23), (g8, bs c, 23), (g12, bs 0, 23), (g15, bs 1, 23)]) => ?_))
  refine wpList_nil ?_
  refine then_n (hK11 _ _ ?_)
  refine wp_seq_k (fun K22 hK22 => ?_)
  refine wp_mono (Q := fun e a' w' => e = Exit.normal ∧ ∃ g29 g32 : Nat, a' = ⟨#[.agg (bs a), .agg (bs b), .agg (bs c), .pointer (some ⟨g2, 0, none⟩), .pointer (some ⟨g5, 0, none⟩), .pointer (some ⟨g8, 0, none⟩), .bool false, .pointer (some ⟨g12, 0, none⟩), .pointer (some ⟨g15, 0, none⟩), .pointer (some ⟨g29, 0, none⟩), .pointer (some ⟨g32, 0, none⟩), undef, undef, undef, .agg (bs 0), .agg (bs 1), .agg (bs a), .agg (bs b), .agg (bs 0), .agg (bs ((a * b + 0) % LL)), .agg (bs b), .agg (bs c), .agg (bs 0), .agg (bs ((b * c + 0) % LL)), undef, undef, undef, undef, undef, undef, undef, undef, undef, undef, undef, undef, undef, undef, undef, undef, undef, undef, undef, undef, undef, undef, undef, undef, undef, undef, undef, undef, undef, undef, undef, undef, undef, undef, undef, undef, undef, undef, undef, undef, undef, undef, undef, undef, undef, undef, undef, undef, undef, undef, undef, undef, undef, undef, undef, undef, undef, undef, undef, undef, undef, undef, undef, undef, undef, undef, undef, undef], []⟩ ∧ Mm w w' [(g2, bs a, 23), (g5, bs b, 23), (g8, bs c, 23), (g12, bs 0, 23), (g15, bs 1, 23), (g29, bs ((a * b + 0) % LL), 23), (g32, bs ((b * c + 0) % LL), 23)]) ?_ ?_
  · have hm23 := hm21.drew
    refine wp_region_held_drew (S := fun w' => Sym.Blk w' g2 (bs a) 23 ∧ Sym.Blk w' g5 (bs b) 23 ∧ Sym.Blk w' g12 (bs 0) 23 ∧ Sym.Blk w' g8 (bs c) 23) (by kernel_rfl) (⟨hm21.at 0 rfl, hm21.at 1 rfl, hm21.at 3 rfl, hm21.at 2 rfl⟩) (fun _ => ?_)
    generalize w20.drew = w24 at *
    refine Sym.take_at 0 16 (.agg (bs a)) rfl rfl (by kernel_rfl) (by kernel_rfl) (by kernel_rfl) (fun _ _ _ h => nomatch h.1) (wanted_none rfl) (fun _ hw => run_row rfl rfl hw.1 Try.underlying23 rfl (by rw [bs_sz]; exact info_b)) (⟨hm23.at 0 rfl, hm23.at 1 rfl, hm23.at 3 rfl, hm23.at 2 rfl⟩) ?_
    simp only [List.setIfInBounds_toArray, List.set_cons_zero, List.set_cons_succ]
    refine Sym.take_at 1 17 (.agg (bs b)) rfl rfl (by kernel_rfl) (by kernel_rfl) (by kernel_rfl) (fun _ _ _ h => nomatch h.1) (wanted_none rfl) (fun _ hw => run_row rfl rfl hw.2.1 Try.underlying23 rfl (by rw [bs_sz]; exact info_b)) (⟨hm23.at 0 rfl, hm23.at 1 rfl, hm23.at 3 rfl, hm23.at 2 rfl⟩) ?_
    simp only [List.setIfInBounds_toArray, List.set_cons_zero, List.set_cons_succ]
    refine Sym.take_at 2 18 (.agg (bs 0)) rfl rfl (by kernel_rfl) (by kernel_rfl) (by kernel_rfl) (fun _ _ _ h => nomatch h.1) (wanted_none rfl) (fun _ hw => run_row rfl rfl hw.2.2.1 Try.underlying23 rfl (by rw [bs_sz]; exact info_b)) (⟨hm23.at 0 rfl, hm23.at 1 rfl, hm23.at 3 rfl, hm23.at 2 rfl⟩) ?_
    simp only [List.setIfInBounds_toArray, List.set_cons_zero, List.set_cons_succ]
    refine Sym.take_at 4 20 (.agg (bs b)) rfl rfl (by kernel_rfl) (by kernel_rfl) (by kernel_rfl) (fun _ _ _ h => nomatch h.1) (wanted_none rfl) (fun _ hw => run_row rfl rfl hw.2.1 Try.underlying23 rfl (by rw [bs_sz]; exact info_b)) (⟨hm23.at 0 rfl, hm23.at 1 rfl, hm23.at 3 rfl, hm23.at 2 rfl⟩) ?_
    simp only [List.setIfInBounds_toArray, List.set_cons_zero, List.set_cons_succ]
    refine Sym.take_at 5 21 (.agg (bs c)) rfl rfl (by kernel_rfl) (by kernel_rfl) (by kernel_rfl) (fun _ _ _ h => nomatch h.1) (wanted_none rfl) (fun _ hw => run_row rfl rfl hw.2.2.2 Try.underlying23 rfl (by rw [bs_sz]; exact info_b)) (⟨hm23.at 0 rfl, hm23.at 1 rfl, hm23.at 3 rfl, hm23.at 2 rfl⟩) ?_
    simp only [List.setIfInBounds_toArray, List.set_cons_zero, List.set_cons_succ]
    refine Sym.take_at 6 22 (.agg (bs 0)) rfl rfl (by kernel_rfl) (by kernel_rfl) (by kernel_rfl) (fun _ _ _ h => nomatch h.1) (wanted_none rfl) (fun _ hw => run_row rfl rfl hw.2.2.1 Try.underlying23 rfl (by rw [bs_sz]; exact info_b)) (⟨hm23.at 0 rfl, hm23.at 1 rfl, hm23.at 3 rfl, hm23.at 2 rfl⟩) ?_
    simp only [List.setIfInBounds_toArray, List.set_cons_zero, List.set_cons_succ]
    refine three_ready 3 8 9 (by kernel_rfl) ?_ ?_ ?_
    · refine opd rfl (wanted_none rfl) (m_call hm23 19 (.agg (bs ((a * b + 0) % LL))) rfl (run_Fuse rfl rfl rfl rfl) (fuse_any a b 0 Ha.out Hb.out (by decide) _) (fun w25 hm26 => ?_))
      refine ⟨⟨hm26.at 0 rfl, hm26.at 1 rfl, hm26.at 3 rfl, hm26.at 2 rfl⟩, ?_⟩
      simp only [List.setIfInBounds_toArray, List.set_cons_zero, List.set_cons_succ]
      refine three_ready 7 8 9 (by kernel_rfl) ?_ ?_ ?_
      · refine opd rfl (wanted_none rfl) (m_call hm26 23 (.agg (bs ((b * c + 0) % LL))) rfl (run_Fuse rfl rfl rfl rfl) (fuse_any b c 0 Hb.out Hc.out (by decide) _) (fun w27 hm28 => ?_))
        refine ⟨⟨hm28.at 0 rfl, hm28.at 1 rfl, hm28.at 3 rfl, hm28.at 2 rfl⟩, ?_⟩
        simp only [List.setIfInBounds_toArray, List.set_cons_zero, List.set_cons_succ]
        refine two_ready 8 9 (by kernel_rfl) ?_ ?_
        · refine opd rfl (wanted_none rfl) (m_alloc (c := bs 0) (T := 23) hm28 9 rfl (al_N rfl) (fun g29 w30 (hm31 : Mm w w30 [(g2, bs a, 23), (g5, bs b, 23), (g8, bs c, 23), (g12, bs 0, 23), (g15, bs 1, 23), (g29, bs 0, 23)]) => ?_))
          refine ⟨⟨hm31.at 0 rfl, hm31.at 1 rfl, hm31.at 3 rfl, hm31.at 2 rfl⟩, ?_⟩
          simp only [List.setIfInBounds_toArray, List.set_cons_zero, List.set_cons_succ]
          refine one_ready 9 (by kernel_rfl) ?_
          refine opd rfl (wanted_none rfl) (m_alloc (c := bs 0) (T := 23) hm31 10 rfl (al_N rfl) (fun g32 w33 (hm34 : Mm w w33 [(g2, bs a, 23), (g5, bs b, 23), (g8, bs c, 23), (g12, bs 0, 23), (g15, bs 1, 23), (g29, bs 0, 23), (g32, bs 0, 23)]) => ?_))
          refine ⟨⟨hm34.at 0 rfl, hm34.at 1 rfl, hm34.at 3 rfl, hm34.at 2 rfl⟩, ?_⟩
          simp only [List.setIfInBounds_toArray, List.set_cons_zero, List.set_cons_succ]
          refine one_ready 10 (by kernel_rfl) ?_
          refine opd rfl (wanted_none rfl) (m_store 5 23 _ _ (bs ((a * b + 0) % LL)) (old := bs 0) hm34 rfl rfl rfl rfl rfl (by rw [bs_sz]; exact info_b) ((bs_sz _).trans (bs_sz _).symm) (bs_one _) (fun w35 (hm36 : Mm w w35 [(g2, bs a, 23), (g5, bs b, 23), (g8, bs c, 23), (g12, bs 0, 23), (g15, bs 1, 23), (g29, bs ((a * b + 0) % LL), 23), (g32, bs 0, 23)]) => ?_))
          refine ⟨⟨hm36.at 0 rfl, hm36.at 1 rfl, hm36.at 3 rfl, hm36.at 2 rfl⟩, ?_⟩
          refine one_ready 11 (by kernel_rfl) ?_
          refine opd rfl (wanted_none rfl) (m_store 6 23 _ _ (bs ((b * c + 0) % LL)) (old := bs 0) hm36 rfl rfl rfl rfl rfl (by rw [bs_sz]; exact info_b) ((bs_sz _).trans (bs_sz _).symm) (bs_one _) (fun w37 (hm38 : Mm w w37 [(g2, bs a, 23), (g5, bs b, 23), (g8, bs c, 23), (g12, bs 0, 23), (g15, bs 1, 23), (g29, bs ((a * b + 0) % LL), 23), (g32, bs ((b * c + 0) % LL), 23)]) => ?_))
          refine ⟨⟨hm38.at 0 rfl, hm38.at 1 rfl, hm38.at 3 rfl, hm38.at 2 rfl⟩, ?_⟩
          refine wpAnyH_done (by kernel_rfl) ?_ _
          exact ⟨rfl, g29, g32, rfl, hm38⟩
        · refine opd rfl (wanted_none rfl) (m_alloc (c := bs 0) (T := 23) hm28 10 rfl (al_N rfl) (fun g39 w40 (hm41 : Mm w w40 [(g2, bs a, 23), (g5, bs b, 23), (g8, bs c, 23), (g12, bs 0, 23), (g15, bs 1, 23), (g39, bs 0, 23)]) => ?_))
          refine ⟨⟨hm41.at 0 rfl, hm41.at 1 rfl, hm41.at 3 rfl, hm41.at 2 rfl⟩, ?_⟩
          simp only [List.setIfInBounds_toArray, List.set_cons_zero, List.set_cons_succ]
          refine one_ready 8 (by kernel_rfl) ?_
          refine opd rfl (wanted_none rfl) (m_alloc (c := bs 0) (T := 23) hm41 9 rfl (al_N rfl) (fun g42 w43 (hm44 : Mm w w43 [(g2, bs a, 23), (g5, bs b, 23), (g8, bs c, 23), (g12, bs 0, 23), (g15, bs 1, 23), (g39, bs 0, 23), (g42, bs 0, 23)]) => ?_))
          refine ⟨⟨hm44.at 0 rfl, hm44.at 1 rfl, hm44.at 3 rfl, hm44.at 2 rfl⟩, ?_⟩
          simp only [List.setIfInBounds_toArray, List.set_cons_zero, List.set_cons_succ]
          refine one_ready 10 (by kernel_rfl) ?_
          refine opd rfl (wanted_none rfl) (m_store 6 23 _ _ (bs ((a * b + 0) % LL)) (old := bs 0) hm44 rfl rfl rfl rfl rfl (by rw [bs_sz]; exact info_b) ((bs_sz _).trans (bs_sz _).symm) (bs_one _) (fun w45 (hm46 : Mm w w45 [(g2, bs a, 23), (g5, bs b, 23), (g8, bs c, 23), (g12, bs 0, 23), (g15, bs 1, 23), (g39, bs 0, 23), (g42, bs ((a * b + 0) % LL), 23)]) => ?_))
          refine ⟨⟨hm46.at 0 rfl, hm46.at 1 rfl, hm46.at 3 rfl, hm46.at 2 rfl⟩, ?_⟩
          refine one_ready 11 (by kernel_rfl) ?_
          refine opd rfl (wanted_none rfl) (m_store 5 23 _ _ (bs ((b * c + 0) % LL)) (old := bs 0) hm46 rfl rfl rfl rfl rfl (by rw [bs_sz]; exact info_b) ((bs_sz _).trans (bs_sz _).symm) (bs_one _) (fun w47 (hm48 : Mm w w47 [(g2, bs a, 23), (g5, bs b, 23), (g8, bs c, 23), (g12, bs 0, 23), (g15, bs 1, 23), (g39, bs ((b * c + 0) % LL), 23), (g42, bs ((a * b + 0) % LL), 23)]) => ?_))
          refine ⟨⟨hm48.at 0 rfl, hm48.at 1 rfl, hm48.at 3 rfl, hm48.at 2 rfl⟩, ?_⟩
          refine wpAnyH_done (by kernel_rfl) ?_ _
          exact ⟨rfl, g42, g39, rfl, (Mm.reorder hm48 [0, 1, 2, 3, 4, 6, 5] (by decide) rfl)⟩
      · refine opd rfl (wanted_none rfl) (m_alloc (c := bs 0) (T := 23) hm26 9 rfl (al_N rfl) (fun g49 w50 (hm51 : Mm w w50 [(g2, bs a, 23), (g5, bs b, 23), (g8, bs c, 23), (g12, bs 0, 23), (g15, bs 1, 23), (g49, bs 0, 23)]) => ?_))
        refine ⟨⟨hm51.at 0 rfl, hm51.at 1 rfl, hm51.at 3 rfl, hm51.at 2 rfl⟩, ?_⟩
        simp only [List.setIfInBounds_toArray, List.set_cons_zero, List.set_cons_succ]
        refine two_ready 7 9 (by kernel_rfl) ?_ ?_
        · refine opd rfl (wanted_none rfl) (m_call hm51 23 (.agg (bs ((b * c + 0) % LL))) rfl (run_Fuse rfl rfl rfl rfl) (fuse_any b c 0 Hb.out Hc.out (by decide) _) (fun w52 hm53 => ?_))
          refine ⟨⟨hm53.at 0 rfl, hm53.at 1 rfl, hm53.at 3 rfl, hm53.at 2 rfl⟩, ?_⟩
          simp only [List.setIfInBounds_toArray, List.set_cons_zero, List.set_cons_succ]
          refine one_ready 9 (by kernel_rfl) ?_
          refine opd rfl (wanted_none rfl) (m_alloc (c := bs 0) (T := 23) hm53 10 rfl (al_N rfl) (fun g54 w55 (hm56 : Mm w w55 [(g2, bs a, 23), (g5, bs b, 23), (g8, bs c, 23), (g12, bs 0, 23), (g15, bs 1, 23), (g49, bs 0, 23), (g54, bs 0, 23)]) => ?_))
          refine ⟨⟨hm56.at 0 rfl, hm56.at 1 rfl, hm56.at 3 rfl, hm56.at 2 rfl⟩, ?_⟩
          simp only [List.setIfInBounds_toArray, List.set_cons_zero, List.set_cons_succ]
          refine one_ready 10 (by kernel_rfl) ?_
          refine opd rfl (wanted_none rfl) (m_store 5 23 _ _ (bs ((a * b + 0) % LL)) (old := bs 0) hm56 rfl rfl rfl rfl rfl (by rw [bs_sz]; exact info_b) ((bs_sz _).trans (bs_sz _).symm) (bs_one _) (fun w57 (hm58 : Mm w w57 [(g2, bs a, 23), (g5, bs b, 23), (g8, bs c, 23), (g12, bs 0, 23), (g15, bs 1, 23), (g49, bs ((a * b + 0) % LL), 23), (g54, bs 0, 23)]) => ?_))
          refine ⟨⟨hm58.at 0 rfl, hm58.at 1 rfl, hm58.at 3 rfl, hm58.at 2 rfl⟩, ?_⟩
          refine one_ready 11 (by kernel_rfl) ?_
          refine opd rfl (wanted_none rfl) (m_store 6 23 _ _ (bs ((b * c + 0) % LL)) (old := bs 0) hm58 rfl rfl rfl rfl rfl (by rw [bs_sz]; exact info_b) ((bs_sz _).trans (bs_sz _).symm) (bs_one _) (fun w59 (hm60 : Mm w w59 [(g2, bs a, 23), (g5, bs b, 23), (g8, bs c, 23), (g12, bs 0, 23), (g15, bs 1, 23), (g49, bs ((a * b + 0) % LL), 23), (g54, bs ((b * c + 0) % LL), 23)]) => ?_))
          refine ⟨⟨hm60.at 0 rfl, hm60.at 1 rfl, hm60.at 3 rfl, hm60.at 2 rfl⟩, ?_⟩
          refine wpAnyH_done (by kernel_rfl) ?_ _
          exact ⟨rfl, g49, g54, rfl, hm60⟩
        · refine opd rfl (wanted_none rfl) (m_alloc (c := bs 0) (T := 23) hm51 10 rfl (al_N rfl) (fun g61 w62 (hm63 : Mm w w62 [(g2, bs a, 23), (g5, bs b, 23), (g8, bs c, 23), (g12, bs 0, 23), (g15, bs 1, 23), (g49, bs 0, 23), (g61, bs 0, 23)]) => ?_))
          refine ⟨⟨hm63.at 0 rfl, hm63.at 1 rfl, hm63.at 3 rfl, hm63.at 2 rfl⟩, ?_⟩
          simp only [List.setIfInBounds_toArray, List.set_cons_zero, List.set_cons_succ]
          refine one_ready 7 (by kernel_rfl) ?_
          refine opd rfl (wanted_none rfl) (m_call hm63 23 (.agg (bs ((b * c + 0) % LL))) rfl (run_Fuse rfl rfl rfl rfl) (fuse_any b c 0 Hb.out Hc.out (by decide) _) (fun w64 hm65 => ?_))
          refine ⟨⟨hm65.at 0 rfl, hm65.at 1 rfl, hm65.at 3 rfl, hm65.at 2 rfl⟩, ?_⟩
          simp only [List.setIfInBounds_toArray, List.set_cons_zero, List.set_cons_succ]
          refine one_ready 10 (by kernel_rfl) ?_
          refine opd rfl (wanted_none rfl) (m_store 5 23 _ _ (bs ((a * b + 0) % LL)) (old := bs 0) hm65 rfl rfl rfl rfl rfl (by rw [bs_sz]; exact info_b) ((bs_sz _).trans (bs_sz _).symm) (bs_one _) (fun w66 (hm67 : Mm w w66 [(g2, bs a, 23), (g5, bs b, 23), (g8, bs c, 23), (g12, bs 0, 23), (g15, bs 1, 23), (g49, bs ((a * b + 0) % LL), 23), (g61, bs 0, 23)]) => ?_))
          refine ⟨⟨hm67.at 0 rfl, hm67.at 1 rfl, hm67.at 3 rfl, hm67.at 2 rfl⟩, ?_⟩
          refine one_ready 11 (by kernel_rfl) ?_
          refine opd rfl (wanted_none rfl) (m_store 6 23 _ _ (bs ((b * c + 0) % LL)) (old := bs 0) hm67 rfl rfl rfl rfl rfl (by rw [bs_sz]; exact info_b) ((bs_sz _).trans (bs_sz _).symm) (bs_one _) (fun w68 (hm69 : Mm w w68 [(g2, bs a, 23), (g5, bs b, 23), (g8, bs c, 23), (g12, bs 0, 23), (g15, bs 1, 23), (g49, bs ((a * b + 0) % LL), 23), (g61, bs ((b * c + 0) % LL), 23)]) => ?_))
          refine ⟨⟨hm69.at 0 rfl, hm69.at 1 rfl, hm69.at 3 rfl, hm69.at 2 rfl⟩, ?_⟩
          refine wpAnyH_done (by kernel_rfl) ?_ _
          exact ⟨rfl, g49, g61, rfl, hm69⟩
      · refine opd rfl (wanted_none rfl) (m_alloc (c := bs 0) (T := 23) hm26 10 rfl (al_N rfl) (fun g70 w71 (hm72 : Mm w w71 [(g2, bs a, 23), (g5, bs b, 23), (g8, bs c, 23), (g12, bs 0, 23), (g15, bs 1, 23), (g70, bs 0, 23)]) => ?_))
        refine ⟨⟨hm72.at 0 rfl, hm72.at 1 rfl, hm72.at 3 rfl, hm72.at 2 rfl⟩, ?_⟩
        simp only [List.setIfInBounds_toArray, List.set_cons_zero, List.set_cons_succ]
        refine two_ready 7 8 (by kernel_rfl) ?_ ?_
        · refine opd rfl (wanted_none rfl) (m_call hm72 23 (.agg (bs ((b * c + 0) % LL))) rfl (run_Fuse rfl rfl rfl rfl) (fuse_any b c 0 Hb.out Hc.out (by decide) _) (fun w73 hm74 => ?_))
          refine ⟨⟨hm74.at 0 rfl, hm74.at 1 rfl, hm74.at 3 rfl, hm74.at 2 rfl⟩, ?_⟩
          simp only [List.setIfInBounds_toArray, List.set_cons_zero, List.set_cons_succ]
          refine one_ready 8 (by kernel_rfl) ?_
          refine opd rfl (wanted_none rfl) (m_alloc (c := bs 0) (T := 23) hm74 9 rfl (al_N rfl) (fun g75 w76 (hm77 : Mm w w76 [(g2, bs a, 23), (g5, bs b, 23), (g8, bs c, 23), (g12, bs 0, 23), (g15, bs 1, 23), (g70, bs 0, 23), (g75, bs 0, 23)]) => ?_))
          refine ⟨⟨hm77.at 0 rfl, hm77.at 1 rfl, hm77.at 3 rfl, hm77.at 2 rfl⟩, ?_⟩
          simp only [List.setIfInBounds_toArray, List.set_cons_zero, List.set_cons_succ]
          refine one_ready 10 (by kernel_rfl) ?_
          refine opd rfl (wanted_none rfl) (m_store 6 23 _ _ (bs ((a * b + 0) % LL)) (old := bs 0) hm77 rfl rfl rfl rfl rfl (by rw [bs_sz]; exact info_b) ((bs_sz _).trans (bs_sz _).symm) (bs_one _) (fun w78 (hm79 : Mm w w78 [(g2, bs a, 23), (g5, bs b, 23), (g8, bs c, 23), (g12, bs 0, 23), (g15, bs 1, 23), (g70, bs 0, 23), (g75, bs ((a * b + 0) % LL), 23)]) => ?_))
          refine ⟨⟨hm79.at 0 rfl, hm79.at 1 rfl, hm79.at 3 rfl, hm79.at 2 rfl⟩, ?_⟩
          refine one_ready 11 (by kernel_rfl) ?_
          refine opd rfl (wanted_none rfl) (m_store 5 23 _ _ (bs ((b * c + 0) % LL)) (old := bs 0) hm79 rfl rfl rfl rfl rfl (by rw [bs_sz]; exact info_b) ((bs_sz _).trans (bs_sz _).symm) (bs_one _) (fun w80 (hm81 : Mm w w80 [(g2, bs a, 23), (g5, bs b, 23), (g8, bs c, 23), (g12, bs 0, 23), (g15, bs 1, 23), (g70, bs ((b * c + 0) % LL), 23), (g75, bs ((a * b + 0) % LL), 23)]) => ?_))
          refine ⟨⟨hm81.at 0 rfl, hm81.at 1 rfl, hm81.at 3 rfl, hm81.at 2 rfl⟩, ?_⟩
          refine wpAnyH_done (by kernel_rfl) ?_ _
          exact ⟨rfl, g75, g70, rfl, (Mm.reorder hm81 [0, 1, 2, 3, 4, 6, 5] (by decide) rfl)⟩
        · refine opd rfl (wanted_none rfl) (m_alloc (c := bs 0) (T := 23) hm72 9 rfl (al_N rfl) (fun g82 w83 (hm84 : Mm w w83 [(g2, bs a, 23), (g5, bs b, 23), (g8, bs c, 23), (g12, bs 0, 23), (g15, bs 1, 23), (g70, bs 0, 23), (g82, bs 0, 23)]) => ?_))
          refine ⟨⟨hm84.at 0 rfl, hm84.at 1 rfl, hm84.at 3 rfl, hm84.at 2 rfl⟩, ?_⟩
          simp only [List.setIfInBounds_toArray, List.set_cons_zero, List.set_cons_succ]
          refine one_ready 7 (by kernel_rfl) ?_
          refine opd rfl (wanted_none rfl) (m_call hm84 23 (.agg (bs ((b * c + 0) % LL))) rfl (run_Fuse rfl rfl rfl rfl) (fuse_any b c 0 Hb.out Hc.out (by decide) _) (fun w85 hm86 => ?_))
          refine ⟨⟨hm86.at 0 rfl, hm86.at 1 rfl, hm86.at 3 rfl, hm86.at 2 rfl⟩, ?_⟩
          simp only [List.setIfInBounds_toArray, List.set_cons_zero, List.set_cons_succ]
          refine one_ready 10 (by kernel_rfl) ?_
          refine opd rfl (wanted_none rfl) (m_store 6 23 _ _ (bs ((a * b + 0) % LL)) (old := bs 0) hm86 rfl rfl rfl rfl rfl (by rw [bs_sz]; exact info_b) ((bs_sz _).trans (bs_sz _).symm) (bs_one _) (fun w87 (hm88 : Mm w w87 [(g2, bs a, 23), (g5, bs b, 23), (g8, bs c, 23), (g12, bs 0, 23), (g15, bs 1, 23), (g70, bs 0, 23), (g82, bs ((a * b + 0) % LL), 23)]) => ?_))
          refine ⟨⟨hm88.at 0 rfl, hm88.at 1 rfl, hm88.at 3 rfl, hm88.at 2 rfl⟩, ?_⟩
          refine one_ready 11 (by kernel_rfl) ?_
          refine opd rfl (wanted_none rfl) (m_store 5 23 _ _ (bs ((b * c + 0) % LL)) (old := bs 0) hm88 rfl rfl rfl rfl rfl (by rw [bs_sz]; exact info_b) ((bs_sz _).trans (bs_sz _).symm) (bs_one _) (fun w89 (hm90 : Mm w w89 [(g2, bs a, 23), (g5, bs b, 23), (g8, bs c, 23), (g12, bs 0, 23), (g15, bs 1, 23), (g70, bs ((b * c + 0) % LL), 23), (g82, bs ((a * b + 0) % LL), 23)]) => ?_))
          refine ⟨⟨hm90.at 0 rfl, hm90.at 1 rfl, hm90.at 3 rfl, hm90.at 2 rfl⟩, ?_⟩
          refine wpAnyH_done (by kernel_rfl) ?_ _
          exact ⟨rfl, g82, g70, rfl, (Mm.reorder hm90 [0, 1, 2, 3, 4, 6, 5] (by decide) rfl)⟩
    · refine opd rfl (wanted_none rfl) (m_alloc (c := bs 0) (T := 23) hm23 9 rfl (al_N rfl) (fun g91 w92 (hm93 : Mm w w92 [(g2, bs a, 23), (g5, bs b, 23), (g8, bs c, 23), (g12, bs 0, 23), (g15, bs 1, 23), (g91, bs 0, 23)]) => ?_))
      refine ⟨⟨hm93.at 0 rfl, hm93.at 1 rfl, hm93.at 3 rfl, hm93.at 2 rfl⟩, ?_⟩
      simp only [List.setIfInBounds_toArray, List.set_cons_zero, List.set_cons_succ]
      refine two_ready 3 9 (by kernel_rfl) ?_ ?_
      · refine opd rfl (wanted_none rfl) (m_call hm93 19 (.agg (bs ((a * b + 0) % LL))) rfl (run_Fuse rfl rfl rfl rfl) (fuse_any a b 0 Ha.out Hb.out (by decide) _) (fun w94 hm95 => ?_))
        refine ⟨⟨hm95.at 0 rfl, hm95.at 1 rfl, hm95.at 3 rfl, hm95.at 2 rfl⟩, ?_⟩
        simp only [List.setIfInBounds_toArray, List.set_cons_zero, List.set_cons_succ]
        refine two_ready 7 9 (by kernel_rfl) ?_ ?_
        · refine opd rfl (wanted_none rfl) (m_call hm95 23 (.agg (bs ((b * c + 0) % LL))) rfl (run_Fuse rfl rfl rfl rfl) (fuse_any b c 0 Hb.out Hc.out (by decide) _) (fun w96 hm97 => ?_))
          refine ⟨⟨hm97.at 0 rfl, hm97.at 1 rfl, hm97.at 3 rfl, hm97.at 2 rfl⟩, ?_⟩
          simp only [List.setIfInBounds_toArray, List.set_cons_zero, List.set_cons_succ]
          refine one_ready 9 (by kernel_rfl) ?_
          refine opd rfl (wanted_none rfl) (m_alloc (c := bs 0) (T := 23) hm97 10 rfl (al_N rfl) (fun g98 w99 (hm100 : Mm w w99 [(g2, bs a, 23), (g5, bs b, 23), (g8, bs c, 23), (g12, bs 0, 23), (g15, bs 1, 23), (g91, bs 0, 23), (g98, bs 0, 23)]) => ?_))
          refine ⟨⟨hm100.at 0 rfl, hm100.at 1 rfl, hm100.at 3 rfl, hm100.at 2 rfl⟩, ?_⟩
          simp only [List.setIfInBounds_toArray, List.set_cons_zero, List.set_cons_succ]
          refine one_ready 10 (by kernel_rfl) ?_
          refine opd rfl (wanted_none rfl) (m_store 5 23 _ _ (bs ((a * b + 0) % LL)) (old := bs 0) hm100 rfl rfl rfl rfl rfl (by rw [bs_sz]; exact info_b) ((bs_sz _).trans (bs_sz _).symm) (bs_one _) (fun w101 (hm102 : Mm w w101 [(g2, bs a, 23), (g5, bs b, 23), (g8, bs c, 23), (g12, bs 0, 23), (g15, bs 1, 23), (g91, bs ((a * b + 0) % LL), 23), (g98, bs 0, 23)]) => ?_))
          refine ⟨⟨hm102.at 0 rfl, hm102.at 1 rfl, hm102.at 3 rfl, hm102.at 2 rfl⟩, ?_⟩
          refine one_ready 11 (by kernel_rfl) ?_
          refine opd rfl (wanted_none rfl) (m_store 6 23 _ _ (bs ((b * c + 0) % LL)) (old := bs 0) hm102 rfl rfl rfl rfl rfl (by rw [bs_sz]; exact info_b) ((bs_sz _).trans (bs_sz _).symm) (bs_one _) (fun w103 (hm104 : Mm w w103 [(g2, bs a, 23), (g5, bs b, 23), (g8, bs c, 23), (g12, bs 0, 23), (g15, bs 1, 23), (g91, bs ((a * b + 0) % LL), 23), (g98, bs ((b * c + 0) % LL), 23)]) => ?_))
          refine ⟨⟨hm104.at 0 rfl, hm104.at 1 rfl, hm104.at 3 rfl, hm104.at 2 rfl⟩, ?_⟩
          refine wpAnyH_done (by kernel_rfl) ?_ _
          exact ⟨rfl, g91, g98, rfl, hm104⟩
        · refine opd rfl (wanted_none rfl) (m_alloc (c := bs 0) (T := 23) hm95 10 rfl (al_N rfl) (fun g105 w106 (hm107 : Mm w w106 [(g2, bs a, 23), (g5, bs b, 23), (g8, bs c, 23), (g12, bs 0, 23), (g15, bs 1, 23), (g91, bs 0, 23), (g105, bs 0, 23)]) => ?_))
          refine ⟨⟨hm107.at 0 rfl, hm107.at 1 rfl, hm107.at 3 rfl, hm107.at 2 rfl⟩, ?_⟩
          simp only [List.setIfInBounds_toArray, List.set_cons_zero, List.set_cons_succ]
          refine one_ready 7 (by kernel_rfl) ?_
          refine opd rfl (wanted_none rfl) (m_call hm107 23 (.agg (bs ((b * c + 0) % LL))) rfl (run_Fuse rfl rfl rfl rfl) (fuse_any b c 0 Hb.out Hc.out (by decide) _) (fun w108 hm109 => ?_))
          refine ⟨⟨hm109.at 0 rfl, hm109.at 1 rfl, hm109.at 3 rfl, hm109.at 2 rfl⟩, ?_⟩
          simp only [List.setIfInBounds_toArray, List.set_cons_zero, List.set_cons_succ]
          refine one_ready 10 (by kernel_rfl) ?_
          refine opd rfl (wanted_none rfl) (m_store 5 23 _ _ (bs ((a * b + 0) % LL)) (old := bs 0) hm109 rfl rfl rfl rfl rfl (by rw [bs_sz]; exact info_b) ((bs_sz _).trans (bs_sz _).symm) (bs_one _) (fun w110 (hm111 : Mm w w110 [(g2, bs a, 23), (g5, bs b, 23), (g8, bs c, 23), (g12, bs 0, 23), (g15, bs 1, 23), (g91, bs ((a * b + 0) % LL), 23), (g105, bs 0, 23)]) => ?_))
          refine ⟨⟨hm111.at 0 rfl, hm111.at 1 rfl, hm111.at 3 rfl, hm111.at 2 rfl⟩, ?_⟩
          refine one_ready 11 (by kernel_rfl) ?_
          refine opd rfl (wanted_none rfl) (m_store 6 23 _ _ (bs ((b * c + 0) % LL)) (old := bs 0) hm111 rfl rfl rfl rfl rfl (by rw [bs_sz]; exact info_b) ((bs_sz _).trans (bs_sz _).symm) (bs_one _) (fun w112 (hm113 : Mm w w112 [(g2, bs a, 23), (g5, bs b, 23), (g8, bs c, 23), (g12, bs 0, 23), (g15, bs 1, 23), (g91, bs ((a * b + 0) % LL), 23), (g105, bs ((b * c + 0) % LL), 23)]) => ?_))
          refine ⟨⟨hm113.at 0 rfl, hm113.at 1 rfl, hm113.at 3 rfl, hm113.at 2 rfl⟩, ?_⟩
          refine wpAnyH_done (by kernel_rfl) ?_ _
          exact ⟨rfl, g91, g105, rfl, hm113⟩
      · refine opd rfl (wanted_none rfl) (m_alloc (c := bs 0) (T := 23) hm93 10 rfl (al_N rfl) (fun g114 w115 (hm116 : Mm w w115 [(g2, bs a, 23), (g5, bs b, 23), (g8, bs c, 23), (g12, bs 0, 23), (g15, bs 1, 23), (g91, bs 0, 23), (g114, bs 0, 23)]) => ?_))
        refine ⟨⟨hm116.at 0 rfl, hm116.at 1 rfl, hm116.at 3 rfl, hm116.at 2 rfl⟩, ?_⟩
        simp only [List.setIfInBounds_toArray, List.set_cons_zero, List.set_cons_succ]
        refine one_ready 3 (by kernel_rfl) ?_
        refine opd rfl (wanted_none rfl) (m_call hm116 19 (.agg (bs ((a * b + 0) % LL))) rfl (run_Fuse rfl rfl rfl rfl) (fuse_any a b 0 Ha.out Hb.out (by decide) _) (fun w117 hm118 => ?_))
        refine ⟨⟨hm118.at 0 rfl, hm118.at 1 rfl, hm118.at 3 rfl, hm118.at 2 rfl⟩, ?_⟩
        simp only [List.setIfInBounds_toArray, List.set_cons_zero, List.set_cons_succ]
        refine one_ready 7 (by kernel_rfl) ?_
        refine opd rfl (wanted_none rfl) (m_call hm118 23 (.agg (bs ((b * c + 0) % LL))) rfl (run_Fuse rfl rfl rfl rfl) (fuse_any b c 0 Hb.out Hc.out (by decide) _) (fun w119 hm120 => ?_))
        refine ⟨⟨hm120.at 0 rfl, hm120.at 1 rfl, hm120.at 3 rfl, hm120.at 2 rfl⟩, ?_⟩
        simp only [List.setIfInBounds_toArray, List.set_cons_zero, List.set_cons_succ]
        refine one_ready 10 (by kernel_rfl) ?_
        refine opd rfl (wanted_none rfl) (m_store 5 23 _ _ (bs ((a * b + 0) % LL)) (old := bs 0) hm120 rfl rfl rfl rfl rfl (by rw [bs_sz]; exact info_b) ((bs_sz _).trans (bs_sz _).symm) (bs_one _) (fun w121 (hm122 : Mm w w121 [(g2, bs a, 23), (g5, bs b, 23), (g8, bs c, 23), (g12, bs 0, 23), (g15, bs 1, 23), (g91, bs ((a * b + 0) % LL), 23), (g114, bs 0, 23)]) => ?_))
        refine ⟨⟨hm122.at 0 rfl, hm122.at 1 rfl, hm122.at 3 rfl, hm122.at 2 rfl⟩, ?_⟩
        refine one_ready 11 (by kernel_rfl) ?_
        refine opd rfl (wanted_none rfl) (m_store 6 23 _ _ (bs ((b * c + 0) % LL)) (old := bs 0) hm122 rfl rfl rfl rfl rfl (by rw [bs_sz]; exact info_b) ((bs_sz _).trans (bs_sz _).symm) (bs_one _) (fun w123 (hm124 : Mm w w123 [(g2, bs a, 23), (g5, bs b, 23), (g8, bs c, 23), (g12, bs 0, 23), (g15, bs 1, 23), (g91, bs ((a * b + 0) % LL), 23), (g114, bs ((b * c + 0) % LL), 23)]) => ?_))
        refine ⟨⟨hm124.at 0 rfl, hm124.at 1 rfl, hm124.at 3 rfl, hm124.at 2 rfl⟩, ?_⟩
        refine wpAnyH_done (by kernel_rfl) ?_ _
        exact ⟨rfl, g91, g114, rfl, hm124⟩
    · refine opd rfl (wanted_none rfl) (m_alloc (c := bs 0) (T := 23) hm23 10 rfl (al_N rfl) (fun g125 w126 (hm127 : Mm w w126 [(g2, bs a, 23), (g5, bs b, 23), (g8, bs c, 23), (g12, bs 0, 23), (g15, bs 1, 23), (g125, bs 0, 23)]) => ?_))
      refine ⟨⟨hm127.at 0 rfl, hm127.at 1 rfl, hm127.at 3 rfl, hm127.at 2 rfl⟩, ?_⟩
      simp only [List.setIfInBounds_toArray, List.set_cons_zero, List.set_cons_succ]
      refine two_ready 3 8 (by kernel_rfl) ?_ ?_
      · refine opd rfl (wanted_none rfl) (m_call hm127 19 (.agg (bs ((a * b + 0) % LL))) rfl (run_Fuse rfl rfl rfl rfl) (fuse_any a b 0 Ha.out Hb.out (by decide) _) (fun w128 hm129 => ?_))
        refine ⟨⟨hm129.at 0 rfl, hm129.at 1 rfl, hm129.at 3 rfl, hm129.at 2 rfl⟩, ?_⟩
        simp only [List.setIfInBounds_toArray, List.set_cons_zero, List.set_cons_succ]
        refine two_ready 7 8 (by kernel_rfl) ?_ ?_
        · refine opd rfl (wanted_none rfl) (m_call hm129 23 (.agg (bs ((b * c + 0) % LL))) rfl (run_Fuse rfl rfl rfl rfl) (fuse_any b c 0 Hb.out Hc.out (by decide) _) (fun w130 hm131 => ?_))
          refine ⟨⟨hm131.at 0 rfl, hm131.at 1 rfl, hm131.at 3 rfl, hm131.at 2 rfl⟩, ?_⟩
          simp only [List.setIfInBounds_toArray, List.set_cons_zero, List.set_cons_succ]
          refine one_ready 8 (by kernel_rfl) ?_
          refine opd rfl (wanted_none rfl) (m_alloc (c := bs 0) (T := 23) hm131 9 rfl (al_N rfl) (fun g132 w133 (hm134 : Mm w w133 [(g2, bs a, 23), (g5, bs b, 23), (g8, bs c, 23), (g12, bs 0, 23), (g15, bs 1, 23), (g125, bs 0, 23), (g132, bs 0, 23)]) => ?_))
          refine ⟨⟨hm134.at 0 rfl, hm134.at 1 rfl, hm134.at 3 rfl, hm134.at 2 rfl⟩, ?_⟩
          simp only [List.setIfInBounds_toArray, List.set_cons_zero, List.set_cons_succ]
          refine one_ready 10 (by kernel_rfl) ?_
          refine opd rfl (wanted_none rfl) (m_store 6 23 _ _ (bs ((a * b + 0) % LL)) (old := bs 0) hm134 rfl rfl rfl rfl rfl (by rw [bs_sz]; exact info_b) ((bs_sz _).trans (bs_sz _).symm) (bs_one _) (fun w135 (hm136 : Mm w w135 [(g2, bs a, 23), (g5, bs b, 23), (g8, bs c, 23), (g12, bs 0, 23), (g15, bs 1, 23), (g125, bs 0, 23), (g132, bs ((a * b + 0) % LL), 23)]) => ?_))
          refine ⟨⟨hm136.at 0 rfl, hm136.at 1 rfl, hm136.at 3 rfl, hm136.at 2 rfl⟩, ?_⟩
          refine one_ready 11 (by kernel_rfl) ?_
          refine opd rfl (wanted_none rfl) (m_store 5 23 _ _ (bs ((b * c + 0) % LL)) (old := bs 0) hm136 rfl rfl rfl rfl rfl (by rw [bs_sz]; exact info_b) ((bs_sz _).trans (bs_sz _).symm) (bs_one _) (fun w137 (hm138 : Mm w w137 [(g2, bs a, 23), (g5, bs b, 23), (g8, bs c, 23), (g12, bs 0, 23), (g15, bs 1, 23), (g125, bs ((b * c + 0) % LL), 23), (g132, bs ((a * b + 0) % LL), 23)]) => ?_))
          refine ⟨⟨hm138.at 0 rfl, hm138.at 1 rfl, hm138.at 3 rfl, hm138.at 2 rfl⟩, ?_⟩
          refine wpAnyH_done (by kernel_rfl) ?_ _
          exact ⟨rfl, g132, g125, rfl, (Mm.reorder hm138 [0, 1, 2, 3, 4, 6, 5] (by decide) rfl)⟩
        · refine opd rfl (wanted_none rfl) (m_alloc (c := bs 0) (T := 23) hm129 9 rfl (al_N rfl) (fun g139 w140 (hm141 : Mm w w140 [(g2, bs a, 23), (g5, bs b, 23), (g8, bs c, 23), (g12, bs 0, 23), (g15, bs 1, 23), (g125, bs 0, 23), (g139, bs 0, 23)]) => ?_))
          refine ⟨⟨hm141.at 0 rfl, hm141.at 1 rfl, hm141.at 3 rfl, hm141.at 2 rfl⟩, ?_⟩
          simp only [List.setIfInBounds_toArray, List.set_cons_zero, List.set_cons_succ]
          refine one_ready 7 (by kernel_rfl) ?_
          refine opd rfl (wanted_none rfl) (m_call hm141 23 (.agg (bs ((b * c + 0) % LL))) rfl (run_Fuse rfl rfl rfl rfl) (fuse_any b c 0 Hb.out Hc.out (by decide) _) (fun w142 hm143 => ?_))
          refine ⟨⟨hm143.at 0 rfl, hm143.at 1 rfl, hm143.at 3 rfl, hm143.at 2 rfl⟩, ?_⟩
          simp only [List.setIfInBounds_toArray, List.set_cons_zero, List.set_cons_succ]
          refine one_ready 10 (by kernel_rfl) ?_
          refine opd rfl (wanted_none rfl) (m_store 6 23 _ _ (bs ((a * b + 0) % LL)) (old := bs 0) hm143 rfl rfl rfl rfl rfl (by rw [bs_sz]; exact info_b) ((bs_sz _).trans (bs_sz _).symm) (bs_one _) (fun w144 (hm145 : Mm w w144 [(g2, bs a, 23), (g5, bs b, 23), (g8, bs c, 23), (g12, bs 0, 23), (g15, bs 1, 23), (g125, bs 0, 23), (g139, bs ((a * b + 0) % LL), 23)]) => ?_))
          refine ⟨⟨hm145.at 0 rfl, hm145.at 1 rfl, hm145.at 3 rfl, hm145.at 2 rfl⟩, ?_⟩
          refine one_ready 11 (by kernel_rfl) ?_
          refine opd rfl (wanted_none rfl) (m_store 5 23 _ _ (bs ((b * c + 0) % LL)) (old := bs 0) hm145 rfl rfl rfl rfl rfl (by rw [bs_sz]; exact info_b) ((bs_sz _).trans (bs_sz _).symm) (bs_one _) (fun w146 (hm147 : Mm w w146 [(g2, bs a, 23), (g5, bs b, 23), (g8, bs c, 23), (g12, bs 0, 23), (g15, bs 1, 23), (g125, bs ((b * c + 0) % LL), 23), (g139, bs ((a * b + 0) % LL), 23)]) => ?_))
          refine ⟨⟨hm147.at 0 rfl, hm147.at 1 rfl, hm147.at 3 rfl, hm147.at 2 rfl⟩, ?_⟩
          refine wpAnyH_done (by kernel_rfl) ?_ _
          exact ⟨rfl, g139, g125, rfl, (Mm.reorder hm147 [0, 1, 2, 3, 4, 6, 5] (by decide) rfl)⟩
      · refine opd rfl (wanted_none rfl) (m_alloc (c := bs 0) (T := 23) hm127 9 rfl (al_N rfl) (fun g148 w149 (hm150 : Mm w w149 [(g2, bs a, 23), (g5, bs b, 23), (g8, bs c, 23), (g12, bs 0, 23), (g15, bs 1, 23), (g125, bs 0, 23), (g148, bs 0, 23)]) => ?_))
        refine ⟨⟨hm150.at 0 rfl, hm150.at 1 rfl, hm150.at 3 rfl, hm150.at 2 rfl⟩, ?_⟩
        simp only [List.setIfInBounds_toArray, List.set_cons_zero, List.set_cons_succ]
        refine one_ready 3 (by kernel_rfl) ?_
        refine opd rfl (wanted_none rfl) (m_call hm150 19 (.agg (bs ((a * b + 0) % LL))) rfl (run_Fuse rfl rfl rfl rfl) (fuse_any a b 0 Ha.out Hb.out (by decide) _) (fun w151 hm152 => ?_))
        refine ⟨⟨hm152.at 0 rfl, hm152.at 1 rfl, hm152.at 3 rfl, hm152.at 2 rfl⟩, ?_⟩
        simp only [List.setIfInBounds_toArray, List.set_cons_zero, List.set_cons_succ]
        refine one_ready 7 (by kernel_rfl) ?_
        refine opd rfl (wanted_none rfl) (m_call hm152 23 (.agg (bs ((b * c + 0) % LL))) rfl (run_Fuse rfl rfl rfl rfl) (fuse_any b c 0 Hb.out Hc.out (by decide) _) (fun w153 hm154 => ?_))
        refine ⟨⟨hm154.at 0 rfl, hm154.at 1 rfl, hm154.at 3 rfl, hm154.at 2 rfl⟩, ?_⟩
        simp only [List.setIfInBounds_toArray, List.set_cons_zero, List.set_cons_succ]
        refine one_ready 10 (by kernel_rfl) ?_
        refine opd rfl (wanted_none rfl) (m_store 6 23 _ _ (bs ((a * b + 0) % LL)) (old := bs 0) hm154 rfl rfl rfl rfl rfl (by rw [bs_sz]; exact info_b) ((bs_sz _).trans (bs_sz _).symm) (bs_one _) (fun w155 (hm156 : Mm w w155 [(g2, bs a, 23), (g5, bs b, 23), (g8, bs c, 23), (g12, bs 0, 23), (g15, bs 1, 23), (g125, bs 0, 23), (g148, bs ((a * b + 0) % LL), 23)]) => ?_))
        refine ⟨⟨hm156.at 0 rfl, hm156.at 1 rfl, hm156.at 3 rfl, hm156.at 2 rfl⟩, ?_⟩
        refine one_ready 11 (by kernel_rfl) ?_
        refine opd rfl (wanted_none rfl) (m_store 5 23 _ _ (bs ((b * c + 0) % LL)) (old := bs 0) hm156 rfl rfl rfl rfl rfl (by rw [bs_sz]; exact info_b) ((bs_sz _).trans (bs_sz _).symm) (bs_one _) (fun w157 (hm158 : Mm w w157 [(g2, bs a, 23), (g5, bs b, 23), (g8, bs c, 23), (g12, bs 0, 23), (g15, bs 1, 23), (g125, bs ((b * c + 0) % LL), 23), (g148, bs ((a * b + 0) % LL), 23)]) => ?_))
        refine ⟨⟨hm158.at 0 rfl, hm158.at 1 rfl, hm158.at 3 rfl, hm158.at 2 rfl⟩, ?_⟩
        refine wpAnyH_done (by kernel_rfl) ?_ _
        exact ⟨rfl, g148, g125, rfl, (Mm.reorder hm158 [0, 1, 2, 3, 4, 6, 5] (by decide) rfl)⟩
  clear hm21
  rintro _ _ w159 ⟨rfl, g29, g32, rfl, hm160⟩
  refine then_n (hK22 _ _ ?_)
  refine wp_seq_k (fun K161 hK161 => ?_)
  refine wp_region_lit ?_
  refine lst (wanted_none rfl) (w_value 24 (.agg (bs 1)) rfl (run_row rfl rfl (hm160.at 4 rfl) Try.underlying23 rfl (by rw [bs_sz]; exact info_b)) ?_)
  simp only [List.setIfInBounds_toArray, List.set_cons_zero, List.set_cons_succ]
  refine lst (wanted_none rfl) (w_value 25 (.agg (bs b)) rfl (run_row rfl rfl (hm160.at 1 rfl) Try.underlying23 rfl (by rw [bs_sz]; exact info_b)) ?_)
  simp only [List.setIfInBounds_toArray, List.set_cons_zero, List.set_cons_succ]
  refine lst (wanted_none rfl) (w_value 26 (.agg (bs c)) rfl (run_row rfl rfl (hm160.at 2 rfl) Try.underlying23 rfl (by rw [bs_sz]; exact info_b)) ?_)
  simp only [List.setIfInBounds_toArray, List.set_cons_zero, List.set_cons_succ]
  refine lst (wanted_none rfl) (m_call hm160 27 (.agg (bs ((1 * b + c) % LL))) rfl (run_Fuse rfl rfl rfl rfl) (fuse_any 1 b c (by decide) Hb.out Hc.out _) (fun w162 hm163 => ?_))
  simp only [List.setIfInBounds_toArray, List.set_cons_zero, List.set_cons_succ]
  refine lst (wanted_none rfl) (m_alloc (c := bs 0) (T := 23) hm163 11 rfl (al_N rfl) (fun g164 w165 (hm166 : Mm w w165 [(g2, bs a, 23), (g5, bs b, 23), (g8, bs c, 23), (g12, bs 0, 23), (g15, bs 1, 23), (g29, bs ((a * b + 0) % LL), 23), (g32, bs ((b * c + 0) % LL), 23), (g164, bs 0, 23)]) => ?_))
  simp only [List.setIfInBounds_toArray, List.set_cons_zero, List.set_cons_succ]
  refine lst (wanted_none rfl) (m_store 7 23 _ _ (bs ((1 * b + c) % LL)) (old := bs 0) hm166 rfl rfl rfl rfl rfl (by rw [bs_sz]; exact info_b) ((bs_sz _).trans (bs_sz _).symm) (bs_one _) (fun w167 (hm168 : Mm w w167 [(g2, bs a, 23), (g5, bs b, 23), (g8, bs c, 23), (g12, bs 0, 23), (g15, bs 1, 23), (g29, bs ((a * b + 0) % LL), 23), (g32, bs ((b * c + 0) % LL), 23), (g164, bs ((1 * b + c) % LL), 23)]) => ?_))
  refine wpList_nil ?_
  refine then_n (hK161 _ _ ?_)
  refine wp_seq_k (fun K169 hK169 => ?_)
  refine wp_mono (Q := fun e a' w' => e = Exit.normal ∧ ∃ g174 : Nat, a' = ⟨#[.agg (bs a), .agg (bs b), .agg (bs c), .pointer (some ⟨g2, 0, none⟩), .pointer (some ⟨g5, 0, none⟩), .pointer (some ⟨g8, 0, none⟩), .bool false, .pointer (some ⟨g12, 0, none⟩), .pointer (some ⟨g15, 0, none⟩), .pointer (some ⟨g29, 0, none⟩), .pointer (some ⟨g32, 0, none⟩), .pointer (some ⟨g164, 0, none⟩), .pointer (some ⟨g174, 0, none⟩), .bool true, .agg (bs 0), .agg (bs 1), .agg (bs a), .agg (bs b), .agg (bs 0), .agg (bs ((a * b + 0) % LL)), .agg (bs b), .agg (bs c), .agg (bs 0), .agg (bs ((b * c + 0) % LL)), .agg (bs 1), .agg (bs b), .agg (bs c), .agg (bs ((1 * b + c) % LL)), .tuple #[.agg (bs ((a + MM * 0) % LL)), .bool true], .slice (some ⟨g2, 0, none⟩) 32 32, .string (nb a), .slice (some ⟨g12, 0, none⟩) 32 32, .string (nb 0), .string ((nb a) ++ (nb 0)), .tuple #[.agg (bs ((a + MM * 0) % LL)), .bool true], .agg (bs ((a + MM * 0) % LL)), .bool true, undef, undef, undef, undef, undef, undef, undef, undef, undef, undef, undef, undef, undef, undef, undef, undef, undef, undef, undef, undef, undef, undef, undef, undef, undef, undef, undef, undef, undef, undef, undef, undef, undef, undef, undef, undef, undef, undef, undef, undef, undef, undef, undef, undef, undef, undef, undef, undef, undef, undef, undef, undef, undef, undef, undef], []⟩ ∧ Mm w w' [(g2, bs a, 23), (g5, bs b, 23), (g8, bs c, 23), (g12, bs 0, 23), (g15, bs 1, 23), (g29, bs ((a * b + 0) % LL), 23), (g32, bs ((b * c + 0) % LL), 23), (g164, bs ((1 * b + c) % LL), 23), (g174, bs ((a + MM * 0) % LL), 23)]) ?_ ?_
  · have hm170 := hm168.drew
    refine wp_region_held_drew (S := fun w' => Sym.Blk w' g2 (bs a) 23 ∧ Sym.Blk w' g12 (bs 0) 23) (by kernel_rfl) (⟨hm168.at 0 rfl, hm168.at 3 rfl⟩) (fun _ => ?_)
    generalize w167.drew = w171 at *
    refine Sym.take_at 0 29 (.slice (some ⟨g2, 0, none⟩) 32 32) rfl rfl (by kernel_rfl) (by kernel_rfl) (by kernel_rfl) (fun _ _ _ h => nomatch h.1) (wanted_none rfl) (fun _ hw => r_sliceArr g2 32 Try.underlying23 one_u8 rfl rfl) (⟨hm170.at 0 rfl, hm170.at 3 rfl⟩) ?_
    simp only [List.setIfInBounds_toArray, List.set_cons_zero, List.set_cons_succ]
    refine Sym.take_at 1 30 (.string (nb a)) rfl rfl (by kernel_rfl) (by kernel_rfl) (by kernel_rfl) (fun _ _ _ h => nomatch h.1) (wanted_none rfl) (fun _ hw => r_string g2 32 32 (bt a) 23 (fun _ _ => bt_lt _ _) hw.1 Try.underlying31 Try.underlying5 Try.underlying9 rfl rfl) (⟨hm170.at 0 rfl, hm170.at 3 rfl⟩) ?_
    simp only [List.setIfInBounds_toArray, List.set_cons_zero, List.set_cons_succ]
    refine Sym.take_at 2 31 (.slice (some ⟨g12, 0, none⟩) 32 32) rfl rfl (by kernel_rfl) (by kernel_rfl) (by kernel_rfl) (fun _ _ _ h => nomatch h.1) (wanted_none rfl) (fun _ hw => r_sliceArr g12 32 Try.underlying23 one_u8 rfl rfl) (⟨hm170.at 0 rfl, hm170.at 3 rfl⟩) ?_
    simp only [List.setIfInBounds_toArray, List.set_cons_zero, List.set_cons_succ]
    refine Sym.take_at 3 32 (.string (nb 0)) rfl rfl (by kernel_rfl) (by kernel_rfl) (by kernel_rfl) (fun _ _ _ h => nomatch h.1) (wanted_none rfl) (fun _ hw => r_string g12 32 32 (bt 0) 23 (fun _ _ => bt_lt _ _) hw.2 Try.underlying31 Try.underlying5 Try.underlying9 rfl rfl) (⟨hm170.at 0 rfl, hm170.at 3 rfl⟩) ?_
    simp only [List.setIfInBounds_toArray, List.set_cons_zero, List.set_cons_succ]
    refine Sym.take_at 4 33 (.string ((nb a) ++ (nb 0))) rfl rfl (by kernel_rfl) (by kernel_rfl) (by kernel_rfl) (fun _ _ _ h => nomatch h.1) (wanted_none rfl) (fun _ hw => r_cat (nb a) (nb 0) (by rw [nb_size, nb_size]; decide) rfl rfl rfl) (⟨hm170.at 0 rfl, hm170.at 3 rfl⟩) ?_
    simp only [List.setIfInBounds_toArray, List.set_cons_zero, List.set_cons_succ]
    refine two_ready 5 9 (by kernel_rfl) ?_ ?_
    · refine opd rfl (wanted_none rfl) (m_call hm170 34 (.tuple #[.agg (bs ((a + MM * 0) % LL)), .bool true]) rfl (run_Wide rfl rfl) (wide_cat a 0 Ha.out (by decide) _) (fun w172 hm173 => ?_))
      refine ⟨⟨hm173.at 0 rfl, hm173.at 3 rfl⟩, ?_⟩
      simp only [List.setIfInBounds_toArray, List.set_cons_zero, List.set_cons_succ]
      refine Sym.take_at 6 28 (.tuple #[.agg (bs ((a + MM * 0) % LL)), .bool true]) rfl rfl (by kernel_rfl) (by kernel_rfl) (by kernel_rfl) (fun _ _ _ h => nomatch h.1) (wanted_none rfl) (fun _ hw => run_mv rfl rfl) (⟨hm173.at 0 rfl, hm173.at 3 rfl⟩) ?_
      simp only [List.setIfInBounds_toArray, List.set_cons_zero, List.set_cons_succ]
      refine Sym.take_at 7 35 (.agg (bs ((a + MM * 0) % LL))) rfl rfl (by kernel_rfl) (by kernel_rfl) (by kernel_rfl) (fun _ _ _ h => nomatch h.1) (wanted_none rfl) (fun _ hw => run_ex rfl rfl rfl) (⟨hm173.at 0 rfl, hm173.at 3 rfl⟩) ?_
      simp only [List.setIfInBounds_toArray, List.set_cons_zero, List.set_cons_succ]
      refine Sym.take_at 8 36 (.bool true) rfl rfl (by kernel_rfl) (by kernel_rfl) (by kernel_rfl) (fun _ _ _ h => nomatch h.1) (wanted_none rfl) (fun _ hw => run_ex rfl rfl rfl) (⟨hm173.at 0 rfl, hm173.at 3 rfl⟩) ?_
      simp only [List.setIfInBounds_toArray, List.set_cons_zero, List.set_cons_succ]
      refine one_ready 9 (by kernel_rfl) ?_
      refine opd rfl (wanted_none rfl) (m_alloc (c := bs 0) (T := 23) hm173 12 rfl (al_N rfl) (fun g174 w175 (hm176 : Mm w w175 [(g2, bs a, 23), (g5, bs b, 23), (g8, bs c, 23), (g12, bs 0, 23), (g15, bs 1, 23), (g29, bs ((a * b + 0) % LL), 23), (g32, bs ((b * c + 0) % LL), 23), (g164, bs ((1 * b + c) % LL), 23), (g174, bs 0, 23)]) => ?_))
      refine ⟨⟨hm176.at 0 rfl, hm176.at 3 rfl⟩, ?_⟩
      simp only [List.setIfInBounds_toArray, List.set_cons_zero, List.set_cons_succ]
      refine one_ready 10 (by kernel_rfl) ?_
      refine opd rfl (wanted_none rfl) (m_store 8 23 _ _ (bs ((a + MM * 0) % LL)) (old := bs 0) hm176 rfl rfl rfl rfl rfl (by rw [bs_sz]; exact info_b) ((bs_sz _).trans (bs_sz _).symm) (bs_one _) (fun w177 (hm178 : Mm w w177 [(g2, bs a, 23), (g5, bs b, 23), (g8, bs c, 23), (g12, bs 0, 23), (g15, bs 1, 23), (g29, bs ((a * b + 0) % LL), 23), (g32, bs ((b * c + 0) % LL), 23), (g164, bs ((1 * b + c) % LL), 23), (g174, bs ((a + MM * 0) % LL), 23)]) => ?_))
      refine ⟨⟨hm178.at 0 rfl, hm178.at 3 rfl⟩, ?_⟩
      refine one_ready 11 (by kernel_rfl) ?_
      refine opd rfl (wanted_none rfl) (w_value 13 (.bool true) rfl (run_as rfl rfl) ⟨⟨hm178.at 0 rfl, hm178.at 3 rfl⟩, ?_⟩)
      simp only [List.setIfInBounds_toArray, List.set_cons_zero, List.set_cons_succ]
      refine wpAnyH_done (by kernel_rfl) ?_ _
      exact ⟨rfl, g174, rfl, hm178⟩
    · refine opd rfl (wanted_none rfl) (m_alloc (c := bs 0) (T := 23) hm170 12 rfl (al_N rfl) (fun g179 w180 (hm181 : Mm w w180 [(g2, bs a, 23), (g5, bs b, 23), (g8, bs c, 23), (g12, bs 0, 23), (g15, bs 1, 23), (g29, bs ((a * b + 0) % LL), 23), (g32, bs ((b * c + 0) % LL), 23), (g164, bs ((1 * b + c) % LL), 23), (g179, bs 0, 23)]) => ?_))
      refine ⟨⟨hm181.at 0 rfl, hm181.at 3 rfl⟩, ?_⟩
      simp only [List.setIfInBounds_toArray, List.set_cons_zero, List.set_cons_succ]
      refine one_ready 5 (by kernel_rfl) ?_
      refine opd rfl (wanted_none rfl) (m_call hm181 34 (.tuple #[.agg (bs ((a + MM * 0) % LL)), .bool true]) rfl (run_Wide rfl rfl) (wide_cat a 0 Ha.out (by decide) _) (fun w182 hm183 => ?_))
      refine ⟨⟨hm183.at 0 rfl, hm183.at 3 rfl⟩, ?_⟩
      simp only [List.setIfInBounds_toArray, List.set_cons_zero, List.set_cons_succ]
      refine Sym.take_at 6 28 (.tuple #[.agg (bs ((a + MM * 0) % LL)), .bool true]) rfl rfl (by kernel_rfl) (by kernel_rfl) (by kernel_rfl) (fun _ _ _ h => nomatch h.1) (wanted_none rfl) (fun _ hw => run_mv rfl rfl) (⟨hm183.at 0 rfl, hm183.at 3 rfl⟩) ?_
      simp only [List.setIfInBounds_toArray, List.set_cons_zero, List.set_cons_succ]
      refine Sym.take_at 7 35 (.agg (bs ((a + MM * 0) % LL))) rfl rfl (by kernel_rfl) (by kernel_rfl) (by kernel_rfl) (fun _ _ _ h => nomatch h.1) (wanted_none rfl) (fun _ hw => run_ex rfl rfl rfl) (⟨hm183.at 0 rfl, hm183.at 3 rfl⟩) ?_
      simp only [List.setIfInBounds_toArray, List.set_cons_zero, List.set_cons_succ]
      refine Sym.take_at 8 36 (.bool true) rfl rfl (by kernel_rfl) (by kernel_rfl) (by kernel_rfl) (fun _ _ _ h => nomatch h.1) (wanted_none rfl) (fun _ hw => run_ex rfl rfl rfl) (⟨hm183.at 0 rfl, hm183.at 3 rfl⟩) ?_
      simp only [List.setIfInBounds_toArray, List.set_cons_zero, List.set_cons_succ]
      refine one_ready 10 (by kernel_rfl) ?_
      refine opd rfl (wanted_none rfl) (m_store 8 23 _ _ (bs ((a + MM * 0) % LL)) (old := bs 0) hm183 rfl rfl rfl rfl rfl (by rw [bs_sz]; exact info_b) ((bs_sz _).trans (bs_sz _).symm) (bs_one _) (fun w184 (hm185 : Mm w w184 [(g2, bs a, 23), (g5, bs b, 23), (g8, bs c, 23), (g12, bs 0, 23), (g15, bs 1, 23), (g29, bs ((a * b + 0) % LL), 23), (g32, bs ((b * c + 0) % LL), 23), (g164, bs ((1 * b + c) % LL), 23), (g179, bs ((a + MM * 0) % LL), 23)]) => ?_))
      refine ⟨⟨hm185.at 0 rfl, hm185.at 3 rfl⟩, ?_⟩
      refine one_ready 11 (by kernel_rfl) ?_
      refine opd rfl (wanted_none rfl) (w_value 13 (.bool true) rfl (run_as rfl rfl) ⟨⟨hm185.at 0 rfl, hm185.at 3 rfl⟩, ?_⟩)
      simp only [List.setIfInBounds_toArray, List.set_cons_zero, List.set_cons_succ]
      refine wpAnyH_done (by kernel_rfl) ?_ _
      exact ⟨rfl, g179, rfl, hm185⟩
  clear hm168
  rintro _ _ w186 ⟨rfl, g174, rfl, hm187⟩
  refine then_n (hK169 _ _ ?_)
  refine wp_seq_k (fun K188 hK188 => ?_)
  have hm189 := hm187.drew
  refine wp_region_held_drew (S := fun w' => Sym.Blk w' g29 (bs ((a * b + 0) % LL)) 23 ∧ Sym.Blk w' g5 (bs b) 23 ∧ Sym.Blk w' g2 (bs a) 23 ∧ Sym.Blk w' g12 (bs 0) 23 ∧ Sym.Blk w' g8 (bs c) 23 ∧ Sym.Blk w' g32 (bs ((b * c + 0) % LL)) 23 ∧ Sym.Blk w' g164 (bs ((1 * b + c) % LL)) 23 ∧ Sym.Blk w' g174 (bs ((a + MM * 0) % LL)) 23 ∧ Sym.Blk w' g15 (bs 1) 23) (by kernel_rfl) (⟨hm187.at 5 rfl, hm187.at 1 rfl, hm187.at 0 rfl, hm187.at 3 rfl, hm187.at 2 rfl, hm187.at 6 rfl, hm187.at 7 rfl, hm187.at 8 rfl, hm187.at 4 rfl⟩) (fun _ => ?_)
  generalize w186.drew = w190 at *
  refine one_ready 0 (by kernel_rfl) ?_
  refine opd rfl (wanted_none rfl) (m_call hm189 37 (.bool true) rfl (run_awake rfl) (awake_any _) (fun w191 hm192 => ?_))
  refine ⟨⟨hm192.at 5 rfl, hm192.at 1 rfl, hm192.at 0 rfl, hm192.at 3 rfl, hm192.at 2 rfl, hm192.at 6 rfl, hm192.at 7 rfl, hm192.at 8 rfl, hm192.at 4 rfl⟩, ?_⟩
  simp only [List.setIfInBounds_toArray, List.set_cons_zero, List.set_cons_succ]
  refine Sym.take_at 1 38 (.bool true) rfl rfl (by kernel_rfl) (by kernel_rfl) (by kernel_rfl) (fun _ _ _ h => h) (wanted_none rfl) (fun _ hw => run_mv rfl rfl) (⟨hm192.at 5 rfl, hm192.at 1 rfl, hm192.at 0 rfl, hm192.at 3 rfl, hm192.at 2 rfl, hm192.at 6 rfl, hm192.at 7 rfl, hm192.at 8 rfl, hm192.at 4 rfl⟩) ?_
  simp only [List.setIfInBounds_toArray, List.set_cons_zero, List.set_cons_succ]
  refine Sym.take_at 2 39 (.agg (bs ((a * b + 0) % LL))) rfl rfl (by kernel_rfl) (by kernel_rfl) (by kernel_rfl) (fun _ _ _ h => h) rfl (fun _ hw => run_row rfl rfl hw.1 Try.underlying23 rfl (by rw [bs_sz]; exact info_b)) (⟨hm192.at 5 rfl, hm192.at 1 rfl, hm192.at 0 rfl, hm192.at 3 rfl, hm192.at 2 rfl, hm192.at 6 rfl, hm192.at 7 rfl, hm192.at 8 rfl, hm192.at 4 rfl⟩) ?_
  simp only [List.setIfInBounds_toArray, List.set_cons_zero, List.set_cons_succ]
  refine Sym.take_at 3 40 (.agg (bs b)) rfl rfl (by kernel_rfl) (by kernel_rfl) (by kernel_rfl) (fun _ _ _ h => h) rfl (fun _ hw => run_row rfl rfl hw.2.1 Try.underlying23 rfl (by rw [bs_sz]; exact info_b)) (⟨hm192.at 5 rfl, hm192.at 1 rfl, hm192.at 0 rfl, hm192.at 3 rfl, hm192.at 2 rfl, hm192.at 6 rfl, hm192.at 7 rfl, hm192.at 8 rfl, hm192.at 4 rfl⟩) ?_
  simp only [List.setIfInBounds_toArray, List.set_cons_zero, List.set_cons_succ]
  refine Sym.take_at 4 41 (.agg (bs a)) rfl rfl (by kernel_rfl) (by kernel_rfl) (by kernel_rfl) (fun _ _ _ h => h) rfl (fun _ hw => run_row rfl rfl hw.2.2.1 Try.underlying23 rfl (by rw [bs_sz]; exact info_b)) (⟨hm192.at 5 rfl, hm192.at 1 rfl, hm192.at 0 rfl, hm192.at 3 rfl, hm192.at 2 rfl, hm192.at 6 rfl, hm192.at 7 rfl, hm192.at 8 rfl, hm192.at 4 rfl⟩) ?_
  simp only [List.setIfInBounds_toArray, List.set_cons_zero, List.set_cons_succ]
  refine Sym.take_at 5 42 (.agg (bs 0)) rfl rfl (by kernel_rfl) (by kernel_rfl) (by kernel_rfl) (fun _ _ _ h => h) rfl (fun _ hw => run_row rfl rfl hw.2.2.2.1 Try.underlying23 rfl (by rw [bs_sz]; exact info_b)) (⟨hm192.at 5 rfl, hm192.at 1 rfl, hm192.at 0 rfl, hm192.at 3 rfl, hm192.at 2 rfl, hm192.at 6 rfl, hm192.at 7 rfl, hm192.at 8 rfl, hm192.at 4 rfl⟩) ?_
  simp only [List.setIfInBounds_toArray, List.set_cons_zero, List.set_cons_succ]
  refine one_ready 6 (by kernel_rfl) ?_
  refine opd rfl rfl (m_call hm192 43 (.agg (bs ((b * a + 0) % LL))) rfl (run_Fuse rfl rfl rfl rfl) (fuse_any b a 0 Hb.out Ha.out (by decide) _) (fun w193 hm194 => ?_))
  refine ⟨⟨hm194.at 5 rfl, hm194.at 1 rfl, hm194.at 0 rfl, hm194.at 3 rfl, hm194.at 2 rfl, hm194.at 6 rfl, hm194.at 7 rfl, hm194.at 8 rfl, hm194.at 4 rfl⟩, ?_⟩
  simp only [List.setIfInBounds_toArray, List.set_cons_zero, List.set_cons_succ]
  refine Sym.take_at 7 44 (.bool true) rfl rfl (by kernel_rfl) (by kernel_rfl) (by kernel_rfl) (fun _ _ _ h => h) rfl (fun _ hw => run_eqN ((a * b + 0) % LL) ((b * a + 0) % LL) (Nat.lt_trans (Nat.mod_lt _ (by decide)) (by decide)) (Nat.lt_trans (Nat.mod_lt _ (by decide)) (by decide)) true (decide_eq_true F1) rfl rfl rfl) (⟨hm194.at 5 rfl, hm194.at 1 rfl, hm194.at 0 rfl, hm194.at 3 rfl, hm194.at 2 rfl, hm194.at 6 rfl, hm194.at 7 rfl, hm194.at 8 rfl, hm194.at 4 rfl⟩) ?_
  simp only [List.setIfInBounds_toArray, List.set_cons_zero, List.set_cons_succ]
  refine Sym.take_at 8 45 (.bool true) rfl rfl (by kernel_rfl) (by kernel_rfl) (by kernel_rfl) (fun _ _ _ h => h) (wanted_none rfl) (fun _ hw => run_pick rfl rfl rfl) (⟨hm194.at 5 rfl, hm194.at 1 rfl, hm194.at 0 rfl, hm194.at 3 rfl, hm194.at 2 rfl, hm194.at 6 rfl, hm194.at 7 rfl, hm194.at 8 rfl, hm194.at 4 rfl⟩) ?_
  simp only [List.setIfInBounds_toArray, List.set_cons_zero, List.set_cons_succ]
  refine Sym.take_at 9 46 (.bool true) rfl rfl (by kernel_rfl) (by kernel_rfl) (by kernel_rfl) (fun _ _ _ h => h) (wanted_none rfl) (fun _ hw => run_mv rfl rfl) (⟨hm194.at 5 rfl, hm194.at 1 rfl, hm194.at 0 rfl, hm194.at 3 rfl, hm194.at 2 rfl, hm194.at 6 rfl, hm194.at 7 rfl, hm194.at 8 rfl, hm194.at 4 rfl⟩) ?_
  simp only [List.setIfInBounds_toArray, List.set_cons_zero, List.set_cons_succ]
  refine Sym.take_at 10 47 (.agg (bs ((a * b + 0) % LL))) rfl rfl (by kernel_rfl) (by kernel_rfl) (by kernel_rfl) (fun _ _ _ h => h) rfl (fun _ hw => run_row rfl rfl hw.1 Try.underlying23 rfl (by rw [bs_sz]; exact info_b)) (⟨hm194.at 5 rfl, hm194.at 1 rfl, hm194.at 0 rfl, hm194.at 3 rfl, hm194.at 2 rfl, hm194.at 6 rfl, hm194.at 7 rfl, hm194.at 8 rfl, hm194.at 4 rfl⟩) ?_
  simp only [List.setIfInBounds_toArray, List.set_cons_zero, List.set_cons_succ]
  refine Sym.take_at 11 48 (.agg (bs c)) rfl rfl (by kernel_rfl) (by kernel_rfl) (by kernel_rfl) (fun _ _ _ h => h) rfl (fun _ hw => run_row rfl rfl hw.2.2.2.2.1 Try.underlying23 rfl (by rw [bs_sz]; exact info_b)) (⟨hm194.at 5 rfl, hm194.at 1 rfl, hm194.at 0 rfl, hm194.at 3 rfl, hm194.at 2 rfl, hm194.at 6 rfl, hm194.at 7 rfl, hm194.at 8 rfl, hm194.at 4 rfl⟩) ?_
  simp only [List.setIfInBounds_toArray, List.set_cons_zero, List.set_cons_succ]
  refine Sym.take_at 12 49 (.agg (bs 0)) rfl rfl (by kernel_rfl) (by kernel_rfl) (by kernel_rfl) (fun _ _ _ h => h) rfl (fun _ hw => run_row rfl rfl hw.2.2.2.1 Try.underlying23 rfl (by rw [bs_sz]; exact info_b)) (⟨hm194.at 5 rfl, hm194.at 1 rfl, hm194.at 0 rfl, hm194.at 3 rfl, hm194.at 2 rfl, hm194.at 6 rfl, hm194.at 7 rfl, hm194.at 8 rfl, hm194.at 4 rfl⟩) ?_
  simp only [List.setIfInBounds_toArray, List.set_cons_zero, List.set_cons_succ]
  refine Sym.take_at 14 51 (.agg (bs a)) rfl rfl (by kernel_rfl) (by kernel_rfl) (by kernel_rfl) (fun _ _ _ h => h) rfl (fun _ hw => run_row rfl rfl hw.2.2.1 Try.underlying23 rfl (by rw [bs_sz]; exact info_b)) (⟨hm194.at 5 rfl, hm194.at 1 rfl, hm194.at 0 rfl, hm194.at 3 rfl, hm194.at 2 rfl, hm194.at 6 rfl, hm194.at 7 rfl, hm194.at 8 rfl, hm194.at 4 rfl⟩) ?_
  simp only [List.setIfInBounds_toArray, List.set_cons_zero, List.set_cons_succ]
  refine Sym.take_at 15 52 (.agg (bs ((b * c + 0) % LL))) rfl rfl (by kernel_rfl) (by kernel_rfl) (by kernel_rfl) (fun _ _ _ h => h) rfl (fun _ hw => run_row rfl rfl hw.2.2.2.2.2.1 Try.underlying23 rfl (by rw [bs_sz]; exact info_b)) (⟨hm194.at 5 rfl, hm194.at 1 rfl, hm194.at 0 rfl, hm194.at 3 rfl, hm194.at 2 rfl, hm194.at 6 rfl, hm194.at 7 rfl, hm194.at 8 rfl, hm194.at 4 rfl⟩) ?_
  simp only [List.setIfInBounds_toArray, List.set_cons_zero, List.set_cons_succ]
  refine Sym.take_at 16 53 (.agg (bs 0)) rfl rfl (by kernel_rfl) (by kernel_rfl) (by kernel_rfl) (fun _ _ _ h => h) rfl (fun _ hw => run_row rfl rfl hw.2.2.2.1 Try.underlying23 rfl (by rw [bs_sz]; exact info_b)) (⟨hm194.at 5 rfl, hm194.at 1 rfl, hm194.at 0 rfl, hm194.at 3 rfl, hm194.at 2 rfl, hm194.at 6 rfl, hm194.at 7 rfl, hm194.at 8 rfl, hm194.at 4 rfl⟩) ?_
  simp only [List.setIfInBounds_toArray, List.set_cons_zero, List.set_cons_succ]
  refine one_ready 13 (by kernel_rfl) ?_
  refine opd rfl rfl (m_call hm194 50 (.agg (bs ((((a * b + 0) % LL) * c + 0) % LL))) rfl (run_Fuse rfl rfl rfl rfl) (fuse_any ((a * b + 0) % LL) c 0 (Nat.lt_trans (Nat.mod_lt _ (by decide)) (by decide)) Hc.out (by decide) _) (fun w195 hm196 => ?_))
  refine ⟨⟨hm196.at 5 rfl, hm196.at 1 rfl, hm196.at 0 rfl, hm196.at 3 rfl, hm196.at 2 rfl, hm196.at 6 rfl, hm196.at 7 rfl, hm196.at 8 rfl, hm196.at 4 rfl⟩, ?_⟩
  simp only [List.setIfInBounds_toArray, List.set_cons_zero, List.set_cons_succ]
  refine one_ready 17 (by kernel_rfl) ?_
  refine opd rfl rfl (m_call hm196 54 (.agg (bs ((a * ((b * c + 0) % LL) + 0) % LL))) rfl (run_Fuse rfl rfl rfl rfl) (fuse_any a ((b * c + 0) % LL) 0 Ha.out (Nat.lt_trans (Nat.mod_lt _ (by decide)) (by decide)) (by decide) _) (fun w197 hm198 => ?_))
  refine ⟨⟨hm198.at 5 rfl, hm198.at 1 rfl, hm198.at 0 rfl, hm198.at 3 rfl, hm198.at 2 rfl, hm198.at 6 rfl, hm198.at 7 rfl, hm198.at 8 rfl, hm198.at 4 rfl⟩, ?_⟩
  simp only [List.setIfInBounds_toArray, List.set_cons_zero, List.set_cons_succ]
  refine Sym.take_at 18 55 (.bool true) rfl rfl (by kernel_rfl) (by kernel_rfl) (by kernel_rfl) (fun _ _ _ h => h) rfl (fun _ hw => run_eqN ((((a * b + 0) % LL) * c + 0) % LL) ((a * ((b * c + 0) % LL) + 0) % LL) (Nat.lt_trans (Nat.mod_lt _ (by decide)) (by decide)) (Nat.lt_trans (Nat.mod_lt _ (by decide)) (by decide)) true (decide_eq_true F2) rfl rfl rfl) (⟨hm198.at 5 rfl, hm198.at 1 rfl, hm198.at 0 rfl, hm198.at 3 rfl, hm198.at 2 rfl, hm198.at 6 rfl, hm198.at 7 rfl, hm198.at 8 rfl, hm198.at 4 rfl⟩) ?_
  simp only [List.setIfInBounds_toArray, List.set_cons_zero, List.set_cons_succ]
  refine Sym.take_at 19 56 (.bool true) rfl rfl (by kernel_rfl) (by kernel_rfl) (by kernel_rfl) (fun _ _ _ h => h) (wanted_none rfl) (fun _ hw => run_pick rfl rfl rfl) (⟨hm198.at 5 rfl, hm198.at 1 rfl, hm198.at 0 rfl, hm198.at 3 rfl, hm198.at 2 rfl, hm198.at 6 rfl, hm198.at 7 rfl, hm198.at 8 rfl, hm198.at 4 rfl⟩) ?_
  simp only [List.setIfInBounds_toArray, List.set_cons_zero, List.set_cons_succ]
  refine Sym.take_at 20 57 (.bool true) rfl rfl (by kernel_rfl) (by kernel_rfl) (by kernel_rfl) (fun _ _ _ h => h) (wanted_none rfl) (fun _ hw => run_mv rfl rfl) (⟨hm198.at 5 rfl, hm198.at 1 rfl, hm198.at 0 rfl, hm198.at 3 rfl, hm198.at 2 rfl, hm198.at 6 rfl, hm198.at 7 rfl, hm198.at 8 rfl, hm198.at 4 rfl⟩) ?_
  simp only [List.setIfInBounds_toArray, List.set_cons_zero, List.set_cons_succ]
  refine Sym.take_at 21 58 (.agg (bs a)) rfl rfl (by kernel_rfl) (by kernel_rfl) (by kernel_rfl) (fun _ _ _ h => h) rfl (fun _ hw => run_row rfl rfl hw.2.2.1 Try.underlying23 rfl (by rw [bs_sz]; exact info_b)) (⟨hm198.at 5 rfl, hm198.at 1 rfl, hm198.at 0 rfl, hm198.at 3 rfl, hm198.at 2 rfl, hm198.at 6 rfl, hm198.at 7 rfl, hm198.at 8 rfl, hm198.at 4 rfl⟩) ?_
  simp only [List.setIfInBounds_toArray, List.set_cons_zero, List.set_cons_succ]
  refine Sym.take_at 22 59 (.agg (bs ((1 * b + c) % LL))) rfl rfl (by kernel_rfl) (by kernel_rfl) (by kernel_rfl) (fun _ _ _ h => h) rfl (fun _ hw => run_row rfl rfl hw.2.2.2.2.2.2.1 Try.underlying23 rfl (by rw [bs_sz]; exact info_b)) (⟨hm198.at 5 rfl, hm198.at 1 rfl, hm198.at 0 rfl, hm198.at 3 rfl, hm198.at 2 rfl, hm198.at 6 rfl, hm198.at 7 rfl, hm198.at 8 rfl, hm198.at 4 rfl⟩) ?_
  simp only [List.setIfInBounds_toArray, List.set_cons_zero, List.set_cons_succ]
  refine Sym.take_at 23 60 (.agg (bs 0)) rfl rfl (by kernel_rfl) (by kernel_rfl) (by kernel_rfl) (fun _ _ _ h => h) rfl (fun _ hw => run_row rfl rfl hw.2.2.2.1 Try.underlying23 rfl (by rw [bs_sz]; exact info_b)) (⟨hm198.at 5 rfl, hm198.at 1 rfl, hm198.at 0 rfl, hm198.at 3 rfl, hm198.at 2 rfl, hm198.at 6 rfl, hm198.at 7 rfl, hm198.at 8 rfl, hm198.at 4 rfl⟩) ?_
  simp only [List.setIfInBounds_toArray, List.set_cons_zero, List.set_cons_succ]
  refine Sym.take_at 25 62 (.agg (bs a)) rfl rfl (by kernel_rfl) (by kernel_rfl) (by kernel_rfl) (fun _ _ _ h => h) rfl (fun _ hw => run_row rfl rfl hw.2.2.1 Try.underlying23 rfl (by rw [bs_sz]; exact info_b)) (⟨hm198.at 5 rfl, hm198.at 1 rfl, hm198.at 0 rfl, hm198.at 3 rfl, hm198.at 2 rfl, hm198.at 6 rfl, hm198.at 7 rfl, hm198.at 8 rfl, hm198.at 4 rfl⟩) ?_
  simp only [List.setIfInBounds_toArray, List.set_cons_zero, List.set_cons_succ]
  refine Sym.take_at 26 63 (.agg (bs b)) rfl rfl (by kernel_rfl) (by kernel_rfl) (by kernel_rfl) (fun _ _ _ h => h) rfl (fun _ hw => run_row rfl rfl hw.2.1 Try.underlying23 rfl (by rw [bs_sz]; exact info_b)) (⟨hm198.at 5 rfl, hm198.at 1 rfl, hm198.at 0 rfl, hm198.at 3 rfl, hm198.at 2 rfl, hm198.at 6 rfl, hm198.at 7 rfl, hm198.at 8 rfl, hm198.at 4 rfl⟩) ?_
  simp only [List.setIfInBounds_toArray, List.set_cons_zero, List.set_cons_succ]
  refine Sym.take_at 27 64 (.agg (bs a)) rfl rfl (by kernel_rfl) (by kernel_rfl) (by kernel_rfl) (fun _ _ _ h => h) rfl (fun _ hw => run_row rfl rfl hw.2.2.1 Try.underlying23 rfl (by rw [bs_sz]; exact info_b)) (⟨hm198.at 5 rfl, hm198.at 1 rfl, hm198.at 0 rfl, hm198.at 3 rfl, hm198.at 2 rfl, hm198.at 6 rfl, hm198.at 7 rfl, hm198.at 8 rfl, hm198.at 4 rfl⟩) ?_
  simp only [List.setIfInBounds_toArray, List.set_cons_zero, List.set_cons_succ]
  refine Sym.take_at 28 65 (.agg (bs c)) rfl rfl (by kernel_rfl) (by kernel_rfl) (by kernel_rfl) (fun _ _ _ h => h) rfl (fun _ hw => run_row rfl rfl hw.2.2.2.2.1 Try.underlying23 rfl (by rw [bs_sz]; exact info_b)) (⟨hm198.at 5 rfl, hm198.at 1 rfl, hm198.at 0 rfl, hm198.at 3 rfl, hm198.at 2 rfl, hm198.at 6 rfl, hm198.at 7 rfl, hm198.at 8 rfl, hm198.at 4 rfl⟩) ?_
  simp only [List.setIfInBounds_toArray, List.set_cons_zero, List.set_cons_succ]
  refine Sym.take_at 29 66 (.agg (bs 0)) rfl rfl (by kernel_rfl) (by kernel_rfl) (by kernel_rfl) (fun _ _ _ h => h) rfl (fun _ hw => run_row rfl rfl hw.2.2.2.1 Try.underlying23 rfl (by rw [bs_sz]; exact info_b)) (⟨hm198.at 5 rfl, hm198.at 1 rfl, hm198.at 0 rfl, hm198.at 3 rfl, hm198.at 2 rfl, hm198.at 6 rfl, hm198.at 7 rfl, hm198.at 8 rfl, hm198.at 4 rfl⟩) ?_
  simp only [List.setIfInBounds_toArray, List.set_cons_zero, List.set_cons_succ]
  refine one_ready 24 (by kernel_rfl) ?_
  refine opd rfl rfl (m_call hm198 61 (.agg (bs ((a * ((1 * b + c) % LL) + 0) % LL))) rfl (run_Fuse rfl rfl rfl rfl) (fuse_any a ((1 * b + c) % LL) 0 Ha.out (Nat.lt_trans (Nat.mod_lt _ (by decide)) (by decide)) (by decide) _) (fun w199 hm200 => ?_))
  refine ⟨⟨hm200.at 5 rfl, hm200.at 1 rfl, hm200.at 0 rfl, hm200.at 3 rfl, hm200.at 2 rfl, hm200.at 6 rfl, hm200.at 7 rfl, hm200.at 8 rfl, hm200.at 4 rfl⟩, ?_⟩
  simp only [List.setIfInBounds_toArray, List.set_cons_zero, List.set_cons_succ]
  refine one_ready 30 (by kernel_rfl) ?_
  refine opd rfl rfl (m_call hm200 67 (.agg (bs ((a * c + 0) % LL))) rfl (run_Fuse rfl rfl rfl rfl) (fuse_any a c 0 Ha.out Hc.out (by decide) _) (fun w201 hm202 => ?_))
  refine ⟨⟨hm202.at 5 rfl, hm202.at 1 rfl, hm202.at 0 rfl, hm202.at 3 rfl, hm202.at 2 rfl, hm202.at 6 rfl, hm202.at 7 rfl, hm202.at 8 rfl, hm202.at 4 rfl⟩, ?_⟩
  simp only [List.setIfInBounds_toArray, List.set_cons_zero, List.set_cons_succ]
  refine one_ready 31 (by kernel_rfl) ?_
  refine opd rfl rfl (m_call hm202 68 (.agg (bs ((a * b + ((a * c + 0) % LL)) % LL))) rfl (run_Fuse rfl rfl rfl rfl) (fuse_any a b ((a * c + 0) % LL) Ha.out Hb.out (Nat.lt_trans (Nat.mod_lt _ (by decide)) (by decide)) _) (fun w203 hm204 => ?_))
  refine ⟨⟨hm204.at 5 rfl, hm204.at 1 rfl, hm204.at 0 rfl, hm204.at 3 rfl, hm204.at 2 rfl, hm204.at 6 rfl, hm204.at 7 rfl, hm204.at 8 rfl, hm204.at 4 rfl⟩, ?_⟩
  simp only [List.setIfInBounds_toArray, List.set_cons_zero, List.set_cons_succ]
  refine Sym.take_at 32 69 (.bool true) rfl rfl (by kernel_rfl) (by kernel_rfl) (by kernel_rfl) (fun _ _ _ h => h) rfl (fun _ hw => run_eqN ((a * ((1 * b + c) % LL) + 0) % LL) ((a * b + ((a * c + 0) % LL)) % LL) (Nat.lt_trans (Nat.mod_lt _ (by decide)) (by decide)) (Nat.lt_trans (Nat.mod_lt _ (by decide)) (by decide)) true (decide_eq_true F3) rfl rfl rfl) (⟨hm204.at 5 rfl, hm204.at 1 rfl, hm204.at 0 rfl, hm204.at 3 rfl, hm204.at 2 rfl, hm204.at 6 rfl, hm204.at 7 rfl, hm204.at 8 rfl, hm204.at 4 rfl⟩) ?_
  simp only [List.setIfInBounds_toArray, List.set_cons_zero, List.set_cons_succ]
  refine Sym.take_at 33 70 (.bool true) rfl rfl (by kernel_rfl) (by kernel_rfl) (by kernel_rfl) (fun _ _ _ h => h) (wanted_none rfl) (fun _ hw => run_pick rfl rfl rfl) (⟨hm204.at 5 rfl, hm204.at 1 rfl, hm204.at 0 rfl, hm204.at 3 rfl, hm204.at 2 rfl, hm204.at 6 rfl, hm204.at 7 rfl, hm204.at 8 rfl, hm204.at 4 rfl⟩) ?_
  simp only [List.setIfInBounds_toArray, List.set_cons_zero, List.set_cons_succ]
  refine Sym.take_at 34 71 (.bool true) rfl rfl (by kernel_rfl) (by kernel_rfl) (by kernel_rfl) (fun _ _ _ h => h) (wanted_none rfl) (fun _ hw => run_mv rfl rfl) (⟨hm204.at 5 rfl, hm204.at 1 rfl, hm204.at 0 rfl, hm204.at 3 rfl, hm204.at 2 rfl, hm204.at 6 rfl, hm204.at 7 rfl, hm204.at 8 rfl, hm204.at 4 rfl⟩) ?_
  simp only [List.setIfInBounds_toArray, List.set_cons_zero, List.set_cons_succ]
  refine Sym.take_at 35 72 (.bool true) rfl rfl (by kernel_rfl) (by kernel_rfl) (by kernel_rfl) (fun _ _ _ h => h) rfl (fun _ hw => run_mv rfl rfl) (⟨hm204.at 5 rfl, hm204.at 1 rfl, hm204.at 0 rfl, hm204.at 3 rfl, hm204.at 2 rfl, hm204.at 6 rfl, hm204.at 7 rfl, hm204.at 8 rfl, hm204.at 4 rfl⟩) ?_
  simp only [List.setIfInBounds_toArray, List.set_cons_zero, List.set_cons_succ]
  refine Sym.take_at 36 73 (.bool true) rfl rfl (by kernel_rfl) (by kernel_rfl) (by kernel_rfl) (fun _ _ _ h => h) (wanted_none rfl) (fun _ hw => run_pick rfl rfl rfl) (⟨hm204.at 5 rfl, hm204.at 1 rfl, hm204.at 0 rfl, hm204.at 3 rfl, hm204.at 2 rfl, hm204.at 6 rfl, hm204.at 7 rfl, hm204.at 8 rfl, hm204.at 4 rfl⟩) ?_
  simp only [List.setIfInBounds_toArray, List.set_cons_zero, List.set_cons_succ]
  refine Sym.take_at 37 74 (.bool true) rfl rfl (by kernel_rfl) (by kernel_rfl) (by kernel_rfl) (fun _ _ _ h => h) (wanted_none rfl) (fun _ hw => run_mv rfl rfl) (⟨hm204.at 5 rfl, hm204.at 1 rfl, hm204.at 0 rfl, hm204.at 3 rfl, hm204.at 2 rfl, hm204.at 6 rfl, hm204.at 7 rfl, hm204.at 8 rfl, hm204.at 4 rfl⟩) ?_
  simp only [List.setIfInBounds_toArray, List.set_cons_zero, List.set_cons_succ]
  refine Sym.take_at 38 75 (.agg (bs ((a + MM * 0) % LL))) rfl rfl (by kernel_rfl) (by kernel_rfl) (by kernel_rfl) (fun _ _ _ h => h) rfl (fun _ hw => run_row rfl rfl hw.2.2.2.2.2.2.2.1 Try.underlying23 rfl (by rw [bs_sz]; exact info_b)) (⟨hm204.at 5 rfl, hm204.at 1 rfl, hm204.at 0 rfl, hm204.at 3 rfl, hm204.at 2 rfl, hm204.at 6 rfl, hm204.at 7 rfl, hm204.at 8 rfl, hm204.at 4 rfl⟩) ?_
  simp only [List.setIfInBounds_toArray, List.set_cons_zero, List.set_cons_succ]
  refine Sym.take_at 39 76 (.agg (bs a)) rfl rfl (by kernel_rfl) (by kernel_rfl) (by kernel_rfl) (fun _ _ _ h => h) rfl (fun _ hw => run_row rfl rfl hw.2.2.1 Try.underlying23 rfl (by rw [bs_sz]; exact info_b)) (⟨hm204.at 5 rfl, hm204.at 1 rfl, hm204.at 0 rfl, hm204.at 3 rfl, hm204.at 2 rfl, hm204.at 6 rfl, hm204.at 7 rfl, hm204.at 8 rfl, hm204.at 4 rfl⟩) ?_
  simp only [List.setIfInBounds_toArray, List.set_cons_zero, List.set_cons_succ]
  refine Sym.take_at 40 77 (.agg (bs 1)) rfl rfl (by kernel_rfl) (by kernel_rfl) (by kernel_rfl) (fun _ _ _ h => h) rfl (fun _ hw => run_row rfl rfl hw.2.2.2.2.2.2.2.2 Try.underlying23 rfl (by rw [bs_sz]; exact info_b)) (⟨hm204.at 5 rfl, hm204.at 1 rfl, hm204.at 0 rfl, hm204.at 3 rfl, hm204.at 2 rfl, hm204.at 6 rfl, hm204.at 7 rfl, hm204.at 8 rfl, hm204.at 4 rfl⟩) ?_
  simp only [List.setIfInBounds_toArray, List.set_cons_zero, List.set_cons_succ]
  refine Sym.take_at 41 78 (.agg (bs 0)) rfl rfl (by kernel_rfl) (by kernel_rfl) (by kernel_rfl) (fun _ _ _ h => h) rfl (fun _ hw => run_row rfl rfl hw.2.2.2.1 Try.underlying23 rfl (by rw [bs_sz]; exact info_b)) (⟨hm204.at 5 rfl, hm204.at 1 rfl, hm204.at 0 rfl, hm204.at 3 rfl, hm204.at 2 rfl, hm204.at 6 rfl, hm204.at 7 rfl, hm204.at 8 rfl, hm204.at 4 rfl⟩) ?_
  simp only [List.setIfInBounds_toArray, List.set_cons_zero, List.set_cons_succ]
  refine one_ready 42 (by kernel_rfl) ?_
  refine opd rfl rfl (m_call hm204 79 (.agg (bs ((a * 1 + 0) % LL))) rfl (run_Fuse rfl rfl rfl rfl) (fuse_any a 1 0 Ha.out (by decide) (by decide) _) (fun w205 hm206 => ?_))
  refine ⟨⟨hm206.at 5 rfl, hm206.at 1 rfl, hm206.at 0 rfl, hm206.at 3 rfl, hm206.at 2 rfl, hm206.at 6 rfl, hm206.at 7 rfl, hm206.at 8 rfl, hm206.at 4 rfl⟩, ?_⟩
  simp only [List.setIfInBounds_toArray, List.set_cons_zero, List.set_cons_succ]
  refine Sym.take_at 43 80 (.bool true) rfl rfl (by kernel_rfl) (by kernel_rfl) (by kernel_rfl) (fun _ _ _ h => h) rfl (fun _ hw => run_eqN ((a + MM * 0) % LL) ((a * 1 + 0) % LL) (Nat.lt_trans (Nat.mod_lt _ (by decide)) (by decide)) (Nat.lt_trans (Nat.mod_lt _ (by decide)) (by decide)) true (decide_eq_true F4) rfl rfl rfl) (⟨hm206.at 5 rfl, hm206.at 1 rfl, hm206.at 0 rfl, hm206.at 3 rfl, hm206.at 2 rfl, hm206.at 6 rfl, hm206.at 7 rfl, hm206.at 8 rfl, hm206.at 4 rfl⟩) ?_
  simp only [List.setIfInBounds_toArray, List.set_cons_zero, List.set_cons_succ]
  refine Sym.take_at 44 81 (.bool true) rfl rfl (by kernel_rfl) (by kernel_rfl) (by kernel_rfl) (fun _ _ _ h => h) (wanted_none rfl) (fun _ hw => run_pick rfl rfl rfl) (⟨hm206.at 5 rfl, hm206.at 1 rfl, hm206.at 0 rfl, hm206.at 3 rfl, hm206.at 2 rfl, hm206.at 6 rfl, hm206.at 7 rfl, hm206.at 8 rfl, hm206.at 4 rfl⟩) ?_
  simp only [List.setIfInBounds_toArray, List.set_cons_zero, List.set_cons_succ]
  refine Sym.take_at 45 82 (.bool true) rfl rfl (by kernel_rfl) (by kernel_rfl) (by kernel_rfl) (fun _ _ _ h => h) (wanted_none rfl) (fun _ hw => run_mv rfl rfl) (⟨hm206.at 5 rfl, hm206.at 1 rfl, hm206.at 0 rfl, hm206.at 3 rfl, hm206.at 2 rfl, hm206.at 6 rfl, hm206.at 7 rfl, hm206.at 8 rfl, hm206.at 4 rfl⟩) ?_
  simp only [List.setIfInBounds_toArray, List.set_cons_zero, List.set_cons_succ]
  refine Sym.take_at 46 83 (.agg (bs a)) rfl rfl (by kernel_rfl) (by kernel_rfl) (by kernel_rfl) (fun _ _ _ h => h) rfl (fun _ hw => run_row rfl rfl hw.2.2.1 Try.underlying23 rfl (by rw [bs_sz]; exact info_b)) (⟨hm206.at 5 rfl, hm206.at 1 rfl, hm206.at 0 rfl, hm206.at 3 rfl, hm206.at 2 rfl, hm206.at 6 rfl, hm206.at 7 rfl, hm206.at 8 rfl, hm206.at 4 rfl⟩) ?_
  simp only [List.setIfInBounds_toArray, List.set_cons_zero, List.set_cons_succ]
  refine one_ready 47 (by kernel_rfl) ?_
  refine opd rfl rfl (m_call hm206 84 (.bool true) rfl (run_Canon rfl rfl) (canon_true a hl.out _) (fun w207 hm208 => ?_))
  refine ⟨⟨hm208.at 5 rfl, hm208.at 1 rfl, hm208.at 0 rfl, hm208.at 3 rfl, hm208.at 2 rfl, hm208.at 6 rfl, hm208.at 7 rfl, hm208.at 8 rfl, hm208.at 4 rfl⟩, ?_⟩
  simp only [List.setIfInBounds_toArray, List.set_cons_zero, List.set_cons_succ]
  refine Sym.take_at 48 85 (.bool false) rfl rfl (by kernel_rfl) (by kernel_rfl) (by kernel_rfl) (fun _ _ _ h => h) rfl (fun _ hw => r_not true rfl rfl) (⟨hm208.at 5 rfl, hm208.at 1 rfl, hm208.at 0 rfl, hm208.at 3 rfl, hm208.at 2 rfl, hm208.at 6 rfl, hm208.at 7 rfl, hm208.at 8 rfl, hm208.at 4 rfl⟩) ?_
  simp only [List.setIfInBounds_toArray, List.set_cons_zero, List.set_cons_succ]
  refine Sym.take_at 49 86 (.bool false) rfl rfl (by kernel_rfl) (by kernel_rfl) (by kernel_rfl) (fun _ _ _ h => h) rfl (fun _ hw => run_mv rfl rfl) (⟨hm208.at 5 rfl, hm208.at 1 rfl, hm208.at 0 rfl, hm208.at 3 rfl, hm208.at 2 rfl, hm208.at 6 rfl, hm208.at 7 rfl, hm208.at 8 rfl, hm208.at 4 rfl⟩) ?_
  simp only [List.setIfInBounds_toArray, List.set_cons_zero, List.set_cons_succ]
  refine Sym.take_at 50 87 (.agg (bs ((a + MM * 0) % LL))) rfl rfl (by kernel_rfl) (by kernel_rfl) (by kernel_rfl) (fun _ _ _ h => h) rfl (fun _ hw => run_row rfl rfl hw.2.2.2.2.2.2.2.1 Try.underlying23 rfl (by rw [bs_sz]; exact info_b)) (⟨hm208.at 5 rfl, hm208.at 1 rfl, hm208.at 0 rfl, hm208.at 3 rfl, hm208.at 2 rfl, hm208.at 6 rfl, hm208.at 7 rfl, hm208.at 8 rfl, hm208.at 4 rfl⟩) ?_
  simp only [List.setIfInBounds_toArray, List.set_cons_zero, List.set_cons_succ]
  refine Sym.take_at 51 88 (.agg (bs a)) rfl rfl (by kernel_rfl) (by kernel_rfl) (by kernel_rfl) (fun _ _ _ h => h) rfl (fun _ hw => run_row rfl rfl hw.2.2.1 Try.underlying23 rfl (by rw [bs_sz]; exact info_b)) (⟨hm208.at 5 rfl, hm208.at 1 rfl, hm208.at 0 rfl, hm208.at 3 rfl, hm208.at 2 rfl, hm208.at 6 rfl, hm208.at 7 rfl, hm208.at 8 rfl, hm208.at 4 rfl⟩) ?_
  simp only [List.setIfInBounds_toArray, List.set_cons_zero, List.set_cons_succ]
  refine Sym.take_at 52 89 (.bool true) rfl rfl (by kernel_rfl) (by kernel_rfl) (by kernel_rfl) (fun _ _ _ h => h) rfl (fun _ hw => run_eqN ((a + MM * 0) % LL) a (Nat.lt_trans (Nat.mod_lt _ (by decide)) (by decide)) Ha.out true (decide_eq_true F5) rfl rfl rfl) (⟨hm208.at 5 rfl, hm208.at 1 rfl, hm208.at 0 rfl, hm208.at 3 rfl, hm208.at 2 rfl, hm208.at 6 rfl, hm208.at 7 rfl, hm208.at 8 rfl, hm208.at 4 rfl⟩) ?_
  simp only [List.setIfInBounds_toArray, List.set_cons_zero, List.set_cons_succ]
  refine Sym.take_at 53 90 (.bool true) rfl rfl (by kernel_rfl) (by kernel_rfl) (by kernel_rfl) (fun _ _ _ h => h) rfl (fun _ hw => run_pickf rfl rfl rfl) (⟨hm208.at 5 rfl, hm208.at 1 rfl, hm208.at 0 rfl, hm208.at 3 rfl, hm208.at 2 rfl, hm208.at 6 rfl, hm208.at 7 rfl, hm208.at 8 rfl, hm208.at 4 rfl⟩) ?_
  simp only [List.setIfInBounds_toArray, List.set_cons_zero, List.set_cons_succ]
  refine Sym.take_at 54 91 (.bool true) rfl rfl (by kernel_rfl) (by kernel_rfl) (by kernel_rfl) (fun _ _ _ h => h) (wanted_none rfl) (fun _ hw => run_pick rfl rfl rfl) (⟨hm208.at 5 rfl, hm208.at 1 rfl, hm208.at 0 rfl, hm208.at 3 rfl, hm208.at 2 rfl, hm208.at 6 rfl, hm208.at 7 rfl, hm208.at 8 rfl, hm208.at 4 rfl⟩) ?_
  simp only [List.setIfInBounds_toArray, List.set_cons_zero, List.set_cons_succ]
  refine one_ready 55 (by kernel_rfl) ?_
  refine opd rfl (wanted_none rfl) (w_value 6 (.bool true) rfl (run_as rfl rfl) ⟨⟨hm208.at 5 rfl, hm208.at 1 rfl, hm208.at 0 rfl, hm208.at 3 rfl, hm208.at 2 rfl, hm208.at 6 rfl, hm208.at 7 rfl, hm208.at 8 rfl, hm208.at 4 rfl⟩, ?_⟩)
  simp only [List.setIfInBounds_toArray, List.set_cons_zero, List.set_cons_succ]
  refine wpAnyH_done (by kernel_rfl) ?_ _
  refine then_n (hK188 _ _ ?_)
  refine wp_ret ?_
  exact ⟨rfl, .bool true, res_t rfl rfl, ⟨rfl, hm208.below⟩⟩
set_option maxHeartbeats 4000000 in
set_option maxRecDepth 100000 in
theorem walk_no (a : Nat) (ha : a < MM) (b : Nat) (hb : b < MM) (c : Nat) (hc : c < MM) (hl : Hid (¬ a < LL)) (w : World) : Calls Try.prog 5 #[.agg (bs a), .agg (bs b), .agg (bs c)] w (fun e w' => e = .returned (.bool true) ∧ Below w.heap.size w w') := by
  have F1 : ((a * b + 0) % LL) = ((b * a + 0) % LL) := by
    simp only [Nat.add_zero]; rw [Nat.mul_comm]
  have F2 : ((((a * b + 0) % LL) * c + 0) % LL) = ((a * ((b * c + 0) % LL) + 0) % LL) := by
    simp only [Nat.add_zero]; rw [Nat.mod_mul_mod, Nat.mul_mod_mod, Nat.mul_assoc]
  have F3 : ((a * ((1 * b + c) % LL) + 0) % LL) = ((a * b + ((a * c + 0) % LL)) % LL) := by
    simp only [Nat.add_zero, Nat.one_mul, Nat.mul_mod_mod, Nat.add_mod_mod, Nat.mul_add]
  have F4 : ((a + MM * 0) % LL) = ((a * 1 + 0) % LL) := by
    simp only [Nat.add_zero, Nat.mul_one, Nat.mul_zero]
  have Ha := Lib.hid ha
  have Hb := Lib.hid hb
  have Hc := Lib.hid hc
  clear ha
  clear hb
  clear hc
  go_enter Try.func5, Try.ntmps5
  have hm0 := Mm.nil w
  refine wp_seq_k (fun K1 hK1 => ?_)
  refine wp_region_lit ?_
  refine lst (wanted_none rfl) (m_alloc (c := bs a) (T := 23) hm0 3 rfl (run_box rfl rfl) (fun g2 w3 (hm4 : Mm w w3 [(g2, bs a, 23)]) => ?_))
  simp only [List.setIfInBounds_toArray, List.set_cons_zero, List.set_cons_succ]
  refine lst (wanted_none rfl) (m_alloc (c := bs b) (T := 23) hm4 4 rfl (run_box rfl rfl) (fun g5 w6 (hm7 : Mm w w6 [(g2, bs a, 23), (g5, bs b, 23)]) => ?_))
  simp only [List.setIfInBounds_toArray, List.set_cons_zero, List.set_cons_succ]
  refine lst (wanted_none rfl) (m_alloc (c := bs c) (T := 23) hm7 5 rfl (run_box rfl rfl) (fun g8 w9 (hm10 : Mm w w9 [(g2, bs a, 23), (g5, bs b, 23), (g8, bs c, 23)]) => ?_))
  simp only [List.setIfInBounds_toArray, List.set_cons_zero, List.set_cons_succ]
  refine lst (wanted_none rfl) (w_value 6 (.bool false) rfl (run_as rfl rfl) ?_)
  simp only [List.setIfInBounds_toArray, List.set_cons_zero, List.set_cons_succ]
  refine wpList_nil ?_
  refine then_n (hK1 _ _ ?_)
  refine wp_seq_k (fun K11 hK11 => ?_)
  refine wp_region_lit ?_
  refine lst (wanted_none rfl) (w_value 14 (.agg (bs 0)) rfl (by unfold execOp; go_simp; rfl) ?_)
  simp only [List.setIfInBounds_toArray, List.set_cons_zero, List.set_cons_succ]
  refine lst (wanted_none rfl) (w_value 15 (.agg (bs 1)) rfl (by unfold execOp; go_simp; rfl) ?_)
  simp only [List.setIfInBounds_toArray, List.set_cons_zero, List.set_cons_succ]
  refine lst (wanted_none rfl) (m_alloc (c := bs 0) (T := 23) hm10 7 rfl (al_N rfl) (fun g12 w13 (hm14 : Mm w w13 [(g2, bs a, 23), (g5, bs b, 23), (g8, bs c, 23), (g12, bs 0, 23)]) => ?_))
  simp only [List.setIfInBounds_toArray, List.set_cons_zero, List.set_cons_succ]
  refine lst (wanted_none rfl) (m_alloc (c := bs 0) (T := 23) hm14 8 rfl (al_N rfl) (fun g15 w16 (hm17 : Mm w w16 [(g2, bs a, 23), (g5, bs b, 23), (g8, bs c, 23), (g12, bs 0, 23), (g15, bs 0, 23)]) => ?_))
  simp only [List.setIfInBounds_toArray, List.set_cons_zero, List.set_cons_succ]
  refine lst (wanted_none rfl) (m_store 3 23 _ _ (bs 0) (old := bs 0) hm17 rfl rfl rfl rfl rfl (by rw [bs_sz]; exact info_b) ((bs_sz _).trans (bs_sz _).symm) (bs_one _) (fun w18 (hm19 : Mm w w18 [(g2, bs a, 23), (g5, bs b, 23), (g8, bs c, 23), (g12, bs 0, 23), (g15, bs 0, 23)]) => ?_))
  refine lst (wanted_none rfl) (m_store 4 23 _ _ (bs 1) (old := bs 0) hm19 rfl rfl rfl rfl rfl (by rw [bs_sz]; exact info_b) ((bs_sz _).trans (bs_sz _).symm) (bs_one _) (fun w20 (hm21 : Mm w w20 [(g2, bs a, 23), (g5, bs b, 23), (g8, bs c, 23), (g12, bs 0, 23), (g15, bs 1, 23)]) => ?_))
  refine wpList_nil ?_
  refine then_n (hK11 _ _ ?_)
  refine wp_seq_k (fun K22 hK22 => ?_)
  refine wp_mono (Q := fun e a' w' => e = Exit.normal ∧ ∃ g29 g32 : Nat, a' = ⟨#[.agg (bs a), .agg (bs b), .agg (bs c), .pointer (some ⟨g2, 0, none⟩), .pointer (some ⟨g5, 0, none⟩), .pointer (some ⟨g8, 0, none⟩), .bool false, .pointer (some ⟨g12, 0, none⟩), .pointer (some ⟨g15, 0, none⟩), .pointer (some ⟨g29, 0, none⟩), .pointer (some ⟨g32, 0, none⟩), undef, undef, undef, .agg (bs 0), .agg (bs 1), .agg (bs a), .agg (bs b), .agg (bs 0), .agg (bs ((a * b + 0) % LL)), .agg (bs b), .agg (bs c), .agg (bs 0), .agg (bs ((b * c + 0) % LL)), undef, undef, undef, undef, undef, undef, undef, undef, undef, undef, undef, undef, undef, undef, undef, undef, undef, undef, undef, undef, undef, undef, undef, undef, undef, undef, undef, undef, undef, undef, undef, undef, undef, undef, undef, undef, undef, undef, undef, undef, undef, undef, undef, undef, undef, undef, undef, undef, undef, undef, undef, undef, undef, undef, undef, undef, undef, undef, undef, undef, undef, undef, undef, undef, undef, undef, undef, undef], []⟩ ∧ Mm w w' [(g2, bs a, 23), (g5, bs b, 23), (g8, bs c, 23), (g12, bs 0, 23), (g15, bs 1, 23), (g29, bs ((a * b + 0) % LL), 23), (g32, bs ((b * c + 0) % LL), 23)]) ?_ ?_
  · have hm23 := hm21.drew
    refine wp_region_held_drew (S := fun w' => Sym.Blk w' g2 (bs a) 23 ∧ Sym.Blk w' g5 (bs b) 23 ∧ Sym.Blk w' g12 (bs 0) 23 ∧ Sym.Blk w' g8 (bs c) 23) (by kernel_rfl) (⟨hm21.at 0 rfl, hm21.at 1 rfl, hm21.at 3 rfl, hm21.at 2 rfl⟩) (fun _ => ?_)
    generalize w20.drew = w24 at *
    refine Sym.take_at 0 16 (.agg (bs a)) rfl rfl (by kernel_rfl) (by kernel_rfl) (by kernel_rfl) (fun _ _ _ h => nomatch h.1) (wanted_none rfl) (fun _ hw => run_row rfl rfl hw.1 Try.underlying23 rfl (by rw [bs_sz]; exact info_b)) (⟨hm23.at 0 rfl, hm23.at 1 rfl, hm23.at 3 rfl, hm23.at 2 rfl⟩) ?_
    simp only [List.setIfInBounds_toArray, List.set_cons_zero, List.set_cons_succ]
    refine Sym.take_at 1 17 (.agg (bs b)) rfl rfl (by kernel_rfl) (by kernel_rfl) (by kernel_rfl) (fun _ _ _ h => nomatch h.1) (wanted_none rfl) (fun _ hw => run_row rfl rfl hw.2.1 Try.underlying23 rfl (by rw [bs_sz]; exact info_b)) (⟨hm23.at 0 rfl, hm23.at 1 rfl, hm23.at 3 rfl, hm23.at 2 rfl⟩) ?_
    simp only [List.setIfInBounds_toArray, List.set_cons_zero, List.set_cons_succ]
    refine Sym.take_at 2 18 (.agg (bs 0)) rfl rfl (by kernel_rfl) (by kernel_rfl) (by kernel_rfl) (fun _ _ _ h => nomatch h.1) (wanted_none rfl) (fun _ hw => run_row rfl rfl hw.2.2.1 Try.underlying23 rfl (by rw [bs_sz]; exact info_b)) (⟨hm23.at 0 rfl, hm23.at 1 rfl, hm23.at 3 rfl, hm23.at 2 rfl⟩) ?_
    simp only [List.setIfInBounds_toArray, List.set_cons_zero, List.set_cons_succ]
    refine Sym.take_at 4 20 (.agg (bs b)) rfl rfl (by kernel_rfl) (by kernel_rfl) (by kernel_rfl) (fun _ _ _ h => nomatch h.1) (wanted_none rfl) (fun _ hw => run_row rfl rfl hw.2.1 Try.underlying23 rfl (by rw [bs_sz]; exact info_b)) (⟨hm23.at 0 rfl, hm23.at 1 rfl, hm23.at 3 rfl, hm23.at 2 rfl⟩) ?_
    simp only [List.setIfInBounds_toArray, List.set_cons_zero, List.set_cons_succ]
    refine Sym.take_at 5 21 (.agg (bs c)) rfl rfl (by kernel_rfl) (by kernel_rfl) (by kernel_rfl) (fun _ _ _ h => nomatch h.1) (wanted_none rfl) (fun _ hw => run_row rfl rfl hw.2.2.2 Try.underlying23 rfl (by rw [bs_sz]; exact info_b)) (⟨hm23.at 0 rfl, hm23.at 1 rfl, hm23.at 3 rfl, hm23.at 2 rfl⟩) ?_
    simp only [List.setIfInBounds_toArray, List.set_cons_zero, List.set_cons_succ]
    refine Sym.take_at 6 22 (.agg (bs 0)) rfl rfl (by kernel_rfl) (by kernel_rfl) (by kernel_rfl) (fun _ _ _ h => nomatch h.1) (wanted_none rfl) (fun _ hw => run_row rfl rfl hw.2.2.1 Try.underlying23 rfl (by rw [bs_sz]; exact info_b)) (⟨hm23.at 0 rfl, hm23.at 1 rfl, hm23.at 3 rfl, hm23.at 2 rfl⟩) ?_
    simp only [List.setIfInBounds_toArray, List.set_cons_zero, List.set_cons_succ]
    refine three_ready 3 8 9 (by kernel_rfl) ?_ ?_ ?_
    · refine opd rfl (wanted_none rfl) (m_call hm23 19 (.agg (bs ((a * b + 0) % LL))) rfl (run_Fuse rfl rfl rfl rfl) (fuse_any a b 0 Ha.out Hb.out (by decide) _) (fun w25 hm26 => ?_))
      refine ⟨⟨hm26.at 0 rfl, hm26.at 1 rfl, hm26.at 3 rfl, hm26.at 2 rfl⟩, ?_⟩
      simp only [List.setIfInBounds_toArray, List.set_cons_zero, List.set_cons_succ]
      refine three_ready 7 8 9 (by kernel_rfl) ?_ ?_ ?_
      · refine opd rfl (wanted_none rfl) (m_call hm26 23 (.agg (bs ((b * c + 0) % LL))) rfl (run_Fuse rfl rfl rfl rfl) (fuse_any b c 0 Hb.out Hc.out (by decide) _) (fun w27 hm28 => ?_))
        refine ⟨⟨hm28.at 0 rfl, hm28.at 1 rfl, hm28.at 3 rfl, hm28.at 2 rfl⟩, ?_⟩
        simp only [List.setIfInBounds_toArray, List.set_cons_zero, List.set_cons_succ]
        refine two_ready 8 9 (by kernel_rfl) ?_ ?_
        · refine opd rfl (wanted_none rfl) (m_alloc (c := bs 0) (T := 23) hm28 9 rfl (al_N rfl) (fun g29 w30 (hm31 : Mm w w30 [(g2, bs a, 23), (g5, bs b, 23), (g8, bs c, 23), (g12, bs 0, 23), (g15, bs 1, 23), (g29, bs 0, 23)]) => ?_))
          refine ⟨⟨hm31.at 0 rfl, hm31.at 1 rfl, hm31.at 3 rfl, hm31.at 2 rfl⟩, ?_⟩
          simp only [List.setIfInBounds_toArray, List.set_cons_zero, List.set_cons_succ]
          refine one_ready 9 (by kernel_rfl) ?_
          refine opd rfl (wanted_none rfl) (m_alloc (c := bs 0) (T := 23) hm31 10 rfl (al_N rfl) (fun g32 w33 (hm34 : Mm w w33 [(g2, bs a, 23), (g5, bs b, 23), (g8, bs c, 23), (g12, bs 0, 23), (g15, bs 1, 23), (g29, bs 0, 23), (g32, bs 0, 23)]) => ?_))
          refine ⟨⟨hm34.at 0 rfl, hm34.at 1 rfl, hm34.at 3 rfl, hm34.at 2 rfl⟩, ?_⟩
          simp only [List.setIfInBounds_toArray, List.set_cons_zero, List.set_cons_succ]
          refine one_ready 10 (by kernel_rfl) ?_
          refine opd rfl (wanted_none rfl) (m_store 5 23 _ _ (bs ((a * b + 0) % LL)) (old := bs 0) hm34 rfl rfl rfl rfl rfl (by rw [bs_sz]; exact info_b) ((bs_sz _).trans (bs_sz _).symm) (bs_one _) (fun w35 (hm36 : Mm w w35 [(g2, bs a, 23), (g5, bs b, 23), (g8, bs c, 23), (g12, bs 0, 23), (g15, bs 1, 23), (g29, bs ((a * b + 0) % LL), 23), (g32, bs 0, 23)]) => ?_))
          refine ⟨⟨hm36.at 0 rfl, hm36.at 1 rfl, hm36.at 3 rfl, hm36.at 2 rfl⟩, ?_⟩
          refine one_ready 11 (by kernel_rfl) ?_
          refine opd rfl (wanted_none rfl) (m_store 6 23 _ _ (bs ((b * c + 0) % LL)) (old := bs 0) hm36 rfl rfl rfl rfl rfl (by rw [bs_sz]; exact info_b) ((bs_sz _).trans (bs_sz _).symm) (bs_one _) (fun w37 (hm38 : Mm w w37 [(g2, bs a, 23), (g5, bs b, 23), (g8, bs c, 23), (g12, bs 0, 23), (g15, bs 1, 23), (g29, bs ((a * b + 0) % LL), 23), (g32, bs ((b * c + 0) % LL), 23)]) => ?_))
          refine ⟨⟨hm38.at 0 rfl, hm38.at 1 rfl, hm38.at 3 rfl, hm38.at 2 rfl⟩, ?_⟩
          refine wpAnyH_done (by kernel_rfl) ?_ _
          exact ⟨rfl, g29, g32, rfl, hm38⟩
        · refine opd rfl (wanted_none rfl) (m_alloc (c := bs 0) (T := 23) hm28 10 rfl (al_N rfl) (fun g39 w40 (hm41 : Mm w w40 [(g2, bs a, 23), (g5, bs b, 23), (g8, bs c, 23), (g12, bs 0, 23), (g15, bs 1, 23), (g39, bs 0, 23)]) => ?_))
          refine ⟨⟨hm41.at 0 rfl, hm41.at 1 rfl, hm41.at 3 rfl, hm41.at 2 rfl⟩, ?_⟩
          simp only [List.setIfInBounds_toArray, List.set_cons_zero, List.set_cons_succ]
          refine one_ready 8 (by kernel_rfl) ?_
          refine opd rfl (wanted_none rfl) (m_alloc (c := bs 0) (T := 23) hm41 9 rfl (al_N rfl) (fun g42 w43 (hm44 : Mm w w43 [(g2, bs a, 23), (g5, bs b, 23), (g8, bs c, 23), (g12, bs 0, 23), (g15, bs 1, 23), (g39, bs 0, 23), (g42, bs 0, 23)]) => ?_))
          refine ⟨⟨hm44.at 0 rfl, hm44.at 1 rfl, hm44.at 3 rfl, hm44.at 2 rfl⟩, ?_⟩
          simp only [List.setIfInBounds_toArray, List.set_cons_zero, List.set_cons_succ]
          refine one_ready 10 (by kernel_rfl) ?_
          refine opd rfl (wanted_none rfl) (m_store 6 23 _ _ (bs ((a * b + 0) % LL)) (old := bs 0) hm44 rfl rfl rfl rfl rfl (by rw [bs_sz]; exact info_b) ((bs_sz _).trans (bs_sz _).symm) (bs_one _) (fun w45 (hm46 : Mm w w45 [(g2, bs a, 23), (g5, bs b, 23), (g8, bs c, 23), (g12, bs 0, 23), (g15, bs 1, 23), (g39, bs 0, 23), (g42, bs ((a * b + 0) % LL), 23)]) => ?_))
          refine ⟨⟨hm46.at 0 rfl, hm46.at 1 rfl, hm46.at 3 rfl, hm46.at 2 rfl⟩, ?_⟩
          refine one_ready 11 (by kernel_rfl) ?_
          refine opd rfl (wanted_none rfl) (m_store 5 23 _ _ (bs ((b * c + 0) % LL)) (old := bs 0) hm46 rfl rfl rfl rfl rfl (by rw [bs_sz]; exact info_b) ((bs_sz _).trans (bs_sz _).symm) (bs_one _) (fun w47 (hm48 : Mm w w47 [(g2, bs a, 23), (g5, bs b, 23), (g8, bs c, 23), (g12, bs 0, 23), (g15, bs 1, 23), (g39, bs ((b * c + 0) % LL), 23), (g42, bs ((a * b + 0) % LL), 23)]) => ?_))
          refine ⟨⟨hm48.at 0 rfl, hm48.at 1 rfl, hm48.at 3 rfl, hm48.at 2 rfl⟩, ?_⟩
          refine wpAnyH_done (by kernel_rfl) ?_ _
          exact ⟨rfl, g42, g39, rfl, (Mm.reorder hm48 [0, 1, 2, 3, 4, 6, 5] (by decide) rfl)⟩
      · refine opd rfl (wanted_none rfl) (m_alloc (c := bs 0) (T := 23) hm26 9 rfl (al_N rfl) (fun g49 w50 (hm51 : Mm w w50 [(g2, bs a, 23), (g5, bs b, 23), (g8, bs c, 23), (g12, bs 0, 23), (g15, bs 1, 23), (g49, bs 0, 23)]) => ?_))
        refine ⟨⟨hm51.at 0 rfl, hm51.at 1 rfl, hm51.at 3 rfl, hm51.at 2 rfl⟩, ?_⟩
        simp only [List.setIfInBounds_toArray, List.set_cons_zero, List.set_cons_succ]
        refine two_ready 7 9 (by kernel_rfl) ?_ ?_
        · refine opd rfl (wanted_none rfl) (m_call hm51 23 (.agg (bs ((b * c + 0) % LL))) rfl (run_Fuse rfl rfl rfl rfl) (fuse_any b c 0 Hb.out Hc.out (by decide) _) (fun w52 hm53 => ?_))
          refine ⟨⟨hm53.at 0 rfl, hm53.at 1 rfl, hm53.at 3 rfl, hm53.at 2 rfl⟩, ?_⟩
          simp only [List.setIfInBounds_toArray, List.set_cons_zero, List.set_cons_succ]
          refine one_ready 9 (by kernel_rfl) ?_
          refine opd rfl (wanted_none rfl) (m_alloc (c := bs 0) (T := 23) hm53 10 rfl (al_N rfl) (fun g54 w55 (hm56 : Mm w w55 [(g2, bs a, 23), (g5, bs b, 23), (g8, bs c, 23), (g12, bs 0, 23), (g15, bs 1, 23), (g49, bs 0, 23), (g54, bs 0, 23)]) => ?_))
          refine ⟨⟨hm56.at 0 rfl, hm56.at 1 rfl, hm56.at 3 rfl, hm56.at 2 rfl⟩, ?_⟩
          simp only [List.setIfInBounds_toArray, List.set_cons_zero, List.set_cons_succ]
          refine one_ready 10 (by kernel_rfl) ?_
          refine opd rfl (wanted_none rfl) (m_store 5 23 _ _ (bs ((a * b + 0) % LL)) (old := bs 0) hm56 rfl rfl rfl rfl rfl (by rw [bs_sz]; exact info_b) ((bs_sz _).trans (bs_sz _).symm) (bs_one _) (fun w57 (hm58 : Mm w w57 [(g2, bs a, 23), (g5, bs b, 23), (g8, bs c, 23), (g12, bs 0, 23), (g15, bs 1, 23), (g49, bs ((a * b + 0) % LL), 23), (g54, bs 0, 23)]) => ?_))
          refine ⟨⟨hm58.at 0 rfl, hm58.at 1 rfl, hm58.at 3 rfl, hm58.at 2 rfl⟩, ?_⟩
          refine one_ready 11 (by kernel_rfl) ?_
          refine opd rfl (wanted_none rfl) (m_store 6 23 _ _ (bs ((b * c + 0) % LL)) (old := bs 0) hm58 rfl rfl rfl rfl rfl (by rw [bs_sz]; exact info_b) ((bs_sz _).trans (bs_sz _).symm) (bs_one _) (fun w59 (hm60 : Mm w w59 [(g2, bs a, 23), (g5, bs b, 23), (g8, bs c, 23), (g12, bs 0, 23), (g15, bs 1, 23), (g49, bs ((a * b + 0) % LL), 23), (g54, bs ((b * c + 0) % LL), 23)]) => ?_))
          refine ⟨⟨hm60.at 0 rfl, hm60.at 1 rfl, hm60.at 3 rfl, hm60.at 2 rfl⟩, ?_⟩
          refine wpAnyH_done (by kernel_rfl) ?_ _
          exact ⟨rfl, g49, g54, rfl, hm60⟩
        · refine opd rfl (wanted_none rfl) (m_alloc (c := bs 0) (T := 23) hm51 10 rfl (al_N rfl) (fun g61 w62 (hm63 : Mm w w62 [(g2, bs a, 23), (g5, bs b, 23), (g8, bs c, 23), (g12, bs 0, 23), (g15, bs 1, 23), (g49, bs 0, 23), (g61, bs 0, 23)]) => ?_))
          refine ⟨⟨hm63.at 0 rfl, hm63.at 1 rfl, hm63.at 3 rfl, hm63.at 2 rfl⟩, ?_⟩
          simp only [List.setIfInBounds_toArray, List.set_cons_zero, List.set_cons_succ]
          refine one_ready 7 (by kernel_rfl) ?_
          refine opd rfl (wanted_none rfl) (m_call hm63 23 (.agg (bs ((b * c + 0) % LL))) rfl (run_Fuse rfl rfl rfl rfl) (fuse_any b c 0 Hb.out Hc.out (by decide) _) (fun w64 hm65 => ?_))
          refine ⟨⟨hm65.at 0 rfl, hm65.at 1 rfl, hm65.at 3 rfl, hm65.at 2 rfl⟩, ?_⟩
          simp only [List.setIfInBounds_toArray, List.set_cons_zero, List.set_cons_succ]
          refine one_ready 10 (by kernel_rfl) ?_
          refine opd rfl (wanted_none rfl) (m_store 5 23 _ _ (bs ((a * b + 0) % LL)) (old := bs 0) hm65 rfl rfl rfl rfl rfl (by rw [bs_sz]; exact info_b) ((bs_sz _).trans (bs_sz _).symm) (bs_one _) (fun w66 (hm67 : Mm w w66 [(g2, bs a, 23), (g5, bs b, 23), (g8, bs c, 23), (g12, bs 0, 23), (g15, bs 1, 23), (g49, bs ((a * b + 0) % LL), 23), (g61, bs 0, 23)]) => ?_))
          refine ⟨⟨hm67.at 0 rfl, hm67.at 1 rfl, hm67.at 3 rfl, hm67.at 2 rfl⟩, ?_⟩
          refine one_ready 11 (by kernel_rfl) ?_
          refine opd rfl (wanted_none rfl) (m_store 6 23 _ _ (bs ((b * c + 0) % LL)) (old := bs 0) hm67 rfl rfl rfl rfl rfl (by rw [bs_sz]; exact info_b) ((bs_sz _).trans (bs_sz _).symm) (bs_one _) (fun w68 (hm69 : Mm w w68 [(g2, bs a, 23), (g5, bs b, 23), (g8, bs c, 23), (g12, bs 0, 23), (g15, bs 1, 23), (g49, bs ((a * b + 0) % LL), 23), (g61, bs ((b * c + 0) % LL), 23)]) => ?_))
          refine ⟨⟨hm69.at 0 rfl, hm69.at 1 rfl, hm69.at 3 rfl, hm69.at 2 rfl⟩, ?_⟩
          refine wpAnyH_done (by kernel_rfl) ?_ _
          exact ⟨rfl, g49, g61, rfl, hm69⟩
      · refine opd rfl (wanted_none rfl) (m_alloc (c := bs 0) (T := 23) hm26 10 rfl (al_N rfl) (fun g70 w71 (hm72 : Mm w w71 [(g2, bs a, 23), (g5, bs b, 23), (g8, bs c, 23), (g12, bs 0, 23), (g15, bs 1, 23), (g70, bs 0, 23)]) => ?_))
        refine ⟨⟨hm72.at 0 rfl, hm72.at 1 rfl, hm72.at 3 rfl, hm72.at 2 rfl⟩, ?_⟩
        simp only [List.setIfInBounds_toArray, List.set_cons_zero, List.set_cons_succ]
        refine two_ready 7 8 (by kernel_rfl) ?_ ?_
        · refine opd rfl (wanted_none rfl) (m_call hm72 23 (.agg (bs ((b * c + 0) % LL))) rfl (run_Fuse rfl rfl rfl rfl) (fuse_any b c 0 Hb.out Hc.out (by decide) _) (fun w73 hm74 => ?_))
          refine ⟨⟨hm74.at 0 rfl, hm74.at 1 rfl, hm74.at 3 rfl, hm74.at 2 rfl⟩, ?_⟩
          simp only [List.setIfInBounds_toArray, List.set_cons_zero, List.set_cons_succ]
          refine one_ready 8 (by kernel_rfl) ?_
          refine opd rfl (wanted_none rfl) (m_alloc (c := bs 0) (T := 23) hm74 9 rfl (al_N rfl) (fun g75 w76 (hm77 : Mm w w76 [(g2, bs a, 23), (g5, bs b, 23), (g8, bs c, 23), (g12, bs 0, 23), (g15, bs 1, 23), (g70, bs 0, 23), (g75, bs 0, 23)]) => ?_))
          refine ⟨⟨hm77.at 0 rfl, hm77.at 1 rfl, hm77.at 3 rfl, hm77.at 2 rfl⟩, ?_⟩
          simp only [List.setIfInBounds_toArray, List.set_cons_zero, List.set_cons_succ]
          refine one_ready 10 (by kernel_rfl) ?_
          refine opd rfl (wanted_none rfl) (m_store 6 23 _ _ (bs ((a * b + 0) % LL)) (old := bs 0) hm77 rfl rfl rfl rfl rfl (by rw [bs_sz]; exact info_b) ((bs_sz _).trans (bs_sz _).symm) (bs_one _) (fun w78 (hm79 : Mm w w78 [(g2, bs a, 23), (g5, bs b, 23), (g8, bs c, 23), (g12, bs 0, 23), (g15, bs 1, 23), (g70, bs 0, 23), (g75, bs ((a * b + 0) % LL), 23)]) => ?_))
          refine ⟨⟨hm79.at 0 rfl, hm79.at 1 rfl, hm79.at 3 rfl, hm79.at 2 rfl⟩, ?_⟩
          refine one_ready 11 (by kernel_rfl) ?_
          refine opd rfl (wanted_none rfl) (m_store 5 23 _ _ (bs ((b * c + 0) % LL)) (old := bs 0) hm79 rfl rfl rfl rfl rfl (by rw [bs_sz]; exact info_b) ((bs_sz _).trans (bs_sz _).symm) (bs_one _) (fun w80 (hm81 : Mm w w80 [(g2, bs a, 23), (g5, bs b, 23), (g8, bs c, 23), (g12, bs 0, 23), (g15, bs 1, 23), (g70, bs ((b * c + 0) % LL), 23), (g75, bs ((a * b + 0) % LL), 23)]) => ?_))
          refine ⟨⟨hm81.at 0 rfl, hm81.at 1 rfl, hm81.at 3 rfl, hm81.at 2 rfl⟩, ?_⟩
          refine wpAnyH_done (by kernel_rfl) ?_ _
          exact ⟨rfl, g75, g70, rfl, (Mm.reorder hm81 [0, 1, 2, 3, 4, 6, 5] (by decide) rfl)⟩
        · refine opd rfl (wanted_none rfl) (m_alloc (c := bs 0) (T := 23) hm72 9 rfl (al_N rfl) (fun g82 w83 (hm84 : Mm w w83 [(g2, bs a, 23), (g5, bs b, 23), (g8, bs c, 23), (g12, bs 0, 23), (g15, bs 1, 23), (g70, bs 0, 23), (g82, bs 0, 23)]) => ?_))
          refine ⟨⟨hm84.at 0 rfl, hm84.at 1 rfl, hm84.at 3 rfl, hm84.at 2 rfl⟩, ?_⟩
          simp only [List.setIfInBounds_toArray, List.set_cons_zero, List.set_cons_succ]
          refine one_ready 7 (by kernel_rfl) ?_
          refine opd rfl (wanted_none rfl) (m_call hm84 23 (.agg (bs ((b * c + 0) % LL))) rfl (run_Fuse rfl rfl rfl rfl) (fuse_any b c 0 Hb.out Hc.out (by decide) _) (fun w85 hm86 => ?_))
          refine ⟨⟨hm86.at 0 rfl, hm86.at 1 rfl, hm86.at 3 rfl, hm86.at 2 rfl⟩, ?_⟩
          simp only [List.setIfInBounds_toArray, List.set_cons_zero, List.set_cons_succ]
          refine one_ready 10 (by kernel_rfl) ?_
          refine opd rfl (wanted_none rfl) (m_store 6 23 _ _ (bs ((a * b + 0) % LL)) (old := bs 0) hm86 rfl rfl rfl rfl rfl (by rw [bs_sz]; exact info_b) ((bs_sz _).trans (bs_sz _).symm) (bs_one _) (fun w87 (hm88 : Mm w w87 [(g2, bs a, 23), (g5, bs b, 23), (g8, bs c, 23), (g12, bs 0, 23), (g15, bs 1, 23), (g70, bs 0, 23), (g82, bs ((a * b + 0) % LL), 23)]) => ?_))
          refine ⟨⟨hm88.at 0 rfl, hm88.at 1 rfl, hm88.at 3 rfl, hm88.at 2 rfl⟩, ?_⟩
          refine one_ready 11 (by kernel_rfl) ?_
          refine opd rfl (wanted_none rfl) (m_store 5 23 _ _ (bs ((b * c + 0) % LL)) (old := bs 0) hm88 rfl rfl rfl rfl rfl (by rw [bs_sz]; exact info_b) ((bs_sz _).trans (bs_sz _).symm) (bs_one _) (fun w89 (hm90 : Mm w w89 [(g2, bs a, 23), (g5, bs b, 23), (g8, bs c, 23), (g12, bs 0, 23), (g15, bs 1, 23), (g70, bs ((b * c + 0) % LL), 23), (g82, bs ((a * b + 0) % LL), 23)]) => ?_))
          refine ⟨⟨hm90.at 0 rfl, hm90.at 1 rfl, hm90.at 3 rfl, hm90.at 2 rfl⟩, ?_⟩
          refine wpAnyH_done (by kernel_rfl) ?_ _
          exact ⟨rfl, g82, g70, rfl, (Mm.reorder hm90 [0, 1, 2, 3, 4, 6, 5] (by decide) rfl)⟩
    · refine opd rfl (wanted_none rfl) (m_alloc (c := bs 0) (T := 23) hm23 9 rfl (al_N rfl) (fun g91 w92 (hm93 : Mm w w92 [(g2, bs a, 23), (g5, bs b, 23), (g8, bs c, 23), (g12, bs 0, 23), (g15, bs 1, 23), (g91, bs 0, 23)]) => ?_))
      refine ⟨⟨hm93.at 0 rfl, hm93.at 1 rfl, hm93.at 3 rfl, hm93.at 2 rfl⟩, ?_⟩
      simp only [List.setIfInBounds_toArray, List.set_cons_zero, List.set_cons_succ]
      refine two_ready 3 9 (by kernel_rfl) ?_ ?_
      · refine opd rfl (wanted_none rfl) (m_call hm93 19 (.agg (bs ((a * b + 0) % LL))) rfl (run_Fuse rfl rfl rfl rfl) (fuse_any a b 0 Ha.out Hb.out (by decide) _) (fun w94 hm95 => ?_))
        refine ⟨⟨hm95.at 0 rfl, hm95.at 1 rfl, hm95.at 3 rfl, hm95.at 2 rfl⟩, ?_⟩
        simp only [List.setIfInBounds_toArray, List.set_cons_zero, List.set_cons_succ]
        refine two_ready 7 9 (by kernel_rfl) ?_ ?_
        · refine opd rfl (wanted_none rfl) (m_call hm95 23 (.agg (bs ((b * c + 0) % LL))) rfl (run_Fuse rfl rfl rfl rfl) (fuse_any b c 0 Hb.out Hc.out (by decide) _) (fun w96 hm97 => ?_))
          refine ⟨⟨hm97.at 0 rfl, hm97.at 1 rfl, hm97.at 3 rfl, hm97.at 2 rfl⟩, ?_⟩
          simp only [List.setIfInBounds_toArray, List.set_cons_zero, List.set_cons_succ]
          refine one_ready 9 (by kernel_rfl) ?_
          refine opd rfl (wanted_none rfl) (m_alloc (c := bs 0) (T := 23) hm97 10 rfl (al_N rfl) (fun g98 w99 (hm100 : Mm w w99 [(g2, bs a, 23), (g5, bs b, 23), (g8, bs c, 23), (g12, bs 0, 23), (g15, bs 1, 23), (g91, bs 0, 23), (g98, bs 0, 23)]) => ?_))
          refine ⟨⟨hm100.at 0 rfl, hm100.at 1 rfl, hm100.at 3 rfl, hm100.at 2 rfl⟩, ?_⟩
          simp only [List.setIfInBounds_toArray, List.set_cons_zero, List.set_cons_succ]
          refine one_ready 10 (by kernel_rfl) ?_
          refine opd rfl (wanted_none rfl) (m_store 5 23 _ _ (bs ((a * b + 0) % LL)) (old := bs 0) hm100 rfl rfl rfl rfl rfl (by rw [bs_sz]; exact info_b) ((bs_sz _).trans (bs_sz _).symm) (bs_one _) (fun w101 (hm102 : Mm w w101 [(g2, bs a, 23), (g5, bs b, 23), (g8, bs c, 23), (g12, bs 0, 23), (g15, bs 1, 23), (g91, bs ((a * b + 0) % LL), 23), (g98, bs 0, 23)]) => ?_))
          refine ⟨⟨hm102.at 0 rfl, hm102.at 1 rfl, hm102.at 3 rfl, hm102.at 2 rfl⟩, ?_⟩
          refine one_ready 11 (by kernel_rfl) ?_
          refine opd rfl (wanted_none rfl) (m_store 6 23 _ _ (bs ((b * c + 0) % LL)) (old := bs 0) hm102 rfl rfl rfl rfl rfl (by rw [bs_sz]; exact info_b) ((bs_sz _).trans (bs_sz _).symm) (bs_one _) (fun w103 (hm104 : Mm w w103 [(g2, bs a, 23), (g5, bs b, 23), (g8, bs c, 23), (g12, bs 0, 23), (g15, bs 1, 23), (g91, bs ((a * b + 0) % LL), 23), (g98, bs ((b * c + 0) % LL), 23)]) => ?_))
          refine ⟨⟨hm104.at 0 rfl, hm104.at 1 rfl, hm104.at 3 rfl, hm104.at 2 rfl⟩, ?_⟩
          refine wpAnyH_done (by kernel_rfl) ?_ _
          exact ⟨rfl, g91, g98, rfl, hm104⟩
        · refine opd rfl (wanted_none rfl) (m_alloc (c := bs 0) (T := 23) hm95 10 rfl (al_N rfl) (fun g105 w106 (hm107 : Mm w w106 [(g2, bs a, 23), (g5, bs b, 23), (g8, bs c, 23), (g12, bs 0, 23), (g15, bs 1, 23), (g91, bs 0, 23), (g105, bs 0, 23)]) => ?_))
          refine ⟨⟨hm107.at 0 rfl, hm107.at 1 rfl, hm107.at 3 rfl, hm107.at 2 rfl⟩, ?_⟩
          simp only [List.setIfInBounds_toArray, List.set_cons_zero, List.set_cons_succ]
          refine one_ready 7 (by kernel_rfl) ?_
          refine opd rfl (wanted_none rfl) (m_call hm107 23 (.agg (bs ((b * c + 0) % LL))) rfl (run_Fuse rfl rfl rfl rfl) (fuse_any b c 0 Hb.out Hc.out (by decide) _) (fun w108 hm109 => ?_))
          refine ⟨⟨hm109.at 0 rfl, hm109.at 1 rfl, hm109.at 3 rfl, hm109.at 2 rfl⟩, ?_⟩
          simp only [List.setIfInBounds_toArray, List.set_cons_zero, List.set_cons_succ]
          refine one_ready 10 (by kernel_rfl) ?_
          refine opd rfl (wanted_none rfl) (m_store 5 23 _ _ (bs ((a * b + 0) % LL)) (old := bs 0) hm109 rfl rfl rfl rfl rfl (by rw [bs_sz]; exact info_b) ((bs_sz _).trans (bs_sz _).symm) (bs_one _) (fun w110 (hm111 : Mm w w110 [(g2, bs a, 23), (g5, bs b, 23), (g8, bs c, 23), (g12, bs 0, 23), (g15, bs 1, 23), (g91, bs ((a * b + 0) % LL), 23), (g105, bs 0, 23)]) => ?_))
          refine ⟨⟨hm111.at 0 rfl, hm111.at 1 rfl, hm111.at 3 rfl, hm111.at 2 rfl⟩, ?_⟩
          refine one_ready 11 (by kernel_rfl) ?_
          refine opd rfl (wanted_none rfl) (m_store 6 23 _ _ (bs ((b * c + 0) % LL)) (old := bs 0) hm111 rfl rfl rfl rfl rfl (by rw [bs_sz]; exact info_b) ((bs_sz _).trans (bs_sz _).symm) (bs_one _) (fun w112 (hm113 : Mm w w112 [(g2, bs a, 23), (g5, bs b, 23), (g8, bs c, 23), (g12, bs 0, 23), (g15, bs 1, 23), (g91, bs ((a * b + 0) % LL), 23), (g105, bs ((b * c + 0) % LL), 23)]) => ?_))
          refine ⟨⟨hm113.at 0 rfl, hm113.at 1 rfl, hm113.at 3 rfl, hm113.at 2 rfl⟩, ?_⟩
          refine wpAnyH_done (by kernel_rfl) ?_ _
          exact ⟨rfl, g91, g105, rfl, hm113⟩
      · refine opd rfl (wanted_none rfl) (m_alloc (c := bs 0) (T := 23) hm93 10 rfl (al_N rfl) (fun g114 w115 (hm116 : Mm w w115 [(g2, bs a, 23), (g5, bs b, 23), (g8, bs c, 23), (g12, bs 0, 23), (g15, bs 1, 23), (g91, bs 0, 23), (g114, bs 0, 23)]) => ?_))
        refine ⟨⟨hm116.at 0 rfl, hm116.at 1 rfl, hm116.at 3 rfl, hm116.at 2 rfl⟩, ?_⟩
        simp only [List.setIfInBounds_toArray, List.set_cons_zero, List.set_cons_succ]
        refine one_ready 3 (by kernel_rfl) ?_
        refine opd rfl (wanted_none rfl) (m_call hm116 19 (.agg (bs ((a * b + 0) % LL))) rfl (run_Fuse rfl rfl rfl rfl) (fuse_any a b 0 Ha.out Hb.out (by decide) _) (fun w117 hm118 => ?_))
        refine ⟨⟨hm118.at 0 rfl, hm118.at 1 rfl, hm118.at 3 rfl, hm118.at 2 rfl⟩, ?_⟩
        simp only [List.setIfInBounds_toArray, List.set_cons_zero, List.set_cons_succ]
        refine one_ready 7 (by kernel_rfl) ?_
        refine opd rfl (wanted_none rfl) (m_call hm118 23 (.agg (bs ((b * c + 0) % LL))) rfl (run_Fuse rfl rfl rfl rfl) (fuse_any b c 0 Hb.out Hc.out (by decide) _) (fun w119 hm120 => ?_))
        refine ⟨⟨hm120.at 0 rfl, hm120.at 1 rfl, hm120.at 3 rfl, hm120.at 2 rfl⟩, ?_⟩
        simp only [List.setIfInBounds_toArray, List.set_cons_zero, List.set_cons_succ]
        refine one_ready 10 (by kernel_rfl) ?_
        refine opd rfl (wanted_none rfl) (m_store 5 23 _ _ (bs ((a * b + 0) % LL)) (old := bs 0) hm120 rfl rfl rfl rfl rfl (by rw [bs_sz]; exact info_b) ((bs_sz _).trans (bs_sz _).symm) (bs_one _) (fun w121 (hm122 : Mm w w121 [(g2, bs a, 23), (g5, bs b, 23), (g8, bs c, 23), (g12, bs 0, 23), (g15, bs 1, 23), (g91, bs ((a * b + 0) % LL), 23), (g114, bs 0, 23)]) => ?_))
        refine ⟨⟨hm122.at 0 rfl, hm122.at 1 rfl, hm122.at 3 rfl, hm122.at 2 rfl⟩, ?_⟩
        refine one_ready 11 (by kernel_rfl) ?_
        refine opd rfl (wanted_none rfl) (m_store 6 23 _ _ (bs ((b * c + 0) % LL)) (old := bs 0) hm122 rfl rfl rfl rfl rfl (by rw [bs_sz]; exact info_b) ((bs_sz _).trans (bs_sz _).symm) (bs_one _) (fun w123 (hm124 : Mm w w123 [(g2, bs a, 23), (g5, bs b, 23), (g8, bs c, 23), (g12, bs 0, 23), (g15, bs 1, 23), (g91, bs ((a * b + 0) % LL), 23), (g114, bs ((b * c + 0) % LL), 23)]) => ?_))
        refine ⟨⟨hm124.at 0 rfl, hm124.at 1 rfl, hm124.at 3 rfl, hm124.at 2 rfl⟩, ?_⟩
        refine wpAnyH_done (by kernel_rfl) ?_ _
        exact ⟨rfl, g91, g114, rfl, hm124⟩
    · refine opd rfl (wanted_none rfl) (m_alloc (c := bs 0) (T := 23) hm23 10 rfl (al_N rfl) (fun g125 w126 (hm127 : Mm w w126 [(g2, bs a, 23), (g5, bs b, 23), (g8, bs c, 23), (g12, bs 0, 23), (g15, bs 1, 23), (g125, bs 0, 23)]) => ?_))
      refine ⟨⟨hm127.at 0 rfl, hm127.at 1 rfl, hm127.at 3 rfl, hm127.at 2 rfl⟩, ?_⟩
      simp only [List.setIfInBounds_toArray, List.set_cons_zero, List.set_cons_succ]
      refine two_ready 3 8 (by kernel_rfl) ?_ ?_
      · refine opd rfl (wanted_none rfl) (m_call hm127 19 (.agg (bs ((a * b + 0) % LL))) rfl (run_Fuse rfl rfl rfl rfl) (fuse_any a b 0 Ha.out Hb.out (by decide) _) (fun w128 hm129 => ?_))
        refine ⟨⟨hm129.at 0 rfl, hm129.at 1 rfl, hm129.at 3 rfl, hm129.at 2 rfl⟩, ?_⟩
        simp only [List.setIfInBounds_toArray, List.set_cons_zero, List.set_cons_succ]
        refine two_ready 7 8 (by kernel_rfl) ?_ ?_
        · refine opd rfl (wanted_none rfl) (m_call hm129 23 (.agg (bs ((b * c + 0) % LL))) rfl (run_Fuse rfl rfl rfl rfl) (fuse_any b c 0 Hb.out Hc.out (by decide) _) (fun w130 hm131 => ?_))
          refine ⟨⟨hm131.at 0 rfl, hm131.at 1 rfl, hm131.at 3 rfl, hm131.at 2 rfl⟩, ?_⟩
          simp only [List.setIfInBounds_toArray, List.set_cons_zero, List.set_cons_succ]
          refine one_ready 8 (by kernel_rfl) ?_
          refine opd rfl (wanted_none rfl) (m_alloc (c := bs 0) (T := 23) hm131 9 rfl (al_N rfl) (fun g132 w133 (hm134 : Mm w w133 [(g2, bs a, 23), (g5, bs b, 23), (g8, bs c, 23), (g12, bs 0, 23), (g15, bs 1, 23), (g125, bs 0, 23), (g132, bs 0, 23)]) => ?_))
          refine ⟨⟨hm134.at 0 rfl, hm134.at 1 rfl, hm134.at 3 rfl, hm134.at 2 rfl⟩, ?_⟩
          simp only [List.setIfInBounds_toArray, List.set_cons_zero, List.set_cons_succ]
          refine one_ready 10 (by kernel_rfl) ?_
          refine opd rfl (wanted_none rfl) (m_store 6 23 _ _ (bs ((a * b + 0) % LL)) (old := bs 0) hm134 rfl rfl rfl rfl rfl (by rw [bs_sz]; exact info_b) ((bs_sz _).trans (bs_sz _).symm) (bs_one _) (fun w135 (hm136 : Mm w w135 [(g2, bs a, 23), (g5, bs b, 23), (g8, bs c, 23), (g12, bs 0, 23), (g15, bs 1, 23), (g125, bs 0, 23), (g132, bs ((a * b + 0) % LL), 23)]) => ?_))
          refine ⟨⟨hm136.at 0 rfl, hm136.at 1 rfl, hm136.at 3 rfl, hm136.at 2 rfl⟩, ?_⟩
          refine one_ready 11 (by kernel_rfl) ?_
          refine opd rfl (wanted_none rfl) (m_store 5 23 _ _ (bs ((b * c + 0) % LL)) (old := bs 0) hm136 rfl rfl rfl rfl rfl (by rw [bs_sz]; exact info_b) ((bs_sz _).trans (bs_sz _).symm) (bs_one _) (fun w137 (hm138 : Mm w w137 [(g2, bs a, 23), (g5, bs b, 23), (g8, bs c, 23), (g12, bs 0, 23), (g15, bs 1, 23), (g125, bs ((b * c + 0) % LL), 23), (g132, bs ((a * b + 0) % LL), 23)]) => ?_))
          refine ⟨⟨hm138.at 0 rfl, hm138.at 1 rfl, hm138.at 3 rfl, hm138.at 2 rfl⟩, ?_⟩
          refine wpAnyH_done (by kernel_rfl) ?_ _
          exact ⟨rfl, g132, g125, rfl, (Mm.reorder hm138 [0, 1, 2, 3, 4, 6, 5] (by decide) rfl)⟩
        · refine opd rfl (wanted_none rfl) (m_alloc (c := bs 0) (T := 23) hm129 9 rfl (al_N rfl) (fun g139 w140 (hm141 : Mm w w140 [(g2, bs a, 23), (g5, bs b, 23), (g8, bs c, 23), (g12, bs 0, 23), (g15, bs 1, 23), (g125, bs 0, 23), (g139, bs 0, 23)]) => ?_))
          refine ⟨⟨hm141.at 0 rfl, hm141.at 1 rfl, hm141.at 3 rfl, hm141.at 2 rfl⟩, ?_⟩
          simp only [List.setIfInBounds_toArray, List.set_cons_zero, List.set_cons_succ]
          refine one_ready 7 (by kernel_rfl) ?_
          refine opd rfl (wanted_none rfl) (m_call hm141 23 (.agg (bs ((b * c + 0) % LL))) rfl (run_Fuse rfl rfl rfl rfl) (fuse_any b c 0 Hb.out Hc.out (by decide) _) (fun w142 hm143 => ?_))
          refine ⟨⟨hm143.at 0 rfl, hm143.at 1 rfl, hm143.at 3 rfl, hm143.at 2 rfl⟩, ?_⟩
          simp only [List.setIfInBounds_toArray, List.set_cons_zero, List.set_cons_succ]
          refine one_ready 10 (by kernel_rfl) ?_
          refine opd rfl (wanted_none rfl) (m_store 6 23 _ _ (bs ((a * b + 0) % LL)) (old := bs 0) hm143 rfl rfl rfl rfl rfl (by rw [bs_sz]; exact info_b) ((bs_sz _).trans (bs_sz _).symm) (bs_one _) (fun w144 (hm145 : Mm w w144 [(g2, bs a, 23), (g5, bs b, 23), (g8, bs c, 23), (g12, bs 0, 23), (g15, bs 1, 23), (g125, bs 0, 23), (g139, bs ((a * b + 0) % LL), 23)]) => ?_))
          refine ⟨⟨hm145.at 0 rfl, hm145.at 1 rfl, hm145.at 3 rfl, hm145.at 2 rfl⟩, ?_⟩
          refine one_ready 11 (by kernel_rfl) ?_
          refine opd rfl (wanted_none rfl) (m_store 5 23 _ _ (bs ((b * c + 0) % LL)) (old := bs 0) hm145 rfl rfl rfl rfl rfl (by rw [bs_sz]; exact info_b) ((bs_sz _).trans (bs_sz _).symm) (bs_one _) (fun w146 (hm147 : Mm w w146 [(g2, bs a, 23), (g5, bs b, 23), (g8, bs c, 23), (g12, bs 0, 23), (g15, bs 1, 23), (g125, bs ((b * c + 0) % LL), 23), (g139, bs ((a * b + 0) % LL), 23)]) => ?_))
          refine ⟨⟨hm147.at 0 rfl, hm147.at 1 rfl, hm147.at 3 rfl, hm147.at 2 rfl⟩, ?_⟩
          refine wpAnyH_done (by kernel_rfl) ?_ _
          exact ⟨rfl, g139, g125, rfl, (Mm.reorder hm147 [0, 1, 2, 3, 4, 6, 5] (by decide) rfl)⟩
      · refine opd rfl (wanted_none rfl) (m_alloc (c := bs 0) (T := 23) hm127 9 rfl (al_N rfl) (fun g148 w149 (hm150 : Mm w w149 [(g2, bs a, 23), (g5, bs b, 23), (g8, bs c, 23), (g12, bs 0, 23), (g15, bs 1, 23), (g125, bs 0, 23), (g148, bs 0, 23)]) => ?_))
        refine ⟨⟨hm150.at 0 rfl, hm150.at 1 rfl, hm150.at 3 rfl, hm150.at 2 rfl⟩, ?_⟩
        simp only [List.setIfInBounds_toArray, List.set_cons_zero, List.set_cons_succ]
        refine one_ready 3 (by kernel_rfl) ?_
        refine opd rfl (wanted_none rfl) (m_call hm150 19 (.agg (bs ((a * b + 0) % LL))) rfl (run_Fuse rfl rfl rfl rfl) (fuse_any a b 0 Ha.out Hb.out (by decide) _) (fun w151 hm152 => ?_))
        refine ⟨⟨hm152.at 0 rfl, hm152.at 1 rfl, hm152.at 3 rfl, hm152.at 2 rfl⟩, ?_⟩
        simp only [List.setIfInBounds_toArray, List.set_cons_zero, List.set_cons_succ]
        refine one_ready 7 (by kernel_rfl) ?_
        refine opd rfl (wanted_none rfl) (m_call hm152 23 (.agg (bs ((b * c + 0) % LL))) rfl (run_Fuse rfl rfl rfl rfl) (fuse_any b c 0 Hb.out Hc.out (by decide) _) (fun w153 hm154 => ?_))
        refine ⟨⟨hm154.at 0 rfl, hm154.at 1 rfl, hm154.at 3 rfl, hm154.at 2 rfl⟩, ?_⟩
        simp only [List.setIfInBounds_toArray, List.set_cons_zero, List.set_cons_succ]
        refine one_ready 10 (by kernel_rfl) ?_
        refine opd rfl (wanted_none rfl) (m_store 6 23 _ _ (bs ((a * b + 0) % LL)) (old := bs 0) hm154 rfl rfl rfl rfl rfl (by rw [bs_sz]; exact info_b) ((bs_sz _).trans (bs_sz _).symm) (bs_one _) (fun w155 (hm156 : Mm w w155 [(g2, bs a, 23), (g5, bs b, 23), (g8, bs c, 23), (g12, bs 0, 23), (g15, bs 1, 23), (g125, bs 0, 23), (g148, bs ((a * b + 0) % LL), 23)]) => ?_))
        refine ⟨⟨hm156.at 0 rfl, hm156.at 1 rfl, hm156.at 3 rfl, hm156.at 2 rfl⟩, ?_⟩
        refine one_ready 11 (by kernel_rfl) ?_
        refine opd rfl (wanted_none rfl) (m_store 5 23 _ _ (bs ((b * c + 0) % LL)) (old := bs 0) hm156 rfl rfl rfl rfl rfl (by rw [bs_sz]; exact info_b) ((bs_sz _).trans (bs_sz _).symm) (bs_one _) (fun w157 (hm158 : Mm w w157 [(g2, bs a, 23), (g5, bs b, 23), (g8, bs c, 23), (g12, bs 0, 23), (g15, bs 1, 23), (g125, bs ((b * c + 0) % LL), 23), (g148, bs ((a * b + 0) % LL), 23)]) => ?_))
        refine ⟨⟨hm158.at 0 rfl, hm158.at 1 rfl, hm158.at 3 rfl, hm158.at 2 rfl⟩, ?_⟩
        refine wpAnyH_done (by kernel_rfl) ?_ _
        exact ⟨rfl, g148, g125, rfl, (Mm.reorder hm158 [0, 1, 2, 3, 4, 6, 5] (by decide) rfl)⟩
  clear hm21
  rintro _ _ w159 ⟨rfl, g29, g32, rfl, hm160⟩
  refine then_n (hK22 _ _ ?_)
  refine wp_seq_k (fun K161 hK161 => ?_)
  refine wp_region_lit ?_
  refine lst (wanted_none rfl) (w_value 24 (.agg (bs 1)) rfl (run_row rfl rfl (hm160.at 4 rfl) Try.underlying23 rfl (by rw [bs_sz]; exact info_b)) ?_)
  simp only [List.setIfInBounds_toArray, List.set_cons_zero, List.set_cons_succ]
  refine lst (wanted_none rfl) (w_value 25 (.agg (bs b)) rfl (run_row rfl rfl (hm160.at 1 rfl) Try.underlying23 rfl (by rw [bs_sz]; exact info_b)) ?_)
  simp only [List.setIfInBounds_toArray, List.set_cons_zero, List.set_cons_succ]
  refine lst (wanted_none rfl) (w_value 26 (.agg (bs c)) rfl (run_row rfl rfl (hm160.at 2 rfl) Try.underlying23 rfl (by rw [bs_sz]; exact info_b)) ?_)
  simp only [List.setIfInBounds_toArray, List.set_cons_zero, List.set_cons_succ]
  refine lst (wanted_none rfl) (m_call hm160 27 (.agg (bs ((1 * b + c) % LL))) rfl (run_Fuse rfl rfl rfl rfl) (fuse_any 1 b c (by decide) Hb.out Hc.out _) (fun w162 hm163 => ?_))
  simp only [List.setIfInBounds_toArray, List.set_cons_zero, List.set_cons_succ]
  refine lst (wanted_none rfl) (m_alloc (c := bs 0) (T := 23) hm163 11 rfl (al_N rfl) (fun g164 w165 (hm166 : Mm w w165 [(g2, bs a, 23), (g5, bs b, 23), (g8, bs c, 23), (g12, bs 0, 23), (g15, bs 1, 23), (g29, bs ((a * b + 0) % LL), 23), (g32, bs ((b * c + 0) % LL), 23), (g164, bs 0, 23)]) => ?_))
  simp only [List.setIfInBounds_toArray, List.set_cons_zero, List.set_cons_succ]
  refine lst (wanted_none rfl) (m_store 7 23 _ _ (bs ((1 * b + c) % LL)) (old := bs 0) hm166 rfl rfl rfl rfl rfl (by rw [bs_sz]; exact info_b) ((bs_sz _).trans (bs_sz _).symm) (bs_one _) (fun w167 (hm168 : Mm w w167 [(g2, bs a, 23), (g5, bs b, 23), (g8, bs c, 23), (g12, bs 0, 23), (g15, bs 1, 23), (g29, bs ((a * b + 0) % LL), 23), (g32, bs ((b * c + 0) % LL), 23), (g164, bs ((1 * b + c) % LL), 23)]) => ?_))
  refine wpList_nil ?_
  refine then_n (hK161 _ _ ?_)
  refine wp_seq_k (fun K169 hK169 => ?_)
  refine wp_mono (Q := fun e a' w' => e = Exit.normal ∧ ∃ g174 : Nat, a' = ⟨#[.agg (bs a), .agg (bs b), .agg (bs c), .pointer (some ⟨g2, 0, none⟩), .pointer (some ⟨g5, 0, none⟩), .pointer (some ⟨g8, 0, none⟩), .bool false, .pointer (some ⟨g12, 0, none⟩), .pointer (some ⟨g15, 0, none⟩), .pointer (some ⟨g29, 0, none⟩), .pointer (some ⟨g32, 0, none⟩), .pointer (some ⟨g164, 0, none⟩), .pointer (some ⟨g174, 0, none⟩), .bool true, .agg (bs 0), .agg (bs 1), .agg (bs a), .agg (bs b), .agg (bs 0), .agg (bs ((a * b + 0) % LL)), .agg (bs b), .agg (bs c), .agg (bs 0), .agg (bs ((b * c + 0) % LL)), .agg (bs 1), .agg (bs b), .agg (bs c), .agg (bs ((1 * b + c) % LL)), .tuple #[.agg (bs ((a + MM * 0) % LL)), .bool true], .slice (some ⟨g2, 0, none⟩) 32 32, .string (nb a), .slice (some ⟨g12, 0, none⟩) 32 32, .string (nb 0), .string ((nb a) ++ (nb 0)), .tuple #[.agg (bs ((a + MM * 0) % LL)), .bool true], .agg (bs ((a + MM * 0) % LL)), .bool true, undef, undef, undef, undef, undef, undef, undef, undef, undef, undef, undef, undef, undef, undef, undef, undef, undef, undef, undef, undef, undef, undef, undef, undef, undef, undef, undef, undef, undef, undef, undef, undef, undef, undef, undef, undef, undef, undef, undef, undef, undef, undef, undef, undef, undef, undef, undef, undef, undef, undef, undef, undef, undef, undef, undef], []⟩ ∧ Mm w w' [(g2, bs a, 23), (g5, bs b, 23), (g8, bs c, 23), (g12, bs 0, 23), (g15, bs 1, 23), (g29, bs ((a * b + 0) % LL), 23), (g32, bs ((b * c + 0) % LL), 23), (g164, bs ((1 * b + c) % LL), 23), (g174, bs ((a + MM * 0) % LL), 23)]) ?_ ?_
  · have hm170 := hm168.drew
    refine wp_region_held_drew (S := fun w' => Sym.Blk w' g2 (bs a) 23 ∧ Sym.Blk w' g12 (bs 0) 23) (by kernel_rfl) (⟨hm168.at 0 rfl, hm168.at 3 rfl⟩) (fun _ => ?_)
    generalize w167.drew = w171 at *
    refine Sym.take_at 0 29 (.slice (some ⟨g2, 0, none⟩) 32 32) rfl rfl (by kernel_rfl) (by kernel_rfl) (by kernel_rfl) (fun _ _ _ h => nomatch h.1) (wanted_none rfl) (fun _ hw => r_sliceArr g2 32 Try.underlying23 one_u8 rfl rfl) (⟨hm170.at 0 rfl, hm170.at 3 rfl⟩) ?_
    simp only [List.setIfInBounds_toArray, List.set_cons_zero, List.set_cons_succ]
    refine Sym.take_at 1 30 (.string (nb a)) rfl rfl (by kernel_rfl) (by kernel_rfl) (by kernel_rfl) (fun _ _ _ h => nomatch h.1) (wanted_none rfl) (fun _ hw => r_string g2 32 32 (bt a) 23 (fun _ _ => bt_lt _ _) hw.1 Try.underlying31 Try.underlying5 Try.underlying9 rfl rfl) (⟨hm170.at 0 rfl, hm170.at 3 rfl⟩) ?_
    simp only [List.setIfInBounds_toArray, List.set_cons_zero, List.set_cons_succ]
    refine Sym.take_at 2 31 (.slice (some ⟨g12, 0, none⟩) 32 32) rfl rfl (by kernel_rfl) (by kernel_rfl) (by kernel_rfl) (fun _ _ _ h => nomatch h.1) (wanted_none rfl) (fun _ hw => r_sliceArr g12 32 Try.underlying23 one_u8 rfl rfl) (⟨hm170.at 0 rfl, hm170.at 3 rfl⟩) ?_
    simp only [List.setIfInBounds_toArray, List.set_cons_zero, List.set_cons_succ]
    refine Sym.take_at 3 32 (.string (nb 0)) rfl rfl (by kernel_rfl) (by kernel_rfl) (by kernel_rfl) (fun _ _ _ h => nomatch h.1) (wanted_none rfl) (fun _ hw => r_string g12 32 32 (bt 0) 23 (fun _ _ => bt_lt _ _) hw.2 Try.underlying31 Try.underlying5 Try.underlying9 rfl rfl) (⟨hm170.at 0 rfl, hm170.at 3 rfl⟩) ?_
    simp only [List.setIfInBounds_toArray, List.set_cons_zero, List.set_cons_succ]
    refine Sym.take_at 4 33 (.string ((nb a) ++ (nb 0))) rfl rfl (by kernel_rfl) (by kernel_rfl) (by kernel_rfl) (fun _ _ _ h => nomatch h.1) (wanted_none rfl) (fun _ hw => r_cat (nb a) (nb 0) (by rw [nb_size, nb_size]; decide) rfl rfl rfl) (⟨hm170.at 0 rfl, hm170.at 3 rfl⟩) ?_
    simp only [List.setIfInBounds_toArray, List.set_cons_zero, List.set_cons_succ]
    refine two_ready 5 9 (by kernel_rfl) ?_ ?_
    · refine opd rfl (wanted_none rfl) (m_call hm170 34 (.tuple #[.agg (bs ((a + MM * 0) % LL)), .bool true]) rfl (run_Wide rfl rfl) (wide_cat a 0 Ha.out (by decide) _) (fun w172 hm173 => ?_))
      refine ⟨⟨hm173.at 0 rfl, hm173.at 3 rfl⟩, ?_⟩
      simp only [List.setIfInBounds_toArray, List.set_cons_zero, List.set_cons_succ]
      refine Sym.take_at 6 28 (.tuple #[.agg (bs ((a + MM * 0) % LL)), .bool true]) rfl rfl (by kernel_rfl) (by kernel_rfl) (by kernel_rfl) (fun _ _ _ h => nomatch h.1) (wanted_none rfl) (fun _ hw => run_mv rfl rfl) (⟨hm173.at 0 rfl, hm173.at 3 rfl⟩) ?_
      simp only [List.setIfInBounds_toArray, List.set_cons_zero, List.set_cons_succ]
      refine Sym.take_at 7 35 (.agg (bs ((a + MM * 0) % LL))) rfl rfl (by kernel_rfl) (by kernel_rfl) (by kernel_rfl) (fun _ _ _ h => nomatch h.1) (wanted_none rfl) (fun _ hw => run_ex rfl rfl rfl) (⟨hm173.at 0 rfl, hm173.at 3 rfl⟩) ?_
      simp only [List.setIfInBounds_toArray, List.set_cons_zero, List.set_cons_succ]
      refine Sym.take_at 8 36 (.bool true) rfl rfl (by kernel_rfl) (by kernel_rfl) (by kernel_rfl) (fun _ _ _ h => nomatch h.1) (wanted_none rfl) (fun _ hw => run_ex rfl rfl rfl) (⟨hm173.at 0 rfl, hm173.at 3 rfl⟩) ?_
      simp only [List.setIfInBounds_toArray, List.set_cons_zero, List.set_cons_succ]
      refine one_ready 9 (by kernel_rfl) ?_
      refine opd rfl (wanted_none rfl) (m_alloc (c := bs 0) (T := 23) hm173 12 rfl (al_N rfl) (fun g174 w175 (hm176 : Mm w w175 [(g2, bs a, 23), (g5, bs b, 23), (g8, bs c, 23), (g12, bs 0, 23), (g15, bs 1, 23), (g29, bs ((a * b + 0) % LL), 23), (g32, bs ((b * c + 0) % LL), 23), (g164, bs ((1 * b + c) % LL), 23), (g174, bs 0, 23)]) => ?_))
      refine ⟨⟨hm176.at 0 rfl, hm176.at 3 rfl⟩, ?_⟩
      simp only [List.setIfInBounds_toArray, List.set_cons_zero, List.set_cons_succ]
      refine one_ready 10 (by kernel_rfl) ?_
      refine opd rfl (wanted_none rfl) (m_store 8 23 _ _ (bs ((a + MM * 0) % LL)) (old := bs 0) hm176 rfl rfl rfl rfl rfl (by rw [bs_sz]; exact info_b) ((bs_sz _).trans (bs_sz _).symm) (bs_one _) (fun w177 (hm178 : Mm w w177 [(g2, bs a, 23), (g5, bs b, 23), (g8, bs c, 23), (g12, bs 0, 23), (g15, bs 1, 23), (g29, bs ((a * b + 0) % LL), 23), (g32, bs ((b * c + 0) % LL), 23), (g164, bs ((1 * b + c) % LL), 23), (g174, bs ((a + MM * 0) % LL), 23)]) => ?_))
      refine ⟨⟨hm178.at 0 rfl, hm178.at 3 rfl⟩, ?_⟩
      refine one_ready 11 (by kernel_rfl) ?_
      refine opd rfl (wanted_none rfl) (w_value 13 (.bool true) rfl (run_as rfl rfl) ⟨⟨hm178.at 0 rfl, hm178.at 3 rfl⟩, ?_⟩)
      simp only [List.setIfInBounds_toArray, List.set_cons_zero, List.set_cons_succ]
      refine wpAnyH_done (by kernel_rfl) ?_ _
      exact ⟨rfl, g174, rfl, hm178⟩
    · refine opd rfl (wanted_none rfl) (m_alloc (c := bs 0) (T := 23) hm170 12 rfl (al_N rfl) (fun g179 w180 (hm181 : Mm w w180 [(g2, bs a, 23), (g5, bs b, 23), (g8, bs c, 23), (g12, bs 0, 23), (g15, bs 1, 23), (g29, bs ((a * b + 0) % LL), 23), (g32, bs ((b * c + 0) % LL), 23), (g164, bs ((1 * b + c) % LL), 23), (g179, bs 0, 23)]) => ?_))
      refine ⟨⟨hm181.at 0 rfl, hm181.at 3 rfl⟩, ?_⟩
      simp only [List.setIfInBounds_toArray, List.set_cons_zero, List.set_cons_succ]
      refine one_ready 5 (by kernel_rfl) ?_
      refine opd rfl (wanted_none rfl) (m_call hm181 34 (.tuple #[.agg (bs ((a + MM * 0) % LL)), .bool true]) rfl (run_Wide rfl rfl) (wide_cat a 0 Ha.out (by decide) _) (fun w182 hm183 => ?_))
      refine ⟨⟨hm183.at 0 rfl, hm183.at 3 rfl⟩, ?_⟩
      simp only [List.setIfInBounds_toArray, List.set_cons_zero, List.set_cons_succ]
      refine Sym.take_at 6 28 (.tuple #[.agg (bs ((a + MM * 0) % LL)), .bool true]) rfl rfl (by kernel_rfl) (by kernel_rfl) (by kernel_rfl) (fun _ _ _ h => nomatch h.1) (wanted_none rfl) (fun _ hw => run_mv rfl rfl) (⟨hm183.at 0 rfl, hm183.at 3 rfl⟩) ?_
      simp only [List.setIfInBounds_toArray, List.set_cons_zero, List.set_cons_succ]
      refine Sym.take_at 7 35 (.agg (bs ((a + MM * 0) % LL))) rfl rfl (by kernel_rfl) (by kernel_rfl) (by kernel_rfl) (fun _ _ _ h => nomatch h.1) (wanted_none rfl) (fun _ hw => run_ex rfl rfl rfl) (⟨hm183.at 0 rfl, hm183.at 3 rfl⟩) ?_
      simp only [List.setIfInBounds_toArray, List.set_cons_zero, List.set_cons_succ]
      refine Sym.take_at 8 36 (.bool true) rfl rfl (by kernel_rfl) (by kernel_rfl) (by kernel_rfl) (fun _ _ _ h => nomatch h.1) (wanted_none rfl) (fun _ hw => run_ex rfl rfl rfl) (⟨hm183.at 0 rfl, hm183.at 3 rfl⟩) ?_
      simp only [List.setIfInBounds_toArray, List.set_cons_zero, List.set_cons_succ]
      refine one_ready 10 (by kernel_rfl) ?_
      refine opd rfl (wanted_none rfl) (m_store 8 23 _ _ (bs ((a + MM * 0) % LL)) (old := bs 0) hm183 rfl rfl rfl rfl rfl (by rw [bs_sz]; exact info_b) ((bs_sz _).trans (bs_sz _).symm) (bs_one _) (fun w184 (hm185 : Mm w w184 [(g2, bs a, 23), (g5, bs b, 23), (g8, bs c, 23), (g12, bs 0, 23), (g15, bs 1, 23), (g29, bs ((a * b + 0) % LL), 23), (g32, bs ((b * c + 0) % LL), 23), (g164, bs ((1 * b + c) % LL), 23), (g179, bs ((a + MM * 0) % LL), 23)]) => ?_))
      refine ⟨⟨hm185.at 0 rfl, hm185.at 3 rfl⟩, ?_⟩
      refine one_ready 11 (by kernel_rfl) ?_
      refine opd rfl (wanted_none rfl) (w_value 13 (.bool true) rfl (run_as rfl rfl) ⟨⟨hm185.at 0 rfl, hm185.at 3 rfl⟩, ?_⟩)
      simp only [List.setIfInBounds_toArray, List.set_cons_zero, List.set_cons_succ]
      refine wpAnyH_done (by kernel_rfl) ?_ _
      exact ⟨rfl, g179, rfl, hm185⟩
  clear hm168
  rintro _ _ w186 ⟨rfl, g174, rfl, hm187⟩
  refine then_n (hK169 _ _ ?_)
  refine wp_seq_k (fun K188 hK188 => ?_)
  have hm189 := hm187.drew
  refine wp_region_held_drew (S := fun w' => Sym.Blk w' g29 (bs ((a * b + 0) % LL)) 23 ∧ Sym.Blk w' g5 (bs b) 23 ∧ Sym.Blk w' g2 (bs a) 23 ∧ Sym.Blk w' g12 (bs 0) 23 ∧ Sym.Blk w' g8 (bs c) 23 ∧ Sym.Blk w' g32 (bs ((b * c + 0) % LL)) 23 ∧ Sym.Blk w' g164 (bs ((1 * b + c) % LL)) 23 ∧ Sym.Blk w' g174 (bs ((a + MM * 0) % LL)) 23 ∧ Sym.Blk w' g15 (bs 1) 23) (by kernel_rfl) (⟨hm187.at 5 rfl, hm187.at 1 rfl, hm187.at 0 rfl, hm187.at 3 rfl, hm187.at 2 rfl, hm187.at 6 rfl, hm187.at 7 rfl, hm187.at 8 rfl, hm187.at 4 rfl⟩) (fun _ => ?_)
  generalize w186.drew = w190 at *
  refine one_ready 0 (by kernel_rfl) ?_
  refine opd rfl (wanted_none rfl) (m_call hm189 37 (.bool true) rfl (run_awake rfl) (awake_any _) (fun w191 hm192 => ?_))
  refine ⟨⟨hm192.at 5 rfl, hm192.at 1 rfl, hm192.at 0 rfl, hm192.at 3 rfl, hm192.at 2 rfl, hm192.at 6 rfl, hm192.at 7 rfl, hm192.at 8 rfl, hm192.at 4 rfl⟩, ?_⟩
  simp only [List.setIfInBounds_toArray, List.set_cons_zero, List.set_cons_succ]
  refine Sym.take_at 1 38 (.bool true) rfl rfl (by kernel_rfl) (by kernel_rfl) (by kernel_rfl) (fun _ _ _ h => h) (wanted_none rfl) (fun _ hw => run_mv rfl rfl) (⟨hm192.at 5 rfl, hm192.at 1 rfl, hm192.at 0 rfl, hm192.at 3 rfl, hm192.at 2 rfl, hm192.at 6 rfl, hm192.at 7 rfl, hm192.at 8 rfl, hm192.at 4 rfl⟩) ?_
  simp only [List.setIfInBounds_toArray, List.set_cons_zero, List.set_cons_succ]
  refine Sym.take_at 2 39 (.agg (bs ((a * b + 0) % LL))) rfl rfl (by kernel_rfl) (by kernel_rfl) (by kernel_rfl) (fun _ _ _ h => h) rfl (fun _ hw => run_row rfl rfl hw.1 Try.underlying23 rfl (by rw [bs_sz]; exact info_b)) (⟨hm192.at 5 rfl, hm192.at 1 rfl, hm192.at 0 rfl, hm192.at 3 rfl, hm192.at 2 rfl, hm192.at 6 rfl, hm192.at 7 rfl, hm192.at 8 rfl, hm192.at 4 rfl⟩) ?_
  simp only [List.setIfInBounds_toArray, List.set_cons_zero, List.set_cons_succ]
  refine Sym.take_at 3 40 (.agg (bs b)) rfl rfl (by kernel_rfl) (by kernel_rfl) (by kernel_rfl) (fun _ _ _ h => h) rfl (fun _ hw => run_row rfl rfl hw.2.1 Try.underlying23 rfl (by rw [bs_sz]; exact info_b)) (⟨hm192.at 5 rfl, hm192.at 1 rfl, hm192.at 0 rfl, hm192.at 3 rfl, hm192.at 2 rfl, hm192.at 6 rfl, hm192.at 7 rfl, hm192.at 8 rfl, hm192.at 4 rfl⟩) ?_
  simp only [List.setIfInBounds_toArray, List.set_cons_zero, List.set_cons_succ]
  refine Sym.take_at 4 41 (.agg (bs a)) rfl rfl (by kernel_rfl) (by kernel_rfl) (by kernel_rfl) (fun _ _ _ h => h) rfl (fun _ hw => run_row rfl rfl hw.2.2.1 Try.underlying23 rfl (by rw [bs_sz]; exact info_b)) (⟨hm192.at 5 rfl, hm192.at 1 rfl, hm192.at 0 rfl, hm192.at 3 rfl, hm192.at 2 rfl, hm192.at 6 rfl, hm192.at 7 rfl, hm192.at 8 rfl, hm192.at 4 rfl⟩) ?_
  simp only [List.setIfInBounds_toArray, List.set_cons_zero, List.set_cons_succ]
  refine Sym.take_at 5 42 (.agg (bs 0)) rfl rfl (by kernel_rfl) (by kernel_rfl) (by kernel_rfl) (fun _ _ _ h => h) rfl (fun _ hw => run_row rfl rfl hw.2.2.2.1 Try.underlying23 rfl (by rw [bs_sz]; exact info_b)) (⟨hm192.at 5 rfl, hm192.at 1 rfl, hm192.at 0 rfl, hm192.at 3 rfl, hm192.at 2 rfl, hm192.at 6 rfl, hm192.at 7 rfl, hm192.at 8 rfl, hm192.at 4 rfl⟩) ?_
  simp only [List.setIfInBounds_toArray, List.set_cons_zero, List.set_cons_succ]
  refine one_ready 6 (by kernel_rfl) ?_
  refine opd rfl rfl (m_call hm192 43 (.agg (bs ((b * a + 0) % LL))) rfl (run_Fuse rfl rfl rfl rfl) (fuse_any b a 0 Hb.out Ha.out (by decide) _) (fun w193 hm194 => ?_))
  refine ⟨⟨hm194.at 5 rfl, hm194.at 1 rfl, hm194.at 0 rfl, hm194.at 3 rfl, hm194.at 2 rfl, hm194.at 6 rfl, hm194.at 7 rfl, hm194.at 8 rfl, hm194.at 4 rfl⟩, ?_⟩
  simp only [List.setIfInBounds_toArray, List.set_cons_zero, List.set_cons_succ]
  refine Sym.take_at 7 44 (.bool true) rfl rfl (by kernel_rfl) (by kernel_rfl) (by kernel_rfl) (fun _ _ _ h => h) rfl (fun _ hw => run_eqN ((a * b + 0) % LL) ((b * a + 0) % LL) (Nat.lt_trans (Nat.mod_lt _ (by decide)) (by decide)) (Nat.lt_trans (Nat.mod_lt _ (by decide)) (by decide)) true (decide_eq_true F1) rfl rfl rfl) (⟨hm194.at 5 rfl, hm194.at 1 rfl, hm194.at 0 rfl, hm194.at 3 rfl, hm194.at 2 rfl, hm194.at 6 rfl, hm194.at 7 rfl, hm194.at 8 rfl, hm194.at 4 rfl⟩) ?_
  simp only [List.setIfInBounds_toArray, List.set_cons_zero, List.set_cons_succ]
  refine Sym.take_at 8 45 (.bool true) rfl rfl (by kernel_rfl) (by kernel_rfl) (by kernel_rfl) (fun _ _ _ h => h) (wanted_none rfl) (fun _ hw => run_pick rfl rfl rfl) (⟨hm194.at 5 rfl, hm194.at 1 rfl, hm194.at 0 rfl, hm194.at 3 rfl, hm194.at 2 rfl, hm194.at 6 rfl, hm194.at 7 rfl, hm194.at 8 rfl, hm194.at 4 rfl⟩) ?_
  simp only [List.setIfInBounds_toArray, List.set_cons_zero, List.set_cons_succ]
  refine Sym.take_at 9 46 (.bool true) rfl rfl (by kernel_rfl) (by kernel_rfl) (by kernel_rfl) (fun _ _ _ h => h) (wanted_none rfl) (fun _ hw => run_mv rfl rfl) (⟨hm194.at 5 rfl, hm194.at 1 rfl, hm194.at 0 rfl, hm194.at 3 rfl, hm194.at 2 rfl, hm194.at 6 rfl, hm194.at 7 rfl, hm194.at 8 rfl, hm194.at 4 rfl⟩) ?_
  simp only [List.setIfInBounds_toArray, List.set_cons_zero, List.set_cons_succ]
  refine Sym.take_at 10 47 (.agg (bs ((a * b + 0) % LL))) rfl rfl (by kernel_rfl) (by kernel_rfl) (by kernel_rfl) (fun _ _ _ h => h) rfl (fun _ hw => run_row rfl rfl hw.1 Try.underlying23 rfl (by rw [bs_sz]; exact info_b)) (⟨hm194.at 5 rfl, hm194.at 1 rfl, hm194.at 0 rfl, hm194.at 3 rfl, hm194.at 2 rfl, hm194.at 6 rfl, hm194.at 7 rfl, hm194.at 8 rfl, hm194.at 4 rfl⟩) ?_
  simp only [List.setIfInBounds_toArray, List.set_cons_zero, List.set_cons_succ]
  refine Sym.take_at 11 48 (.agg (bs c)) rfl rfl (by kernel_rfl) (by kernel_rfl) (by kernel_rfl) (fun _ _ _ h => h) rfl (fun _ hw => run_row rfl rfl hw.2.2.2.2.1 Try.underlying23 rfl (by rw [bs_sz]; exact info_b)) (⟨hm194.at 5 rfl, hm194.at 1 rfl, hm194.at 0 rfl, hm194.at 3 rfl, hm194.at 2 rfl, hm194.at 6 rfl, hm194.at 7 rfl, hm194.at 8 rfl, hm194.at 4 rfl⟩) ?_
  simp only [List.setIfInBounds_toArray, List.set_cons_zero, List.set_cons_succ]
  refine Sym.take_at 12 49 (.agg (bs 0)) rfl rfl (by kernel_rfl) (by kernel_rfl) (by kernel_rfl) (fun _ _ _ h => h) rfl (fun _ hw => run_row rfl rfl hw.2.2.2.1 Try.underlying23 rfl (by rw [bs_sz]; exact info_b)) (⟨hm194.at 5 rfl, hm194.at 1 rfl, hm194.at 0 rfl, hm194.at 3 rfl, hm194.at 2 rfl, hm194.at 6 rfl, hm194.at 7 rfl, hm194.at 8 rfl, hm194.at 4 rfl⟩) ?_
  simp only [List.setIfInBounds_toArray, List.set_cons_zero, List.set_cons_succ]
  refine Sym.take_at 14 51 (.agg (bs a)) rfl rfl (by kernel_rfl) (by kernel_rfl) (by kernel_rfl) (fun _ _ _ h => h) rfl (fun _ hw => run_row rfl rfl hw.2.2.1 Try.underlying23 rfl (by rw [bs_sz]; exact info_b)) (⟨hm194.at 5 rfl, hm194.at 1 rfl, hm194.at 0 rfl, hm194.at 3 rfl, hm194.at 2 rfl, hm194.at 6 rfl, hm194.at 7 rfl, hm194.at 8 rfl, hm194.at 4 rfl⟩) ?_
  simp only [List.setIfInBounds_toArray, List.set_cons_zero, List.set_cons_succ]
  refine Sym.take_at 15 52 (.agg (bs ((b * c + 0) % LL))) rfl rfl (by kernel_rfl) (by kernel_rfl) (by kernel_rfl) (fun _ _ _ h => h) rfl (fun _ hw => run_row rfl rfl hw.2.2.2.2.2.1 Try.underlying23 rfl (by rw [bs_sz]; exact info_b)) (⟨hm194.at 5 rfl, hm194.at 1 rfl, hm194.at 0 rfl, hm194.at 3 rfl, hm194.at 2 rfl, hm194.at 6 rfl, hm194.at 7 rfl, hm194.at 8 rfl, hm194.at 4 rfl⟩) ?_
  simp only [List.setIfInBounds_toArray, List.set_cons_zero, List.set_cons_succ]
  refine Sym.take_at 16 53 (.agg (bs 0)) rfl rfl (by kernel_rfl) (by kernel_rfl) (by kernel_rfl) (fun _ _ _ h => h) rfl (fun _ hw => run_row rfl rfl hw.2.2.2.1 Try.underlying23 rfl (by rw [bs_sz]; exact info_b)) (⟨hm194.at 5 rfl, hm194.at 1 rfl, hm194.at 0 rfl, hm194.at 3 rfl, hm194.at 2 rfl, hm194.at 6 rfl, hm194.at 7 rfl, hm194.at 8 rfl, hm194.at 4 rfl⟩) ?_
  simp only [List.setIfInBounds_toArray, List.set_cons_zero, List.set_cons_succ]
  refine one_ready 13 (by kernel_rfl) ?_
  refine opd rfl rfl (m_call hm194 50 (.agg (bs ((((a * b + 0) % LL) * c + 0) % LL))) rfl (run_Fuse rfl rfl rfl rfl) (fuse_any ((a * b + 0) % LL) c 0 (Nat.lt_trans (Nat.mod_lt _ (by decide)) (by decide)) Hc.out (by decide) _) (fun w195 hm196 => ?_))
  refine ⟨⟨hm196.at 5 rfl, hm196.at 1 rfl, hm196.at 0 rfl, hm196.at 3 rfl, hm196.at 2 rfl, hm196.at 6 rfl, hm196.at 7 rfl, hm196.at 8 rfl, hm196.at 4 rfl⟩, ?_⟩
  simp only [List.setIfInBounds_toArray, List.set_cons_zero, List.set_cons_succ]
  refine one_ready 17 (by kernel_rfl) ?_
  refine opd rfl rfl (m_call hm196 54 (.agg (bs ((a * ((b * c + 0) % LL) + 0) % LL))) rfl (run_Fuse rfl rfl rfl rfl) (fuse_any a ((b * c + 0) % LL) 0 Ha.out (Nat.lt_trans (Nat.mod_lt _ (by decide)) (by decide)) (by decide) _) (fun w197 hm198 => ?_))
  refine ⟨⟨hm198.at 5 rfl, hm198.at 1 rfl, hm198.at 0 rfl, hm198.at 3 rfl, hm198.at 2 rfl, hm198.at 6 rfl, hm198.at 7 rfl, hm198.at 8 rfl, hm198.at 4 rfl⟩, ?_⟩
  simp only [List.setIfInBounds_toArray, List.set_cons_zero, List.set_cons_succ]
  refine Sym.take_at 18 55 (.bool true) rfl rfl (by kernel_rfl) (by kernel_rfl) (by kernel_rfl) (fun _ _ _ h => h) rfl (fun _ hw => run_eqN ((((a * b + 0) % LL) * c + 0) % LL) ((a * ((b * c + 0) % LL) + 0) % LL) (Nat.lt_trans (Nat.mod_lt _ (by decide)) (by decide)) (Nat.lt_trans (Nat.mod_lt _ (by decide)) (by decide)) true (decide_eq_true F2) rfl rfl rfl) (⟨hm198.at 5 rfl, hm198.at 1 rfl, hm198.at 0 rfl, hm198.at 3 rfl, hm198.at 2 rfl, hm198.at 6 rfl, hm198.at 7 rfl, hm198.at 8 rfl, hm198.at 4 rfl⟩) ?_
  simp only [List.setIfInBounds_toArray, List.set_cons_zero, List.set_cons_succ]
  refine Sym.take_at 19 56 (.bool true) rfl rfl (by kernel_rfl) (by kernel_rfl) (by kernel_rfl) (fun _ _ _ h => h) (wanted_none rfl) (fun _ hw => run_pick rfl rfl rfl) (⟨hm198.at 5 rfl, hm198.at 1 rfl, hm198.at 0 rfl, hm198.at 3 rfl, hm198.at 2 rfl, hm198.at 6 rfl, hm198.at 7 rfl, hm198.at 8 rfl, hm198.at 4 rfl⟩) ?_
  simp only [List.setIfInBounds_toArray, List.set_cons_zero, List.set_cons_succ]
  refine Sym.take_at 20 57 (.bool true) rfl rfl (by kernel_rfl) (by kernel_rfl) (by kernel_rfl) (fun _ _ _ h => h) (wanted_none rfl) (fun _ hw => run_mv rfl rfl) (⟨hm198.at 5 rfl, hm198.at 1 rfl, hm198.at 0 rfl, hm198.at 3 rfl, hm198.at 2 rfl, hm198.at 6 rfl, hm198.at 7 rfl, hm198.at 8 rfl, hm198.at 4 rfl⟩) ?_
  simp only [List.setIfInBounds_toArray, List.set_cons_zero, List.set_cons_succ]
  refine Sym.take_at 21 58 (.agg (bs a)) rfl rfl (by kernel_rfl) (by kernel_rfl) (by kernel_rfl) (fun _ _ _ h => h) rfl (fun _ hw => run_row rfl rfl hw.2.2.1 Try.underlying23 rfl (by rw [bs_sz]; exact info_b)) (⟨hm198.at 5 rfl, hm198.at 1 rfl, hm198.at 0 rfl, hm198.at 3 rfl, hm198.at 2 rfl, hm198.at 6 rfl, hm198.at 7 rfl, hm198.at 8 rfl, hm198.at 4 rfl⟩) ?_
  simp only [List.setIfInBounds_toArray, List.set_cons_zero, List.set_cons_succ]
  refine Sym.take_at 22 59 (.agg (bs ((1 * b + c) % LL))) rfl rfl (by kernel_rfl) (by kernel_rfl) (by kernel_rfl) (fun _ _ _ h => h) rfl (fun _ hw => run_row rfl rfl hw.2.2.2.2.2.2.1 Try.underlying23 rfl (by rw [bs_sz]; exact info_b)) (⟨hm198.at 5 rfl, hm198.at 1 rfl, hm198.at 0 rfl, hm198.at 3 rfl, hm198.at 2 rfl, hm198.at 6 rfl, hm198.at 7 rfl, hm198.at 8 rfl, hm198.at 4 rfl⟩) ?_
  simp only [List.setIfInBounds_toArray, List.set_cons_zero, List.set_cons_succ]
  refine Sym.take_at 23 60 (.agg (bs 0)) rfl rfl (by kernel_rfl) (by kernel_rfl) (by kernel_rfl) (fun _ _ _ h => h) rfl (fun _ hw => run_row rfl rfl hw.2.2.2.1 Try.underlying23 rfl (by rw [bs_sz]; exact info_b)) (⟨hm198.at 5 rfl, hm198.at 1 rfl, hm198.at 0 rfl, hm198.at 3 rfl, hm198.at 2 rfl, hm198.at 6 rfl, hm198.at 7 rfl, hm198.at 8 rfl, hm198.at 4 rfl⟩) ?_
  simp only [List.setIfInBounds_toArray, List.set_cons_zero, List.set_cons_succ]
  refine Sym.take_at 25 62 (.agg (bs a)) rfl rfl (by kernel_rfl) (by kernel_rfl) (by kernel_rfl) (fun _ _ _ h => h) rfl (fun _ hw => run_row rfl rfl hw.2.2.1 Try.underlying23 rfl (by rw [bs_sz]; exact info_b)) (⟨hm198.at 5 rfl, hm198.at 1 rfl, hm198.at 0 rfl, hm198.at 3 rfl, hm198.at 2 rfl, hm198.at 6 rfl, hm198.at 7 rfl, hm198.at 8 rfl, hm198.at 4 rfl⟩) ?_
  simp only [List.setIfInBounds_toArray, List.set_cons_zero, List.set_cons_succ]
  refine Sym.take_at 26 63 (.agg (bs b)) rfl rfl (by kernel_rfl) (by kernel_rfl) (by kernel_rfl) (fun _ _ _ h => h) rfl (fun _ hw => run_row rfl rfl hw.2.1 Try.underlying23 rfl (by rw [bs_sz]; exact info_b)) (⟨hm198.at 5 rfl, hm198.at 1 rfl, hm198.at 0 rfl, hm198.at 3 rfl, hm198.at 2 rfl, hm198.at 6 rfl, hm198.at 7 rfl, hm198.at 8 rfl, hm198.at 4 rfl⟩) ?_
  simp only [List.setIfInBounds_toArray, List.set_cons_zero, List.set_cons_succ]
  refine Sym.take_at 27 64 (.agg (bs a)) rfl rfl (by kernel_rfl) (by kernel_rfl) (by kernel_rfl) (fun _ _ _ h => h) rfl (fun _ hw => run_row rfl rfl hw.2.2.1 Try.underlying23 rfl (by rw [bs_sz]; exact info_b)) (⟨hm198.at 5 rfl, hm198.at 1 rfl, hm198.at 0 rfl, hm198.at 3 rfl, hm198.at 2 rfl, hm198.at 6 rfl, hm198.at 7 rfl, hm198.at 8 rfl, hm198.at 4 rfl⟩) ?_
  simp only [List.setIfInBounds_toArray, List.set_cons_zero, List.set_cons_succ]
  refine Sym.take_at 28 65 (.agg (bs c)) rfl rfl (by kernel_rfl) (by kernel_rfl) (by kernel_rfl) (fun _ _ _ h => h) rfl (fun _ hw => run_row rfl rfl hw.2.2.2.2.1 Try.underlying23 rfl (by rw [bs_sz]; exact info_b)) (⟨hm198.at 5 rfl, hm198.at 1 rfl, hm198.at 0 rfl, hm198.at 3 rfl, hm198.at 2 rfl, hm198.at 6 rfl, hm198.at 7 rfl, hm198.at 8 rfl, hm198.at 4 rfl⟩) ?_
  simp only [List.setIfInBounds_toArray, List.set_cons_zero, List.set_cons_succ]
  refine Sym.take_at 29 66 (.agg (bs 0)) rfl rfl (by kernel_rfl) (by kernel_rfl) (by kernel_rfl) (fun _ _ _ h => h) rfl (fun _ hw => run_row rfl rfl hw.2.2.2.1 Try.underlying23 rfl (by rw [bs_sz]; exact info_b)) (⟨hm198.at 5 rfl, hm198.at 1 rfl, hm198.at 0 rfl, hm198.at 3 rfl, hm198.at 2 rfl, hm198.at 6 rfl, hm198.at 7 rfl, hm198.at 8 rfl, hm198.at 4 rfl⟩) ?_
  simp only [List.setIfInBounds_toArray, List.set_cons_zero, List.set_cons_succ]
  refine one_ready 24 (by kernel_rfl) ?_
  refine opd rfl rfl (m_call hm198 61 (.agg (bs ((a * ((1 * b + c) % LL) + 0) % LL))) rfl (run_Fuse rfl rfl rfl rfl) (fuse_any a ((1 * b + c) % LL) 0 Ha.out (Nat.lt_trans (Nat.mod_lt _ (by decide)) (by decide)) (by decide) _) (fun w199 hm200 => ?_))
  refine ⟨⟨hm200.at 5 rfl, hm200.at 1 rfl, hm200.at 0 rfl, hm200.at 3 rfl, hm200.at 2 rfl, hm200.at 6 rfl, hm200.at 7 rfl, hm200.at 8 rfl, hm200.at 4 rfl⟩, ?_⟩
  simp only [List.setIfInBounds_toArray, List.set_cons_zero, List.set_cons_succ]
  refine one_ready 30 (by kernel_rfl) ?_
  refine opd rfl rfl (m_call hm200 67 (.agg (bs ((a * c + 0) % LL))) rfl (run_Fuse rfl rfl rfl rfl) (fuse_any a c 0 Ha.out Hc.out (by decide) _) (fun w201 hm202 => ?_))
  refine ⟨⟨hm202.at 5 rfl, hm202.at 1 rfl, hm202.at 0 rfl, hm202.at 3 rfl, hm202.at 2 rfl, hm202.at 6 rfl, hm202.at 7 rfl, hm202.at 8 rfl, hm202.at 4 rfl⟩, ?_⟩
  simp only [List.setIfInBounds_toArray, List.set_cons_zero, List.set_cons_succ]
  refine one_ready 31 (by kernel_rfl) ?_
  refine opd rfl rfl (m_call hm202 68 (.agg (bs ((a * b + ((a * c + 0) % LL)) % LL))) rfl (run_Fuse rfl rfl rfl rfl) (fuse_any a b ((a * c + 0) % LL) Ha.out Hb.out (Nat.lt_trans (Nat.mod_lt _ (by decide)) (by decide)) _) (fun w203 hm204 => ?_))
  refine ⟨⟨hm204.at 5 rfl, hm204.at 1 rfl, hm204.at 0 rfl, hm204.at 3 rfl, hm204.at 2 rfl, hm204.at 6 rfl, hm204.at 7 rfl, hm204.at 8 rfl, hm204.at 4 rfl⟩, ?_⟩
  simp only [List.setIfInBounds_toArray, List.set_cons_zero, List.set_cons_succ]
  refine Sym.take_at 32 69 (.bool true) rfl rfl (by kernel_rfl) (by kernel_rfl) (by kernel_rfl) (fun _ _ _ h => h) rfl (fun _ hw => run_eqN ((a * ((1 * b + c) % LL) + 0) % LL) ((a * b + ((a * c + 0) % LL)) % LL) (Nat.lt_trans (Nat.mod_lt _ (by decide)) (by decide)) (Nat.lt_trans (Nat.mod_lt _ (by decide)) (by decide)) true (decide_eq_true F3) rfl rfl rfl) (⟨hm204.at 5 rfl, hm204.at 1 rfl, hm204.at 0 rfl, hm204.at 3 rfl, hm204.at 2 rfl, hm204.at 6 rfl, hm204.at 7 rfl, hm204.at 8 rfl, hm204.at 4 rfl⟩) ?_
  simp only [List.setIfInBounds_toArray, List.set_cons_zero, List.set_cons_succ]
  refine Sym.take_at 33 70 (.bool true) rfl rfl (by kernel_rfl) (by kernel_rfl) (by kernel_rfl) (fun _ _ _ h => h) (wanted_none rfl) (fun _ hw => run_pick rfl rfl rfl) (⟨hm204.at 5 rfl, hm204.at 1 rfl, hm204.at 0 rfl, hm204.at 3 rfl, hm204.at 2 rfl, hm204.at 6 rfl, hm204.at 7 rfl, hm204.at 8 rfl, hm204.at 4 rfl⟩) ?_
  simp only [List.setIfInBounds_toArray, List.set_cons_zero, List.set_cons_succ]
  refine Sym.take_at 34 71 (.bool true) rfl rfl (by kernel_rfl) (by kernel_rfl) (by kernel_rfl) (fun _ _ _ h => h) (wanted_none rfl) (fun _ hw => run_mv rfl rfl) (⟨hm204.at 5 rfl, hm204.at 1 rfl, hm204.at 0 rfl, hm204.at 3 rfl, hm204.at 2 rfl, hm204.at 6 rfl, hm204.at 7 rfl, hm204.at 8 rfl, hm204.at 4 rfl⟩) ?_
  simp only [List.setIfInBounds_toArray, List.set_cons_zero, List.set_cons_succ]
  refine Sym.take_at 35 72 (.bool true) rfl rfl (by kernel_rfl) (by kernel_rfl) (by kernel_rfl) (fun _ _ _ h => h) rfl (fun _ hw => run_mv rfl rfl) (⟨hm204.at 5 rfl, hm204.at 1 rfl, hm204.at 0 rfl, hm204.at 3 rfl, hm204.at 2 rfl, hm204.at 6 rfl, hm204.at 7 rfl, hm204.at 8 rfl, hm204.at 4 rfl⟩) ?_
  simp only [List.setIfInBounds_toArray, List.set_cons_zero, List.set_cons_succ]
  refine Sym.take_at 36 73 (.bool true) rfl rfl (by kernel_rfl) (by kernel_rfl) (by kernel_rfl) (fun _ _ _ h => h) (wanted_none rfl) (fun _ hw => run_pick rfl rfl rfl) (⟨hm204.at 5 rfl, hm204.at 1 rfl, hm204.at 0 rfl, hm204.at 3 rfl, hm204.at 2 rfl, hm204.at 6 rfl, hm204.at 7 rfl, hm204.at 8 rfl, hm204.at 4 rfl⟩) ?_
  simp only [List.setIfInBounds_toArray, List.set_cons_zero, List.set_cons_succ]
  refine Sym.take_at 37 74 (.bool true) rfl rfl (by kernel_rfl) (by kernel_rfl) (by kernel_rfl) (fun _ _ _ h => h) (wanted_none rfl) (fun _ hw => run_mv rfl rfl) (⟨hm204.at 5 rfl, hm204.at 1 rfl, hm204.at 0 rfl, hm204.at 3 rfl, hm204.at 2 rfl, hm204.at 6 rfl, hm204.at 7 rfl, hm204.at 8 rfl, hm204.at 4 rfl⟩) ?_
  simp only [List.setIfInBounds_toArray, List.set_cons_zero, List.set_cons_succ]
  refine Sym.take_at 38 75 (.agg (bs ((a + MM * 0) % LL))) rfl rfl (by kernel_rfl) (by kernel_rfl) (by kernel_rfl) (fun _ _ _ h => h) rfl (fun _ hw => run_row rfl rfl hw.2.2.2.2.2.2.2.1 Try.underlying23 rfl (by rw [bs_sz]; exact info_b)) (⟨hm204.at 5 rfl, hm204.at 1 rfl, hm204.at 0 rfl, hm204.at 3 rfl, hm204.at 2 rfl, hm204.at 6 rfl, hm204.at 7 rfl, hm204.at 8 rfl, hm204.at 4 rfl⟩) ?_
  simp only [List.setIfInBounds_toArray, List.set_cons_zero, List.set_cons_succ]
  refine Sym.take_at 39 76 (.agg (bs a)) rfl rfl (by kernel_rfl) (by kernel_rfl) (by kernel_rfl) (fun _ _ _ h => h) rfl (fun _ hw => run_row rfl rfl hw.2.2.1 Try.underlying23 rfl (by rw [bs_sz]; exact info_b)) (⟨hm204.at 5 rfl, hm204.at 1 rfl, hm204.at 0 rfl, hm204.at 3 rfl, hm204.at 2 rfl, hm204.at 6 rfl, hm204.at 7 rfl, hm204.at 8 rfl, hm204.at 4 rfl⟩) ?_
  simp only [List.setIfInBounds_toArray, List.set_cons_zero, List.set_cons_succ]
  refine Sym.take_at 40 77 (.agg (bs 1)) rfl rfl (by kernel_rfl) (by kernel_rfl) (by kernel_rfl) (fun _ _ _ h => h) rfl (fun _ hw => run_row rfl rfl hw.2.2.2.2.2.2.2.2 Try.underlying23 rfl (by rw [bs_sz]; exact info_b)) (⟨hm204.at 5 rfl, hm204.at 1 rfl, hm204.at 0 rfl, hm204.at 3 rfl, hm204.at 2 rfl, hm204.at 6 rfl, hm204.at 7 rfl, hm204.at 8 rfl, hm204.at 4 rfl⟩) ?_
  simp only [List.setIfInBounds_toArray, List.set_cons_zero, List.set_cons_succ]
  refine Sym.take_at 41 78 (.agg (bs 0)) rfl rfl (by kernel_rfl) (by kernel_rfl) (by kernel_rfl) (fun _ _ _ h => h) rfl (fun _ hw => run_row rfl rfl hw.2.2.2.1 Try.underlying23 rfl (by rw [bs_sz]; exact info_b)) (⟨hm204.at 5 rfl, hm204.at 1 rfl, hm204.at 0 rfl, hm204.at 3 rfl, hm204.at 2 rfl, hm204.at 6 rfl, hm204.at 7 rfl, hm204.at 8 rfl, hm204.at 4 rfl⟩) ?_
  simp only [List.setIfInBounds_toArray, List.set_cons_zero, List.set_cons_succ]
  refine one_ready 42 (by kernel_rfl) ?_
  refine opd rfl rfl (m_call hm204 79 (.agg (bs ((a * 1 + 0) % LL))) rfl (run_Fuse rfl rfl rfl rfl) (fuse_any a 1 0 Ha.out (by decide) (by decide) _) (fun w205 hm206 => ?_))
  refine ⟨⟨hm206.at 5 rfl, hm206.at 1 rfl, hm206.at 0 rfl, hm206.at 3 rfl, hm206.at 2 rfl, hm206.at 6 rfl, hm206.at 7 rfl, hm206.at 8 rfl, hm206.at 4 rfl⟩, ?_⟩
  simp only [List.setIfInBounds_toArray, List.set_cons_zero, List.set_cons_succ]
  refine Sym.take_at 43 80 (.bool true) rfl rfl (by kernel_rfl) (by kernel_rfl) (by kernel_rfl) (fun _ _ _ h => h) rfl (fun _ hw => run_eqN ((a + MM * 0) % LL) ((a * 1 + 0) % LL) (Nat.lt_trans (Nat.mod_lt _ (by decide)) (by decide)) (Nat.lt_trans (Nat.mod_lt _ (by decide)) (by decide)) true (decide_eq_true F4) rfl rfl rfl) (⟨hm206.at 5 rfl, hm206.at 1 rfl, hm206.at 0 rfl, hm206.at 3 rfl, hm206.at 2 rfl, hm206.at 6 rfl, hm206.at 7 rfl, hm206.at 8 rfl, hm206.at 4 rfl⟩) ?_
  simp only [List.setIfInBounds_toArray, List.set_cons_zero, List.set_cons_succ]
  refine Sym.take_at 44 81 (.bool true) rfl rfl (by kernel_rfl) (by kernel_rfl) (by kernel_rfl) (fun _ _ _ h => h) (wanted_none rfl) (fun _ hw => run_pick rfl rfl rfl) (⟨hm206.at 5 rfl, hm206.at 1 rfl, hm206.at 0 rfl, hm206.at 3 rfl, hm206.at 2 rfl, hm206.at 6 rfl, hm206.at 7 rfl, hm206.at 8 rfl, hm206.at 4 rfl⟩) ?_
  simp only [List.setIfInBounds_toArray, List.set_cons_zero, List.set_cons_succ]
  refine Sym.take_at 45 82 (.bool true) rfl rfl (by kernel_rfl) (by kernel_rfl) (by kernel_rfl) (fun _ _ _ h => h) (wanted_none rfl) (fun _ hw => run_mv rfl rfl) (⟨hm206.at 5 rfl, hm206.at 1 rfl, hm206.at 0 rfl, hm206.at 3 rfl, hm206.at 2 rfl, hm206.at 6 rfl, hm206.at 7 rfl, hm206.at 8 rfl, hm206.at 4 rfl⟩) ?_
  simp only [List.setIfInBounds_toArray, List.set_cons_zero, List.set_cons_succ]
  refine Sym.take_at 46 83 (.agg (bs a)) rfl rfl (by kernel_rfl) (by kernel_rfl) (by kernel_rfl) (fun _ _ _ h => h) rfl (fun _ hw => run_row rfl rfl hw.2.2.1 Try.underlying23 rfl (by rw [bs_sz]; exact info_b)) (⟨hm206.at 5 rfl, hm206.at 1 rfl, hm206.at 0 rfl, hm206.at 3 rfl, hm206.at 2 rfl, hm206.at 6 rfl, hm206.at 7 rfl, hm206.at 8 rfl, hm206.at 4 rfl⟩) ?_
  simp only [List.setIfInBounds_toArray, List.set_cons_zero, List.set_cons_succ]
  refine one_ready 47 (by kernel_rfl) ?_
  refine opd rfl rfl (m_call hm206 84 (.bool false) rfl (run_Canon rfl rfl) (canon_false a Ha.out hl.out _) (fun w207 hm208 => ?_))
  refine ⟨⟨hm208.at 5 rfl, hm208.at 1 rfl, hm208.at 0 rfl, hm208.at 3 rfl, hm208.at 2 rfl, hm208.at 6 rfl, hm208.at 7 rfl, hm208.at 8 rfl, hm208.at 4 rfl⟩, ?_⟩
  simp only [List.setIfInBounds_toArray, List.set_cons_zero, List.set_cons_succ]
  refine Sym.take_at 48 85 (.bool true) rfl rfl (by kernel_rfl) (by kernel_rfl) (by kernel_rfl) (fun _ _ _ h => h) rfl (fun _ hw => r_not false rfl rfl) (⟨hm208.at 5 rfl, hm208.at 1 rfl, hm208.at 0 rfl, hm208.at 3 rfl, hm208.at 2 rfl, hm208.at 6 rfl, hm208.at 7 rfl, hm208.at 8 rfl, hm208.at 4 rfl⟩) ?_
  simp only [List.setIfInBounds_toArray, List.set_cons_zero, List.set_cons_succ]
  refine Sym.take_at 49 86 (.bool true) rfl rfl (by kernel_rfl) (by kernel_rfl) (by kernel_rfl) (fun _ _ _ h => h) rfl (fun _ hw => run_mv rfl rfl) (⟨hm208.at 5 rfl, hm208.at 1 rfl, hm208.at 0 rfl, hm208.at 3 rfl, hm208.at 2 rfl, hm208.at 6 rfl, hm208.at 7 rfl, hm208.at 8 rfl, hm208.at 4 rfl⟩) ?_
  simp only [List.setIfInBounds_toArray, List.set_cons_zero, List.set_cons_succ]
  refine skip_at 50 87 rfl rfl (by kernel_rfl) (by kernel_rfl) (by kernel_rfl) (fun _ _ _ h => h) rfl (⟨hm208.at 5 rfl, hm208.at 1 rfl, hm208.at 0 rfl, hm208.at 3 rfl, hm208.at 2 rfl, hm208.at 6 rfl, hm208.at 7 rfl, hm208.at 8 rfl, hm208.at 4 rfl⟩) ?_
  simp only [List.setIfInBounds_toArray, List.set_cons_zero, List.set_cons_succ]
  refine skip_at 51 88 rfl rfl (by kernel_rfl) (by kernel_rfl) (by kernel_rfl) (fun _ _ _ h => h) rfl (⟨hm208.at 5 rfl, hm208.at 1 rfl, hm208.at 0 rfl, hm208.at 3 rfl, hm208.at 2 rfl, hm208.at 6 rfl, hm208.at 7 rfl, hm208.at 8 rfl, hm208.at 4 rfl⟩) ?_
  simp only [List.setIfInBounds_toArray, List.set_cons_zero, List.set_cons_succ]
  refine skip_at 52 89 rfl rfl (by kernel_rfl) (by kernel_rfl) (by kernel_rfl) (fun _ _ _ h => h) rfl (⟨hm208.at 5 rfl, hm208.at 1 rfl, hm208.at 0 rfl, hm208.at 3 rfl, hm208.at 2 rfl, hm208.at 6 rfl, hm208.at 7 rfl, hm208.at 8 rfl, hm208.at 4 rfl⟩) ?_
  simp only [List.setIfInBounds_toArray, List.set_cons_zero, List.set_cons_succ]
  refine Sym.take_at 53 90 (.bool true) rfl rfl (by kernel_rfl) (by kernel_rfl) (by kernel_rfl) (fun _ _ _ h => h) rfl (fun _ hw => run_pick rfl rfl rfl) (⟨hm208.at 5 rfl, hm208.at 1 rfl, hm208.at 0 rfl, hm208.at 3 rfl, hm208.at 2 rfl, hm208.at 6 rfl, hm208.at 7 rfl, hm208.at 8 rfl, hm208.at 4 rfl⟩) ?_
  simp only [List.setIfInBounds_toArray, List.set_cons_zero, List.set_cons_succ]
  refine Sym.take_at 54 91 (.bool true) rfl rfl (by kernel_rfl) (by kernel_rfl) (by kernel_rfl) (fun _ _ _ h => h) (wanted_none rfl) (fun _ hw => run_pick rfl rfl rfl) (⟨hm208.at 5 rfl, hm208.at 1 rfl, hm208.at 0 rfl, hm208.at 3 rfl, hm208.at 2 rfl, hm208.at 6 rfl, hm208.at 7 rfl, hm208.at 8 rfl, hm208.at 4 rfl⟩) ?_
  simp only [List.setIfInBounds_toArray, List.set_cons_zero, List.set_cons_succ]
  refine one_ready 55 (by kernel_rfl) ?_
  refine opd rfl (wanted_none rfl) (w_value 6 (.bool true) rfl (run_as rfl rfl) ⟨⟨hm208.at 5 rfl, hm208.at 1 rfl, hm208.at 0 rfl, hm208.at 3 rfl, hm208.at 2 rfl, hm208.at 6 rfl, hm208.at 7 rfl, hm208.at 8 rfl, hm208.at 4 rfl⟩, ?_⟩)
  simp only [List.setIfInBounds_toArray, List.set_cons_zero, List.set_cons_succ]
  refine wpAnyH_done (by kernel_rfl) ?_ _
  refine then_n (hK188 _ _ ?_)
  refine wp_ret ?_
  exact ⟨rfl, .bool true, res_t rfl rfl, ⟨rfl, hm208.below⟩⟩
theorem walk (a : Nat) (ha : a < MM) (b : Nat) (hb : b < MM) (c : Nat) (hc : c < MM) (w : World) : Calls Try.prog 5 #[.agg (bs a), .agg (bs b), .agg (bs c)] w (fun e w' => e = .returned (.bool true) ∧ Below w.heap.size w w') := by
  by_cases h : a < LL
  · exact walk_yes a ha b hb c hc (Lib.hid h) w
  · exact walk_no a ha b hb c hc (Lib.hid h) w
set_option maxRecDepth 100000 in
theorem lifted (os : Os) (started : os.Started) (H : Type) (enc : TypeId × Value → H) :
    ReturnsInHanded {} Try.checked os 5 .any (Rows.scalarRulesSpec.pre6 enc Try.prog Try.f5 Rows.scalarRulesRow.domain false) (Rows.scalarRulesSpec.post enc Try.prog Try.f5 false true false false) := by
  refine returnsInHanded_of_change (C := Try.checked) own started (by kernel_rfl) Try.func5
    (ChangeSpec.witness6 (enc := enc) (C := Try.checked) false ⟨#[], #[.agg #[.int .u8 0, .int .u8 0, .int .u8 0, .int .u8 0, .int .u8 0, .int .u8 0, .int .u8 0, .int .u8 0, .int .u8 0, .int .u8 0, .int .u8 0, .int .u8 0, .int .u8 0, .int .u8 0, .int .u8 0, .int .u8 0, .int .u8 0, .int .u8 0, .int .u8 0, .int .u8 0, .int .u8 0, .int .u8 0, .int .u8 0, .int .u8 0, .int .u8 0, .int .u8 0, .int .u8 0, .int .u8 0, .int .u8 0, .int .u8 0, .int .u8 0, .int .u8 0], .agg #[.int .u8 0, .int .u8 0, .int .u8 0, .int .u8 0, .int .u8 0, .int .u8 0, .int .u8 0, .int .u8 0, .int .u8 0, .int .u8 0, .int .u8 0, .int .u8 0, .int .u8 0, .int .u8 0, .int .u8 0, .int .u8 0, .int .u8 0, .int .u8 0, .int .u8 0, .int .u8 0, .int .u8 0, .int .u8 0, .int .u8 0, .int .u8 0, .int .u8 0, .int .u8 0, .int .u8 0, .int .u8 0, .int .u8 0, .int .u8 0, .int .u8 0, .int .u8 0], .agg #[.int .u8 0, .int .u8 0, .int .u8 0, .int .u8 0, .int .u8 0, .int .u8 0, .int .u8 0, .int .u8 0, .int .u8 0, .int .u8 0, .int .u8 0, .int .u8 0, .int .u8 0, .int .u8 0, .int .u8 0, .int .u8 0, .int .u8 0, .int .u8 0, .int .u8 0, .int .u8 0, .int .u8 0, .int .u8 0, .int .u8 0, .int .u8 0, .int .u8 0, .int .u8 0, .int .u8 0, .int .u8 0, .int .u8 0, .int .u8 0, .int .u8 0, .int .u8 0]], []⟩ 8 (by kernel_rfl) (by kernel_rfl) (by kernel_rfl) (by kernel_rfl)) ?_
  intro W base args ds gs before hval0 hW hcnd _
  have hval : ∀ (j : Nat) t v, Try.f5.params[j]? = some t → args[j]? = some v → Value.okWide Try.prog W .any base t v := hval0
  have hW' := hW
  obtain ⟨p, q, hA0, hV, rfl, hfz, hnd⟩ := hW
  have hA : DataW.TrodAll enc Try.prog W 0 (fun _ => true) true Try.f5.params.toList args.toList ds p := hA0
  rw [Try.params5] at hA hval
  obtain ⟨v0, vs0, d0, ds0, p0, q0, hargs, rfl, rfl, h0, r0⟩ := trodAll_cons hA
  obtain ⟨v1, vs1, d1, ds1, p1, q1, rfl, rfl, rfl, h1, r1⟩ := trodAll_cons r0
  obtain ⟨v2, vs2, d2, ds2, p2, q2, rfl, rfl, rfl, h2, r2⟩ := trodAll_cons r1
  obtain ⟨rfl, rfl, rfl⟩ := trodAll_nil r2
  obtain rfl : args = #[v0, v1, v2] := by cases args; simp_all
  obtain ⟨rfl, rfl⟩ := trodVars_none hV
  obtain ⟨a0, b0, rfl, rfl, k0⟩ := open_num (hval 0 23 v0 rfl rfl) h0
  obtain ⟨a1, b1, rfl, rfl, k1⟩ := open_num (hval 1 23 v1 rfl rfl) h1
  obtain ⟨a2, b2, rfl, rfl, k2⟩ := open_num (hval 2 23 v2 rfl rfl) h2
  clear hA0 hval0
  simp only [List.append_nil] at hW'
  refine (walk a0 b0 a1 b1 a2 b2 W).mono fun e W' ⟨he, hg⟩ => ?_
  subst he
  exact ⟨_, rfl, _, _, _, [], [], [], hW', (trodAll_cons_mk (shut_bool Try.underlying4 _) trodAll_mk0), (trodAll_cons_mk (k0 _ _) (trodAll_cons_mk (k1 _ _) (trodAll_cons_mk (k2 _ _) trodAll_mk0))), rfl, hg.frame _, fun h => by cases h⟩

theorem over : Rows.scalarRulesRow.holds Try.pinned (OpenSpec.ofChange Rows.scalarRulesSpec) :=
  OpenClaim.holds_of_wide 5 Try.f5 rfl rfl rfl rfl rfl rfl rfl ⟨rfl, rfl, rfl, rfl, rfl⟩ rfl rfl rfl rfl rfl (by kernel_rfl) Try.func5 (by kernel_rfl)
    (of_decide_eq_true (by kernel_rfl)) (by unfold Func.isWrapper; first | (rw [if_pos (by decide +kernel)]; kernel_rfl) | (rw [if_neg (by decide +kernel)]; exact ⟨rfl, rfl⟩))
    (fun os started H enc _ => lifted os started H enc)

/-- The statement. -/
theorem proved : Rows.ScalarRulesSaid :=
  over
#print axioms proved
end Go.Proofs.Ytcemcnbhnedaaaa.scalarRules
