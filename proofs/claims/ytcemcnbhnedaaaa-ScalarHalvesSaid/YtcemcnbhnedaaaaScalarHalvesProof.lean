/- What 64 bytes leave is the lower 32 and the higher ones times what 2^256 leaves: ScalarHalves returns true, for every two numbers of 32 bytes. No condition. -/
import Derived.Test.YtcemcnbhnedaaaaRows
import Derived.Test.YtcemcnbhnedaaaaScI
import Derived.Test.YtcemcnbhnedaaaaScO
import Derived.WalkKit
import Derived.ProofKit
import Derived.OpenShut
import Derived.ChangeMaps5
namespace Go.Proofs.Ytcemcnbhnedaaaa.scalarHalves
open Go.ChangeShapes Go.WideShapes Go.ChangeAt Go.RowKit Go.Maps
open Go.Proofs.Ytcemcnbhnedaaaa Go.Proofs.Ytcemcnbhnedaaaa.Fld Go.Proofs.Ytcemcnbhnedaaaa.Arr Go.Proofs.Ytcemcnbhnedaaaa.Sym Go.Proofs.Ytcemcnbhnedaaaa.Sx
set_option linter.unusedVariables false

theorem own : ownKnob Try.prog.godebug = none := by kernel_rfl

set_option maxHeartbeats 4000000 in
set_option maxRecDepth 100000 in
theorem walk (a : Nat) (ha : a < MM) (b : Nat) (hb : b < MM) (w : World) : Calls Try.prog 6 #[.agg (bs a), .agg (bs b)] w (fun e w' => e = .returned (.bool true) ∧ Below w.heap.size w w') := by
  have F1 : ((a + MM * b) % LL) = ((b * ((0 + MM * 1) % LL) + a) % LL) := by
    rw [Nat.zero_add, Nat.mul_one, Nat.add_mod (b * _), Nat.mul_mod_mod, ← Nat.add_mod, Nat.mul_comm MM b, Nat.add_comm]
  have Ha := Lib.hid ha
  have Hb := Lib.hid hb
  clear ha
  clear hb
  go_enter Try.func6, Try.ntmps6
  have hm0 := Mm.nil w
  refine wp_seq_k (fun K1 hK1 => ?_)
  refine wp_region_lit ?_
  refine lst (wanted_none rfl) (m_alloc (c := bs a) (T := 23) hm0 2 rfl (run_box rfl rfl) (fun g2 w3 (hm4 : Mm w w3 [(g2, bs a, 23)]) => ?_))
  simp only [List.setIfInBounds_toArray, List.set_cons_zero, List.set_cons_succ]
  refine lst (wanted_none rfl) (m_alloc (c := bs b) (T := 23) hm4 3 rfl (run_box rfl rfl) (fun g5 w6 (hm7 : Mm w w6 [(g2, bs a, 23), (g5, bs b, 23)]) => ?_))
  simp only [List.setIfInBounds_toArray, List.set_cons_zero, List.set_cons_succ]
  refine lst (wanted_none rfl) (w_value 4 (.bool false) rfl (run_as rfl rfl) ?_)
  simp only [List.setIfInBounds_toArray, List.set_cons_zero, List.set_cons_succ]
  refine wpList_nil ?_
  refine then_n (hK1 _ _ ?_)
  refine wp_seq_k (fun K8 hK8 => ?_)
  refine wp_region_lit ?_
  refine lst (wanted_none rfl) (w_value 11 (.agg (bs 0)) rfl (by unfold execOp; go_simp; rfl) ?_)
  simp only [List.setIfInBounds_toArray, List.set_cons_zero, List.set_cons_succ]
  refine lst (wanted_none rfl) (w_value 12 (.agg (bs 1)) rfl (by unfold execOp; go_simp; rfl) ?_)
  simp only [List.setIfInBounds_toArray, List.set_cons_zero, List.set_cons_succ]
  refine lst (wanted_none rfl) (m_alloc (c := bs 0) (T := 23) hm7 5 rfl (al_N rfl) (fun g9 w10 (hm11 : Mm w w10 [(g2, bs a, 23), (g5, bs b, 23), (g9, bs 0, 23)]) => ?_))
  simp only [List.setIfInBounds_toArray, List.set_cons_zero, List.set_cons_succ]
  refine lst (wanted_none rfl) (m_alloc (c := bs 0) (T := 23) hm11 6 rfl (al_N rfl) (fun g12 w13 (hm14 : Mm w w13 [(g2, bs a, 23), (g5, bs b, 23), (g9, bs 0, 23), (g12, bs 0, 23)]) => ?_))
  simp only [List.setIfInBounds_toArray, List.set_cons_zero, List.set_cons_succ]
  refine lst (wanted_none rfl) (m_store 2 23 _ _ (bs 0) (old := bs 0) hm14 rfl rfl rfl rfl rfl (by rw [bs_sz]; exact info_b) ((bs_sz _).trans (bs_sz _).symm) (bs_one _) (fun w15 (hm16 : Mm w w15 [(g2, bs a, 23), (g5, bs b, 23), (g9, bs 0, 23), (g12, bs 0, 23)]) => ?_))
  refine lst (wanted_none rfl) (m_store 3 23 _ _ (bs 1) (old := bs 0) hm16 rfl rfl rfl rfl rfl (by rw [bs_sz]; exact info_b) ((bs_sz _).trans (bs_sz _).symm) (bs_one _) (fun w17 (hm18 : Mm w w17 [(g2, bs a, 23), (g5, bs b, 23), (g9, bs 0, 23), (g12, bs 1, 23)]) => ?_))
  refine wpList_nil ?_
  refine then_n (hK8 _ _ ?_)
  refine wp_seq_k (fun K19 hK19 => ?_)
  refine wp_mono (Q := fun e a' w' => e = Exit.normal ∧ ∃ g24 : Nat, a' = ⟨#[.agg (bs a), .agg (bs b), .pointer (some ⟨g2, 0, none⟩), .pointer (some ⟨g5, 0, none⟩), .bool false, .pointer (some ⟨g9, 0, none⟩), .pointer (some ⟨g12, 0, none⟩), .pointer (some ⟨g24, 0, none⟩), .bool true, undef, undef, .agg (bs 0), .agg (bs 1), .tuple #[.agg (bs ((a + MM * b) % LL)), .bool true], .slice (some ⟨g2, 0, none⟩) 32 32, .string (nb a), .slice (some ⟨g5, 0, none⟩) 32 32, .string (nb b), .string ((nb a) ++ (nb b)), .tuple #[.agg (bs ((a + MM * b) % LL)), .bool true], .agg (bs ((a + MM * b) % LL)), .bool true, undef, undef, undef, undef, undef, undef, undef, undef, undef, undef, undef, undef, undef, undef, undef, undef, undef, undef, undef, undef, undef, undef, undef, undef], []⟩ ∧ Mm w w' [(g2, bs a, 23), (g5, bs b, 23), (g9, bs 0, 23), (g12, bs 1, 23), (g24, bs ((a + MM * b) % LL), 23)]) ?_ ?_
  · have hm20 := hm18.drew
    refine wp_region_held_drew (S := fun w' => Sym.Blk w' g2 (bs a) 23 ∧ Sym.Blk w' g5 (bs b) 23) (by kernel_rfl) (⟨hm18.at 0 rfl, hm18.at 1 rfl⟩) (fun _ => ?_)
    generalize w17.drew = w21 at *
    refine Sym.take_at 0 14 (.slice (some ⟨g2, 0, none⟩) 32 32) rfl rfl (by kernel_rfl) (by kernel_rfl) (by kernel_rfl) (fun _ _ _ h => nomatch h.1) (wanted_none rfl) (fun _ hw => r_sliceArr g2 32 Try.underlying23 one_u8 rfl rfl) (⟨hm20.at 0 rfl, hm20.at 1 rfl⟩) ?_
    simp only [List.setIfInBounds_toArray, List.set_cons_zero, List.set_cons_succ]
    refine Sym.take_at 1 15 (.string (nb a)) rfl rfl (by kernel_rfl) (by kernel_rfl) (by kernel_rfl) (fun _ _ _ h => nomatch h.1) (wanted_none rfl) (fun _ hw => r_string g2 32 32 (bt a) 23 (fun _ _ => bt_lt _ _) hw.1 Try.underlying31 Try.underlying5 Try.underlying9 rfl rfl) (⟨hm20.at 0 rfl, hm20.at 1 rfl⟩) ?_
    simp only [List.setIfInBounds_toArray, List.set_cons_zero, List.set_cons_succ]
    refine Sym.take_at 2 16 (.slice (some ⟨g5, 0, none⟩) 32 32) rfl rfl (by kernel_rfl) (by kernel_rfl) (by kernel_rfl) (fun _ _ _ h => nomatch h.1) (wanted_none rfl) (fun _ hw => r_sliceArr g5 32 Try.underlying23 one_u8 rfl rfl) (⟨hm20.at 0 rfl, hm20.at 1 rfl⟩) ?_
    simp only [List.setIfInBounds_toArray, List.set_cons_zero, List.set_cons_succ]
    refine Sym.take_at 3 17 (.string (nb b)) rfl rfl (by kernel_rfl) (by kernel_rfl) (by kernel_rfl) (fun _ _ _ h => nomatch h.1) (wanted_none rfl) (fun _ hw => r_string g5 32 32 (bt b) 23 (fun _ _ => bt_lt _ _) hw.2 Try.underlying31 Try.underlying5 Try.underlying9 rfl rfl) (⟨hm20.at 0 rfl, hm20.at 1 rfl⟩) ?_
    simp only [List.setIfInBounds_toArray, List.set_cons_zero, List.set_cons_succ]
    refine Sym.take_at 4 18 (.string ((nb a) ++ (nb b))) rfl rfl (by kernel_rfl) (by kernel_rfl) (by kernel_rfl) (fun _ _ _ h => nomatch h.1) (wanted_none rfl) (fun _ hw => r_cat (nb a) (nb b) (by rw [nb_size, nb_size]; decide) rfl rfl rfl) (⟨hm20.at 0 rfl, hm20.at 1 rfl⟩) ?_
    simp only [List.setIfInBounds_toArray, List.set_cons_zero, List.set_cons_succ]
    refine two_ready 5 9 (by kernel_rfl) ?_ ?_
    · refine opd rfl (wanted_none rfl) (m_call hm20 19 (.tuple #[.agg (bs ((a + MM * b) % LL)), .bool true]) rfl (run_Wide rfl rfl) (wide_cat a b Ha.out Hb.out _) (fun w22 hm23 => ?_))
      refine ⟨⟨hm23.at 0 rfl, hm23.at 1 rfl⟩, ?_⟩
      simp only [List.setIfInBounds_toArray, List.set_cons_zero, List.set_cons_succ]
      refine Sym.take_at 6 13 (.tuple #[.agg (bs ((a + MM * b) % LL)), .bool true]) rfl rfl (by kernel_rfl) (by kernel_rfl) (by kernel_rfl) (fun _ _ _ h => nomatch h.1) (wanted_none rfl) (fun _ hw => run_mv rfl rfl) (⟨hm23.at 0 rfl, hm23.at 1 rfl⟩) ?_
      simp only [List.setIfInBounds_toArray, List.set_cons_zero, List.set_cons_succ]
      refine Sym.take_at 7 20 (.agg (bs ((a + MM * b) % LL))) rfl rfl (by kernel_rfl) (by kernel_rfl) (by kernel_rfl) (fun _ _ _ h => nomatch h.1) (wanted_none rfl) (fun _ hw => run_ex rfl rfl rfl) (⟨hm23.at 0 rfl, hm23.at 1 rfl⟩) ?_
      simp only [List.setIfInBounds_toArray, List.set_cons_zero, List.set_cons_succ]
      refine Sym.take_at 8 21 (.bool true) rfl rfl (by kernel_rfl) (by kernel_rfl) (by kernel_rfl) (fun _ _ _ h => nomatch h.1) (wanted_none rfl) (fun _ hw => run_ex rfl rfl rfl) (⟨hm23.at 0 rfl, hm23.at 1 rfl⟩) ?_
      simp only [List.setIfInBounds_toArray, List.set_cons_zero, List.set_cons_succ]
      refine one_ready 9 (by kernel_rfl) ?_
      refine opd rfl (wanted_none rfl) (m_alloc (c := bs 0) (T := 23) hm23 7 rfl (al_N rfl) (fun g24 w25 (hm26 : Mm w w25 [(g2, bs a, 23), (g5, bs b, 23), (g9, bs 0, 23), (g12, bs 1, 23), (g24, bs 0, 23)]) => ?_))
      refine ⟨⟨hm26.at 0 rfl, hm26.at 1 rfl⟩, ?_⟩
      simp only [List.setIfInBounds_toArray, List.set_cons_zero, List.set_cons_succ]
      refine one_ready 10 (by kernel_rfl) ?_
      refine opd rfl (wanted_none rfl) (m_store 4 23 _ _ (bs ((a + MM * b) % LL)) (old := bs 0) hm26 rfl rfl rfl rfl rfl (by rw [bs_sz]; exact info_b) ((bs_sz _).trans (bs_sz _).symm) (bs_one _) (fun w27 (hm28 : Mm w w27 [(g2, bs a, 23), (g5, bs b, 23), (g9, bs 0, 23), (g12, bs 1, 23), (g24, bs ((a + MM * b) % LL), 23)]) => ?_))
      refine ⟨⟨hm28.at 0 rfl, hm28.at 1 rfl⟩, ?_⟩
      refine one_ready 11 (by kernel_rfl) ?_
      refine opd rfl (wanted_none rfl) (w_value 8 (.bool true) rfl (run_as rfl rfl) ⟨⟨hm28.at 0 rfl, hm28.at 1 rfl⟩, ?_⟩)
      simp only [List.setIfInBounds_toArray, List.set_cons_zero, List.set_cons_succ]
      refine wpAnyH_done (by kernel_rfl) ?_ _
      exact ⟨rfl, g24, rfl, hm28⟩
    · refine opd rfl (wanted_none rfl) (m_alloc (c := bs 0) (T := 23) hm20 7 rfl (al_N rfl) (fun g29 w30 (hm31 : Mm w w30 [(g2, bs a, 23), (g5, bs b, 23), (g9, bs 0, 23), (g12, bs 1, 23), (g29, bs 0, 23)]) => ?_))
      refine ⟨⟨hm31.at 0 rfl, hm31.at 1 rfl⟩, ?_⟩
      simp only [List.setIfInBounds_toArray, List.set_cons_zero, List.set_cons_succ]
      refine one_ready 5 (by kernel_rfl) ?_
      refine opd rfl (wanted_none rfl) (m_call hm31 19 (.tuple #[.agg (bs ((a + MM * b) % LL)), .bool true]) rfl (run_Wide rfl rfl) (wide_cat a b Ha.out Hb.out _) (fun w32 hm33 => ?_))
      refine ⟨⟨hm33.at 0 rfl, hm33.at 1 rfl⟩, ?_⟩
      simp only [List.setIfInBounds_toArray, List.set_cons_zero, List.set_cons_succ]
      refine Sym.take_at 6 13 (.tuple #[.agg (bs ((a + MM * b) % LL)), .bool true]) rfl rfl (by kernel_rfl) (by kernel_rfl) (by kernel_rfl) (fun _ _ _ h => nomatch h.1) (wanted_none rfl) (fun _ hw => run_mv rfl rfl) (⟨hm33.at 0 rfl, hm33.at 1 rfl⟩) ?_
      simp only [List.setIfInBounds_toArray, List.set_cons_zero, List.set_cons_succ]
      refine Sym.take_at 7 20 (.agg (bs ((a + MM * b) % LL))) rfl rfl (by kernel_rfl) (by kernel_rfl) (by kernel_rfl) (fun _ _ _ h => nomatch h.1) (wanted_none rfl) (fun _ hw => run_ex rfl rfl rfl) (⟨hm33.at 0 rfl, hm33.at 1 rfl⟩) ?_
      simp only [List.setIfInBounds_toArray, List.set_cons_zero, List.set_cons_succ]
      refine Sym.take_at 8 21 (.bool true) rfl rfl (by kernel_rfl) (by kernel_rfl) (by kernel_rfl) (fun _ _ _ h => nomatch h.1) (wanted_none rfl) (fun _ hw => run_ex rfl rfl rfl) (⟨hm33.at 0 rfl, hm33.at 1 rfl⟩) ?_
      simp only [List.setIfInBounds_toArray, List.set_cons_zero, List.set_cons_succ]
      refine one_ready 10 (by kernel_rfl) ?_
      refine opd rfl (wanted_none rfl) (m_store 4 23 _ _ (bs ((a + MM * b) % LL)) (old := bs 0) hm33 rfl rfl rfl rfl rfl (by rw [bs_sz]; exact info_b) ((bs_sz _).trans (bs_sz _).symm) (bs_one _) (fun w34 (hm35 : Mm w w34 [(g2, bs a, 23), (g5, bs b, 23), (g9, bs 0, 23), (g12, bs 1, 23), (g29, bs ((a + MM * b) % LL), 23)]) => ?_))
      refine ⟨⟨hm35.at 0 rfl, hm35.at 1 rfl⟩, ?_⟩
      refine one_ready 11 (by kernel_rfl) ?_
      refine opd rfl (wanted_none rfl) (w_value 8 (.bool true) rfl (run_as rfl rfl) ⟨⟨hm35.at 0 rfl, hm35.at 1 rfl⟩, ?_⟩)
      simp only [List.setIfInBounds_toArray, List.set_cons_zero, List.set_cons_succ]
      refine wpAnyH_done (by kernel_rfl) ?_ _
      exact ⟨rfl, g29, rfl, hm35⟩
  clear hm18
  rintro _ _ w36 ⟨rfl, g24, rfl, hm37⟩
  refine then_n (hK19 _ _ ?_)
  refine wp_seq_k (fun K38 hK38 => ?_)
  refine wp_mono (Q := fun e a' w' => e = Exit.normal ∧ ∃ g43 : Nat, a' = ⟨#[.agg (bs a), .agg (bs b), .pointer (some ⟨g2, 0, none⟩), .pointer (some ⟨g5, 0, none⟩), .bool false, .pointer (some ⟨g9, 0, none⟩), .pointer (some ⟨g12, 0, none⟩), .pointer (some ⟨g24, 0, none⟩), .bool true, .pointer (some ⟨g43, 0, none⟩), .bool true, .agg (bs 0), .agg (bs 1), .tuple #[.agg (bs ((a + MM * b) % LL)), .bool true], .slice (some ⟨g2, 0, none⟩) 32 32, .string (nb a), .slice (some ⟨g5, 0, none⟩) 32 32, .string (nb b), .string ((nb a) ++ (nb b)), .tuple #[.agg (bs ((a + MM * b) % LL)), .bool true], .agg (bs ((a + MM * b) % LL)), .bool true, .tuple #[.agg (bs ((0 + MM * 1) % LL)), .bool true], .slice (some ⟨g9, 0, none⟩) 32 32, .string (nb 0), .slice (some ⟨g12, 0, none⟩) 32 32, .string (nb 1), .string ((nb 0) ++ (nb 1)), .tuple #[.agg (bs ((0 + MM * 1) % LL)), .bool true], .agg (bs ((0 + MM * 1) % LL)), .bool true, undef, undef, undef, undef, undef, undef, undef, undef, undef, undef, undef, undef, undef, undef, undef], []⟩ ∧ Mm w w' [(g2, bs a, 23), (g5, bs b, 23), (g9, bs 0, 23), (g12, bs 1, 23), (g24, bs ((a + MM * b) % LL), 23), (g43, bs ((0 + MM * 1) % LL), 23)]) ?_ ?_
  · have hm39 := hm37.drew
    refine wp_region_held_drew (S := fun w' => Sym.Blk w' g9 (bs 0) 23 ∧ Sym.Blk w' g12 (bs 1) 23) (by kernel_rfl) (⟨hm37.at 2 rfl, hm37.at 3 rfl⟩) (fun _ => ?_)
    generalize w36.drew = w40 at *
    refine Sym.take_at 0 23 (.slice (some ⟨g9, 0, none⟩) 32 32) rfl rfl (by kernel_rfl) (by kernel_rfl) (by kernel_rfl) (fun _ _ _ h => nomatch h.1) (wanted_none rfl) (fun _ hw => r_sliceArr g9 32 Try.underlying23 one_u8 rfl rfl) (⟨hm39.at 2 rfl, hm39.at 3 rfl⟩) ?_
    simp only [List.setIfInBounds_toArray, List.set_cons_zero, List.set_cons_succ]
    refine Sym.take_at 1 24 (.string (nb 0)) rfl rfl (by kernel_rfl) (by kernel_rfl) (by kernel_rfl) (fun _ _ _ h => nomatch h.1) (wanted_none rfl) (fun _ hw => r_string g9 32 32 (bt 0) 23 (fun _ _ => bt_lt _ _) hw.1 Try.underlying31 Try.underlying5 Try.underlying9 rfl rfl) (⟨hm39.at 2 rfl, hm39.at 3 rfl⟩) ?_
    simp only [List.setIfInBounds_toArray, List.set_cons_zero, List.set_cons_succ]
    refine Sym.take_at 2 25 (.slice (some ⟨g12, 0, none⟩) 32 32) rfl rfl (by kernel_rfl) (by kernel_rfl) (by kernel_rfl) (fun _ _ _ h => nomatch h.1) (wanted_none rfl) (fun _ hw => r_sliceArr g12 32 Try.underlying23 one_u8 rfl rfl) (⟨hm39.at 2 rfl, hm39.at 3 rfl⟩) ?_
    simp only [List.setIfInBounds_toArray, List.set_cons_zero, List.set_cons_succ]
    refine Sym.take_at 3 26 (.string (nb 1)) rfl rfl (by kernel_rfl) (by kernel_rfl) (by kernel_rfl) (fun _ _ _ h => nomatch h.1) (wanted_none rfl) (fun _ hw => r_string g12 32 32 (bt 1) 23 (fun _ _ => bt_lt _ _) hw.2 Try.underlying31 Try.underlying5 Try.underlying9 rfl rfl) (⟨hm39.at 2 rfl, hm39.at 3 rfl⟩) ?_
    simp only [List.setIfInBounds_toArray, List.set_cons_zero, List.set_cons_succ]
    refine Sym.take_at 4 27 (.string ((nb 0) ++ (nb 1))) rfl rfl (by kernel_rfl) (by kernel_rfl) (by kernel_rfl) (fun _ _ _ h => nomatch h.1) (wanted_none rfl) (fun _ hw => r_cat (nb 0) (nb 1) (by rw [nb_size, nb_size]; decide) rfl rfl rfl) (⟨hm39.at 2 rfl, hm39.at 3 rfl⟩) ?_
    simp only [List.setIfInBounds_toArray, List.set_cons_zero, List.set_cons_succ]
    refine two_ready 5 9 (by kernel_rfl) ?_ ?_
    · refine opd rfl (wanted_none rfl) (m_call hm39 28 (.tuple #[.agg (bs ((0 + MM * 1) % LL)), .bool true]) rfl (run_Wide rfl rfl) (wide_cat 0 1 (by decide) (by decide) _) (fun w41 hm42 => ?_))
      refine ⟨⟨hm42.at 2 rfl, hm42.at 3 rfl⟩, ?_⟩
      simp only [List.setIfInBounds_toArray, List.set_cons_zero, List.set_cons_succ]
      refine Sym.take_at 6 22 (.tuple #[.agg (bs ((0 + MM * 1) % LL)), .bool true]) rfl rfl (by kernel_rfl) (by kernel_rfl) (by kernel_rfl) (fun _ _ _ h => nomatch h.1) (wanted_none rfl) (fun _ hw => run_mv rfl rfl) (⟨hm42.at 2 rfl, hm42.at 3 rfl⟩) ?_
      simp only [List.setIfInBounds_toArray, List.set_cons_zero, List.set_cons_succ]
      refine Sym.take_at 7 29 (.agg (bs ((0 + MM * 1) % LL))) rfl rfl (by kernel_rfl) (by kernel_rfl) (by kernel_rfl) (fun _ _ _ h => nomatch h.1) (wanted_none rfl) (fun _ hw => run_ex rfl rfl rfl) (⟨hm42.at 2 rfl, hm42.at 3 rfl⟩) ?_
      simp only [List.setIfInBounds_toArray, List.set_cons_zero, List.set_cons_succ]
      refine Sym.take_at 8 30 (.bool true) rfl rfl (by kernel_rfl) (by kernel_rfl) (by kernel_rfl) (fun _ _ _ h => nomatch h.1) (wanted_none rfl) (fun _ hw => run_ex rfl rfl rfl) (⟨hm42.at 2 rfl, hm42.at 3 rfl⟩) ?_
      simp only [List.setIfInBounds_toArray, List.set_cons_zero, List.set_cons_succ]
      refine one_ready 9 (by kernel_rfl) ?_
      refine opd rfl (wanted_none rfl) (m_alloc (c := bs 0) (T := 23) hm42 9 rfl (al_N rfl) (fun g43 w44 (hm45 : Mm w w44 [(g2, bs a, 23), (g5, bs b, 23), (g9, bs 0, 23), (g12, bs 1, 23), (g24, bs ((a + MM * b) % LL), 23), (g43, bs 0, 23)]) => ?_))
      refine ⟨⟨hm45.at 2 rfl, hm45.at 3 rfl⟩, ?_⟩
      simp only [List.setIfInBounds_toArray, List.set_cons_zero, List.set_cons_succ]
      refine one_ready 10 (by kernel_rfl) ?_
      refine opd rfl (wanted_none rfl) (m_store 5 23 _ _ (bs ((0 + MM * 1) % LL)) (old := bs 0) hm45 rfl rfl rfl rfl rfl (by rw [bs_sz]; exact info_b) ((bs_sz _).trans (bs_sz _).symm) (bs_one _) (fun w46 (hm47 : Mm w w46 [(g2, bs a, 23), (g5, bs b, 23), (g9, bs 0, 23), (g12, bs 1, 23), (g24, bs ((a + MM * b) % LL), 23), (g43, bs ((0 + MM * 1) % LL), 23)]) => ?_))
      refine ⟨⟨hm47.at 2 rfl, hm47.at 3 rfl⟩, ?_⟩
      refine one_ready 11 (by kernel_rfl) ?_
      refine opd rfl (wanted_none rfl) (w_value 10 (.bool true) rfl (run_as rfl rfl) ⟨⟨hm47.at 2 rfl, hm47.at 3 rfl⟩, ?_⟩)
      simp only [List.setIfInBounds_toArray, List.set_cons_zero, List.set_cons_succ]
      refine wpAnyH_done (by kernel_rfl) ?_ _
      exact ⟨rfl, g43, rfl, hm47⟩
    · refine opd rfl (wanted_none rfl) (m_alloc (c := bs 0) (T := 23) hm39 9 rfl (al_N rfl) (fun g48 w49 (hm50 : Mm w w49 [(g2, bs a, 23), (g5, bs b, 23), (g9, bs 0, 23), (g12, bs 1, 23), (g24, bs ((a + MM * b) % LL), 23), (g48, bs 0, 23)]) => ?_))
      refine ⟨⟨hm50.at 2 rfl, hm50.at 3 rfl⟩, ?_⟩
      simp only [List.setIfInBounds_toArray, List.set_cons_zero, List.set_cons_succ]
      refine one_ready 5 (by kernel_rfl) ?_
      refine opd rfl (wanted_none rfl) (m_call hm50 28 (.tuple #[.agg (bs ((0 + MM * 1) % LL)), .bool true]) rfl (run_Wide rfl rfl) (wide_cat 0 1 (by decide) (by decide) _) (fun w51 hm52 => ?_))
      refine ⟨⟨hm52.at 2 rfl, hm52.at 3 rfl⟩, ?_⟩
      simp only [List.setIfInBounds_toArray, List.set_cons_zero, List.set_cons_succ]
      refine Sym.take_at 6 22 (.tuple #[.agg (bs ((0 + MM * 1) % LL)), .bool true]) rfl rfl (by kernel_rfl) (by kernel_rfl) (by kernel_rfl) (fun _ _ _ h => nomatch h.1) (wanted_none rfl) (fun _ hw => run_mv rfl rfl) (⟨hm52.at 2 rfl, hm52.at 3 rfl⟩) ?_
      simp only [List.setIfInBounds_toArray, List.set_cons_zero, List.set_cons_succ]
      refine Sym.take_at 7 29 (.agg (bs ((0 + MM * 1) % LL))) rfl rfl (by kernel_rfl) (by kernel_rfl) (by kernel_rfl) (fun _ _ _ h => nomatch h.1) (wanted_none rfl) (fun _ hw => run_ex rfl rfl rfl) (⟨hm52.at 2 rfl, hm52.at 3 rfl⟩) ?_
      simp only [List.setIfInBounds_toArray, List.set_cons_zero, List.set_cons_succ]
      refine Sym.take_at 8 30 (.bool true) rfl rfl (by kernel_rfl) (by kernel_rfl) (by kernel_rfl) (fun _ _ _ h => nomatch h.1) (wanted_none rfl) (fun _ hw => run_ex rfl rfl rfl) (⟨hm52.at 2 rfl, hm52.at 3 rfl⟩) ?_
      simp only [List.setIfInBounds_toArray, List.set_cons_zero, List.set_cons_succ]
      refine one_ready 10 (by kernel_rfl) ?_
      refine opd rfl (wanted_none rfl) (m_store 5 23 _ _ (bs ((0 + MM * 1) % LL)) (old := bs 0) hm52 rfl rfl rfl rfl rfl (by rw [bs_sz]; exact info_b) ((bs_sz _).trans (bs_sz _).symm) (bs_one _) (fun w53 (hm54 : Mm w w53 [(g2, bs a, 23), (g5, bs b, 23), (g9, bs 0, 23), (g12, bs 1, 23), (g24, bs ((a + MM * b) % LL), 23), (g48, bs ((0 + MM * 1) % LL), 23)]) => ?_))
      refine ⟨⟨hm54.at 2 rfl, hm54.at 3 rfl⟩, ?_⟩
      refine one_ready 11 (by kernel_rfl) ?_
      refine opd rfl (wanted_none rfl) (w_value 10 (.bool true) rfl (run_as rfl rfl) ⟨⟨hm54.at 2 rfl, hm54.at 3 rfl⟩, ?_⟩)
      simp only [List.setIfInBounds_toArray, List.set_cons_zero, List.set_cons_succ]
      refine wpAnyH_done (by kernel_rfl) ?_ _
      exact ⟨rfl, g48, rfl, hm54⟩
  clear hm37
  rintro _ _ w55 ⟨rfl, g43, rfl, hm56⟩
  refine then_n (hK38 _ _ ?_)
  refine wp_seq_k (fun K57 hK57 => ?_)
  have hm58 := hm56.drew
  refine wp_region_held_drew (S := fun w' => Sym.Blk w' g24 (bs ((a + MM * b) % LL)) 23 ∧ Sym.Blk w' g5 (bs b) 23 ∧ Sym.Blk w' g43 (bs ((0 + MM * 1) % LL)) 23 ∧ Sym.Blk w' g2 (bs a) 23) (by kernel_rfl) (⟨hm56.at 4 rfl, hm56.at 1 rfl, hm56.at 5 rfl, hm56.at 0 rfl⟩) (fun _ => ?_)
  generalize w55.drew = w59 at *
  refine one_ready 0 (by kernel_rfl) ?_
  refine opd rfl (wanted_none rfl) (m_call hm58 31 (.bool true) rfl (run_awake rfl) (awake_any _) (fun w60 hm61 => ?_))
  refine ⟨⟨hm61.at 4 rfl, hm61.at 1 rfl, hm61.at 5 rfl, hm61.at 0 rfl⟩, ?_⟩
  simp only [List.setIfInBounds_toArray, List.set_cons_zero, List.set_cons_succ]
  refine Sym.take_at 1 32 (.bool true) rfl rfl (by kernel_rfl) (by kernel_rfl) (by kernel_rfl) (fun _ _ _ h => h) (wanted_none rfl) (fun _ hw => run_mv rfl rfl) (⟨hm61.at 4 rfl, hm61.at 1 rfl, hm61.at 5 rfl, hm61.at 0 rfl⟩) ?_
  simp only [List.setIfInBounds_toArray, List.set_cons_zero, List.set_cons_succ]
  refine Sym.take_at 2 33 (.bool true) rfl rfl (by kernel_rfl) (by kernel_rfl) (by kernel_rfl) (fun _ _ _ h => h) rfl (fun _ hw => run_mv rfl rfl) (⟨hm61.at 4 rfl, hm61.at 1 rfl, hm61.at 5 rfl, hm61.at 0 rfl⟩) ?_
  simp only [List.setIfInBounds_toArray, List.set_cons_zero, List.set_cons_succ]
  refine Sym.take_at 3 34 (.bool true) rfl rfl (by kernel_rfl) (by kernel_rfl) (by kernel_rfl) (fun _ _ _ h => h) (wanted_none rfl) (fun _ hw => run_pick rfl rfl rfl) (⟨hm61.at 4 rfl, hm61.at 1 rfl, hm61.at 5 rfl, hm61.at 0 rfl⟩) ?_
  simp only [List.setIfInBounds_toArray, List.set_cons_zero, List.set_cons_succ]
  refine Sym.take_at 4 35 (.bool true) rfl rfl (by kernel_rfl) (by kernel_rfl) (by kernel_rfl) (fun _ _ _ h => h) (wanted_none rfl) (fun _ hw => run_mv rfl rfl) (⟨hm61.at 4 rfl, hm61.at 1 rfl, hm61.at 5 rfl, hm61.at 0 rfl⟩) ?_
  simp only [List.setIfInBounds_toArray, List.set_cons_zero, List.set_cons_succ]
  refine Sym.take_at 5 36 (.bool true) rfl rfl (by kernel_rfl) (by kernel_rfl) (by kernel_rfl) (fun _ _ _ h => h) rfl (fun _ hw => run_mv rfl rfl) (⟨hm61.at 4 rfl, hm61.at 1 rfl, hm61.at 5 rfl, hm61.at 0 rfl⟩) ?_
  simp only [List.setIfInBounds_toArray, List.set_cons_zero, List.set_cons_succ]
  refine Sym.take_at 6 37 (.bool true) rfl rfl (by kernel_rfl) (by kernel_rfl) (by kernel_rfl) (fun _ _ _ h => h) (wanted_none rfl) (fun _ hw => run_pick rfl rfl rfl) (⟨hm61.at 4 rfl, hm61.at 1 rfl, hm61.at 5 rfl, hm61.at 0 rfl⟩) ?_
  simp only [List.setIfInBounds_toArray, List.set_cons_zero, List.set_cons_succ]
  refine Sym.take_at 7 38 (.bool true) rfl rfl (by kernel_rfl) (by kernel_rfl) (by kernel_rfl) (fun _ _ _ h => h) (wanted_none rfl) (fun _ hw => run_mv rfl rfl) (⟨hm61.at 4 rfl, hm61.at 1 rfl, hm61.at 5 rfl, hm61.at 0 rfl⟩) ?_
  simp only [List.setIfInBounds_toArray, List.set_cons_zero, List.set_cons_succ]
  refine Sym.take_at 8 39 (.agg (bs ((a + MM * b) % LL))) rfl rfl (by kernel_rfl) (by kernel_rfl) (by kernel_rfl) (fun _ _ _ h => h) rfl (fun _ hw => run_row rfl rfl hw.1 Try.underlying23 rfl (by rw [bs_sz]; exact info_b)) (⟨hm61.at 4 rfl, hm61.at 1 rfl, hm61.at 5 rfl, hm61.at 0 rfl⟩) ?_
  simp only [List.setIfInBounds_toArray, List.set_cons_zero, List.set_cons_succ]
  refine Sym.take_at 9 40 (.agg (bs b)) rfl rfl (by kernel_rfl) (by kernel_rfl) (by kernel_rfl) (fun _ _ _ h => h) rfl (fun _ hw => run_row rfl rfl hw.2.1 Try.underlying23 rfl (by rw [bs_sz]; exact info_b)) (⟨hm61.at 4 rfl, hm61.at 1 rfl, hm61.at 5 rfl, hm61.at 0 rfl⟩) ?_
  simp only [List.setIfInBounds_toArray, List.set_cons_zero, List.set_cons_succ]
  refine Sym.take_at 10 41 (.agg (bs ((0 + MM * 1) % LL))) rfl rfl (by kernel_rfl) (by kernel_rfl) (by kernel_rfl) (fun _ _ _ h => h) rfl (fun _ hw => run_row rfl rfl hw.2.2.1 Try.underlying23 rfl (by rw [bs_sz]; exact info_b)) (⟨hm61.at 4 rfl, hm61.at 1 rfl, hm61.at 5 rfl, hm61.at 0 rfl⟩) ?_
  simp only [List.setIfInBounds_toArray, List.set_cons_zero, List.set_cons_succ]
  refine Sym.take_at 11 42 (.agg (bs a)) rfl rfl (by kernel_rfl) (by kernel_rfl) (by kernel_rfl) (fun _ _ _ h => h) rfl (fun _ hw => run_row rfl rfl hw.2.2.2 Try.underlying23 rfl (by rw [bs_sz]; exact info_b)) (⟨hm61.at 4 rfl, hm61.at 1 rfl, hm61.at 5 rfl, hm61.at 0 rfl⟩) ?_
  simp only [List.setIfInBounds_toArray, List.set_cons_zero, List.set_cons_succ]
  refine one_ready 12 (by kernel_rfl) ?_
  refine opd rfl rfl (m_call hm61 43 (.agg (bs ((b * ((0 + MM * 1) % LL) + a) % LL))) rfl (run_Fuse rfl rfl rfl rfl) (fuse_any b ((0 + MM * 1) % LL) a Hb.out (Nat.lt_trans (Nat.mod_lt _ (by decide)) (by decide)) Ha.out _) (fun w62 hm63 => ?_))
  refine ⟨⟨hm63.at 4 rfl, hm63.at 1 rfl, hm63.at 5 rfl, hm63.at 0 rfl⟩, ?_⟩
  simp only [List.setIfInBounds_toArray, List.set_cons_zero, List.set_cons_succ]
  refine Sym.take_at 13 44 (.bool true) rfl rfl (by kernel_rfl) (by kernel_rfl) (by kernel_rfl) (fun _ _ _ h => h) rfl (fun _ hw => run_eqN ((a + MM * b) % LL) ((b * ((0 + MM * 1) % LL) + a) % LL) (Nat.lt_trans (Nat.mod_lt _ (by decide)) (by decide)) (Nat.lt_trans (Nat.mod_lt _ (by decide)) (by decide)) true (decide_eq_true F1) rfl rfl rfl) (⟨hm63.at 4 rfl, hm63.at 1 rfl, hm63.at 5 rfl, hm63.at 0 rfl⟩) ?_
  simp only [List.setIfInBounds_toArray, List.set_cons_zero, List.set_cons_succ]
  refine Sym.take_at 14 45 (.bool true) rfl rfl (by kernel_rfl) (by kernel_rfl) (by kernel_rfl) (fun _ _ _ h => h) (wanted_none rfl) (fun _ hw => run_pick rfl rfl rfl) (⟨hm63.at 4 rfl, hm63.at 1 rfl, hm63.at 5 rfl, hm63.at 0 rfl⟩) ?_
  simp only [List.setIfInBounds_toArray, List.set_cons_zero, List.set_cons_succ]
  refine one_ready 15 (by kernel_rfl) ?_
  refine opd rfl (wanted_none rfl) (w_value 4 (.bool true) rfl (run_as rfl rfl) ⟨⟨hm63.at 4 rfl, hm63.at 1 rfl, hm63.at 5 rfl, hm63.at 0 rfl⟩, ?_⟩)
  simp only [List.setIfInBounds_toArray, List.set_cons_zero, List.set_cons_succ]
  refine wpAnyH_done (by kernel_rfl) ?_ _
  refine then_n (hK57 _ _ ?_)
  refine wp_ret ?_
  exact ⟨rfl, .bool true, res_t rfl rfl, ⟨rfl, hm63.below⟩⟩
set_option maxRecDepth 100000 in
theorem lifted (os : Os) (started : os.Started) (H : Type) (enc : TypeId × Value → H) :
    ReturnsInHanded {} Try.checked os 6 .any (Rows.scalarHalvesSpec.pre6 enc Try.prog Try.f6 Rows.scalarHalvesRow.domain false) (Rows.scalarHalvesSpec.post enc Try.prog Try.f6 false true false false) := by
  refine returnsInHanded_of_change (C := Try.checked) own started (by kernel_rfl) Try.func6
    (ChangeSpec.witness6 (enc := enc) (C := Try.checked) false ⟨#[], #[.agg #[.int .u8 0, .int .u8 0, .int .u8 0, .int .u8 0, .int .u8 0, .int .u8 0, .int .u8 0, .int .u8 0, .int .u8 0, .int .u8 0, .int .u8 0, .int .u8 0, .int .u8 0, .int .u8 0, .int .u8 0, .int .u8 0, .int .u8 0, .int .u8 0, .int .u8 0, .int .u8 0, .int .u8 0, .int .u8 0, .int .u8 0, .int .u8 0, .int .u8 0, .int .u8 0, .int .u8 0, .int .u8 0, .int .u8 0, .int .u8 0, .int .u8 0, .int .u8 0], .agg #[.int .u8 0, .int .u8 0, .int .u8 0, .int .u8 0, .int .u8 0, .int .u8 0, .int .u8 0, .int .u8 0, .int .u8 0, .int .u8 0, .int .u8 0, .int .u8 0, .int .u8 0, .int .u8 0, .int .u8 0, .int .u8 0, .int .u8 0, .int .u8 0, .int .u8 0, .int .u8 0, .int .u8 0, .int .u8 0, .int .u8 0, .int .u8 0, .int .u8 0, .int .u8 0, .int .u8 0, .int .u8 0, .int .u8 0, .int .u8 0, .int .u8 0, .int .u8 0]], []⟩ 8 (by kernel_rfl) (by kernel_rfl) (by kernel_rfl) (by kernel_rfl)) ?_
  intro W base args ds gs before hval0 hW hcnd _
  have hval : ∀ (j : Nat) t v, Try.f6.params[j]? = some t → args[j]? = some v → Value.okWide Try.prog W .any base t v := hval0
  have hW' := hW
  obtain ⟨p, q, hA0, hV, rfl, hfz, hnd⟩ := hW
  have hA : DataW.TrodAll enc Try.prog W 0 (fun _ => true) true Try.f6.params.toList args.toList ds p := hA0
  rw [Try.params6] at hA hval
  obtain ⟨v0, vs0, d0, ds0, p0, q0, hargs, rfl, rfl, h0, r0⟩ := trodAll_cons hA
  obtain ⟨v1, vs1, d1, ds1, p1, q1, rfl, rfl, rfl, h1, r1⟩ := trodAll_cons r0
  obtain ⟨rfl, rfl, rfl⟩ := trodAll_nil r1
  obtain rfl : args = #[v0, v1] := by cases args; simp_all
  obtain ⟨rfl, rfl⟩ := trodVars_none hV
  obtain ⟨a0, b0, rfl, rfl, k0⟩ := open_num (hval 0 23 v0 rfl rfl) h0
  obtain ⟨a1, b1, rfl, rfl, k1⟩ := open_num (hval 1 23 v1 rfl rfl) h1
  clear hA0 hval0
  simp only [List.append_nil] at hW'
  refine (walk a0 b0 a1 b1 W).mono fun e W' ⟨he, hg⟩ => ?_
  subst he
  exact ⟨_, rfl, _, _, _, [], [], [], hW', (trodAll_cons_mk (shut_bool Try.underlying4 _) trodAll_mk0), (trodAll_cons_mk (k0 _ _) (trodAll_cons_mk (k1 _ _) trodAll_mk0)), rfl, hg.frame _, fun h => by cases h⟩

theorem over : Rows.scalarHalvesRow.holds Try.pinned (OpenSpec.ofChange Rows.scalarHalvesSpec) :=
  OpenClaim.holds_of_wide 6 Try.f6 rfl rfl rfl rfl rfl rfl rfl ⟨rfl, rfl, rfl, rfl, rfl⟩ rfl rfl rfl rfl rfl (by kernel_rfl) Try.func6 (by kernel_rfl)
    (of_decide_eq_true (by kernel_rfl)) (by unfold Func.isWrapper; first | (rw [if_pos (by decide +kernel)]; kernel_rfl) | (rw [if_neg (by decide +kernel)]; exact ⟨rfl, rfl⟩))
    (fun os started H enc _ => lifted os started H enc)

/-- The statement. -/
theorem proved : Rows.ScalarHalvesSaid :=
  over
#print axioms proved
end Go.Proofs.Ytcemcnbhnedaaaa.scalarHalves
