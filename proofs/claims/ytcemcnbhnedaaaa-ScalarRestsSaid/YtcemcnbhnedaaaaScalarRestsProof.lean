/- Whether any number is below the order, and what any 64 bytes leave, are the document's: ScalarRests returns true, for every number of 32 bytes and every text. No condition. -/
import Derived.Test.YtcemcnbhnedaaaaRows
import Derived.Test.YtcemcnbhnedaaaaScI
import Derived.Test.YtcemcnbhnedaaaaScO
import Derived.Test.YtcemcnbhnedaaaaScH
import Derived.WalkKit
import Derived.ProofKit
import Derived.OpenShut
import Derived.ChangeMaps5
namespace Go.Proofs.Ytcemcnbhnedaaaa.scalarRests
open Go.ChangeShapes Go.WideShapes Go.ChangeAt Go.RowKit Go.ChangeMaps
open Go.Proofs.Ytcemcnbhnedaaaa Go.Proofs.Ytcemcnbhnedaaaa.Fld Go.Proofs.Ytcemcnbhnedaaaa.Arr Go.Proofs.Ytcemcnbhnedaaaa.Sym Go.Proofs.Ytcemcnbhnedaaaa.Sx
set_option linter.unusedVariables false

theorem own : ownKnob Try.prog.godebug = none := by kernel_rfl

set_option maxHeartbeats 4000000 in
set_option maxRecDepth 100000 in
theorem walk_yes (a : Nat) (ha : a < MM) (s : ByteArray) (hs : Hid (s.size = 64)) (w : World) : Calls Try.prog 3 #[.agg (bs a), .string s] w (fun e w' => e = .returned (.bool true) ∧ Below w.heap.size w w') := by
  have F1 : (n64 s % LL) = (n64 s % LL) := by
    rfl
  have Ha := Lib.hid ha
  clear ha
  go_enter Try.func3, Try.ntmps3
  have hm0 := Mm.nil w
  refine wp_seq_k (fun K1 hK1 => ?_)
  refine wp_region_lit ?_
  refine lst (wanted_none rfl) (m_alloc (c := bs a) (T := 23) hm0 2 rfl (run_box rfl rfl) (fun g2 w3 (hm4 : Mm w w3 [(g2, bs a, 23)]) => ?_))
  simp only [List.setIfInBounds_toArray, List.set_cons_zero, List.set_cons_succ]
  refine lst (wanted_none rfl) (w_value 4 (.bool false) rfl (run_as rfl rfl) ?_)
  simp only [List.setIfInBounds_toArray, List.set_cons_zero, List.set_cons_succ]
  refine wpList_nil ?_
  refine then_n (hK1 _ _ ?_)
  refine wp_seq_k (fun K5 hK5 => ?_)
  refine wp_region_lit ?_
  refine lst (wanted_none rfl) (w_value 10 (.string s) rfl (run_mv rfl rfl) ?_)
  simp only [List.setIfInBounds_toArray, List.set_cons_zero, List.set_cons_succ]
  refine lst (wanted_none rfl) (m_call hm4 11 (.tuple #[.agg (bs (n64 s % LL)), .bool true]) rfl (run_Wide rfl rfl) (wide_yes s hs.out _) (fun w6 hm7 => ?_))
  simp only [List.setIfInBounds_toArray, List.set_cons_zero, List.set_cons_succ]
  refine lst (wanted_none rfl) (w_value 9 (.tuple #[.agg (bs (n64 s % LL)), .bool true]) rfl (run_mv rfl rfl) ?_)
  simp only [List.setIfInBounds_toArray, List.set_cons_zero, List.set_cons_succ]
  refine lst (wanted_none rfl) (w_value 12 (.agg (bs (n64 s % LL))) rfl (run_ex rfl rfl rfl) ?_)
  simp only [List.setIfInBounds_toArray, List.set_cons_zero, List.set_cons_succ]
  refine lst (wanted_none rfl) (w_value 13 (.bool true) rfl (run_ex rfl rfl rfl) ?_)
  simp only [List.setIfInBounds_toArray, List.set_cons_zero, List.set_cons_succ]
  refine lst (wanted_none rfl) (m_alloc (c := bs 0) (T := 23) hm7 5 rfl (al_N rfl) (fun g8 w9 (hm10 : Mm w w9 [(g2, bs a, 23), (g8, bs 0, 23)]) => ?_))
  simp only [List.setIfInBounds_toArray, List.set_cons_zero, List.set_cons_succ]
  refine lst (wanted_none rfl) (m_store 1 23 _ _ (bs (n64 s % LL)) (old := bs 0) hm10 rfl rfl rfl rfl rfl (by rw [bs_sz]; exact info_b) ((bs_sz _).trans (bs_sz _).symm) (bs_one _) (fun w11 (hm12 : Mm w w11 [(g2, bs a, 23), (g8, bs (n64 s % LL), 23)]) => ?_))
  refine lst (wanted_none rfl) (w_value 6 (.bool true) rfl (run_as rfl rfl) ?_)
  simp only [List.setIfInBounds_toArray, List.set_cons_zero, List.set_cons_succ]
  refine wpList_nil ?_
  refine then_n (hK5 _ _ ?_)
  refine wp_seq_k (fun K13 hK13 => ?_)
  refine wp_region_lit ?_
  refine lst (wanted_none rfl) (w_value 15 (.string s) rfl (run_mv rfl rfl) ?_)
  simp only [List.setIfInBounds_toArray, List.set_cons_zero, List.set_cons_succ]
  refine lst (wanted_none rfl) (m_call hm12 16 (.tuple #[.agg (bs (n64 s % LL)), .bool true]) rfl (run_rWide rfl rfl) (rwide_yes s hs.out _) (fun w14 hm15 => ?_))
  simp only [List.setIfInBounds_toArray, List.set_cons_zero, List.set_cons_succ]
  refine lst (wanted_none rfl) (w_value 14 (.tuple #[.agg (bs (n64 s % LL)), .bool true]) rfl (run_mv rfl rfl) ?_)
  simp only [List.setIfInBounds_toArray, List.set_cons_zero, List.set_cons_succ]
  refine lst (wanted_none rfl) (w_value 17 (.agg (bs (n64 s % LL))) rfl (run_ex rfl rfl rfl) ?_)
  simp only [List.setIfInBounds_toArray, List.set_cons_zero, List.set_cons_succ]
  refine lst (wanted_none rfl) (w_value 18 (.bool true) rfl (run_ex rfl rfl rfl) ?_)
  simp only [List.setIfInBounds_toArray, List.set_cons_zero, List.set_cons_succ]
  refine lst (wanted_none rfl) (m_alloc (c := bs 0) (T := 23) hm15 7 rfl (al_N rfl) (fun g16 w17 (hm18 : Mm w w17 [(g2, bs a, 23), (g8, bs (n64 s % LL), 23), (g16, bs 0, 23)]) => ?_))
  simp only [List.setIfInBounds_toArray, List.set_cons_zero, List.set_cons_succ]
  refine lst (wanted_none rfl) (m_store 2 23 _ _ (bs (n64 s % LL)) (old := bs 0) hm18 rfl rfl rfl rfl rfl (by rw [bs_sz]; exact info_b) ((bs_sz _).trans (bs_sz _).symm) (bs_one _) (fun w19 (hm20 : Mm w w19 [(g2, bs a, 23), (g8, bs (n64 s % LL), 23), (g16, bs (n64 s % LL), 23)]) => ?_))
  refine lst (wanted_none rfl) (w_value 8 (.bool true) rfl (run_as rfl rfl) ?_)
  simp only [List.setIfInBounds_toArray, List.set_cons_zero, List.set_cons_succ]
  refine wpList_nil ?_
  refine then_n (hK13 _ _ ?_)
  refine wp_seq_k (fun K21 hK21 => ?_)
  have hm22 := hm20.drew
  refine wp_region_held_drew (S := fun w' => Sym.Blk w' g2 (bs a) 23 ∧ Sym.Blk w' g8 (bs (n64 s % LL)) 23 ∧ Sym.Blk w' g16 (bs (n64 s % LL)) 23) (by kernel_rfl) (⟨hm20.at 0 rfl, hm20.at 1 rfl, hm20.at 2 rfl⟩) (fun _ => ?_)
  generalize w19.drew = w23 at *
  refine one_ready 0 (by kernel_rfl) ?_
  refine opd rfl (wanted_none rfl) (m_call hm22 19 (.bool true) rfl (run_awake rfl) (awake_any _) (fun w24 hm25 => ?_))
  refine ⟨⟨hm25.at 0 rfl, hm25.at 1 rfl, hm25.at 2 rfl⟩, ?_⟩
  simp only [List.setIfInBounds_toArray, List.set_cons_zero, List.set_cons_succ]
  refine Sym.take_at 1 20 (.bool true) rfl rfl (by kernel_rfl) (by kernel_rfl) (by kernel_rfl) (fun _ _ _ h => h) (wanted_none rfl) (fun _ hw => run_mv rfl rfl) (⟨hm25.at 0 rfl, hm25.at 1 rfl, hm25.at 2 rfl⟩) ?_
  simp only [List.setIfInBounds_toArray, List.set_cons_zero, List.set_cons_succ]
  refine Sym.take_at 2 21 (.agg (bs a)) rfl rfl (by kernel_rfl) (by kernel_rfl) (by kernel_rfl) (fun _ _ _ h => h) rfl (fun _ hw => run_row rfl rfl hw.1 Try.underlying23 rfl (by rw [bs_sz]; exact info_b)) (⟨hm25.at 0 rfl, hm25.at 1 rfl, hm25.at 2 rfl⟩) ?_
  simp only [List.setIfInBounds_toArray, List.set_cons_zero, List.set_cons_succ]
  refine Sym.take_at 4 23 (.agg (bs a)) rfl rfl (by kernel_rfl) (by kernel_rfl) (by kernel_rfl) (fun _ _ _ h => h) rfl (fun _ hw => run_row rfl rfl hw.1 Try.underlying23 rfl (by rw [bs_sz]; exact info_b)) (⟨hm25.at 0 rfl, hm25.at 1 rfl, hm25.at 2 rfl⟩) ?_
  simp only [List.setIfInBounds_toArray, List.set_cons_zero, List.set_cons_succ]
  refine one_ready 3 (by kernel_rfl) ?_
  refine opd rfl rfl (m_call hm25 22 (.bool (decide (a < LL))) rfl (run_Canon rfl rfl) (canon_any a Ha.out _) (fun w26 hm27 => ?_))
  refine ⟨⟨hm27.at 0 rfl, hm27.at 1 rfl, hm27.at 2 rfl⟩, ?_⟩
  simp only [List.setIfInBounds_toArray, List.set_cons_zero, List.set_cons_succ]
  refine one_ready 5 (by kernel_rfl) ?_
  refine opd rfl rfl (m_call hm27 24 (.bool (decide (a < LL))) rfl (run_rCanon rfl rfl) (rcanon_any a Ha.out _) (fun w28 hm29 => ?_))
  refine ⟨⟨hm29.at 0 rfl, hm29.at 1 rfl, hm29.at 2 rfl⟩, ?_⟩
  simp only [List.setIfInBounds_toArray, List.set_cons_zero, List.set_cons_succ]
  refine Sym.take_at 6 25 (.bool true) rfl rfl (by kernel_rfl) (by kernel_rfl) (by kernel_rfl) (fun _ _ _ h => h) rfl (fun _ hw => run_eqBt (decide (a < LL)) (decide (a < LL)) rfl rfl rfl rfl) (⟨hm29.at 0 rfl, hm29.at 1 rfl, hm29.at 2 rfl⟩) ?_
  simp only [List.setIfInBounds_toArray, List.set_cons_zero, List.set_cons_succ]
  refine Sym.take_at 7 26 (.bool true) rfl rfl (by kernel_rfl) (by kernel_rfl) (by kernel_rfl) (fun _ _ _ h => h) (wanted_none rfl) (fun _ hw => run_pick rfl rfl rfl) (⟨hm29.at 0 rfl, hm29.at 1 rfl, hm29.at 2 rfl⟩) ?_
  simp only [List.setIfInBounds_toArray, List.set_cons_zero, List.set_cons_succ]
  refine Sym.take_at 8 27 (.bool true) rfl rfl (by kernel_rfl) (by kernel_rfl) (by kernel_rfl) (fun _ _ _ h => h) (wanted_none rfl) (fun _ hw => run_mv rfl rfl) (⟨hm29.at 0 rfl, hm29.at 1 rfl, hm29.at 2 rfl⟩) ?_
  simp only [List.setIfInBounds_toArray, List.set_cons_zero, List.set_cons_succ]
  refine Sym.take_at 9 28 (.agg (bs (n64 s % LL))) rfl rfl (by kernel_rfl) (by kernel_rfl) (by kernel_rfl) (fun _ _ _ h => h) rfl (fun _ hw => run_row rfl rfl hw.2.1 Try.underlying23 rfl (by rw [bs_sz]; exact info_b)) (⟨hm29.at 0 rfl, hm29.at 1 rfl, hm29.at 2 rfl⟩) ?_
  simp only [List.setIfInBounds_toArray, List.set_cons_zero, List.set_cons_succ]
  refine Sym.take_at 10 29 (.agg (bs (n64 s % LL))) rfl rfl (by kernel_rfl) (by kernel_rfl) (by kernel_rfl) (fun _ _ _ h => h) rfl (fun _ hw => run_row rfl rfl hw.2.2 Try.underlying23 rfl (by rw [bs_sz]; exact info_b)) (⟨hm29.at 0 rfl, hm29.at 1 rfl, hm29.at 2 rfl⟩) ?_
  simp only [List.setIfInBounds_toArray, List.set_cons_zero, List.set_cons_succ]
  refine Sym.take_at 11 30 (.bool true) rfl rfl (by kernel_rfl) (by kernel_rfl) (by kernel_rfl) (fun _ _ _ h => h) rfl (fun _ hw => run_eqN (n64 s % LL) (n64 s % LL) (Nat.lt_trans (Nat.mod_lt _ (by decide)) (by decide)) (Nat.lt_trans (Nat.mod_lt _ (by decide)) (by decide)) true (decide_eq_true F1) rfl rfl rfl) (⟨hm29.at 0 rfl, hm29.at 1 rfl, hm29.at 2 rfl⟩) ?_
  simp only [List.setIfInBounds_toArray, List.set_cons_zero, List.set_cons_succ]
  refine Sym.take_at 12 31 (.bool true) rfl rfl (by kernel_rfl) (by kernel_rfl) (by kernel_rfl) (fun _ _ _ h => h) (wanted_none rfl) (fun _ hw => run_pick rfl rfl rfl) (⟨hm29.at 0 rfl, hm29.at 1 rfl, hm29.at 2 rfl⟩) ?_
  simp only [List.setIfInBounds_toArray, List.set_cons_zero, List.set_cons_succ]
  refine Sym.take_at 13 32 (.bool true) rfl rfl (by kernel_rfl) (by kernel_rfl) (by kernel_rfl) (fun _ _ _ h => h) (wanted_none rfl) (fun _ hw => run_mv rfl rfl) (⟨hm29.at 0 rfl, hm29.at 1 rfl, hm29.at 2 rfl⟩) ?_
  simp only [List.setIfInBounds_toArray, List.set_cons_zero, List.set_cons_succ]
  refine Sym.take_at 14 33 (.bool true) rfl rfl (by kernel_rfl) (by kernel_rfl) (by kernel_rfl) (fun _ _ _ h => h) rfl (fun _ hw => run_mv rfl rfl) (⟨hm29.at 0 rfl, hm29.at 1 rfl, hm29.at 2 rfl⟩) ?_
  simp only [List.setIfInBounds_toArray, List.set_cons_zero, List.set_cons_succ]
  refine Sym.take_at 15 34 (.bool true) rfl rfl (by kernel_rfl) (by kernel_rfl) (by kernel_rfl) (fun _ _ _ h => h) rfl (fun _ hw => run_mv rfl rfl) (⟨hm29.at 0 rfl, hm29.at 1 rfl, hm29.at 2 rfl⟩) ?_
  simp only [List.setIfInBounds_toArray, List.set_cons_zero, List.set_cons_succ]
  refine Sym.take_at 16 35 (.bool true) rfl rfl (by kernel_rfl) (by kernel_rfl) (by kernel_rfl) (fun _ _ _ h => h) rfl (fun _ hw => run_eqBt (true) (true) rfl rfl rfl rfl) (⟨hm29.at 0 rfl, hm29.at 1 rfl, hm29.at 2 rfl⟩) ?_
  simp only [List.setIfInBounds_toArray, List.set_cons_zero, List.set_cons_succ]
  refine Sym.take_at 17 36 (.bool true) rfl rfl (by kernel_rfl) (by kernel_rfl) (by kernel_rfl) (fun _ _ _ h => h) (wanted_none rfl) (fun _ hw => run_pick rfl rfl rfl) (⟨hm29.at 0 rfl, hm29.at 1 rfl, hm29.at 2 rfl⟩) ?_
  simp only [List.setIfInBounds_toArray, List.set_cons_zero, List.set_cons_succ]
  refine Sym.take_at 18 37 (.bool true) rfl rfl (by kernel_rfl) (by kernel_rfl) (by kernel_rfl) (fun _ _ _ h => h) (wanted_none rfl) (fun _ hw => run_mv rfl rfl) (⟨hm29.at 0 rfl, hm29.at 1 rfl, hm29.at 2 rfl⟩) ?_
  simp only [List.setIfInBounds_toArray, List.set_cons_zero, List.set_cons_succ]
  refine Sym.take_at 19 38 (.bool true) rfl rfl (by kernel_rfl) (by kernel_rfl) (by kernel_rfl) (fun _ _ _ h => h) rfl (fun _ hw => run_mv rfl rfl) (⟨hm29.at 0 rfl, hm29.at 1 rfl, hm29.at 2 rfl⟩) ?_
  simp only [List.setIfInBounds_toArray, List.set_cons_zero, List.set_cons_succ]
  refine Sym.take_at 20 39 (.bool false) rfl rfl (by kernel_rfl) (by kernel_rfl) (by kernel_rfl) (fun _ _ _ h => h) rfl (fun _ hw => r_not true rfl rfl) (⟨hm29.at 0 rfl, hm29.at 1 rfl, hm29.at 2 rfl⟩) ?_
  simp only [List.setIfInBounds_toArray, List.set_cons_zero, List.set_cons_succ]
  refine Sym.take_at 21 40 (.bool false) rfl rfl (by kernel_rfl) (by kernel_rfl) (by kernel_rfl) (fun _ _ _ h => h) rfl (fun _ hw => run_mv rfl rfl) (⟨hm29.at 0 rfl, hm29.at 1 rfl, hm29.at 2 rfl⟩) ?_
  simp only [List.setIfInBounds_toArray, List.set_cons_zero, List.set_cons_succ]
  refine Sym.take_at 22 41 (.agg (bs (n64 s % LL))) rfl rfl (by kernel_rfl) (by kernel_rfl) (by kernel_rfl) (fun _ _ _ h => h) rfl (fun _ hw => run_row rfl rfl hw.2.1 Try.underlying23 rfl (by rw [bs_sz]; exact info_b)) (⟨hm29.at 0 rfl, hm29.at 1 rfl, hm29.at 2 rfl⟩) ?_
  simp only [List.setIfInBounds_toArray, List.set_cons_zero, List.set_cons_succ]
  refine one_ready 23 (by kernel_rfl) ?_
  refine opd rfl rfl (m_call hm29 42 (.bool true) rfl (run_Canon rfl rfl) (canon_true (n64 s % LL) (Nat.mod_lt _ (by decide)) _) (fun w30 hm31 => ?_))
  refine ⟨⟨hm31.at 0 rfl, hm31.at 1 rfl, hm31.at 2 rfl⟩, ?_⟩
  simp only [List.setIfInBounds_toArray, List.set_cons_zero, List.set_cons_succ]
  refine Sym.take_at 24 43 (.bool true) rfl rfl (by kernel_rfl) (by kernel_rfl) (by kernel_rfl) (fun _ _ _ h => h) rfl (fun _ hw => run_pickf rfl rfl rfl) (⟨hm31.at 0 rfl, hm31.at 1 rfl, hm31.at 2 rfl⟩) ?_
  simp only [List.setIfInBounds_toArray, List.set_cons_zero, List.set_cons_succ]
  refine Sym.take_at 25 44 (.bool true) rfl rfl (by kernel_rfl) (by kernel_rfl) (by kernel_rfl) (fun _ _ _ h => h) (wanted_none rfl) (fun _ hw => run_pick rfl rfl rfl) (⟨hm31.at 0 rfl, hm31.at 1 rfl, hm31.at 2 rfl⟩) ?_
  simp only [List.setIfInBounds_toArray, List.set_cons_zero, List.set_cons_succ]
  refine one_ready 26 (by kernel_rfl) ?_
  refine opd rfl (wanted_none rfl) (w_value 4 (.bool true) rfl (run_as rfl rfl) ⟨⟨hm31.at 0 rfl, hm31.at 1 rfl, hm31.at 2 rfl⟩, ?_⟩)
  simp only [List.setIfInBounds_toArray, List.set_cons_zero, List.set_cons_succ]
  refine wpAnyH_done (by kernel_rfl) ?_ _
  refine then_n (hK21 _ _ ?_)
  refine wp_ret ?_
  exact ⟨rfl, .bool true, res_t rfl rfl, ⟨rfl, hm31.below⟩⟩
set_option maxHeartbeats 4000000 in
set_option maxRecDepth 100000 in
theorem walk_no (a : Nat) (ha : a < MM) (s : ByteArray) (hs : Hid (¬ s.size = 64)) (w : World) : Calls Try.prog 3 #[.agg (bs a), .string s] w (fun e w' => e = .returned (.bool true) ∧ Below w.heap.size w w') := by
  have F1 : 0 = 0 := by
    rfl
  have Ha := Lib.hid ha
  clear ha
  go_enter Try.func3, Try.ntmps3
  have hm0 := Mm.nil w
  refine wp_seq_k (fun K1 hK1 => ?_)
  refine wp_region_lit ?_
  refine lst (wanted_none rfl) (m_alloc (c := bs a) (T := 23) hm0 2 rfl (run_box rfl rfl) (fun g2 w3 (hm4 : Mm w w3 [(g2, bs a, 23)]) => ?_))
  simp only [List.setIfInBounds_toArray, List.set_cons_zero, List.set_cons_succ]
  refine lst (wanted_none rfl) (w_value 4 (.bool false) rfl (run_as rfl rfl) ?_)
  simp only [List.setIfInBounds_toArray, List.set_cons_zero, List.set_cons_succ]
  refine wpList_nil ?_
  refine then_n (hK1 _ _ ?_)
  refine wp_seq_k (fun K5 hK5 => ?_)
  refine wp_region_lit ?_
  refine lst (wanted_none rfl) (w_value 10 (.string s) rfl (run_mv rfl rfl) ?_)
  simp only [List.setIfInBounds_toArray, List.set_cons_zero, List.set_cons_succ]
  refine lst (wanted_none rfl) (m_call hm4 11 (.tuple #[.agg (bs 0), .bool false]) rfl (run_Wide rfl rfl) (wide_no s hs.out _) (fun w6 hm7 => ?_))
  simp only [List.setIfInBounds_toArray, List.set_cons_zero, List.set_cons_succ]
  refine lst (wanted_none rfl) (w_value 9 (.tuple #[.agg (bs 0), .bool false]) rfl (run_mv rfl rfl) ?_)
  simp only [List.setIfInBounds_toArray, List.set_cons_zero, List.set_cons_succ]
  refine lst (wanted_none rfl) (w_value 12 (.agg (bs 0)) rfl (run_ex rfl rfl rfl) ?_)
  simp only [List.setIfInBounds_toArray, List.set_cons_zero, List.set_cons_succ]
  refine lst (wanted_none rfl) (w_value 13 (.bool false) rfl (run_ex rfl rfl rfl) ?_)
  simp only [List.setIfInBounds_toArray, List.set_cons_zero, List.set_cons_succ]
  refine lst (wanted_none rfl) (m_alloc (c := bs 0) (T := 23) hm7 5 rfl (al_N rfl) (fun g8 w9 (hm10 : Mm w w9 [(g2, bs a, 23), (g8, bs 0, 23)]) => ?_))
  simp only [List.setIfInBounds_toArray, List.set_cons_zero, List.set_cons_succ]
  refine lst (wanted_none rfl) (m_store 1 23 _ _ (bs 0) (old := bs 0) hm10 rfl rfl rfl rfl rfl (by rw [bs_sz]; exact info_b) ((bs_sz _).trans (bs_sz _).symm) (bs_one _) (fun w11 (hm12 : Mm w w11 [(g2, bs a, 23), (g8, bs 0, 23)]) => ?_))
  refine lst (wanted_none rfl) (w_value 6 (.bool false) rfl (run_as rfl rfl) ?_)
  simp only [List.setIfInBounds_toArray, List.set_cons_zero, List.set_cons_succ]
  refine wpList_nil ?_
  refine then_n (hK5 _ _ ?_)
  refine wp_seq_k (fun K13 hK13 => ?_)
  refine wp_region_lit ?_
  refine lst (wanted_none rfl) (w_value 15 (.string s) rfl (run_mv rfl rfl) ?_)
  simp only [List.setIfInBounds_toArray, List.set_cons_zero, List.set_cons_succ]
  refine lst (wanted_none rfl) (m_call hm12 16 (.tuple #[.agg (bs 0), .bool false]) rfl (run_rWide rfl rfl) (rwide_no s hs.out _) (fun w14 hm15 => ?_))
  simp only [List.setIfInBounds_toArray, List.set_cons_zero, List.set_cons_succ]
  refine lst (wanted_none rfl) (w_value 14 (.tuple #[.agg (bs 0), .bool false]) rfl (run_mv rfl rfl) ?_)
  simp only [List.setIfInBounds_toArray, List.set_cons_zero, List.set_cons_succ]
  refine lst (wanted_none rfl) (w_value 17 (.agg (bs 0)) rfl (run_ex rfl rfl rfl) ?_)
  simp only [List.setIfInBounds_toArray, List.set_cons_zero, List.set_cons_succ]
  refine lst (wanted_none rfl) (w_value 18 (.bool false) rfl (run_ex rfl rfl rfl) ?_)
  simp only [List.setIfInBounds_toArray, List.set_cons_zero, List.set_cons_succ]
  refine lst (wanted_none rfl) (m_alloc (c := bs 0) (T := 23) hm15 7 rfl (al_N rfl) (fun g16 w17 (hm18 : Mm w w17 [(g2, bs a, 23), (g8, bs 0, 23), (g16, bs 0, 23)]) => ?_))
  simp only [List.setIfInBounds_toArray, List.set_cons_zero, List.set_cons_succ]
  refine lst (wanted_none rfl) (m_store 2 23 _ _ (bs 0) (old := bs 0) hm18 rfl rfl rfl rfl rfl (by rw [bs_sz]; exact info_b) ((bs_sz _).trans (bs_sz _).symm) (bs_one _) (fun w19 (hm20 : Mm w w19 [(g2, bs a, 23), (g8, bs 0, 23), (g16, bs 0, 23)]) => ?_))
  refine lst (wanted_none rfl) (w_value 8 (.bool false) rfl (run_as rfl rfl) ?_)
  simp only [List.setIfInBounds_toArray, List.set_cons_zero, List.set_cons_succ]
  refine wpList_nil ?_
  refine then_n (hK13 _ _ ?_)
  refine wp_seq_k (fun K21 hK21 => ?_)
  have hm22 := hm20.drew
  refine wp_region_held_drew (S := fun w' => Sym.Blk w' g2 (bs a) 23 ∧ Sym.Blk w' g8 (bs 0) 23 ∧ Sym.Blk w' g16 (bs 0) 23) (by kernel_rfl) (⟨hm20.at 0 rfl, hm20.at 1 rfl, hm20.at 2 rfl⟩) (fun _ => ?_)
  generalize w19.drew = w23 at *
  refine one_ready 0 (by kernel_rfl) ?_
  refine opd rfl (wanted_none rfl) (m_call hm22 19 (.bool true) rfl (run_awake rfl) (awake_any _) (fun w24 hm25 => ?_))
  refine ⟨⟨hm25.at 0 rfl, hm25.at 1 rfl, hm25.at 2 rfl⟩, ?_⟩
  simp only [List.setIfInBounds_toArray, List.set_cons_zero, List.set_cons_succ]
  refine Sym.take_at 1 20 (.bool true) rfl rfl (by kernel_rfl) (by kernel_rfl) (by kernel_rfl) (fun _ _ _ h => h) (wanted_none rfl) (fun _ hw => run_mv rfl rfl) (⟨hm25.at 0 rfl, hm25.at 1 rfl, hm25.at 2 rfl⟩) ?_
  simp only [List.setIfInBounds_toArray, List.set_cons_zero, List.set_cons_succ]
  refine Sym.take_at 2 21 (.agg (bs a)) rfl rfl (by kernel_rfl) (by kernel_rfl) (by kernel_rfl) (fun _ _ _ h => h) rfl (fun _ hw => run_row rfl rfl hw.1 Try.underlying23 rfl (by rw [bs_sz]; exact info_b)) (⟨hm25.at 0 rfl, hm25.at 1 rfl, hm25.at 2 rfl⟩) ?_
  simp only [List.setIfInBounds_toArray, List.set_cons_zero, List.set_cons_succ]
  refine Sym.take_at 4 23 (.agg (bs a)) rfl rfl (by kernel_rfl) (by kernel_rfl) (by kernel_rfl) (fun _ _ _ h => h) rfl (fun _ hw => run_row rfl rfl hw.1 Try.underlying23 rfl (by rw [bs_sz]; exact info_b)) (⟨hm25.at 0 rfl, hm25.at 1 rfl, hm25.at 2 rfl⟩) ?_
  simp only [List.setIfInBounds_toArray, List.set_cons_zero, List.set_cons_succ]
  refine one_ready 3 (by kernel_rfl) ?_
  refine opd rfl rfl (m_call hm25 22 (.bool (decide (a < LL))) rfl (run_Canon rfl rfl) (canon_any a Ha.out _) (fun w26 hm27 => ?_))
  refine ⟨⟨hm27.at 0 rfl, hm27.at 1 rfl, hm27.at 2 rfl⟩, ?_⟩
  simp only [List.setIfInBounds_toArray, List.set_cons_zero, List.set_cons_succ]
  refine one_ready 5 (by kernel_rfl) ?_
  refine opd rfl rfl (m_call hm27 24 (.bool (decide (a < LL))) rfl (run_rCanon rfl rfl) (rcanon_any a Ha.out _) (fun w28 hm29 => ?_))
  refine ⟨⟨hm29.at 0 rfl, hm29.at 1 rfl, hm29.at 2 rfl⟩, ?_⟩
  simp only [List.setIfInBounds_toArray, List.set_cons_zero, List.set_cons_succ]
  refine Sym.take_at 6 25 (.bool true) rfl rfl (by kernel_rfl) (by kernel_rfl) (by kernel_rfl) (fun _ _ _ h => h) rfl (fun _ hw => run_eqBt (decide (a < LL)) (decide (a < LL)) rfl rfl rfl rfl) (⟨hm29.at 0 rfl, hm29.at 1 rfl, hm29.at 2 rfl⟩) ?_
  simp only [List.setIfInBounds_toArray, List.set_cons_zero, List.set_cons_succ]
  refine Sym.take_at 7 26 (.bool true) rfl rfl (by kernel_rfl) (by kernel_rfl) (by kernel_rfl) (fun _ _ _ h => h) (wanted_none rfl) (fun _ hw => run_pick rfl rfl rfl) (⟨hm29.at 0 rfl, hm29.at 1 rfl, hm29.at 2 rfl⟩) ?_
  simp only [List.setIfInBounds_toArray, List.set_cons_zero, List.set_cons_succ]
  refine Sym.take_at 8 27 (.bool true) rfl rfl (by kernel_rfl) (by kernel_rfl) (by kernel_rfl) (fun _ _ _ h => h) (wanted_none rfl) (fun _ hw => run_mv rfl rfl) (⟨hm29.at 0 rfl, hm29.at 1 rfl, hm29.at 2 rfl⟩) ?_
  simp only [List.setIfInBounds_toArray, List.set_cons_zero, List.set_cons_succ]
  refine Sym.take_at 9 28 (.agg (bs 0)) rfl rfl (by kernel_rfl) (by kernel_rfl) (by kernel_rfl) (fun _ _ _ h => h) rfl (fun _ hw => run_row rfl rfl hw.2.1 Try.underlying23 rfl (by rw [bs_sz]; exact info_b)) (⟨hm29.at 0 rfl, hm29.at 1 rfl, hm29.at 2 rfl⟩) ?_
  simp only [List.setIfInBounds_toArray, List.set_cons_zero, List.set_cons_succ]
  refine Sym.take_at 10 29 (.agg (bs 0)) rfl rfl (by kernel_rfl) (by kernel_rfl) (by kernel_rfl) (fun _ _ _ h => h) rfl (fun _ hw => run_row rfl rfl hw.2.2 Try.underlying23 rfl (by rw [bs_sz]; exact info_b)) (⟨hm29.at 0 rfl, hm29.at 1 rfl, hm29.at 2 rfl⟩) ?_
  simp only [List.setIfInBounds_toArray, List.set_cons_zero, List.set_cons_succ]
  refine Sym.take_at 11 30 (.bool true) rfl rfl (by kernel_rfl) (by kernel_rfl) (by kernel_rfl) (fun _ _ _ h => h) rfl (fun _ hw => run_eqN 0 0 (by decide) (by decide) true (decide_eq_true F1) rfl rfl rfl) (⟨hm29.at 0 rfl, hm29.at 1 rfl, hm29.at 2 rfl⟩) ?_
  simp only [List.setIfInBounds_toArray, List.set_cons_zero, List.set_cons_succ]
  refine Sym.take_at 12 31 (.bool true) rfl rfl (by kernel_rfl) (by kernel_rfl) (by kernel_rfl) (fun _ _ _ h => h) (wanted_none rfl) (fun _ hw => run_pick rfl rfl rfl) (⟨hm29.at 0 rfl, hm29.at 1 rfl, hm29.at 2 rfl⟩) ?_
  simp only [List.setIfInBounds_toArray, List.set_cons_zero, List.set_cons_succ]
  refine Sym.take_at 13 32 (.bool true) rfl rfl (by kernel_rfl) (by kernel_rfl) (by kernel_rfl) (fun _ _ _ h => h) (wanted_none rfl) (fun _ hw => run_mv rfl rfl) (⟨hm29.at 0 rfl, hm29.at 1 rfl, hm29.at 2 rfl⟩) ?_
  simp only [List.setIfInBounds_toArray, List.set_cons_zero, List.set_cons_succ]
  refine Sym.take_at 14 33 (.bool false) rfl rfl (by kernel_rfl) (by kernel_rfl) (by kernel_rfl) (fun _ _ _ h => h) rfl (fun _ hw => run_mv rfl rfl) (⟨hm29.at 0 rfl, hm29.at 1 rfl, hm29.at 2 rfl⟩) ?_
  simp only [List.setIfInBounds_toArray, List.set_cons_zero, List.set_cons_succ]
  refine Sym.take_at 15 34 (.bool false) rfl rfl (by kernel_rfl) (by kernel_rfl) (by kernel_rfl) (fun _ _ _ h => h) rfl (fun _ hw => run_mv rfl rfl) (⟨hm29.at 0 rfl, hm29.at 1 rfl, hm29.at 2 rfl⟩) ?_
  simp only [List.setIfInBounds_toArray, List.set_cons_zero, List.set_cons_succ]
  refine Sym.take_at 16 35 (.bool true) rfl rfl (by kernel_rfl) (by kernel_rfl) (by kernel_rfl) (fun _ _ _ h => h) rfl (fun _ hw => run_eqBt (false) (false) rfl rfl rfl rfl) (⟨hm29.at 0 rfl, hm29.at 1 rfl, hm29.at 2 rfl⟩) ?_
  simp only [List.setIfInBounds_toArray, List.set_cons_zero, List.set_cons_succ]
  refine Sym.take_at 17 36 (.bool true) rfl rfl (by kernel_rfl) (by kernel_rfl) (by kernel_rfl) (fun _ _ _ h => h) (wanted_none rfl) (fun _ hw => run_pick rfl rfl rfl) (⟨hm29.at 0 rfl, hm29.at 1 rfl, hm29.at 2 rfl⟩) ?_
  simp only [List.setIfInBounds_toArray, List.set_cons_zero, List.set_cons_succ]
  refine Sym.take_at 18 37 (.bool true) rfl rfl (by kernel_rfl) (by kernel_rfl) (by kernel_rfl) (fun _ _ _ h => h) (wanted_none rfl) (fun _ hw => run_mv rfl rfl) (⟨hm29.at 0 rfl, hm29.at 1 rfl, hm29.at 2 rfl⟩) ?_
  simp only [List.setIfInBounds_toArray, List.set_cons_zero, List.set_cons_succ]
  refine Sym.take_at 19 38 (.bool false) rfl rfl (by kernel_rfl) (by kernel_rfl) (by kernel_rfl) (fun _ _ _ h => h) rfl (fun _ hw => run_mv rfl rfl) (⟨hm29.at 0 rfl, hm29.at 1 rfl, hm29.at 2 rfl⟩) ?_
  simp only [List.setIfInBounds_toArray, List.set_cons_zero, List.set_cons_succ]
  refine Sym.take_at 20 39 (.bool true) rfl rfl (by kernel_rfl) (by kernel_rfl) (by kernel_rfl) (fun _ _ _ h => h) rfl (fun _ hw => r_not false rfl rfl) (⟨hm29.at 0 rfl, hm29.at 1 rfl, hm29.at 2 rfl⟩) ?_
  simp only [List.setIfInBounds_toArray, List.set_cons_zero, List.set_cons_succ]
  refine Sym.take_at 21 40 (.bool true) rfl rfl (by kernel_rfl) (by kernel_rfl) (by kernel_rfl) (fun _ _ _ h => h) rfl (fun _ hw => run_mv rfl rfl) (⟨hm29.at 0 rfl, hm29.at 1 rfl, hm29.at 2 rfl⟩) ?_
  simp only [List.setIfInBounds_toArray, List.set_cons_zero, List.set_cons_succ]
  refine skip_at 22 41 rfl rfl (by kernel_rfl) (by kernel_rfl) (by kernel_rfl) (fun _ _ _ h => h) rfl (⟨hm29.at 0 rfl, hm29.at 1 rfl, hm29.at 2 rfl⟩) ?_
  simp only [List.setIfInBounds_toArray, List.set_cons_zero, List.set_cons_succ]
  refine one_ready 23 (by kernel_rfl) ?_
  refine opd_skip 42 rfl rfl rfl ⟨⟨hm29.at 0 rfl, hm29.at 1 rfl, hm29.at 2 rfl⟩, ?_⟩
  simp only [List.setIfInBounds_toArray, List.set_cons_zero, List.set_cons_succ]
  refine Sym.take_at 24 43 (.bool true) rfl rfl (by kernel_rfl) (by kernel_rfl) (by kernel_rfl) (fun _ _ _ h => h) rfl (fun _ hw => run_pick rfl rfl rfl) (⟨hm29.at 0 rfl, hm29.at 1 rfl, hm29.at 2 rfl⟩) ?_
  simp only [List.setIfInBounds_toArray, List.set_cons_zero, List.set_cons_succ]
  refine Sym.take_at 25 44 (.bool true) rfl rfl (by kernel_rfl) (by kernel_rfl) (by kernel_rfl) (fun _ _ _ h => h) (wanted_none rfl) (fun _ hw => run_pick rfl rfl rfl) (⟨hm29.at 0 rfl, hm29.at 1 rfl, hm29.at 2 rfl⟩) ?_
  simp only [List.setIfInBounds_toArray, List.set_cons_zero, List.set_cons_succ]
  refine one_ready 26 (by kernel_rfl) ?_
  refine opd rfl (wanted_none rfl) (w_value 4 (.bool true) rfl (run_as rfl rfl) ⟨⟨hm29.at 0 rfl, hm29.at 1 rfl, hm29.at 2 rfl⟩, ?_⟩)
  simp only [List.setIfInBounds_toArray, List.set_cons_zero, List.set_cons_succ]
  refine wpAnyH_done (by kernel_rfl) ?_ _
  refine then_n (hK21 _ _ ?_)
  refine wp_ret ?_
  exact ⟨rfl, .bool true, res_t rfl rfl, ⟨rfl, hm29.below⟩⟩
theorem walk (a : Nat) (ha : a < MM) (s : ByteArray) (w : World) : Calls Try.prog 3 #[.agg (bs a), .string s] w (fun e w' => e = .returned (.bool true) ∧ Below w.heap.size w w') := by
  by_cases h : s.size = 64
  · exact walk_yes a ha s (Lib.hid h) w
  · exact walk_no a ha s (Lib.hid h) w
set_option maxRecDepth 100000 in
theorem lifted (os : Os) (started : os.Started) (H : Type) (enc : TypeId × Value → H) :
    ReturnsInHanded {} Try.checked os 3 .any (Rows.scalarRestsSpec.pre6 enc Try.prog Try.f3 Rows.scalarRestsRow.domain false) (Rows.scalarRestsSpec.post enc Try.prog Try.f3 false true false false) := by
  refine returnsInHanded_of_change (C := Try.checked) own started (by kernel_rfl) Try.func3
    (ChangeSpec.witness6 (enc := enc) (C := Try.checked) false ⟨#[], #[.agg #[.int .u8 0, .int .u8 0, .int .u8 0, .int .u8 0, .int .u8 0, .int .u8 0, .int .u8 0, .int .u8 0, .int .u8 0, .int .u8 0, .int .u8 0, .int .u8 0, .int .u8 0, .int .u8 0, .int .u8 0, .int .u8 0, .int .u8 0, .int .u8 0, .int .u8 0, .int .u8 0, .int .u8 0, .int .u8 0, .int .u8 0, .int .u8 0, .int .u8 0, .int .u8 0, .int .u8 0, .int .u8 0, .int .u8 0, .int .u8 0, .int .u8 0, .int .u8 0], .string .empty], []⟩ 8 (by kernel_rfl) (by kernel_rfl) (by kernel_rfl) (by kernel_rfl)) ?_
  intro W base args ds gs before hval0 hW hcnd _
  have hval : ∀ (j : Nat) t v, Try.f3.params[j]? = some t → args[j]? = some v → Value.okWide Try.prog W .any base t v := hval0
  have hW' := hW
  obtain ⟨p, q, hA0, hV, rfl, hfz, hnd⟩ := hW
  have hA : DataW.TrodAll enc Try.prog W 0 (fun _ => true) true Try.f3.params.toList args.toList ds p := hA0
  rw [Try.params3] at hA hval
  obtain ⟨v0, vs0, d0, ds0, p0, q0, hargs, rfl, rfl, h0, r0⟩ := trodAll_cons hA
  obtain ⟨v1, vs1, d1, ds1, p1, q1, rfl, rfl, rfl, h1, r1⟩ := trodAll_cons r0
  obtain ⟨rfl, rfl, rfl⟩ := trodAll_nil r1
  obtain rfl : args = #[v0, v1] := by cases args; simp_all
  obtain ⟨rfl, rfl⟩ := trodVars_none hV
  obtain ⟨a0, b0, rfl, rfl, k0⟩ := open_num (hval 0 23 v0 rfl rfl) h0
  obtain ⟨a1, rfl, rfl, rfl, m1⟩ := open_string Try.underlying9 (hval 1 9 v1 rfl rfl) h1
  clear hA0 hval0
  simp only [List.append_nil] at hW'
  refine (walk a0 b0 a1 W).mono fun e W' ⟨he, hg⟩ => ?_
  subst he
  exact ⟨_, rfl, _, _, _, [], [], [], hW', (trodAll_cons_mk (shut_bool Try.underlying4 _) trodAll_mk0), (trodAll_cons_mk (k0 _ _) (trodAll_cons_mk (shut_string Try.underlying9 m1) trodAll_mk0)), rfl, hg.frame _, fun h => by cases h⟩

theorem over : Rows.scalarRestsRow.holds Try.pinned (OpenSpec.ofChange Rows.scalarRestsSpec) :=
  OpenClaim.holds_of_wide 3 Try.f3 rfl rfl rfl rfl rfl rfl rfl ⟨rfl, rfl, rfl, rfl, rfl⟩ rfl rfl rfl rfl rfl (by kernel_rfl) Try.func3 (by kernel_rfl)
    (of_decide_eq_true (by kernel_rfl)) (by unfold Func.isWrapper; first | (rw [if_pos (by decide +kernel)]; kernel_rfl) | (rw [if_neg (by decide +kernel)]; exact ⟨rfl, rfl⟩))
    (fun os started H enc _ => lifted os started H enc)

/-- The statement. -/
theorem proved : Rows.ScalarRestsSaid :=
  over
#print axioms proved
end Go.Proofs.Ytcemcnbhnedaaaa.scalarRests
