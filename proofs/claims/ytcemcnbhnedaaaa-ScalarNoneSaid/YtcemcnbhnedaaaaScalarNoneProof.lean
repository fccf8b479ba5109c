/- No bytes but 64 leave anything; what is left is left again: ScalarNone returns true, for every text and every two numbers of 32 bytes. No condition. -/
import Derived.Test.YtcemcnbhnedaaaaRows
import Derived.Test.YtcemcnbhnedaaaaScI
import Derived.Test.YtcemcnbhnedaaaaScO
import Derived.WalkKit
import Derived.ProofKit
import Derived.OpenShut
import Derived.ChangeMaps5
namespace Go.Proofs.Ytcemcnbhnedaaaa.scalarNone
open Go.ChangeShapes Go.WideShapes Go.ChangeAt Go.RowKit Go.ChangeMaps
open Go.Proofs.Ytcemcnbhnedaaaa Go.Proofs.Ytcemcnbhnedaaaa.Fld Go.Proofs.Ytcemcnbhnedaaaa.Arr Go.Proofs.Ytcemcnbhnedaaaa.Sym Go.Proofs.Ytcemcnbhnedaaaa.Sx
set_option linter.unusedVariables false

theorem own : ownKnob Try.prog.godebug = none := by kernel_rfl
theorem r_eqlx {P : Program} {o : Oper} {a : Act} {w : World} {x y : Operand} {T T' : TypeId} {k : IntKind} (n m : Nat) (b : Bool) (hb : decide (n = m) = b) (ho : o.op = .binOp .eql T x y T') (hx : a.eval x = .int k (n : Int)) (hy : a.eval y = .int k (m : Int)) : (execOp a.eval o).run P w = .ok (.value (.bool b)) w := by
  rw [← hb]; exact r_eql n m ho hx hy

set_option maxHeartbeats 4000000 in
set_option maxRecDepth 100000 in
theorem walk_yes (s : ByteArray) (a : Nat) (ha : a < MM) (b : Nat) (hb : b < MM) (hs : Hid (s.size = 64)) (w : World) : Calls Try.prog 7 #[.string s, .agg (bs a), .agg (bs b)] w (fun e w' => e = .returned (.bool true) ∧ Below w.heap.size w w') := by
  have F1 : ((((a * b + 0) % LL) * 1 + 0) % LL) = ((a * b + 0) % LL) := by
    simp only [Nat.add_zero, Nat.mul_one, Nat.mod_mod]
  have Ha := Lib.hid ha
  have Hb := Lib.hid hb
  clear ha
  clear hb
  go_enter Try.func7, Try.ntmps7
  have hm0 := Mm.nil w
  refine wp_seq_k (fun K1 hK1 => ?_)
  refine wp_region_lit ?_
  refine lst (wanted_none rfl) (m_alloc (c := bs a) (T := 23) hm0 4 rfl (run_box rfl rfl) (fun g2 w3 (hm4 : Mm w w3 [(g2, bs a, 23)]) => ?_))
  simp only [List.setIfInBounds_toArray, List.set_cons_zero, List.set_cons_succ]
  refine lst (wanted_none rfl) (m_alloc (c := bs b) (T := 23) hm4 5 rfl (run_box rfl rfl) (fun g5 w6 (hm7 : Mm w w6 [(g2, bs a, 23), (g5, bs b, 23)]) => ?_))
  simp only [List.setIfInBounds_toArray, List.set_cons_zero, List.set_cons_succ]
  refine lst (wanted_none rfl) (w_value 6 (.bool false) rfl (run_as rfl rfl) ?_)
  simp only [List.setIfInBounds_toArray, List.set_cons_zero, List.set_cons_succ]
  refine wpList_nil ?_
  refine then_n (hK1 _ _ ?_)
  refine wp_seq_k (fun K8 hK8 => ?_)
  refine wp_region_lit ?_
  refine lst (wanted_none rfl) (w_value 11 (.string s) rfl (run_mv rfl rfl) ?_)
  simp only [List.setIfInBounds_toArray, List.set_cons_zero, List.set_cons_succ]
  refine lst (wanted_none rfl) (m_call hm7 12 (.tuple #[.agg (bs (n64 s % LL)), .bool true]) rfl (run_Wide rfl rfl) (wide_yes s hs.out _) (fun w9 hm10 => ?_))
  simp only [List.setIfInBounds_toArray, List.set_cons_zero, List.set_cons_succ]
  refine lst (wanted_none rfl) (w_value 10 (.tuple #[.agg (bs (n64 s % LL)), .bool true]) rfl (run_mv rfl rfl) ?_)
  simp only [List.setIfInBounds_toArray, List.set_cons_zero, List.set_cons_succ]
  refine lst (wanted_none rfl) (w_value 13 (.agg (bs (n64 s % LL))) rfl (run_ex rfl rfl rfl) ?_)
  simp only [List.setIfInBounds_toArray, List.set_cons_zero, List.set_cons_succ]
  refine lst (wanted_none rfl) (w_value 14 (.bool true) rfl (run_ex rfl rfl rfl) ?_)
  simp only [List.setIfInBounds_toArray, List.set_cons_zero, List.set_cons_succ]
  refine lst (wanted_none rfl) (m_alloc (c := bs 0) (T := 23) hm10 7 rfl (al_N rfl) (fun g11 w12 (hm13 : Mm w w12 [(g2, bs a, 23), (g5, bs b, 23), (g11, bs 0, 23)]) => ?_))
  simp only [List.setIfInBounds_toArray, List.set_cons_zero, List.set_cons_succ]
  refine lst (wanted_none rfl) (m_store 2 23 _ _ (bs (n64 s % LL)) (old := bs 0) hm13 rfl rfl rfl rfl rfl (by rw [bs_sz]; exact info_b) ((bs_sz _).trans (bs_sz _).symm) (bs_one _) (fun w14 (hm15 : Mm w w14 [(g2, bs a, 23), (g5, bs b, 23), (g11, bs (n64 s % LL), 23)]) => ?_))
  refine lst (wanted_none rfl) (w_value 8 (.bool true) rfl (run_as rfl rfl) ?_)
  simp only [List.setIfInBounds_toArray, List.set_cons_zero, List.set_cons_succ]
  refine wpList_nil ?_
  refine then_n (hK8 _ _ ?_)
  refine wp_seq_k (fun K16 hK16 => ?_)
  refine wp_region_lit ?_
  refine lst (wanted_none rfl) (w_value 15 (.agg (bs a)) rfl (run_row rfl rfl (hm15.at 0 rfl) Try.underlying23 rfl (by rw [bs_sz]; exact info_b)) ?_)
  simp only [List.setIfInBounds_toArray, List.set_cons_zero, List.set_cons_succ]
  refine lst (wanted_none rfl) (w_value 16 (.agg (bs b)) rfl (run_row rfl rfl (hm15.at 1 rfl) Try.underlying23 rfl (by rw [bs_sz]; exact info_b)) ?_)
  simp only [List.setIfInBounds_toArray, List.set_cons_zero, List.set_cons_succ]
  refine lst (wanted_none rfl) (w_value 17 (.agg (bs 0)) rfl (by unfold execOp; go_simp; rfl) ?_)
  simp only [List.setIfInBounds_toArray, List.set_cons_zero, List.set_cons_succ]
  refine lst (wanted_none rfl) (m_call hm15 18 (.agg (bs ((a * b + 0) % LL))) rfl (run_Fuse rfl rfl rfl rfl) (fuse_any a b 0 Ha.out Hb.out (by decide) _) (fun w17 hm18 => ?_))
  simp only [List.setIfInBounds_toArray, List.set_cons_zero, List.set_cons_succ]
  refine lst (wanted_none rfl) (m_alloc (c := bs 0) (T := 23) hm18 9 rfl (al_N rfl) (fun g19 w20 (hm21 : Mm w w20 [(g2, bs a, 23), (g5, bs b, 23), (g11, bs (n64 s % LL), 23), (g19, bs 0, 23)]) => ?_))
  simp only [List.setIfInBounds_toArray, List.set_cons_zero, List.set_cons_succ]
  refine lst (wanted_none rfl) (m_store 3 23 _ _ (bs ((a * b + 0) % LL)) (old := bs 0) hm21 rfl rfl rfl rfl rfl (by rw [bs_sz]; exact info_b) ((bs_sz _).trans (bs_sz _).symm) (bs_one _) (fun w22 (hm23 : Mm w w22 [(g2, bs a, 23), (g5, bs b, 23), (g11, bs (n64 s % LL), 23), (g19, bs ((a * b + 0) % LL), 23)]) => ?_))
  refine wpList_nil ?_
  refine then_n (hK16 _ _ ?_)
  refine wp_seq_k (fun K24 hK24 => ?_)
  have hm25 := hm23.drew
  refine wp_region_held_drew (S := fun w' => Sym.Blk w' g11 (bs (n64 s % LL)) 23 ∧ Sym.Blk w' g19 (bs ((a * b + 0) % LL)) 23) (by kernel_rfl) (⟨hm23.at 2 rfl, hm23.at 3 rfl⟩) (fun _ => ?_)
  generalize w22.drew = w26 at *
  refine one_ready 0 (by kernel_rfl) ?_
  refine opd rfl (wanted_none rfl) (m_call hm25 19 (.bool true) rfl (run_awake rfl) (awake_any _) (fun w27 hm28 => ?_))
  refine ⟨⟨hm28.at 2 rfl, hm28.at 3 rfl⟩, ?_⟩
  simp only [List.setIfInBounds_toArray, List.set_cons_zero, List.set_cons_succ]
  refine Sym.take_at 1 20 (.bool true) rfl rfl (by kernel_rfl) (by kernel_rfl) (by kernel_rfl) (fun _ _ _ h => h) (wanted_none rfl) (fun _ hw => run_mv rfl rfl) (⟨hm28.at 2 rfl, hm28.at 3 rfl⟩) ?_
  simp only [List.setIfInBounds_toArray, List.set_cons_zero, List.set_cons_succ]
  refine Sym.take_at 2 21 (.bool true) rfl rfl (by kernel_rfl) (by kernel_rfl) (by kernel_rfl) (fun _ _ _ h => h) rfl (fun _ hw => run_mv rfl rfl) (⟨hm28.at 2 rfl, hm28.at 3 rfl⟩) ?_
  simp only [List.setIfInBounds_toArray, List.set_cons_zero, List.set_cons_succ]
  refine Sym.take_at 3 22 (.string s) rfl rfl (by kernel_rfl) (by kernel_rfl) (by kernel_rfl) (fun _ _ _ h => h) rfl (fun _ hw => run_mv rfl rfl) (⟨hm28.at 2 rfl, hm28.at 3 rfl⟩) ?_
  simp only [List.setIfInBounds_toArray, List.set_cons_zero, List.set_cons_succ]
  refine one_ready 4 (by kernel_rfl) ?_
  refine opd rfl rfl (w_value 23 (.int .i64 ((s.size : Nat) : Int)) rfl (r_len rfl Try.underlying9 rfl) ⟨⟨hm28.at 2 rfl, hm28.at 3 rfl⟩, ?_⟩)
  simp only [List.setIfInBounds_toArray, List.set_cons_zero, List.set_cons_succ]
  refine Sym.take_at 5 24 (.bool true) rfl rfl (by kernel_rfl) (by kernel_rfl) (by kernel_rfl) (fun _ _ _ h => h) rfl (fun _ hw => r_eqlx s.size 64 true (decide_eq_true hs.out) rfl rfl rfl) (⟨hm28.at 2 rfl, hm28.at 3 rfl⟩) ?_
  simp only [List.setIfInBounds_toArray, List.set_cons_zero, List.set_cons_succ]
  refine Sym.take_at 6 25 (.bool true) rfl rfl (by kernel_rfl) (by kernel_rfl) (by kernel_rfl) (fun _ _ _ h => h) rfl (fun _ hw => run_eqBt (true) (true) rfl rfl rfl rfl) (⟨hm28.at 2 rfl, hm28.at 3 rfl⟩) ?_
  simp only [List.setIfInBounds_toArray, List.set_cons_zero, List.set_cons_succ]
  refine Sym.take_at 7 26 (.bool true) rfl rfl (by kernel_rfl) (by kernel_rfl) (by kernel_rfl) (fun _ _ _ h => h) (wanted_none rfl) (fun _ hw => run_pick rfl rfl rfl) (⟨hm28.at 2 rfl, hm28.at 3 rfl⟩) ?_
  simp only [List.setIfInBounds_toArray, List.set_cons_zero, List.set_cons_succ]
  refine Sym.take_at 8 27 (.bool true) rfl rfl (by kernel_rfl) (by kernel_rfl) (by kernel_rfl) (fun _ _ _ h => h) (wanted_none rfl) (fun _ hw => run_mv rfl rfl) (⟨hm28.at 2 rfl, hm28.at 3 rfl⟩) ?_
  simp only [List.setIfInBounds_toArray, List.set_cons_zero, List.set_cons_succ]
  refine Sym.take_at 9 28 (.bool true) rfl rfl (by kernel_rfl) (by kernel_rfl) (by kernel_rfl) (fun _ _ _ h => h) rfl (fun _ hw => run_mv rfl rfl) (⟨hm28.at 2 rfl, hm28.at 3 rfl⟩) ?_
  simp only [List.setIfInBounds_toArray, List.set_cons_zero, List.set_cons_succ]
  refine Sym.take_at 10 29 (.bool true) rfl rfl (by kernel_rfl) (by kernel_rfl) (by kernel_rfl) (fun _ _ _ h => h) rfl (fun _ hw => run_mv rfl rfl) (⟨hm28.at 2 rfl, hm28.at 3 rfl⟩) ?_
  simp only [List.setIfInBounds_toArray, List.set_cons_zero, List.set_cons_succ]
  refine skip_at 11 30 rfl rfl (by kernel_rfl) (by kernel_rfl) (by kernel_rfl) (fun _ _ _ h => h) rfl (⟨hm28.at 2 rfl, hm28.at 3 rfl⟩) ?_
  simp only [List.setIfInBounds_toArray, List.set_cons_zero, List.set_cons_succ]
  refine skip_at 12 31 rfl rfl (by kernel_rfl) (by kernel_rfl) (by kernel_rfl) (fun _ _ _ h => h) rfl (⟨hm28.at 2 rfl, hm28.at 3 rfl⟩) ?_
  simp only [List.setIfInBounds_toArray, List.set_cons_zero, List.set_cons_succ]
  refine skip_at 13 32 rfl rfl (by kernel_rfl) (by kernel_rfl) (by kernel_rfl) (fun _ _ _ h => h) rfl (⟨hm28.at 2 rfl, hm28.at 3 rfl⟩) ?_
  simp only [List.setIfInBounds_toArray, List.set_cons_zero, List.set_cons_succ]
  refine Sym.take_at 14 33 (.bool true) rfl rfl (by kernel_rfl) (by kernel_rfl) (by kernel_rfl) (fun _ _ _ h => h) rfl (fun _ hw => run_pick rfl rfl rfl) (⟨hm28.at 2 rfl, hm28.at 3 rfl⟩) ?_
  simp only [List.setIfInBounds_toArray, List.set_cons_zero, List.set_cons_succ]
  refine Sym.take_at 15 34 (.bool true) rfl rfl (by kernel_rfl) (by kernel_rfl) (by kernel_rfl) (fun _ _ _ h => h) (wanted_none rfl) (fun _ hw => run_pick rfl rfl rfl) (⟨hm28.at 2 rfl, hm28.at 3 rfl⟩) ?_
  simp only [List.setIfInBounds_toArray, List.set_cons_zero, List.set_cons_succ]
  refine Sym.take_at 16 35 (.bool true) rfl rfl (by kernel_rfl) (by kernel_rfl) (by kernel_rfl) (fun _ _ _ h => h) (wanted_none rfl) (fun _ hw => run_mv rfl rfl) (⟨hm28.at 2 rfl, hm28.at 3 rfl⟩) ?_
  simp only [List.setIfInBounds_toArray, List.set_cons_zero, List.set_cons_succ]
  refine Sym.take_at 17 36 (.agg (bs ((a * b + 0) % LL))) rfl rfl (by kernel_rfl) (by kernel_rfl) (by kernel_rfl) (fun _ _ _ h => h) rfl (fun _ hw => run_row rfl rfl hw.2 Try.underlying23 rfl (by rw [bs_sz]; exact info_b)) (⟨hm28.at 2 rfl, hm28.at 3 rfl⟩) ?_
  simp only [List.setIfInBounds_toArray, List.set_cons_zero, List.set_cons_succ]
  refine Sym.take_at 18 37 (.agg (bs 1)) rfl rfl (by kernel_rfl) (by kernel_rfl) (by kernel_rfl) (fun _ _ _ h => h) rfl (fun _ hw => by unfold execOp; go_simp; rfl) (⟨hm28.at 2 rfl, hm28.at 3 rfl⟩) ?_
  simp only [List.setIfInBounds_toArray, List.set_cons_zero, List.set_cons_succ]
  refine Sym.take_at 19 38 (.agg (bs 0)) rfl rfl (by kernel_rfl) (by kernel_rfl) (by kernel_rfl) (fun _ _ _ h => h) rfl (fun _ hw => by unfold execOp; go_simp; rfl) (⟨hm28.at 2 rfl, hm28.at 3 rfl⟩) ?_
  simp only [List.setIfInBounds_toArray, List.set_cons_zero, List.set_cons_succ]
  refine Sym.take_at 21 40 (.agg (bs ((a * b + 0) % LL))) rfl rfl (by kernel_rfl) (by kernel_rfl) (by kernel_rfl) (fun _ _ _ h => h) rfl (fun _ hw => run_row rfl rfl hw.2 Try.underlying23 rfl (by rw [bs_sz]; exact info_b)) (⟨hm28.at 2 rfl, hm28.at 3 rfl⟩) ?_
  simp only [List.setIfInBounds_toArray, List.set_cons_zero, List.set_cons_succ]
  refine one_ready 20 (by kernel_rfl) ?_
  refine opd rfl rfl (m_call hm28 39 (.agg (bs ((((a * b + 0) % LL) * 1 + 0) % LL))) rfl (run_Fuse rfl rfl rfl rfl) (fuse_any ((a * b + 0) % LL) 1 0 (Nat.lt_trans (Nat.mod_lt _ (by decide)) (by decide)) (by decide) (by decide) _) (fun w29 hm30 => ?_))
  refine ⟨⟨hm30.at 2 rfl, hm30.at 3 rfl⟩, ?_⟩
  simp only [List.setIfInBounds_toArray, List.set_cons_zero, List.set_cons_succ]
  refine Sym.take_at 22 41 (.bool true) rfl rfl (by kernel_rfl) (by kernel_rfl) (by kernel_rfl) (fun _ _ _ h => h) rfl (fun _ hw => run_eqN ((((a * b + 0) % LL) * 1 + 0) % LL) ((a * b + 0) % LL) (Nat.lt_trans (Nat.mod_lt _ (by decide)) (by decide)) (Nat.lt_trans (Nat.mod_lt _ (by decide)) (by decide)) true (decide_eq_true F1) rfl rfl rfl) (⟨hm30.at 2 rfl, hm30.at 3 rfl⟩) ?_
  simp only [List.setIfInBounds_toArray, List.set_cons_zero, List.set_cons_succ]
  refine Sym.take_at 23 42 (.bool true) rfl rfl (by kernel_rfl) (by kernel_rfl) (by kernel_rfl) (fun _ _ _ h => h) (wanted_none rfl) (fun _ hw => run_pick rfl rfl rfl) (⟨hm30.at 2 rfl, hm30.at 3 rfl⟩) ?_
  simp only [List.setIfInBounds_toArray, List.set_cons_zero, List.set_cons_succ]
  refine one_ready 24 (by kernel_rfl) ?_
  refine opd rfl (wanted_none rfl) (w_value 6 (.bool true) rfl (run_as rfl rfl) ⟨⟨hm30.at 2 rfl, hm30.at 3 rfl⟩, ?_⟩)
  simp only [List.setIfInBounds_toArray, List.set_cons_zero, List.set_cons_succ]
  refine wpAnyH_done (by kernel_rfl) ?_ _
  refine then_n (hK24 _ _ ?_)
  refine wp_ret ?_
  exact ⟨rfl, .bool true, res_t rfl rfl, ⟨rfl, hm30.below⟩⟩
set_option maxHeartbeats 4000000 in
set_option maxRecDepth 100000 in
theorem walk_no (s : ByteArray) (a : Nat) (ha : a < MM) (b : Nat) (hb : b < MM) (hs : Hid (¬ s.size = 64)) (w : World) : Calls Try.prog 7 #[.string s, .agg (bs a), .agg (bs b)] w (fun e w' => e = .returned (.bool true) ∧ Below w.heap.size w w') := by
  have F1 : 0 = 0 := by
    rfl
  have F2 : ((((a * b + 0) % LL) * 1 + 0) % LL) = ((a * b + 0) % LL) := by
    simp only [Nat.add_zero, Nat.mul_one, Nat.mod_mod]
  have Ha := Lib.hid ha
  have Hb := Lib.hid hb
  clear ha
  clear hb
  go_enter Try.func7, Try.ntmps7
  have hm0 := Mm.nil w
  refine wp_seq_k (fun K1 hK1 => ?_)
  refine wp_region_lit ?_
  refine lst (wanted_none rfl) (m_alloc (c := bs a) (T := 23) hm0 4 rfl (run_box rfl rfl) (fun g2 w3 (hm4 : Mm w w3 [(g2, bs a, 23)]) => ?_))
  simp only [List.setIfInBounds_toArray, List.set_cons_zero, List.set_cons_succ]
  refine lst (wanted_none rfl) (m_alloc (c := bs b) (T := 23) hm4 5 rfl (run_box rfl rfl) (fun g5 w6 (hm7 : Mm w w6 [(g2, bs a, 23), (g5, bs b, 23)]) => ?_))
  simp only [List.setIfInBounds_toArray, List.set_cons_zero, List.set_cons_succ]
  refine lst (wanted_none rfl) (w_value 6 (.bool false) rfl (run_as rfl rfl) ?_)
  simp only [List.setIfInBounds_toArray, List.set_cons_zero, List.set_cons_succ]
  refine wpList_nil ?_
  refine then_n (hK1 _ _ ?_)
  refine wp_seq_k (fun K8 hK8 => ?_)
  refine wp_region_lit ?_
  refine lst (wanted_none rfl) (w_value 11 (.string s) rfl (run_mv rfl rfl) ?_)
  simp only [List.setIfInBounds_toArray, List.set_cons_zero, List.set_cons_succ]
  refine lst (wanted_none rfl) (m_call hm7 12 (.tuple #[.agg (bs 0), .bool false]) rfl (run_Wide rfl rfl) (wide_no s hs.out _) (fun w9 hm10 => ?_))
  simp only [List.setIfInBounds_toArray, List.set_cons_zero, List.set_cons_succ]
  refine lst (wanted_none rfl) (w_value 10 (.tuple #[.agg (bs 0), .bool false]) rfl (run_mv rfl rfl) ?_)
  simp only [List.setIfInBounds_toArray, List.set_cons_zero, List.set_cons_succ]
  refine lst (wanted_none rfl) (w_value 13 (.agg (bs 0)) rfl (run_ex rfl rfl rfl) ?_)
  simp only [List.setIfInBounds_toArray, List.set_cons_zero, List.set_cons_succ]
  refine lst (wanted_none rfl) (w_value 14 (.bool false) rfl (run_ex rfl rfl rfl) ?_)
  simp only [List.setIfInBounds_toArray, List.set_cons_zero, List.set_cons_succ]
  refine lst (wanted_none rfl) (m_alloc (c := bs 0) (T := 23) hm10 7 rfl (al_N rfl) (fun g11 w12 (hm13 : Mm w w12 [(g2, bs a, 23), (g5, bs b, 23), (g11, bs 0, 23)]) => ?_))
  simp only [List.setIfInBounds_toArray, List.set_cons_zero, List.set_cons_succ]
  refine lst (wanted_none rfl) (m_store 2 23 _ _ (bs 0) (old := bs 0) hm13 rfl rfl rfl rfl rfl (by rw [bs_sz]; exact info_b) ((bs_sz _).trans (bs_sz _).symm) (bs_one _) (fun w14 (hm15 : Mm w w14 [(g2, bs a, 23), (g5, bs b, 23), (g11, bs 0, 23)]) => ?_))
  refine lst (wanted_none rfl) (w_value 8 (.bool false) rfl (run_as rfl rfl) ?_)
  simp only [List.setIfInBounds_toArray, List.set_cons_zero, List.set_cons_succ]
  refine wpList_nil ?_
  refine then_n (hK8 _ _ ?_)
  refine wp_seq_k (fun K16 hK16 => ?_)
  refine wp_region_lit ?_
  refine lst (wanted_none rfl) (w_value 15 (.agg (bs a)) rfl (run_row rfl rfl (hm15.at 0 rfl) Try.underlying23 rfl (by rw [bs_sz]; exact info_b)) ?_)
  simp only [List.setIfInBounds_toArray, List.set_cons_zero, List.set_cons_succ]
  refine lst (wanted_none rfl) (w_value 16 (.agg (bs b)) rfl (run_row rfl rfl (hm15.at 1 rfl) Try.underlying23 rfl (by rw [bs_sz]; exact info_b)) ?_)
  simp only [List.setIfInBounds_toArray, List.set_cons_zero, List.set_cons_succ]
  refine lst (wanted_none rfl) (w_value 17 (.agg (bs 0)) rfl (by unfold execOp; go_simp; rfl) ?_)
  simp only [List.setIfInBounds_toArray, List.set_cons_zero, List.set_cons_succ]
  refine lst (wanted_none rfl) (m_call hm15 18 (.agg (bs ((a * b + 0) % LL))) rfl (run_Fuse rfl rfl rfl rfl) (fuse_any a b 0 Ha.out Hb.out (by decide) _) (fun w17 hm18 => ?_))
  simp only [List.setIfInBounds_toArray, List.set_cons_zero, List.set_cons_succ]
  refine lst (wanted_none rfl) (m_alloc (c := bs 0) (T := 23) hm18 9 rfl (al_N rfl) (fun g19 w20 (hm21 : Mm w w20 [(g2, bs a, 23), (g5, bs b, 23), (g11, bs 0, 23), (g19, bs 0, 23)]) => ?_))
  simp only [List.setIfInBounds_toArray, List.set_cons_zero, List.set_cons_succ]
  refine lst (wanted_none rfl) (m_store 3 23 _ _ (bs ((a * b + 0) % LL)) (old := bs 0) hm21 rfl rfl rfl rfl rfl (by rw [bs_sz]; exact info_b) ((bs_sz _).trans (bs_sz _).symm) (bs_one _) (fun w22 (hm23 : Mm w w22 [(g2, bs a, 23), (g5, bs b, 23), (g11, bs 0, 23), (g19, bs ((a * b + 0) % LL), 23)]) => ?_))
  refine wpList_nil ?_
  refine then_n (hK16 _ _ ?_)
  refine wp_seq_k (fun K24 hK24 => ?_)
  have hm25 := hm23.drew
  refine wp_region_held_drew (S := fun w' => Sym.Blk w' g11 (bs 0) 23 ∧ Sym.Blk w' g19 (bs ((a * b + 0) % LL)) 23) (by kernel_rfl) (⟨hm23.at 2 rfl, hm23.at 3 rfl⟩) (fun _ => ?_)
  generalize w22.drew = w26 at *
  refine one_ready 0 (by kernel_rfl) ?_
  refine opd rfl (wanted_none rfl) (m_call hm25 19 (.bool true) rfl (run_awake rfl) (awake_any _) (fun w27 hm28 => ?_))
  refine ⟨⟨hm28.at 2 rfl, hm28.at 3 rfl⟩, ?_⟩
  simp only [List.setIfInBounds_toArray, List.set_cons_zero, List.set_cons_succ]
  refine Sym.take_at 1 20 (.bool true) rfl rfl (by kernel_rfl) (by kernel_rfl) (by kernel_rfl) (fun _ _ _ h => h) (wanted_none rfl) (fun _ hw => run_mv rfl rfl) (⟨hm28.at 2 rfl, hm28.at 3 rfl⟩) ?_
  simp only [List.setIfInBounds_toArray, List.set_cons_zero, List.set_cons_succ]
  refine Sym.take_at 2 21 (.bool false) rfl rfl (by kernel_rfl) (by kernel_rfl) (by kernel_rfl) (fun _ _ _ h => h) rfl (fun _ hw => run_mv rfl rfl) (⟨hm28.at 2 rfl, hm28.at 3 rfl⟩) ?_
  simp only [List.setIfInBounds_toArray, List.set_cons_zero, List.set_cons_succ]
  refine Sym.take_at 3 22 (.string s) rfl rfl (by kernel_rfl) (by kernel_rfl) (by kernel_rfl) (fun _ _ _ h => h) rfl (fun _ hw => run_mv rfl rfl) (⟨hm28.at 2 rfl, hm28.at 3 rfl⟩) ?_
  simp only [List.setIfInBounds_toArray, List.set_cons_zero, List.set_cons_succ]
  refine one_ready 4 (by kernel_rfl) ?_
  refine opd rfl rfl (w_value 23 (.int .i64 ((s.size : Nat) : Int)) rfl (r_len rfl Try.underlying9 rfl) ⟨⟨hm28.at 2 rfl, hm28.at 3 rfl⟩, ?_⟩)
  simp only [List.setIfInBounds_toArray, List.set_cons_zero, List.set_cons_succ]
  refine Sym.take_at 5 24 (.bool false) rfl rfl (by kernel_rfl) (by kernel_rfl) (by kernel_rfl) (fun _ _ _ h => h) rfl (fun _ hw => r_eqlx s.size 64 false (decide_eq_false hs.out) rfl rfl rfl) (⟨hm28.at 2 rfl, hm28.at 3 rfl⟩) ?_
  simp only [List.setIfInBounds_toArray, List.set_cons_zero, List.set_cons_succ]
  refine Sym.take_at 6 25 (.bool true) rfl rfl (by kernel_rfl) (by kernel_rfl) (by kernel_rfl) (fun _ _ _ h => h) rfl (fun _ hw => run_eqBt (false) (false) rfl rfl rfl rfl) (⟨hm28.at 2 rfl, hm28.at 3 rfl⟩) ?_
  simp only [List.setIfInBounds_toArray, List.set_cons_zero, List.set_cons_succ]
  refine Sym.take_at 7 26 (.bool true) rfl rfl (by kernel_rfl) (by kernel_rfl) (by kernel_rfl) (fun _ _ _ h => h) (wanted_none rfl) (fun _ hw => run_pick rfl rfl rfl) (⟨hm28.at 2 rfl, hm28.at 3 rfl⟩) ?_
  simp only [List.setIfInBounds_toArray, List.set_cons_zero, List.set_cons_succ]
  refine Sym.take_at 8 27 (.bool true) rfl rfl (by kernel_rfl) (by kernel_rfl) (by kernel_rfl) (fun _ _ _ h => h) (wanted_none rfl) (fun _ hw => run_mv rfl rfl) (⟨hm28.at 2 rfl, hm28.at 3 rfl⟩) ?_
  simp only [List.setIfInBounds_toArray, List.set_cons_zero, List.set_cons_succ]
  refine Sym.take_at 9 28 (.bool false) rfl rfl (by kernel_rfl) (by kernel_rfl) (by kernel_rfl) (fun _ _ _ h => h) rfl (fun _ hw => run_mv rfl rfl) (⟨hm28.at 2 rfl, hm28.at 3 rfl⟩) ?_
  simp only [List.setIfInBounds_toArray, List.set_cons_zero, List.set_cons_succ]
  refine Sym.take_at 10 29 (.bool false) rfl rfl (by kernel_rfl) (by kernel_rfl) (by kernel_rfl) (fun _ _ _ h => h) rfl (fun _ hw => run_mv rfl rfl) (⟨hm28.at 2 rfl, hm28.at 3 rfl⟩) ?_
  simp only [List.setIfInBounds_toArray, List.set_cons_zero, List.set_cons_succ]
  refine Sym.take_at 11 30 (.agg (bs 0)) rfl rfl (by kernel_rfl) (by kernel_rfl) (by kernel_rfl) (fun _ _ _ h => h) rfl (fun _ hw => run_row rfl rfl hw.1 Try.underlying23 rfl (by rw [bs_sz]; exact info_b)) (⟨hm28.at 2 rfl, hm28.at 3 rfl⟩) ?_
  simp only [List.setIfInBounds_toArray, List.set_cons_zero, List.set_cons_succ]
  refine Sym.take_at 12 31 (.agg (bs 0)) rfl rfl (by kernel_rfl) (by kernel_rfl) (by kernel_rfl) (fun _ _ _ h => h) rfl (fun _ hw => by unfold execOp; go_simp; rfl) (⟨hm28.at 2 rfl, hm28.at 3 rfl⟩) ?_
  simp only [List.setIfInBounds_toArray, List.set_cons_zero, List.set_cons_succ]
  refine Sym.take_at 13 32 (.bool true) rfl rfl (by kernel_rfl) (by kernel_rfl) (by kernel_rfl) (fun _ _ _ h => h) rfl (fun _ hw => run_eqN 0 0 (by decide) (by decide) true (decide_eq_true F1) rfl rfl rfl) (⟨hm28.at 2 rfl, hm28.at 3 rfl⟩) ?_
  simp only [List.setIfInBounds_toArray, List.set_cons_zero, List.set_cons_succ]
  refine Sym.take_at 14 33 (.bool true) rfl rfl (by kernel_rfl) (by kernel_rfl) (by kernel_rfl) (fun _ _ _ h => h) rfl (fun _ hw => run_pickf rfl rfl rfl) (⟨hm28.at 2 rfl, hm28.at 3 rfl⟩) ?_
  simp only [List.setIfInBounds_toArray, List.set_cons_zero, List.set_cons_succ]
  refine Sym.take_at 15 34 (.bool true) rfl rfl (by kernel_rfl) (by kernel_rfl) (by kernel_rfl) (fun _ _ _ h => h) (wanted_none rfl) (fun _ hw => run_pick rfl rfl rfl) (⟨hm28.at 2 rfl, hm28.at 3 rfl⟩) ?_
  simp only [List.setIfInBounds_toArray, List.set_cons_zero, List.set_cons_succ]
  refine Sym.take_at 16 35 (.bool true) rfl rfl (by kernel_rfl) (by kernel_rfl) (by kernel_rfl) (fun _ _ _ h => h) (wanted_none rfl) (fun _ hw => run_mv rfl rfl) (⟨hm28.at 2 rfl, hm28.at 3 rfl⟩) ?_
  simp only [List.setIfInBounds_toArray, List.set_cons_zero, List.set_cons_succ]
  refine Sym.take_at 17 36 (.agg (bs ((a * b + 0) % LL))) rfl rfl (by kernel_rfl) (by kernel_rfl) (by kernel_rfl) (fun _ _ _ h => h) rfl (fun _ hw => run_row rfl rfl hw.2 Try.underlying23 rfl (by rw [bs_sz]; exact info_b)) (⟨hm28.at 2 rfl, hm28.at 3 rfl⟩) ?_
  simp only [List.setIfInBounds_toArray, List.set_cons_zero, List.set_cons_succ]
  refine Sym.take_at 18 37 (.agg (bs 1)) rfl rfl (by kernel_rfl) (by kernel_rfl) (by kernel_rfl) (fun _ _ _ h => h) rfl (fun _ hw => by unfold execOp; go_simp; rfl) (⟨hm28.at 2 rfl, hm28.at 3 rfl⟩) ?_
  simp only [List.setIfInBounds_toArray, List.set_cons_zero, List.set_cons_succ]
  refine Sym.take_at 19 38 (.agg (bs 0)) rfl rfl (by kernel_rfl) (by kernel_rfl) (by kernel_rfl) (fun _ _ _ h => h) rfl (fun _ hw => by unfold execOp; go_simp; rfl) (⟨hm28.at 2 rfl, hm28.at 3 rfl⟩) ?_
  simp only [List.setIfInBounds_toArray, List.set_cons_zero, List.set_cons_succ]
  refine Sym.take_at 21 40 (.agg (bs ((a * b + 0) % LL))) rfl rfl (by kernel_rfl) (by kernel_rfl) (by kernel_rfl) (fun _ _ _ h => h) rfl (fun _ hw => run_row rfl rfl hw.2 Try.underlying23 rfl (by rw [bs_sz]; exact info_b)) (⟨hm28.at 2 rfl, hm28.at 3 rfl⟩) ?_
  simp only [List.setIfInBounds_toArray, List.set_cons_zero, List.set_cons_succ]
  refine one_ready 20 (by kernel_rfl) ?_
  refine opd rfl rfl (m_call hm28 39 (.agg (bs ((((a * b + 0) % LL) * 1 + 0) % LL))) rfl (run_Fuse rfl rfl rfl rfl) (fuse_any ((a * b + 0) % LL) 1 0 (Nat.lt_trans (Nat.mod_lt _ (by decide)) (by decide)) (by decide) (by decide) _) (fun w29 hm30 => ?_))
  refine ⟨⟨hm30.at 2 rfl, hm30.at 3 rfl⟩, ?_⟩
  simp only [List.setIfInBounds_toArray, List.set_cons_zero, List.set_cons_succ]
  refine Sym.take_at 22 41 (.bool true) rfl rfl (by kernel_rfl) (by kernel_rfl) (by kernel_rfl) (fun _ _ _ h => h) rfl (fun _ hw => run_eqN ((((a * b + 0) % LL) * 1 + 0) % LL) ((a * b + 0) % LL) (Nat.lt_trans (Nat.mod_lt _ (by decide)) (by decide)) (Nat.lt_trans (Nat.mod_lt _ (by decide)) (by decide)) true (decide_eq_true F2) rfl rfl rfl) (⟨hm30.at 2 rfl, hm30.at 3 rfl⟩) ?_
  simp only [List.setIfInBounds_toArray, List.set_cons_zero, List.set_cons_succ]
  refine Sym.take_at 23 42 (.bool true) rfl rfl (by kernel_rfl) (by kernel_rfl) (by kernel_rfl) (fun _ _ _ h => h) (wanted_none rfl) (fun _ hw => run_pick rfl rfl rfl) (⟨hm30.at 2 rfl, hm30.at 3 rfl⟩) ?_
  simp only [List.setIfInBounds_toArray, List.set_cons_zero, List.set_cons_succ]
  refine one_ready 24 (by kernel_rfl) ?_
  refine opd rfl (wanted_none rfl) (w_value 6 (.bool true) rfl (run_as rfl rfl) ⟨⟨hm30.at 2 rfl, hm30.at 3 rfl⟩, ?_⟩)
  simp only [List.setIfInBounds_toArray, List.set_cons_zero, List.set_cons_succ]
  refine wpAnyH_done (by kernel_rfl) ?_ _
  refine then_n (hK24 _ _ ?_)
  refine wp_ret ?_
  exact ⟨rfl, .bool true, res_t rfl rfl, ⟨rfl, hm30.below⟩⟩
theorem walk (s : ByteArray) (a : Nat) (ha : a < MM) (b : Nat) (hb : b < MM) (w : World) : Calls Try.prog 7 #[.string s, .agg (bs a), .agg (bs b)] w (fun e w' => e = .returned (.bool true) ∧ Below w.heap.size w w') := by
  by_cases h : s.size = 64
  · exact walk_yes s a ha b hb (Lib.hid h) w
  · exact walk_no s a ha b hb (Lib.hid h) w
set_option maxRecDepth 100000 in
theorem lifted (os : Os) (started : os.Started) (H : Type) (enc : TypeId × Value → H) :
    ReturnsInHanded {} Try.checked os 7 .any (Rows.scalarNoneSpec.pre6 enc Try.prog Try.f7 Rows.scalarNoneRow.domain false) (Rows.scalarNoneSpec.post enc Try.prog Try.f7 false true false false) := by
  refine returnsInHanded_of_change (C := Try.checked) own started (by kernel_rfl) Try.func7
    (ChangeSpec.witness6 (enc := enc) (C := Try.checked) false ⟨#[], #[.string .empty, .agg #[.int .u8 0, .int .u8 0, .int .u8 0, .int .u8 0, .int .u8 0, .int .u8 0, .int .u8 0, .int .u8 0, .int .u8 0, .int .u8 0, .int .u8 0, .int .u8 0, .int .u8 0, .int .u8 0, .int .u8 0, .int .u8 0, .int .u8 0, .int .u8 0, .int .u8 0, .int .u8 0, .int .u8 0, .int .u8 0, .int .u8 0, .int .u8 0, .int .u8 0, .int .u8 0, .int .u8 0, .int .u8 0, .int .u8 0, .int .u8 0, .int .u8 0, .int .u8 0], .agg #[.int .u8 0, .int .u8 0, .int .u8 0, .int .u8 0, .int .u8 0, .int .u8 0, .int .u8 0, .int .u8 0, .int .u8 0, .int .u8 0, .int .u8 0, .int .u8 0, .int .u8 0, .int .u8 0, .int .u8 0, .int .u8 0, .int .u8 0, .int .u8 0, .int .u8 0, .int .u8 0, .int .u8 0, .int .u8 0, .int .u8 0, .int .u8 0, .int .u8 0, .int .u8 0, .int .u8 0, .int .u8 0, .int .u8 0, .int .u8 0, .int .u8 0, .int .u8 0]], []⟩ 8 (by kernel_rfl) (by kernel_rfl) (by kernel_rfl) (by kernel_rfl)) ?_
  intro W base args ds gs before hval0 hW hcnd _
  have hval : ∀ (j : Nat) t v, Try.f7.params[j]? = some t → args[j]? = some v → Value.okWide Try.prog W .any base t v := hval0
  have hW' := hW
  obtain ⟨p, q, hA0, hV, rfl, hfz, hnd⟩ := hW
  have hA : DataW.TrodAll enc Try.prog W 0 (fun _ => true) true Try.f7.params.toList args.toList ds p := hA0
  rw [Try.params7] at hA hval
  obtain ⟨v0, vs0, d0, ds0, p0, q0, hargs, rfl, rfl, h0, r0⟩ := trodAll_cons hA
  obtain ⟨v1, vs1, d1, ds1, p1, q1, rfl, rfl, rfl, h1, r1⟩ := trodAll_cons r0
  obtain ⟨v2, vs2, d2, ds2, p2, q2, rfl, rfl, rfl, h2, r2⟩ := trodAll_cons r1
  obtain ⟨rfl, rfl, rfl⟩ := trodAll_nil r2
  obtain rfl : args = #[v0, v1, v2] := by cases args; simp_all
  obtain ⟨rfl, rfl⟩ := trodVars_none hV
  obtain ⟨a0, rfl, rfl, rfl, m0⟩ := open_string Try.underlying9 (hval 0 9 v0 rfl rfl) h0
  obtain ⟨a1, b1, rfl, rfl, k1⟩ := open_num (hval 1 23 v1 rfl rfl) h1
  obtain ⟨a2, b2, rfl, rfl, k2⟩ := open_num (hval 2 23 v2 rfl rfl) h2
  clear hA0 hval0
  simp only [List.append_nil] at hW'
  refine (walk a0 a1 b1 a2 b2 W).mono fun e W' ⟨he, hg⟩ => ?_
  subst he
  exact ⟨_, rfl, _, _, _, [], [], [], hW', (trodAll_cons_mk (shut_bool Try.underlying4 _) trodAll_mk0), (trodAll_cons_mk (shut_string Try.underlying9 m0) (trodAll_cons_mk (k1 _ _) (trodAll_cons_mk (k2 _ _) trodAll_mk0))), rfl, hg.frame _, fun h => by cases h⟩

theorem over : Rows.scalarNoneRow.holds Try.pinned (OpenSpec.ofChange Rows.scalarNoneSpec) :=
  OpenClaim.holds_of_wide 7 Try.f7 rfl rfl rfl rfl rfl rfl rfl ⟨rfl, rfl, rfl, rfl, rfl⟩ rfl rfl rfl rfl rfl (by kernel_rfl) Try.func7 (by kernel_rfl)
    (of_decide_eq_true (by kernel_rfl)) (by unfold Func.isWrapper; first | (rw [if_pos (by decide +kernel)]; kernel_rfl) | (rw [if_neg (by decide +kernel)]; exact ⟨rfl, rfl⟩))
    (fun os started H enc _ => lifted os started H enc)

/-- The statement. -/
theorem proved : Rows.ScalarNoneSaid :=
  over
#print axioms proved
end Go.Proofs.Ytcemcnbhnedaaaa.scalarNone
