/- A product and a sum of any numbers are the document's, and below the order: ScalarFuses returns true, for every three numbers of 32 bytes. No condition. -/
import Derived.Test.YtcemcnbhnedaaaaRows
import Derived.Test.YtcemcnbhnedaaaaScI
import Derived.Test.YtcemcnbhnedaaaaScO
import Derived.Test.YtcemcnbhnedaaaaScG
import Derived.WalkKit
import Derived.ProofKit
import Derived.OpenShut
import Derived.ChangeMaps5
namespace Go.Proofs.Ytcemcnbhnedaaaa.scalarFuses
open Go.ChangeShapes Go.WideShapes Go.ChangeAt Go.RowKit Go.ChangeMaps
open Go.Proofs.Ytcemcnbhnedaaaa Go.Proofs.Ytcemcnbhnedaaaa.Fld Go.Proofs.Ytcemcnbhnedaaaa.Arr Go.Proofs.Ytcemcnbhnedaaaa.Sym Go.Proofs.Ytcemcnbhnedaaaa.Sx
set_option linter.unusedVariables false

theorem own : ownKnob Try.prog.godebug = none := by kernel_rfl

set_option maxHeartbeats 4000000 in
set_option maxRecDepth 100000 in
theorem walk (a : Nat) (ha : a < MM) (b : Nat) (hb : b < MM) (c : Nat) (hc : c < MM) (w : World) : Calls Try.prog 4 #[.agg (bs a), .agg (bs b), .agg (bs c)] w (fun e w' => e = .returned (.bool true) ∧ Below w.heap.size w w') := by
  have F1 : ((a * b + c) % LL) = ((a * b + c) % LL) := by
    rfl
  have Ha := Lib.hid ha
  have Hb := Lib.hid hb
  have Hc := Lib.hid hc
  clear ha
  clear hb
  clear hc
  go_enter Try.func4, Try.ntmps4
  have hm0 := Mm.nil w
  refine wp_seq_k (fun K1 hK1 => ?_)
  refine wp_region_lit ?_
  refine lst (wanted_none rfl) (m_alloc (c := bs a) (T := 23) hm0 3 rfl (run_box rfl rfl) (fun g2 w3 (hm4 : Mm w w3 [(g2, bs a, 23)]) => ?_))
  simp only [List.setIfInBounds_toArray, List.set_cons_zero, List.set_cons_succ]
  refine lst (wanted_none rfl) (m_alloc (c := bs b) (T := 23) hm4 4 rfl (run_box rfl rfl) (fun g5 w6 (hm7 : Mm w w6 [(g2, bs a, 23), (g5, bs b, 23)]) => ?_))
  simp only [List.setIfInBounds_toArray, List.set_cons_zero, List.set_cons_succ]
  refine lst (wanted_none rfl) (m_alloc (c := bs c) (T := 23) hm7 5 rfl (run_box rfl rfl) (fun g8 w9 (hm10 : Mm w w9 [(g2, bs a, 23), (g5, bs b, 23), (g8, bs c, 23)]) => ?_))
  simp only [List.setIfInBounds_toArray, List.set_cons_zero, List.set_cons_succ]
  refine lst (wanted_none rfl) (w_value 6 (.bool false) rfl (run_as rfl rfl) ?_)
  simp only [List.setIfInBounds_toArray, List.set_cons_zero, List.set_cons_succ]
  refine wpList_nil ?_
  refine then_n (hK1 _ _ ?_)
  refine wp_seq_k (fun K11 hK11 => ?_)
  refine wp_region_lit ?_
  refine lst (wanted_none rfl) (w_value 8 (.agg (bs a)) rfl (run_row rfl rfl (hm10.at 0 rfl) Try.underlying23 rfl (by rw [bs_sz]; exact info_b)) ?_)
  simp only [List.setIfInBounds_toArray, List.set_cons_zero, List.set_cons_succ]
  refine lst (wanted_none rfl) (w_value 9 (.agg (bs b)) rfl (run_row rfl rfl (hm10.at 1 rfl) Try.underlying23 rfl (by rw [bs_sz]; exact info_b)) ?_)
  simp only [List.setIfInBounds_toArray, List.set_cons_zero, List.set_cons_succ]
  refine lst (wanted_none rfl) (w_value 10 (.agg (bs c)) rfl (run_row rfl rfl (hm10.at 2 rfl) Try.underlying23 rfl (by rw [bs_sz]; exact info_b)) ?_)
  simp only [List.setIfInBounds_toArray, List.set_cons_zero, List.set_cons_succ]
  refine lst (wanted_none rfl) (m_call hm10 11 (.agg (bs ((a * b + c) % LL))) rfl (run_Fuse rfl rfl rfl rfl) (fuse_any a b c Ha.out Hb.out Hc.out _) (fun w12 hm13 => ?_))
  simp only [List.setIfInBounds_toArray, List.set_cons_zero, List.set_cons_succ]
  refine lst (wanted_none rfl) (m_alloc (c := bs 0) (T := 23) hm13 7 rfl (al_N rfl) (fun g14 w15 (hm16 : Mm w w15 [(g2, bs a, 23), (g5, bs b, 23), (g8, bs c, 23), (g14, bs 0, 23)]) => ?_))
  simp only [List.setIfInBounds_toArray, List.set_cons_zero, List.set_cons_succ]
  refine lst (wanted_none rfl) (m_store 3 23 _ _ (bs ((a * b + c) % LL)) (old := bs 0) hm16 rfl rfl rfl rfl rfl (by rw [bs_sz]; exact info_b) ((bs_sz _).trans (bs_sz _).symm) (bs_one _) (fun w17 (hm18 : Mm w w17 [(g2, bs a, 23), (g5, bs b, 23), (g8, bs c, 23), (g14, bs ((a * b + c) % LL), 23)]) => ?_))
  refine wpList_nil ?_
  refine then_n (hK11 _ _ ?_)
  refine wp_seq_k (fun K19 hK19 => ?_)
  have hm20 := hm18.drew
  refine wp_region_held_drew (S := fun w' => Sym.Blk w' g14 (bs ((a * b + c) % LL)) 23 ∧ Sym.Blk w' g2 (bs a) 23 ∧ Sym.Blk w' g5 (bs b) 23 ∧ Sym.Blk w' g8 (bs c) 23) (by kernel_rfl) (⟨hm18.at 3 rfl, hm18.at 0 rfl, hm18.at 1 rfl, hm18.at 2 rfl⟩) (fun _ => ?_)
  generalize w17.drew = w21 at *
  refine one_ready 0 (by kernel_rfl) ?_
  refine opd rfl (wanted_none rfl) (m_call hm20 12 (.bool true) rfl (run_awake rfl) (awake_any _) (fun w22 hm23 => ?_))
  refine ⟨⟨hm23.at 3 rfl, hm23.at 0 rfl, hm23.at 1 rfl, hm23.at 2 rfl⟩, ?_⟩
  simp only [List.setIfInBounds_toArray, List.set_cons_zero, List.set_cons_succ]
  refine Sym.take_at 1 13 (.bool true) rfl rfl (by kernel_rfl) (by kernel_rfl) (by kernel_rfl) (fun _ _ _ h => h) (wanted_none rfl) (fun _ hw => run_mv rfl rfl) (⟨hm23.at 3 rfl, hm23.at 0 rfl, hm23.at 1 rfl, hm23.at 2 rfl⟩) ?_
  simp only [List.setIfInBounds_toArray, List.set_cons_zero, List.set_cons_succ]
  refine Sym.take_at 2 14 (.agg (bs ((a * b + c) % LL))) rfl rfl (by kernel_rfl) (by kernel_rfl) (by kernel_rfl) (fun _ _ _ h => h) rfl (fun _ hw => run_row rfl rfl hw.1 Try.underlying23 rfl (by rw [bs_sz]; exact info_b)) (⟨hm23.at 3 rfl, hm23.at 0 rfl, hm23.at 1 rfl, hm23.at 2 rfl⟩) ?_
  simp only [List.setIfInBounds_toArray, List.set_cons_zero, List.set_cons_succ]
  refine Sym.take_at 3 15 (.agg (bs a)) rfl rfl (by kernel_rfl) (by kernel_rfl) (by kernel_rfl) (fun _ _ _ h => h) rfl (fun _ hw => run_row rfl rfl hw.2.1 Try.underlying23 rfl (by rw [bs_sz]; exact info_b)) (⟨hm23.at 3 rfl, hm23.at 0 rfl, hm23.at 1 rfl, hm23.at 2 rfl⟩) ?_
  simp only [List.setIfInBounds_toArray, List.set_cons_zero, List.set_cons_succ]
  refine Sym.take_at 4 16 (.agg (bs b)) rfl rfl (by kernel_rfl) (by kernel_rfl) (by kernel_rfl) (fun _ _ _ h => h) rfl (fun _ hw => run_row rfl rfl hw.2.2.1 Try.underlying23 rfl (by rw [bs_sz]; exact info_b)) (⟨hm23.at 3 rfl, hm23.at 0 rfl, hm23.at 1 rfl, hm23.at 2 rfl⟩) ?_
  simp only [List.setIfInBounds_toArray, List.set_cons_zero, List.set_cons_succ]
  refine Sym.take_at 5 17 (.agg (bs c)) rfl rfl (by kernel_rfl) (by kernel_rfl) (by kernel_rfl) (fun _ _ _ h => h) rfl (fun _ hw => run_row rfl rfl hw.2.2.2 Try.underlying23 rfl (by rw [bs_sz]; exact info_b)) (⟨hm23.at 3 rfl, hm23.at 0 rfl, hm23.at 1 rfl, hm23.at 2 rfl⟩) ?_
  simp only [List.setIfInBounds_toArray, List.set_cons_zero, List.set_cons_succ]
  refine one_ready 6 (by kernel_rfl) ?_
  refine opd rfl rfl (m_call hm23 18 (.agg (bs ((a * b + c) % LL))) rfl (run_rFuse rfl rfl rfl rfl) (rfuse_any a b c Ha.out Hb.out Hc.out _) (fun w24 hm25 => ?_))
  refine ⟨⟨hm25.at 3 rfl, hm25.at 0 rfl, hm25.at 1 rfl, hm25.at 2 rfl⟩, ?_⟩
  simp only [List.setIfInBounds_toArray, List.set_cons_zero, List.set_cons_succ]
  refine Sym.take_at 7 19 (.bool true) rfl rfl (by kernel_rfl) (by kernel_rfl) (by kernel_rfl) (fun _ _ _ h => h) rfl (fun _ hw => run_eqN ((a * b + c) % LL) ((a * b + c) % LL) (Nat.lt_trans (Nat.mod_lt _ (by decide)) (by decide)) (Nat.lt_trans (Nat.mod_lt _ (by decide)) (by decide)) true (decide_eq_true F1) rfl rfl rfl) (⟨hm25.at 3 rfl, hm25.at 0 rfl, hm25.at 1 rfl, hm25.at 2 rfl⟩) ?_
  simp only [List.setIfInBounds_toArray, List.set_cons_zero, List.set_cons_succ]
  refine Sym.take_at 8 20 (.bool true) rfl rfl (by kernel_rfl) (by kernel_rfl) (by kernel_rfl) (fun _ _ _ h => h) (wanted_none rfl) (fun _ hw => run_pick rfl rfl rfl) (⟨hm25.at 3 rfl, hm25.at 0 rfl, hm25.at 1 rfl, hm25.at 2 rfl⟩) ?_
  simp only [List.setIfInBounds_toArray, List.set_cons_zero, List.set_cons_succ]
  refine Sym.take_at 9 21 (.bool true) rfl rfl (by kernel_rfl) (by kernel_rfl) (by kernel_rfl) (fun _ _ _ h => h) (wanted_none rfl) (fun _ hw => run_mv rfl rfl) (⟨hm25.at 3 rfl, hm25.at 0 rfl, hm25.at 1 rfl, hm25.at 2 rfl⟩) ?_
  simp only [List.setIfInBounds_toArray, List.set_cons_zero, List.set_cons_succ]
  refine Sym.take_at 10 22 (.agg (bs ((a * b + c) % LL))) rfl rfl (by kernel_rfl) (by kernel_rfl) (by kernel_rfl) (fun _ _ _ h => h) rfl (fun _ hw => run_row rfl rfl hw.1 Try.underlying23 rfl (by rw [bs_sz]; exact info_b)) (⟨hm25.at 3 rfl, hm25.at 0 rfl, hm25.at 1 rfl, hm25.at 2 rfl⟩) ?_
  simp only [List.setIfInBounds_toArray, List.set_cons_zero, List.set_cons_succ]
  refine one_ready 11 (by kernel_rfl) ?_
  refine opd rfl rfl (m_call hm25 23 (.bool true) rfl (run_Canon rfl rfl) (canon_true ((a * b + c) % LL) (Nat.mod_lt _ (by decide)) _) (fun w26 hm27 => ?_))
  refine ⟨⟨hm27.at 3 rfl, hm27.at 0 rfl, hm27.at 1 rfl, hm27.at 2 rfl⟩, ?_⟩
  simp only [List.setIfInBounds_toArray, List.set_cons_zero, List.set_cons_succ]
  refine Sym.take_at 12 24 (.bool true) rfl rfl (by kernel_rfl) (by kernel_rfl) (by kernel_rfl) (fun _ _ _ h => h) (wanted_none rfl) (fun _ hw => run_pick rfl rfl rfl) (⟨hm27.at 3 rfl, hm27.at 0 rfl, hm27.at 1 rfl, hm27.at 2 rfl⟩) ?_
  simp only [List.setIfInBounds_toArray, List.set_cons_zero, List.set_cons_succ]
  refine one_ready 13 (by kernel_rfl) ?_
  refine opd rfl (wanted_none rfl) (w_value 6 (.bool true) rfl (run_as rfl rfl) ⟨⟨hm27.at 3 rfl, hm27.at 0 rfl, hm27.at 1 rfl, hm27.at 2 rfl⟩, ?_⟩)
  simp only [List.setIfInBounds_toArray, List.set_cons_zero, List.set_cons_succ]
  refine wpAnyH_done (by kernel_rfl) ?_ _
  refine then_n (hK19 _ _ ?_)
  refine wp_ret ?_
  exact ⟨rfl, .bool true, res_t rfl rfl, ⟨rfl, hm27.below⟩⟩
set_option maxRecDepth 100000 in
theorem lifted (os : Os) (started : os.Started) (H : Type) (enc : TypeId × Value → H) :
    ReturnsInHanded {} Try.checked os 4 .any (Rows.scalarFusesSpec.pre6 enc Try.prog Try.f4 Rows.scalarFusesRow.domain false) (Rows.scalarFusesSpec.post enc Try.prog Try.f4 false true false false) := by
  refine returnsInHanded_of_change (C := Try.checked) own started (by kernel_rfl) Try.func4
    (ChangeSpec.witness6 (enc := enc) (C := Try.checked) false ⟨#[], #[.agg #[.int .u8 0, .int .u8 0, .int .u8 0, .int .u8 0, .int .u8 0, .int .u8 0, .int .u8 0, .int .u8 0, .int .u8 0, .int .u8 0, .int .u8 0, .int .u8 0, .int .u8 0, .int .u8 0, .int .u8 0, .int .u8 0, .int .u8 0, .int .u8 0, .int .u8 0, .int .u8 0, .int .u8 0, .int .u8 0, .int .u8 0, .int .u8 0, .int .u8 0, .int .u8 0, .int .u8 0, .int .u8 0, .int .u8 0, .int .u8 0, .int .u8 0, .int .u8 0], .agg #[.int .u8 0, .int .u8 0, .int .u8 0, .int .u8 0, .int .u8 0, .int .u8 0, .int .u8 0, .int .u8 0, .int .u8 0, .int .u8 0, .int .u8 0, .int .u8 0, .int .u8 0, .int .u8 0, .int .u8 0, .int .u8 0, .int .u8 0, .int .u8 0, .int .u8 0, .int .u8 0, .int .u8 0, .int .u8 0, .int .u8 0, .int .u8 0, .int .u8 0, .int .u8 0, .int .u8 0, .int .u8 0, .int .u8 0, .int .u8 0, .int .u8 0, .int .u8 0], .agg #[.int .u8 0, .int .u8 0, .int .u8 0, .int .u8 0, .int .u8 0, .int .u8 0, .int .u8 0, .int .u8 0, .int .u8 0, .int .u8 0, .int .u8 0, .int .u8 0, .int .u8 0, .int .u8 0, .int .u8 0, .int .u8 0, .int .u8 0, .int .u8 0, .int .u8 0, .int .u8 0, .int .u8 0, .int .u8 0, .int .u8 0, .int .u8 0, .int .u8 0, .int .u8 0, .int .u8 0, .int .u8 0, .int .u8 0, .int .u8 0, .int .u8 0, .int .u8 0]], []⟩ 8 (by kernel_rfl) (by kernel_rfl) (by kernel_rfl) (by kernel_rfl)) ?_
  intro W base args ds gs before hval0 hW hcnd _
  have hval : ∀ (j : Nat) t v, Try.f4.params[j]? = some t → args[j]? = some v → Value.okWide Try.prog W .any base t v := hval0
  have hW' := hW
  obtain ⟨p, q, hA0, hV, rfl, hfz, hnd⟩ := hW
  have hA : DataW.TrodAll enc Try.prog W 0 (fun _ => true) true Try.f4.params.toList args.toList ds p := hA0
  rw [Try.params4] at hA hval
  obtain ⟨v0, vs0, d0, ds0, p0, q0, hargs, rfl, rfl, h0, r0⟩ := trodAll_cons hA
  obtain ⟨v1, vs1, d1, ds1, p1, q1, rfl, rfl, rfl, h1, r1⟩ := trodAll_cons r0
  obtain ⟨v2, vs2, d2, ds2, p2, q2, rfl, rfl, rfl, h2, r2⟩ := trodAll_cons r1
  obtain ⟨rfl, rfl, rfl⟩ := trodAll_nil r2
  obtain rfl : args = #[v0, v1, v2] := by cases args; simp_all
  obtain ⟨rfl, rfl⟩ := trodVars_none hV
  obtain ⟨a0, b0, rfl, rfl, k0⟩ := open_num (hval 0 23 v0 rfl rfl) h0
  obtain ⟨a1, b1, rfl, rfl, k1⟩ := open_num (hval 1 23 v1 rfl rfl) h1
  obtain ⟨a2, b2, rfl, rfl, k2⟩ := open_num (hval 2 23 v2 rfl rfl) h2
  clear hA0 hval0
  simp only [List.append_nil] at hW'
  refine (walk a0 b0 a1 b1 a2 b2 W).mono fun e W' ⟨he, hg⟩ => ?_
  subst he
  exact ⟨_, rfl, _, _, _, [], [], [], hW', (trodAll_cons_mk (shut_bool Try.underlying4 _) trodAll_mk0), (trodAll_cons_mk (k0 _ _) (trodAll_cons_mk (k1 _ _) (trodAll_cons_mk (k2 _ _) trodAll_mk0))), rfl, hg.frame _, fun h => by cases h⟩

theorem over : Rows.scalarFusesRow.holds Try.pinned (OpenSpec.ofChange Rows.scalarFusesSpec) :=
  OpenClaim.holds_of_wide 4 Try.f4 rfl rfl rfl rfl rfl rfl rfl ⟨rfl, rfl, rfl, rfl, rfl⟩ rfl rfl rfl rfl rfl (by kernel_rfl) Try.func4 (by kernel_rfl)
    (of_decide_eq_true (by kernel_rfl)) (by unfold Func.isWrapper; first | (rw [if_pos (by decide +kernel)]; kernel_rfl) | (rw [if_neg (by decide +kernel)]; exact ⟨rfl, rfl⟩))
    (fun os started H enc _ => lifted os started H enc)

/-- The statement. -/
theorem proved : Rows.ScalarFusesSaid :=
  over
#print axioms proved
end Go.Proofs.Ytcemcnbhnedaaaa.scalarFuses
