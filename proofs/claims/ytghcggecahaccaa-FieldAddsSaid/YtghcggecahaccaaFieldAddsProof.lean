/- Sums, differences and products are the document's: FieldAdds returns true, for every two numbers of 32 bytes. No condition. -/
import Derived.Test.YtghcggecahaccaaRows
import Derived.Test.YtghcggecahaccaaFldP
import Derived.Test.YtghcggecahaccaaFldO
import Derived.Test.YtghcggecahaccaaFldQ
import Derived.Test.YtghcggecahaccaaFldAA
import Derived.WalkKit
import Derived.ProofKit
import Derived.OpenShut
namespace Go.Proofs.Ytghcggecahaccaa.fieldAdds
open Go.ChangeShapes Go.WideShapes Go.ChangeAt Go.RowKit
open Go.Proofs.Ytghcggecahaccaa Go.Proofs.Ytghcggecahaccaa.Fld Go.Proofs.Ytghcggecahaccaa.Sym
set_option linter.unusedVariables false

theorem own : ownKnob Try.prog.godebug = none := by kernel_rfl

set_option maxHeartbeats 4000000 in
set_option maxRecDepth 100000 in
theorem walk (a : Nat) (ha : a < MM) (b : Nat) (hb : b < MM) (w : World) :
    Calls Try.prog 4 #[.agg (bs a), .agg (bs b)] w fun e w' => e = .returned (.bool true) ∧ Below w.heap.size w w' := by
  have F1 : ((a + b) % PP) = ((a + b) % PP) := by
    rfl
  have F2 : ((a % PP + (PP - b % PP)) % PP) = ((a + ((PP - (b % PP)) % PP)) % PP) := by
    simp only [Nat.add_mod_mod, Nat.mod_add_mod]
  have F3 : (a * b % PP) = (a * b % PP) := by
    rfl
  have Ha := Lib.hid ha
  clear ha
  have Hb := Lib.hid hb
  clear hb
  go_enter Try.func4, Try.ntmps4
  have hbel0 := Below.refl w.heap.size w
  go_step
  go_step
  go_step
  refine lst (wanted_none rfl) (w_alloc (c := bs a) (T := 23) 2 rfl (run_box rfl rfl) (fun w1 he2 => ?_))
  have k3 := Blk.new he2
  have hg4 : w.heap.size ≤ w.heap.size := hbel0.size
  have hbel5 := bel_alloc hbel0 he2
  simp only [List.setIfInBounds_toArray, List.set_cons_zero, List.set_cons_succ]
  refine lst (wanted_none rfl) (w_alloc (c := bs b) (T := 23) 3 rfl (run_box rfl rfl) (fun w6 he7 => ?_))
  have hne9 : w.heap.size ≠ w1.heap.size := Nat.ne_of_lt k3.lt
  have k8 := k3.alloc he7
  have k10 := Blk.new he7
  have hg11 : w.heap.size ≤ w1.heap.size := hbel5.size
  have hbel12 := bel_alloc hbel5 he7
  simp only [List.setIfInBounds_toArray, List.set_cons_zero, List.set_cons_succ]
  refine lst (wanted_none rfl) (w_value 4 (.bool false) rfl (run_as rfl rfl) ?_)
  simp only [List.setIfInBounds_toArray, List.set_cons_zero, List.set_cons_succ]
  go_step
  go_step
  go_step
  go_step
  have k13 := k8.drew
  have k14 := k10.drew
  have hbel15 := hbel12.drew
  refine wp_region_held_drew (S := fun w' => Blk w' (w.heap.size) (bs a) 23 ∧ Blk w' (w1.heap.size) (bs b) 23) (by kernel_rfl) ⟨k13, k14⟩ (fun _ => ?_)
  generalize w6.drew = wd16 at *
  refine one_ready 0 (by kernel_rfl) ?_
  refine opd rfl (wanted_none rfl) (w_enter 5 (.bool true) rfl (run_awake rfl) (awake_any _) (fun w17 hb18 => ?_))
  have k19 := k13.call hb18
  have k20 := k14.call hb18
  have hbel21 := bel_call hbel15 hb18
  refine ⟨⟨k19, k20⟩, ?_⟩
  simp only [List.setIfInBounds_toArray, List.set_cons_zero, List.set_cons_succ]
  refine Sym.take_at 1 6 (.bool true) rfl rfl (by kernel_rfl) (by kernel_rfl) (by kernel_rfl) (fun _ _ _ h => h) (wanted_none rfl) (fun _ hw => run_mv rfl rfl) ⟨k19, k20⟩ ?_
  simp only [List.setIfInBounds_toArray, List.set_cons_zero, List.set_cons_succ]
  refine Sym.take_at 2 7 (.agg (bs a)) rfl rfl (by kernel_rfl) (by kernel_rfl) (by kernel_rfl) (fun _ _ _ h => h) rfl (fun _ hw => run_row rfl rfl (hw.1) Try.underlying23 rfl (by rw [bs_sz]; exact info_b)) ⟨k19, k20⟩ ?_
  simp only [List.setIfInBounds_toArray, List.set_cons_zero, List.set_cons_succ]
  refine Sym.take_at 3 8 (.agg (bs b)) rfl rfl (by kernel_rfl) (by kernel_rfl) (by kernel_rfl) (fun _ _ _ h => h) rfl (fun _ hw => run_row rfl rfl (hw.2) Try.underlying23 rfl (by rw [bs_sz]; exact info_b)) ⟨k19, k20⟩ ?_
  simp only [List.setIfInBounds_toArray, List.set_cons_zero, List.set_cons_succ]
  refine Sym.take_at 5 10 (.agg (bs a)) rfl rfl (by kernel_rfl) (by kernel_rfl) (by kernel_rfl) (fun _ _ _ h => h) rfl (fun _ hw => run_row rfl rfl (hw.1) Try.underlying23 rfl (by rw [bs_sz]; exact info_b)) ⟨k19, k20⟩ ?_
  simp only [List.setIfInBounds_toArray, List.set_cons_zero, List.set_cons_succ]
  refine Sym.take_at 6 11 (.agg (bs b)) rfl rfl (by kernel_rfl) (by kernel_rfl) (by kernel_rfl) (fun _ _ _ h => h) rfl (fun _ hw => run_row rfl rfl (hw.2) Try.underlying23 rfl (by rw [bs_sz]; exact info_b)) ⟨k19, k20⟩ ?_
  simp only [List.setIfInBounds_toArray, List.set_cons_zero, List.set_cons_succ]
  refine one_ready 4 (by kernel_rfl) ?_
  refine opd rfl rfl (w_enter 9 (.agg (bs ((a + b) % PP))) rfl (run_Add rfl rfl rfl) (add_any a b Ha.out Hb.out _) (fun w22 hb23 => ?_))
  have k24 := k19.call hb23
  have k25 := k20.call hb23
  have hbel26 := bel_call hbel21 hb23
  refine ⟨⟨k24, k25⟩, ?_⟩
  simp only [List.setIfInBounds_toArray, List.set_cons_zero, List.set_cons_succ]
  refine one_ready 7 (by kernel_rfl) ?_
  refine opd rfl rfl (w_enter 12 (.agg (bs ((a + b) % PP))) rfl (run_rAdd rfl rfl rfl) (radd_any a b Ha.out Hb.out _) (fun w27 hb28 => ?_))
  have k29 := k24.call hb28
  have k30 := k25.call hb28
  have hbel31 := bel_call hbel26 hb28
  refine ⟨⟨k29, k30⟩, ?_⟩
  simp only [List.setIfInBounds_toArray, List.set_cons_zero, List.set_cons_succ]
  refine Sym.take_at 8 13 (.bool true) rfl rfl (by kernel_rfl) (by kernel_rfl) (by kernel_rfl) (fun _ _ _ h => h) rfl (fun _ hw => run_eqN ((a + b) % PP) ((a + b) % PP) (Nat.lt_trans (Nat.mod_lt _ (by decide)) pp_lt) (Nat.lt_trans (Nat.mod_lt _ (by decide)) pp_lt) true (decide_eq_true F1) rfl rfl rfl) ⟨k29, k30⟩ ?_
  simp only [List.setIfInBounds_toArray, List.set_cons_zero, List.set_cons_succ]
  refine Sym.take_at 9 14 (.bool true) rfl rfl (by kernel_rfl) (by kernel_rfl) (by kernel_rfl) (fun _ _ _ h => h) (wanted_none rfl) (fun _ hw => run_pick rfl rfl rfl) ⟨k29, k30⟩ ?_
  simp only [List.setIfInBounds_toArray, List.set_cons_zero, List.set_cons_succ]
  refine Sym.take_at 10 15 (.bool true) rfl rfl (by kernel_rfl) (by kernel_rfl) (by kernel_rfl) (fun _ _ _ h => h) (wanted_none rfl) (fun _ hw => run_mv rfl rfl) ⟨k29, k30⟩ ?_
  simp only [List.setIfInBounds_toArray, List.set_cons_zero, List.set_cons_succ]
  refine Sym.take_at 11 16 (.agg (bs a)) rfl rfl (by kernel_rfl) (by kernel_rfl) (by kernel_rfl) (fun _ _ _ h => h) rfl (fun _ hw => run_row rfl rfl (hw.1) Try.underlying23 rfl (by rw [bs_sz]; exact info_b)) ⟨k29, k30⟩ ?_
  simp only [List.setIfInBounds_toArray, List.set_cons_zero, List.set_cons_succ]
  refine Sym.take_at 12 17 (.agg (bs b)) rfl rfl (by kernel_rfl) (by kernel_rfl) (by kernel_rfl) (fun _ _ _ h => h) rfl (fun _ hw => run_row rfl rfl (hw.2) Try.underlying23 rfl (by rw [bs_sz]; exact info_b)) ⟨k29, k30⟩ ?_
  simp only [List.setIfInBounds_toArray, List.set_cons_zero, List.set_cons_succ]
  refine Sym.take_at 14 19 (.agg (bs a)) rfl rfl (by kernel_rfl) (by kernel_rfl) (by kernel_rfl) (fun _ _ _ h => h) rfl (fun _ hw => run_row rfl rfl (hw.1) Try.underlying23 rfl (by rw [bs_sz]; exact info_b)) ⟨k29, k30⟩ ?_
  simp only [List.setIfInBounds_toArray, List.set_cons_zero, List.set_cons_succ]
  refine Sym.take_at 15 20 (.agg (bs b)) rfl rfl (by kernel_rfl) (by kernel_rfl) (by kernel_rfl) (fun _ _ _ h => h) rfl (fun _ hw => run_row rfl rfl (hw.2) Try.underlying23 rfl (by rw [bs_sz]; exact info_b)) ⟨k29, k30⟩ ?_
  simp only [List.setIfInBounds_toArray, List.set_cons_zero, List.set_cons_succ]
  refine one_ready 13 (by kernel_rfl) ?_
  refine opd rfl rfl (w_enter 18 (.agg (bs ((a % PP + (PP - b % PP)) % PP))) rfl (run_Sub rfl rfl rfl) (sub_any a b Ha.out Hb.out _) (fun w32 hb33 => ?_))
  have k34 := k29.call hb33
  have k35 := k30.call hb33
  have hbel36 := bel_call hbel31 hb33
  refine ⟨⟨k34, k35⟩, ?_⟩
  simp only [List.setIfInBounds_toArray, List.set_cons_zero, List.set_cons_succ]
  refine one_ready 16 (by kernel_rfl) ?_
  refine opd rfl rfl (w_enter 21 (.agg (bs ((a + ((PP - (b % PP)) % PP)) % PP))) rfl (run_rSub rfl rfl rfl) (rsub_any a b Ha.out Hb.out _) (fun w37 hb38 => ?_))
  have k39 := k34.call hb38
  have k40 := k35.call hb38
  have hbel41 := bel_call hbel36 hb38
  refine ⟨⟨k39, k40⟩, ?_⟩
  simp only [List.setIfInBounds_toArray, List.set_cons_zero, List.set_cons_succ]
  refine Sym.take_at 17 22 (.bool true) rfl rfl (by kernel_rfl) (by kernel_rfl) (by kernel_rfl) (fun _ _ _ h => h) rfl (fun _ hw => run_eqN ((a % PP + (PP - b % PP)) % PP) ((a + ((PP - (b % PP)) % PP)) % PP) (Nat.lt_trans (Nat.mod_lt _ (by decide)) pp_lt) (Nat.lt_trans (Nat.mod_lt _ (by decide)) pp_lt) true (decide_eq_true F2) rfl rfl rfl) ⟨k39, k40⟩ ?_
  simp only [List.setIfInBounds_toArray, List.set_cons_zero, List.set_cons_succ]
  refine Sym.take_at 18 23 (.bool true) rfl rfl (by kernel_rfl) (by kernel_rfl) (by kernel_rfl) (fun _ _ _ h => h) (wanted_none rfl) (fun _ hw => run_pick rfl rfl rfl) ⟨k39, k40⟩ ?_
  simp only [List.setIfInBounds_toArray, List.set_cons_zero, List.set_cons_succ]
  refine Sym.take_at 19 24 (.bool true) rfl rfl (by kernel_rfl) (by kernel_rfl) (by kernel_rfl) (fun _ _ _ h => h) (wanted_none rfl) (fun _ hw => run_mv rfl rfl) ⟨k39, k40⟩ ?_
  simp only [List.setIfInBounds_toArray, List.set_cons_zero, List.set_cons_succ]
  refine Sym.take_at 20 25 (.agg (bs a)) rfl rfl (by kernel_rfl) (by kernel_rfl) (by kernel_rfl) (fun _ _ _ h => h) rfl (fun _ hw => run_row rfl rfl (hw.1) Try.underlying23 rfl (by rw [bs_sz]; exact info_b)) ⟨k39, k40⟩ ?_
  simp only [List.setIfInBounds_toArray, List.set_cons_zero, List.set_cons_succ]
  refine Sym.take_at 21 26 (.agg (bs b)) rfl rfl (by kernel_rfl) (by kernel_rfl) (by kernel_rfl) (fun _ _ _ h => h) rfl (fun _ hw => run_row rfl rfl (hw.2) Try.underlying23 rfl (by rw [bs_sz]; exact info_b)) ⟨k39, k40⟩ ?_
  simp only [List.setIfInBounds_toArray, List.set_cons_zero, List.set_cons_succ]
  refine Sym.take_at 23 28 (.agg (bs a)) rfl rfl (by kernel_rfl) (by kernel_rfl) (by kernel_rfl) (fun _ _ _ h => h) rfl (fun _ hw => run_row rfl rfl (hw.1) Try.underlying23 rfl (by rw [bs_sz]; exact info_b)) ⟨k39, k40⟩ ?_
  simp only [List.setIfInBounds_toArray, List.set_cons_zero, List.set_cons_succ]
  refine Sym.take_at 24 29 (.agg (bs b)) rfl rfl (by kernel_rfl) (by kernel_rfl) (by kernel_rfl) (fun _ _ _ h => h) rfl (fun _ hw => run_row rfl rfl (hw.2) Try.underlying23 rfl (by rw [bs_sz]; exact info_b)) ⟨k39, k40⟩ ?_
  simp only [List.setIfInBounds_toArray, List.set_cons_zero, List.set_cons_succ]
  refine one_ready 22 (by kernel_rfl) ?_
  refine opd rfl rfl (w_enter 27 (.agg (bs (a * b % PP))) rfl (run_Mul rfl rfl rfl) (mul_any a b Ha.out Hb.out _) (fun w42 hb43 => ?_))
  have k44 := k39.call hb43
  have k45 := k40.call hb43
  have hbel46 := bel_call hbel41 hb43
  refine ⟨⟨k44, k45⟩, ?_⟩
  simp only [List.setIfInBounds_toArray, List.set_cons_zero, List.set_cons_succ]
  refine one_ready 25 (by kernel_rfl) ?_
  refine opd rfl rfl (w_enter 30 (.agg (bs (a * b % PP))) rfl (run_rMul rfl rfl rfl) (rmul_any a b Ha.out Hb.out _) (fun w47 hb48 => ?_))
  have k49 := k44.call hb48
  have k50 := k45.call hb48
  have hbel51 := bel_call hbel46 hb48
  refine ⟨⟨k49, k50⟩, ?_⟩
  simp only [List.setIfInBounds_toArray, List.set_cons_zero, List.set_cons_succ]
  refine Sym.take_at 26 31 (.bool true) rfl rfl (by kernel_rfl) (by kernel_rfl) (by kernel_rfl) (fun _ _ _ h => h) rfl (fun _ hw => run_eqN (a * b % PP) (a * b % PP) (Nat.lt_trans (Nat.mod_lt _ (by decide)) pp_lt) (Nat.lt_trans (Nat.mod_lt _ (by decide)) pp_lt) true (decide_eq_true F3) rfl rfl rfl) ⟨k49, k50⟩ ?_
  simp only [List.setIfInBounds_toArray, List.set_cons_zero, List.set_cons_succ]
  refine Sym.take_at 27 32 (.bool true) rfl rfl (by kernel_rfl) (by kernel_rfl) (by kernel_rfl) (fun _ _ _ h => h) (wanted_none rfl) (fun _ hw => run_pick rfl rfl rfl) ⟨k49, k50⟩ ?_
  simp only [List.setIfInBounds_toArray, List.set_cons_zero, List.set_cons_succ]
  refine one_ready 28 (by kernel_rfl) ?_
  refine opd rfl (wanted_none rfl) (w_value 4 (.bool true) rfl (run_as rfl rfl) ⟨⟨k49, k50⟩, ?_⟩)
  simp only [List.setIfInBounds_toArray, List.set_cons_zero, List.set_cons_succ]
  refine wpAnyH_done (by kernel_rfl) ?_ _
  go_step
  go_step
  go_wp2
  go_ret
  exact ⟨rfl, hbel51⟩

set_option maxRecDepth 100000 in
theorem lifted (os : Os) (started : os.Started) (H : Type) (enc : TypeId × Value → H) :
    ReturnsInHanded {} Try.checked os 4 .any (Rows.fieldAddsSpec.pre6 enc Try.prog Try.f4 Rows.fieldAddsRow.domain false) (Rows.fieldAddsSpec.post enc Try.prog Try.f4 false true false false) := by
  refine returnsInHanded_of_change (C := Try.checked) own started (by kernel_rfl) Try.func4
    (ChangeSpec.witness6 (enc := enc) (C := Try.checked) false ⟨#[], #[.agg #[.int .u8 0, .int .u8 0, .int .u8 0, .int .u8 0, .int .u8 0, .int .u8 0, .int .u8 0, .int .u8 0, .int .u8 0, .int .u8 0, .int .u8 0, .int .u8 0, .int .u8 0, .int .u8 0, .int .u8 0, .int .u8 0, .int .u8 0, .int .u8 0, .int .u8 0, .int .u8 0, .int .u8 0, .int .u8 0, .int .u8 0, .int .u8 0, .int .u8 0, .int .u8 0, .int .u8 0, .int .u8 0, .int .u8 0, .int .u8 0, .int .u8 0, .int .u8 0], .agg #[.int .u8 0, .int .u8 0, .int .u8 0, .int .u8 0, .int .u8 0, .int .u8 0, .int .u8 0, .int .u8 0, .int .u8 0, .int .u8 0, .int .u8 0, .int .u8 0, .int .u8 0, .int .u8 0, .int .u8 0, .int .u8 0, .int .u8 0, .int .u8 0, .int .u8 0, .int .u8 0, .int .u8 0, .int .u8 0, .int .u8 0, .int .u8 0, .int .u8 0, .int .u8 0, .int .u8 0, .int .u8 0, .int .u8 0, .int .u8 0, .int .u8 0, .int .u8 0]], []⟩ 8 (by kernel_rfl) (by kernel_rfl) (by kernel_rfl) (by kernel_rfl)) ?_
  intro W base args ds gs before hval0 hW hcnd _
  have hval : ∀ (j : Nat) t v, Try.f4.params[j]? = some t → args[j]? = some v → Value.okWide Try.prog W .any base t v := hval0
  have hW' := hW
  obtain ⟨p, q, hA0, hV, rfl, hfz, hnd⟩ := hW
  have hA : DataW.TrodAll enc Try.prog W 0 (fun _ => true) true Try.f4.params.toList args.toList ds p := hA0
  rw [Try.params4] at hA hval
  obtain ⟨v0, vs0, d0, ds0, p0, q0, hargs, rfl, rfl, h0, r0⟩ := trodAll_cons hA
  obtain ⟨v1, vs1, d1, ds1, p1, q1, rfl, rfl, rfl, h1, r1⟩ := trodAll_cons r0
  obtain ⟨rfl, rfl, rfl⟩ := trodAll_nil r1
  obtain rfl : args = #[v0, v1] := by cases args; simp_all
  obtain ⟨rfl, rfl⟩ := trodVars_none hV
  obtain ⟨a0, b0, rfl, rfl, k0⟩ := open_num (hval 0 23 v0 rfl rfl) h0
  obtain ⟨a1, b1, rfl, rfl, k1⟩ := open_num (hval 1 23 v1 rfl rfl) h1
  clear hA0 hval0
  simp only [List.append_nil] at hW'
  refine (walk a0 b0 a1 b1 W).mono fun e W' ⟨he, hg⟩ => ?_
  subst he
  exact ⟨_, rfl, _, _, _, [], [], [], hW', (trodAll_cons_mk (shut_bool Try.underlying4 _) trodAll_mk0), (trodAll_cons_mk (k0 _ _) (trodAll_cons_mk (k1 _ _) trodAll_mk0)), rfl, hg.frame _, fun h => by cases h⟩

theorem over : Rows.fieldAddsRow.holds Try.pinned (OpenSpec.ofChange Rows.fieldAddsSpec) :=
  OpenClaim.holds_of_wide 4 Try.f4 rfl rfl rfl rfl rfl rfl rfl ⟨rfl, rfl, rfl, rfl, rfl⟩ rfl rfl rfl rfl rfl (by kernel_rfl) Try.func4 (by kernel_rfl)
    (of_decide_eq_true (by kernel_rfl)) (by unfold Func.isWrapper; first | (rw [if_pos (by decide +kernel)]; kernel_rfl) | (rw [if_neg (by decide +kernel)]; exact ⟨rfl, rfl⟩))
    (fun os started H enc _ => lifted os started H enc)

/-- The statement. -/
theorem proved : Rows.FieldAddsSaid :=
  over
#print axioms proved
end Go.Proofs.Ytghcggecahaccaa.fieldAdds
