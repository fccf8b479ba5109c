/- A power of n and m together is the product of both powers, the power's power that of the product: FieldSteps returns true, for every number of 32 bytes and every two bytes. No condition. -/
import Derived.Test.YtghcggecahaccaaRows
import Derived.Test.YtghcggecahaccaaFldP
import Derived.Test.YtghcggecahaccaaFldO
import Derived.Test.YtghcggecahaccaaFldQ
import Derived.WalkKit
import Derived.ProofKit
import Derived.OpenShut
namespace Go.Proofs.Ytghcggecahaccaa.fieldSteps
open Go.ChangeShapes Go.WideShapes Go.ChangeAt Go.RowKit
open Go.Proofs.Ytghcggecahaccaa Go.Proofs.Ytghcggecahaccaa.Fld Go.Proofs.Ytghcggecahaccaa.Sym
set_option linter.unusedVariables false

theorem own : ownKnob Try.prog.godebug = none := by kernel_rfl

set_option maxHeartbeats 4000000 in
set_option maxRecDepth 100000 in
theorem walk (a : Nat) (ha : a < MM) (n : Nat) (hn : n < 256) (m : Nat) (hm : m < 256) (w : World) :
    Calls Try.prog 9 #[.agg (bs a), .int .u8 (n : Int), .int .u8 (m : Int)] w fun e w' => e = .returned (.bool true) ∧ Below w.heap.size w w' := by
  have F1 : ((a ^ n % PP) * (a ^ m % PP) % PP) = (a ^ (n + m) % PP) := by
    rw [← Nat.mul_mod, ← Nat.pow_add]
  have F2 : ((a ^ n % PP) ^ m % PP) = (a ^ (n * m) % PP) := by
    rw [← Nat.pow_mod, ← Nat.pow_mul]
  have Ha := Lib.hid ha
  clear ha
  have Hn := Lib.hid hn
  clear hn
  have Hm := Lib.hid hm
  clear hm
  go_enter Try.func9, Try.ntmps9
  have hbel0 := Below.refl w.heap.size w
  go_step
  go_step
  go_step
  refine lst (wanted_none rfl) (w_alloc (c := bs a) (T := 23) 3 rfl (run_box rfl rfl) (fun w1 he2 => ?_))
  have k3 := Blk.new he2
  have hg4 : w.heap.size ≤ w.heap.size := hbel0.size
  have hbel5 := bel_alloc hbel0 he2
  simp only [List.setIfInBounds_toArray, List.set_cons_zero, List.set_cons_succ]
  refine lst (wanted_none rfl) (w_value 6 (.bool false) rfl (run_as rfl rfl) ?_)
  simp only [List.setIfInBounds_toArray, List.set_cons_zero, List.set_cons_succ]
  go_step
  go_step
  go_step
  go_step
  go_step
  refine lst (wanted_none rfl) (w_value 11 (.int .u8 (n : Int)) rfl (run_mv rfl rfl) ?_)
  simp only [List.setIfInBounds_toArray, List.set_cons_zero, List.set_cons_succ]
  refine lst (wanted_none rfl) (w_value 12 (.int .i64 (n : Int)) rfl (run_u8int n Hn.out rfl rfl) ?_)
  simp only [List.setIfInBounds_toArray, List.set_cons_zero, List.set_cons_succ]
  refine lst (wanted_none rfl) (w_value 13 (.int .u8 (m : Int)) rfl (run_mv rfl rfl) ?_)
  simp only [List.setIfInBounds_toArray, List.set_cons_zero, List.set_cons_succ]
  refine lst (wanted_none rfl) (w_value 14 (.int .i64 (m : Int)) rfl (run_u8int m Hm.out rfl rfl) ?_)
  simp only [List.setIfInBounds_toArray, List.set_cons_zero, List.set_cons_succ]
  refine lst (wanted_none rfl) (w_value 15 (.int .i64 ((n + m : Nat) : Int)) rfl (run_addi n m Hn.out Hm.out rfl rfl rfl) ?_)
  simp only [List.setIfInBounds_toArray, List.set_cons_zero, List.set_cons_succ]
  refine lst (wanted_none rfl) (w_value 16 (.int .u8 (n : Int)) rfl (run_mv rfl rfl) ?_)
  simp only [List.setIfInBounds_toArray, List.set_cons_zero, List.set_cons_succ]
  refine lst (wanted_none rfl) (w_value 17 (.int .i64 (n : Int)) rfl (run_u8int n Hn.out rfl rfl) ?_)
  simp only [List.setIfInBounds_toArray, List.set_cons_zero, List.set_cons_succ]
  refine lst (wanted_none rfl) (w_value 18 (.int .u8 (m : Int)) rfl (run_mv rfl rfl) ?_)
  simp only [List.setIfInBounds_toArray, List.set_cons_zero, List.set_cons_succ]
  refine lst (wanted_none rfl) (w_value 19 (.int .i64 (m : Int)) rfl (run_u8int m Hm.out rfl rfl) ?_)
  simp only [List.setIfInBounds_toArray, List.set_cons_zero, List.set_cons_succ]
  refine lst (wanted_none rfl) (w_value 20 (.int .i64 ((n * m : Nat) : Int)) rfl (run_muli n m Hn.out Hm.out rfl rfl rfl) ?_)
  simp only [List.setIfInBounds_toArray, List.set_cons_zero, List.set_cons_succ]
  refine lst (wanted_none rfl) (w_value 7 (.int .i64 ((n + m : Nat) : Int)) rfl (run_as rfl rfl) ?_)
  simp only [List.setIfInBounds_toArray, List.set_cons_zero, List.set_cons_succ]
  refine lst (wanted_none rfl) (w_value 8 (.int .i64 ((n * m : Nat) : Int)) rfl (run_as rfl rfl) ?_)
  simp only [List.setIfInBounds_toArray, List.set_cons_zero, List.set_cons_succ]
  go_step
  go_step
  go_step
  go_step
  have k6 := k3.drew
  have hbel7 := hbel5.drew
  refine wp_region_held_drew (S := fun w' => Blk w' (w.heap.size) (bs a) 23) (by kernel_rfl) k6 (fun _ => ?_)
  generalize w1.drew = wd8 at *
  refine Sym.take_at 0 21 (.agg (bs a)) rfl rfl (by kernel_rfl) (by kernel_rfl) (by kernel_rfl) (fun _ _ _ h => h) (wanted_none rfl) (fun _ hw => run_row rfl rfl hw Try.underlying23 rfl (by rw [bs_sz]; exact info_b)) k6 ?_
  simp only [List.setIfInBounds_toArray, List.set_cons_zero, List.set_cons_succ]
  refine Sym.take_at 1 22 (.int .u8 (n : Int)) rfl rfl (by kernel_rfl) (by kernel_rfl) (by kernel_rfl) (fun _ _ _ h => h) (wanted_none rfl) (fun _ hw => run_mv rfl rfl) k6 ?_
  simp only [List.setIfInBounds_toArray, List.set_cons_zero, List.set_cons_succ]
  refine Sym.take_at 2 23 (.agg (bs n)) rfl rfl (by kernel_rfl) (by kernel_rfl) (by kernel_rfl) (fun _ _ _ h => h) (wanted_none rfl) (fun _ hw => run_bd1 n Hn.out rfl rfl) k6 ?_
  simp only [List.setIfInBounds_toArray, List.set_cons_zero, List.set_cons_succ]
  refine Sym.take_at 4 25 (.agg (bs a)) rfl rfl (by kernel_rfl) (by kernel_rfl) (by kernel_rfl) (fun _ _ _ h => h) (wanted_none rfl) (fun _ hw => run_row rfl rfl hw Try.underlying23 rfl (by rw [bs_sz]; exact info_b)) k6 ?_
  simp only [List.setIfInBounds_toArray, List.set_cons_zero, List.set_cons_succ]
  refine Sym.take_at 5 26 (.int .u8 (m : Int)) rfl rfl (by kernel_rfl) (by kernel_rfl) (by kernel_rfl) (fun _ _ _ h => h) (wanted_none rfl) (fun _ hw => run_mv rfl rfl) k6 ?_
  simp only [List.setIfInBounds_toArray, List.set_cons_zero, List.set_cons_succ]
  refine Sym.take_at 6 27 (.agg (bs m)) rfl rfl (by kernel_rfl) (by kernel_rfl) (by kernel_rfl) (fun _ _ _ h => h) (wanted_none rfl) (fun _ hw => run_bd1 m Hm.out rfl rfl) k6 ?_
  simp only [List.setIfInBounds_toArray, List.set_cons_zero, List.set_cons_succ]
  refine three_ready 3 8 9 (by kernel_rfl) ?_ ?_ ?_
  · refine opd rfl (wanted_none rfl) (w_enter 24 (.agg (bs (a ^ n % PP))) rfl (run_Power rfl rfl rfl) (power_any a n Ha.out (Nat.lt_trans Hn.out (by decide)) _) (fun w9 hb10 => ?_))
    have k11 := k6.call hb10
    have hbel12 := bel_call hbel7 hb10
    refine ⟨k11, ?_⟩
    simp only [List.setIfInBounds_toArray, List.set_cons_zero, List.set_cons_succ]
    refine three_ready 7 8 9 (by kernel_rfl) ?_ ?_ ?_
    · refine opd rfl (wanted_none rfl) (w_enter 28 (.agg (bs (a ^ m % PP))) rfl (run_Power rfl rfl rfl) (power_any a m Ha.out (Nat.lt_trans Hm.out (by decide)) _) (fun w13 hb14 => ?_))
      have k15 := k11.call hb14
      have hbel16 := bel_call hbel12 hb14
      refine ⟨k15, ?_⟩
      simp only [List.setIfInBounds_toArray, List.set_cons_zero, List.set_cons_succ]
      refine two_ready 8 9 (by kernel_rfl) ?_ ?_
      · refine opd rfl (wanted_none rfl) (w_alloc (c := bs 0) (T := 23) 9 rfl (run_alN rfl) (fun w17 he18 => ?_))
        have hne20 : w.heap.size ≠ w13.heap.size := Nat.ne_of_lt k15.lt
        have k19 := k15.alloc he18
        have k21 := Blk.new he18
        have hg22 : w.heap.size ≤ w13.heap.size := hbel16.size
        have hbel23 := bel_alloc hbel16 he18
        refine ⟨k19, ?_⟩
        simp only [List.setIfInBounds_toArray, List.set_cons_zero, List.set_cons_succ]
        refine one_ready 9 (by kernel_rfl) ?_
        refine opd rfl (wanted_none rfl) (w_alloc (c := bs 0) (T := 23) 10 rfl (run_alN rfl) (fun w24 he25 => ?_))
        have hne27 : w.heap.size ≠ w17.heap.size := Nat.ne_of_lt k19.lt
        have k26 := k19.alloc he25
        have hne29 : w13.heap.size ≠ w17.heap.size := Nat.ne_of_lt k21.lt
        have k28 := k21.alloc he25
        have k30 := Blk.new he25
        have hg31 : w.heap.size ≤ w17.heap.size := hbel23.size
        have hbel32 := bel_alloc hbel23 he25
        refine ⟨k26, ?_⟩
        simp only [List.setIfInBounds_toArray, List.set_cons_zero, List.set_cons_succ]
        refine one_ready 10 (by kernel_rfl) ?_
        refine opd rfl (wanted_none rfl) (w_store 23 _ _ (w13.heap.size) (bs (a ^ n % PP)) rfl rfl rfl rfl k28 (by rw [bs_sz]; exact info_b) ((bs_sz _).trans (bs_sz _).symm) (bs_one _) (fun w33 he34 => ?_))
        have k35 := k26.other hne20 he34
        have k36 := k30.other hne29.symm he34
        have k37 := k28.set he34
        have hbel38 := bel_set hbel32 hg22 he34
        refine ⟨k35, ?_⟩
        refine one_ready 11 (by kernel_rfl) ?_
        refine opd rfl (wanted_none rfl) (w_store 23 _ _ (w17.heap.size) (bs (a ^ m % PP)) rfl rfl rfl rfl k36 (by rw [bs_sz]; exact info_b) ((bs_sz _).trans (bs_sz _).symm) (bs_one _) (fun w39 he40 => ?_))
        have k41 := k35.other hne27 he40
        have k42 := k37.other hne29 he40
        have k43 := k36.set he40
        have hbel44 := bel_set hbel38 hg31 he40
        refine ⟨k41, ?_⟩
        refine wpAnyH_done (by kernel_rfl) ?_ _
        go_step
        go_step
        go_step
        have k45 := k41.drew
        have k46 := k42.drew
        have k47 := k43.drew
        have hbel48 := hbel44.drew
        refine wp_region_held_drew (S := fun w' => Blk w' (w13.heap.size) (bs (a ^ n % PP)) 23 ∧ Blk w' (w17.heap.size) (bs (a ^ m % PP)) 23 ∧ Blk w' (w.heap.size) (bs a) 23) (by kernel_rfl) ⟨k46, k47, k45⟩ (fun _ => ?_)
        generalize w39.drew = wd49 at *
        refine one_ready 0 (by kernel_rfl) ?_
        refine opd rfl (wanted_none rfl) (w_enter 29 (.bool true) rfl (run_awake rfl) (awake_any _) (fun w50 hb51 => ?_))
        have k52 := k45.call hb51
        have k53 := k46.call hb51
        have k54 := k47.call hb51
        have hbel55 := bel_call hbel48 hb51
        refine ⟨⟨k53, k54, k52⟩, ?_⟩
        simp only [List.setIfInBounds_toArray, List.set_cons_zero, List.set_cons_succ]
        refine Sym.take_at 1 30 (.bool true) rfl rfl (by kernel_rfl) (by kernel_rfl) (by kernel_rfl) (fun _ _ _ h => h) (wanted_none rfl) (fun _ hw => run_mv rfl rfl) ⟨k53, k54, k52⟩ ?_
        simp only [List.setIfInBounds_toArray, List.set_cons_zero, List.set_cons_succ]
        refine Sym.take_at 2 31 (.agg (bs (a ^ n % PP))) rfl rfl (by kernel_rfl) (by kernel_rfl) (by kernel_rfl) (fun _ _ _ h => h) rfl (fun _ hw => run_row rfl rfl (hw.1) Try.underlying23 rfl (by rw [bs_sz]; exact info_b)) ⟨k53, k54, k52⟩ ?_
        simp only [List.setIfInBounds_toArray, List.set_cons_zero, List.set_cons_succ]
        refine Sym.take_at 3 32 (.agg (bs (a ^ m % PP))) rfl rfl (by kernel_rfl) (by kernel_rfl) (by kernel_rfl) (fun _ _ _ h => h) rfl (fun _ hw => run_row rfl rfl (hw.2.1) Try.underlying23 rfl (by rw [bs_sz]; exact info_b)) ⟨k53, k54, k52⟩ ?_
        simp only [List.setIfInBounds_toArray, List.set_cons_zero, List.set_cons_succ]
        refine Sym.take_at 5 34 (.agg (bs a)) rfl rfl (by kernel_rfl) (by kernel_rfl) (by kernel_rfl) (fun _ _ _ h => h) rfl (fun _ hw => run_row rfl rfl (hw.2.2) Try.underlying23 rfl (by rw [bs_sz]; exact info_b)) ⟨k53, k54, k52⟩ ?_
        simp only [List.setIfInBounds_toArray, List.set_cons_zero, List.set_cons_succ]
        refine Sym.take_at 6 35 (.int .i64 ((n + m : Nat) : Int)) rfl rfl (by kernel_rfl) (by kernel_rfl) (by kernel_rfl) (fun _ _ _ h => h) rfl (fun _ hw => run_mv rfl rfl) ⟨k53, k54, k52⟩ ?_
        simp only [List.setIfInBounds_toArray, List.set_cons_zero, List.set_cons_succ]
        refine Sym.take_at 7 36 (.int .u8 (((n + m) % 256 : Nat) : Int)) rfl rfl (by kernel_rfl) (by kernel_rfl) (by kernel_rfl) (fun _ _ _ h => h) rfl (fun _ hw => run_intu8 (n + m) rfl rfl) ⟨k53, k54, k52⟩ ?_
        simp only [List.setIfInBounds_toArray, List.set_cons_zero, List.set_cons_succ]
        refine Sym.take_at 8 37 (.int .i64 ((n + m : Nat) : Int)) rfl rfl (by kernel_rfl) (by kernel_rfl) (by kernel_rfl) (fun _ _ _ h => h) rfl (fun _ hw => run_mv rfl rfl) ⟨k53, k54, k52⟩ ?_
        simp only [List.setIfInBounds_toArray, List.set_cons_zero, List.set_cons_succ]
        refine Sym.take_at 9 38 (.int .i64 (((n + m) / 256 : Nat) : Int)) rfl rfl (by kernel_rfl) (by kernel_rfl) (by kernel_rfl) (fun _ _ _ h => h) rfl (fun _ hw => run_shr8 (n + m) (by have h1 := Hn.out; have h2 := Hm.out; omega) rfl rfl) ⟨k53, k54, k52⟩ ?_
        simp only [List.setIfInBounds_toArray, List.set_cons_zero, List.set_cons_succ]
        refine Sym.take_at 10 39 (.int .u8 ((((n + m) / 256) % 256 : Nat) : Int)) rfl rfl (by kernel_rfl) (by kernel_rfl) (by kernel_rfl) (fun _ _ _ h => h) rfl (fun _ hw => run_intu8 ((n + m) / 256) rfl rfl) ⟨k53, k54, k52⟩ ?_
        simp only [List.setIfInBounds_toArray, List.set_cons_zero, List.set_cons_succ]
        refine Sym.take_at 11 40 (.agg (bs (n + m))) rfl rfl (by kernel_rfl) (by kernel_rfl) (by kernel_rfl) (fun _ _ _ h => h) rfl (fun _ hw => run_bd2 (n + m) (by have h1 := Hn.out; have h2 := Hm.out; omega) rfl rfl rfl) ⟨k53, k54, k52⟩ ?_
        simp only [List.setIfInBounds_toArray, List.set_cons_zero, List.set_cons_succ]
        refine one_ready 4 (by kernel_rfl) ?_
        refine opd rfl rfl (w_enter 33 (.agg (bs ((a ^ n % PP) * (a ^ m % PP) % PP))) rfl (run_Mul rfl rfl rfl) (mul_any (a ^ n % PP) (a ^ m % PP) (Nat.lt_trans (Nat.mod_lt _ (by decide)) pp_lt) (Nat.lt_trans (Nat.mod_lt _ (by decide)) pp_lt) _) (fun w56 hb57 => ?_))
        have k58 := k52.call hb57
        have k59 := k53.call hb57
        have k60 := k54.call hb57
        have hbel61 := bel_call hbel55 hb57
        refine ⟨⟨k59, k60, k58⟩, ?_⟩
        simp only [List.setIfInBounds_toArray, List.set_cons_zero, List.set_cons_succ]
        refine one_ready 12 (by kernel_rfl) ?_
        refine opd rfl rfl (w_enter 41 (.agg (bs (a ^ (n + m) % PP))) rfl (run_Power rfl rfl rfl) (power_any a (n + m) Ha.out (by have h1 := Hn.out; have h2 := Hm.out; unfold MM; omega) _) (fun w62 hb63 => ?_))
        have k64 := k58.call hb63
        have k65 := k59.call hb63
        have k66 := k60.call hb63
        have hbel67 := bel_call hbel61 hb63
        refine ⟨⟨k65, k66, k64⟩, ?_⟩
        simp only [List.setIfInBounds_toArray, List.set_cons_zero, List.set_cons_succ]
        refine Sym.take_at 13 42 (.bool true) rfl rfl (by kernel_rfl) (by kernel_rfl) (by kernel_rfl) (fun _ _ _ h => h) rfl (fun _ hw => run_eqN ((a ^ n % PP) * (a ^ m % PP) % PP) (a ^ (n + m) % PP) (Nat.lt_trans (Nat.mod_lt _ (by decide)) pp_lt) (Nat.lt_trans (Nat.mod_lt _ (by decide)) pp_lt) true (decide_eq_true F1) rfl rfl rfl) ⟨k65, k66, k64⟩ ?_
        simp only [List.setIfInBounds_toArray, List.set_cons_zero, List.set_cons_succ]
        refine Sym.take_at 14 43 (.bool true) rfl rfl (by kernel_rfl) (by kernel_rfl) (by kernel_rfl) (fun _ _ _ h => h) (wanted_none rfl) (fun _ hw => run_pick rfl rfl rfl) ⟨k65, k66, k64⟩ ?_
        simp only [List.setIfInBounds_toArray, List.set_cons_zero, List.set_cons_succ]
        refine Sym.take_at 15 44 (.bool true) rfl rfl (by kernel_rfl) (by kernel_rfl) (by kernel_rfl) (fun _ _ _ h => h) (wanted_none rfl) (fun _ hw => run_mv rfl rfl) ⟨k65, k66, k64⟩ ?_
        simp only [List.setIfInBounds_toArray, List.set_cons_zero, List.set_cons_succ]
        refine Sym.take_at 16 45 (.agg (bs (a ^ n % PP))) rfl rfl (by kernel_rfl) (by kernel_rfl) (by kernel_rfl) (fun _ _ _ h => h) rfl (fun _ hw => run_row rfl rfl (hw.1) Try.underlying23 rfl (by rw [bs_sz]; exact info_b)) ⟨k65, k66, k64⟩ ?_
        simp only [List.setIfInBounds_toArray, List.set_cons_zero, List.set_cons_succ]
        refine Sym.take_at 17 46 (.int .u8 (m : Int)) rfl rfl (by kernel_rfl) (by kernel_rfl) (by kernel_rfl) (fun _ _ _ h => h) rfl (fun _ hw => run_mv rfl rfl) ⟨k65, k66, k64⟩ ?_
        simp only [List.setIfInBounds_toArray, List.set_cons_zero, List.set_cons_succ]
        refine Sym.take_at 18 47 (.agg (bs m)) rfl rfl (by kernel_rfl) (by kernel_rfl) (by kernel_rfl) (fun _ _ _ h => h) rfl (fun _ hw => run_bd1 m Hm.out rfl rfl) ⟨k65, k66, k64⟩ ?_
        simp only [List.setIfInBounds_toArray, List.set_cons_zero, List.set_cons_succ]
        refine Sym.take_at 20 49 (.agg (bs a)) rfl rfl (by kernel_rfl) (by kernel_rfl) (by kernel_rfl) (fun _ _ _ h => h) rfl (fun _ hw => run_row rfl rfl (hw.2.2) Try.underlying23 rfl (by rw [bs_sz]; exact info_b)) ⟨k65, k66, k64⟩ ?_
        simp only [List.setIfInBounds_toArray, List.set_cons_zero, List.set_cons_succ]
        refine Sym.take_at 21 50 (.int .i64 ((n * m : Nat) : Int)) rfl rfl (by kernel_rfl) (by kernel_rfl) (by kernel_rfl) (fun _ _ _ h => h) rfl (fun _ hw => run_mv rfl rfl) ⟨k65, k66, k64⟩ ?_
        simp only [List.setIfInBounds_toArray, List.set_cons_zero, List.set_cons_succ]
        refine Sym.take_at 22 51 (.int .u8 (((n * m) % 256 : Nat) : Int)) rfl rfl (by kernel_rfl) (by kernel_rfl) (by kernel_rfl) (fun _ _ _ h => h) rfl (fun _ hw => run_intu8 (n * m) rfl rfl) ⟨k65, k66, k64⟩ ?_
        simp only [List.setIfInBounds_toArray, List.set_cons_zero, List.set_cons_succ]
        refine Sym.take_at 23 52 (.int .i64 ((n * m : Nat) : Int)) rfl rfl (by kernel_rfl) (by kernel_rfl) (by kernel_rfl) (fun _ _ _ h => h) rfl (fun _ hw => run_mv rfl rfl) ⟨k65, k66, k64⟩ ?_
        simp only [List.setIfInBounds_toArray, List.set_cons_zero, List.set_cons_succ]
        refine Sym.take_at 24 53 (.int .i64 (((n * m) / 256 : Nat) : Int)) rfl rfl (by kernel_rfl) (by kernel_rfl) (by kernel_rfl) (fun _ _ _ h => h) rfl (fun _ hw => run_shr8 (n * m) (by have := Nat.mul_lt_mul'' Hn.out Hm.out; omega) rfl rfl) ⟨k65, k66, k64⟩ ?_
        simp only [List.setIfInBounds_toArray, List.set_cons_zero, List.set_cons_succ]
        refine Sym.take_at 25 54 (.int .u8 ((((n * m) / 256) % 256 : Nat) : Int)) rfl rfl (by kernel_rfl) (by kernel_rfl) (by kernel_rfl) (fun _ _ _ h => h) rfl (fun _ hw => run_intu8 ((n * m) / 256) rfl rfl) ⟨k65, k66, k64⟩ ?_
        simp only [List.setIfInBounds_toArray, List.set_cons_zero, List.set_cons_succ]
        refine Sym.take_at 26 55 (.agg (bs (n * m))) rfl rfl (by kernel_rfl) (by kernel_rfl) (by kernel_rfl) (fun _ _ _ h => h) rfl (fun _ hw => run_bd2 (n * m) (by have := Nat.mul_lt_mul'' Hn.out Hm.out; omega) rfl rfl rfl) ⟨k65, k66, k64⟩ ?_
        simp only [List.setIfInBounds_toArray, List.set_cons_zero, List.set_cons_succ]
        refine one_ready 19 (by kernel_rfl) ?_
        refine opd rfl rfl (w_enter 48 (.agg (bs ((a ^ n % PP) ^ m % PP))) rfl (run_Power rfl rfl rfl) (power_any (a ^ n % PP) m (Nat.lt_trans (Nat.mod_lt _ (by decide)) pp_lt) (Nat.lt_trans Hm.out (by decide)) _) (fun w68 hb69 => ?_))
        have k70 := k64.call hb69
        have k71 := k65.call hb69
        have k72 := k66.call hb69
        have hbel73 := bel_call hbel67 hb69
        refine ⟨⟨k71, k72, k70⟩, ?_⟩
        simp only [List.setIfInBounds_toArray, List.set_cons_zero, List.set_cons_succ]
        refine one_ready 27 (by kernel_rfl) ?_
        refine opd rfl rfl (w_enter 56 (.agg (bs (a ^ (n * m) % PP))) rfl (run_Power rfl rfl rfl) (power_any a (n * m) Ha.out (by have := Nat.mul_lt_mul'' Hn.out Hm.out; unfold MM; omega) _) (fun w74 hb75 => ?_))
        have k76 := k70.call hb75
        have k77 := k71.call hb75
        have k78 := k72.call hb75
        have hbel79 := bel_call hbel73 hb75
        refine ⟨⟨k77, k78, k76⟩, ?_⟩
        simp only [List.setIfInBounds_toArray, List.set_cons_zero, List.set_cons_succ]
        refine Sym.take_at 28 57 (.bool true) rfl rfl (by kernel_rfl) (by kernel_rfl) (by kernel_rfl) (fun _ _ _ h => h) rfl (fun _ hw => run_eqN ((a ^ n % PP) ^ m % PP) (a ^ (n * m) % PP) (Nat.lt_trans (Nat.mod_lt _ (by decide)) pp_lt) (Nat.lt_trans (Nat.mod_lt _ (by decide)) pp_lt) true (decide_eq_true F2) rfl rfl rfl) ⟨k77, k78, k76⟩ ?_
        simp only [List.setIfInBounds_toArray, List.set_cons_zero, List.set_cons_succ]
        refine Sym.take_at 29 58 (.bool true) rfl rfl (by kernel_rfl) (by kernel_rfl) (by kernel_rfl) (fun _ _ _ h => h) (wanted_none rfl) (fun _ hw => run_pick rfl rfl rfl) ⟨k77, k78, k76⟩ ?_
        simp only [List.setIfInBounds_toArray, List.set_cons_zero, List.set_cons_succ]
        refine one_ready 30 (by kernel_rfl) ?_
        refine opd rfl (wanted_none rfl) (w_value 6 (.bool true) rfl (run_as rfl rfl) ⟨⟨k77, k78, k76⟩, ?_⟩)
        simp only [List.setIfInBounds_toArray, List.set_cons_zero, List.set_cons_succ]
        refine wpAnyH_done (by kernel_rfl) ?_ _
        go_step
        go_step
        go_wp2
        go_ret
        exact ⟨rfl, hbel79⟩
      · refine opd rfl (wanted_none rfl) (w_alloc (c := bs 0) (T := 23) 10 rfl (run_alN rfl) (fun w80 he81 => ?_))
        have hne83 : w.heap.size ≠ w13.heap.size := Nat.ne_of_lt k15.lt
        have k82 := k15.alloc he81
        have k84 := Blk.new he81
        have hg85 : w.heap.size ≤ w13.heap.size := hbel16.size
        have hbel86 := bel_alloc hbel16 he81
        refine ⟨k82, ?_⟩
        simp only [List.setIfInBounds_toArray, List.set_cons_zero, List.set_cons_succ]
        refine one_ready 8 (by kernel_rfl) ?_
        refine opd rfl (wanted_none rfl) (w_alloc (c := bs 0) (T := 23) 9 rfl (run_alN rfl) (fun w87 he88 => ?_))
        have hne90 : w.heap.size ≠ w80.heap.size := Nat.ne_of_lt k82.lt
        have k89 := k82.alloc he88
        have hne92 : w13.heap.size ≠ w80.heap.size := Nat.ne_of_lt k84.lt
        have k91 := k84.alloc he88
        have k93 := Blk.new he88
        have hg94 : w.heap.size ≤ w80.heap.size := hbel86.size
        have hbel95 := bel_alloc hbel86 he88
        refine ⟨k89, ?_⟩
        simp only [List.setIfInBounds_toArray, List.set_cons_zero, List.set_cons_succ]
        refine one_ready 10 (by kernel_rfl) ?_
        refine opd rfl (wanted_none rfl) (w_store 23 _ _ (w80.heap.size) (bs (a ^ n % PP)) rfl rfl rfl rfl k93 (by rw [bs_sz]; exact info_b) ((bs_sz _).trans (bs_sz _).symm) (bs_one _) (fun w96 he97 => ?_))
        have k98 := k89.other hne90 he97
        have k99 := k91.other hne92 he97
        have k100 := k93.set he97
        have hbel101 := bel_set hbel95 hg94 he97
        refine ⟨k98, ?_⟩
        refine one_ready 11 (by kernel_rfl) ?_
        refine opd rfl (wanted_none rfl) (w_store 23 _ _ (w13.heap.size) (bs (a ^ m % PP)) rfl rfl rfl rfl k99 (by rw [bs_sz]; exact info_b) ((bs_sz _).trans (bs_sz _).symm) (bs_one _) (fun w102 he103 => ?_))
        have k104 := k98.other hne83 he103
        have k105 := k100.other hne92.symm he103
        have k106 := k99.set he103
        have hbel107 := bel_set hbel101 hg85 he103
        refine ⟨k104, ?_⟩
        refine wpAnyH_done (by kernel_rfl) ?_ _
        go_step
        go_step
        go_step
        have k108 := k104.drew
        have k109 := k106.drew
        have k110 := k105.drew
        have hbel111 := hbel107.drew
        refine wp_region_held_drew (S := fun w' => Blk w' (w80.heap.size) (bs (a ^ n % PP)) 23 ∧ Blk w' (w13.heap.size) (bs (a ^ m % PP)) 23 ∧ Blk w' (w.heap.size) (bs a) 23) (by kernel_rfl) ⟨k110, k109, k108⟩ (fun _ => ?_)
        generalize w102.drew = wd112 at *
        refine one_ready 0 (by kernel_rfl) ?_
        refine opd rfl (wanted_none rfl) (w_enter 29 (.bool true) rfl (run_awake rfl) (awake_any _) (fun w113 hb114 => ?_))
        have k115 := k108.call hb114
        have k116 := k109.call hb114
        have k117 := k110.call hb114
        have hbel118 := bel_call hbel111 hb114
        refine ⟨⟨k117, k116, k115⟩, ?_⟩
        simp only [List.setIfInBounds_toArray, List.set_cons_zero, List.set_cons_succ]
        refine Sym.take_at 1 30 (.bool true) rfl rfl (by kernel_rfl) (by kernel_rfl) (by kernel_rfl) (fun _ _ _ h => h) (wanted_none rfl) (fun _ hw => run_mv rfl rfl) ⟨k117, k116, k115⟩ ?_
        simp only [List.setIfInBounds_toArray, List.set_cons_zero, List.set_cons_succ]
        refine Sym.take_at 2 31 (.agg (bs (a ^ n % PP))) rfl rfl (by kernel_rfl) (by kernel_rfl) (by kernel_rfl) (fun _ _ _ h => h) rfl (fun _ hw => run_row rfl rfl (hw.1) Try.underlying23 rfl (by rw [bs_sz]; exact info_b)) ⟨k117, k116, k115⟩ ?_
        simp only [List.setIfInBounds_toArray, List.set_cons_zero, List.set_cons_succ]
        refine Sym.take_at 3 32 (.agg (bs (a ^ m % PP))) rfl rfl (by kernel_rfl) (by kernel_rfl) (by kernel_rfl) (fun _ _ _ h => h) rfl (fun _ hw => run_row rfl rfl (hw.2.1) Try.underlying23 rfl (by rw [bs_sz]; exact info_b)) ⟨k117, k116, k115⟩ ?_
        simp only [List.setIfInBounds_toArray, List.set_cons_zero, List.set_cons_succ]
        refine Sym.take_at 5 34 (.agg (bs a)) rfl rfl (by kernel_rfl) (by kernel_rfl) (by kernel_rfl) (fun _ _ _ h => h) rfl (fun _ hw => run_row rfl rfl (hw.2.2) Try.underlying23 rfl (by rw [bs_sz]; exact info_b)) ⟨k117, k116, k115⟩ ?_
        simp only [List.setIfInBounds_toArray, List.set_cons_zero, List.set_cons_succ]
        refine Sym.take_at 6 35 (.int .i64 ((n + m : Nat) : Int)) rfl rfl (by kernel_rfl) (by kernel_rfl) (by kernel_rfl) (fun _ _ _ h => h) rfl (fun _ hw => run_mv rfl rfl) ⟨k117, k116, k115⟩ ?_
        simp only [List.setIfInBounds_toArray, List.set_cons_zero, List.set_cons_succ]
        refine Sym.take_at 7 36 (.int .u8 (((n + m) % 256 : Nat) : Int)) rfl rfl (by kernel_rfl) (by kernel_rfl) (by kernel_rfl) (fun _ _ _ h => h) rfl (fun _ hw => run_intu8 (n + m) rfl rfl) ⟨k117, k116, k115⟩ ?_
        simp only [List.setIfInBounds_toArray, List.set_cons_zero, List.set_cons_succ]
        refine Sym.take_at 8 37 (.int .i64 ((n + m : Nat) : Int)) rfl rfl (by kernel_rfl) (by kernel_rfl) (by kernel_rfl) (fun _ _ _ h => h) rfl (fun _ hw => run_mv rfl rfl) ⟨k117, k116, k115⟩ ?_
        simp only [List.setIfInBounds_toArray, List.set_cons_zero, List.set_cons_succ]
        refine Sym.take_at 9 38 (.int .i64 (((n + m) / 256 : Nat) : Int)) rfl rfl (by kernel_rfl) (by kernel_rfl) (by kernel_rfl) (fun _ _ _ h => h) rfl (fun _ hw => run_shr8 (n + m) (by have h1 := Hn.out; have h2 := Hm.out; omega) rfl rfl) ⟨k117, k116, k115⟩ ?_
        simp only [List.setIfInBounds_toArray, List.set_cons_zero, List.set_cons_succ]
        refine Sym.take_at 10 39 (.int .u8 ((((n + m) / 256) % 256 : Nat) : Int)) rfl rfl (by kernel_rfl) (by kernel_rfl) (by kernel_rfl) (fun _ _ _ h => h) rfl (fun _ hw => run_intu8 ((n + m) / 256) rfl rfl) ⟨k117, k116, k115⟩ ?_
        simp only [List.setIfInBounds_toArray, List.set_cons_zero, List.set_cons_succ]
        refine Sym.take_at 11 40 (.agg (bs (n + m))) rfl rfl (by kernel_rfl) (by kernel_rfl) (by kernel_rfl) (fun _ _ _ h => h) rfl (fun _ hw => run_bd2 (n + m) (by have h1 := Hn.out; have h2 := Hm.out; omega) rfl rfl rfl) ⟨k117, k116, k115⟩ ?_
        simp only [List.setIfInBounds_toArray, List.set_cons_zero, List.set_cons_succ]
        refine one_ready 4 (by kernel_rfl) ?_
        refine opd rfl rfl (w_enter 33 (.agg (bs ((a ^ n % PP) * (a ^ m % PP) % PP))) rfl (run_Mul rfl rfl rfl) (mul_any (a ^ n % PP) (a ^ m % PP) (Nat.lt_trans (Nat.mod_lt _ (by decide)) pp_lt) (Nat.lt_trans (Nat.mod_lt _ (by decide)) pp_lt) _) (fun w119 hb120 => ?_))
        have k121 := k115.call hb120
        have k122 := k116.call hb120
        have k123 := k117.call hb120
        have hbel124 := bel_call hbel118 hb120
        refine ⟨⟨k123, k122, k121⟩, ?_⟩
        simp only [List.setIfInBounds_toArray, List.set_cons_zero, List.set_cons_succ]
        refine one_ready 12 (by kernel_rfl) ?_
        refine opd rfl rfl (w_enter 41 (.agg (bs (a ^ (n + m) % PP))) rfl (run_Power rfl rfl rfl) (power_any a (n + m) Ha.out (by have h1 := Hn.out; have h2 := Hm.out; unfold MM; omega) _) (fun w125 hb126 => ?_))
        have k127 := k121.call hb126
        have k128 := k122.call hb126
        have k129 := k123.call hb126
        have hbel130 := bel_call hbel124 hb126
        refine ⟨⟨k129, k128, k127⟩, ?_⟩
        simp only [List.setIfInBounds_toArray, List.set_cons_zero, List.set_cons_succ]
        refine Sym.take_at 13 42 (.bool true) rfl rfl (by kernel_rfl) (by kernel_rfl) (by kernel_rfl) (fun _ _ _ h => h) rfl (fun _ hw => run_eqN ((a ^ n % PP) * (a ^ m % PP) % PP) (a ^ (n + m) % PP) (Nat.lt_trans (Nat.mod_lt _ (by decide)) pp_lt) (Nat.lt_trans (Nat.mod_lt _ (by decide)) pp_lt) true (decide_eq_true F1) rfl rfl rfl) ⟨k129, k128, k127⟩ ?_
        simp only [List.setIfInBounds_toArray, List.set_cons_zero, List.set_cons_succ]
        refine Sym.take_at 14 43 (.bool true) rfl rfl (by kernel_rfl) (by kernel_rfl) (by kernel_rfl) (fun _ _ _ h => h) (wanted_none rfl) (fun _ hw => run_pick rfl rfl rfl) ⟨k129, k128, k127⟩ ?_
        simp only [List.setIfInBounds_toArray, List.set_cons_zero, List.set_cons_succ]
        refine Sym.take_at 15 44 (.bool true) rfl rfl (by kernel_rfl) (by kernel_rfl) (by kernel_rfl) (fun _ _ _ h => h) (wanted_none rfl) (fun _ hw => run_mv rfl rfl) ⟨k129, k128, k127⟩ ?_
        simp only [List.setIfInBounds_toArray, List.set_cons_zero, List.set_cons_succ]
        refine Sym.take_at 16 45 (.agg (bs (a ^ n % PP))) rfl rfl (by kernel_rfl) (by kernel_rfl) (by kernel_rfl) (fun _ _ _ h => h) rfl (fun _ hw => run_row rfl rfl (hw.1) Try.underlying23 rfl (by rw [bs_sz]; exact info_b)) ⟨k129, k128, k127⟩ ?_
        simp only [List.setIfInBounds_toArray, List.set_cons_zero, List.set_cons_succ]
        refine Sym.take_at 17 46 (.int .u8 (m : Int)) rfl rfl (by kernel_rfl) (by kernel_rfl) (by kernel_rfl) (fun _ _ _ h => h) rfl (fun _ hw => run_mv rfl rfl) ⟨k129, k128, k127⟩ ?_
        simp only [List.setIfInBounds_toArray, List.set_cons_zero, List.set_cons_succ]
        refine Sym.take_at 18 47 (.agg (bs m)) rfl rfl (by kernel_rfl) (by kernel_rfl) (by kernel_rfl) (fun _ _ _ h => h) rfl (fun _ hw => run_bd1 m Hm.out rfl rfl) ⟨k129, k128, k127⟩ ?_
        simp only [List.setIfInBounds_toArray, List.set_cons_zero, List.set_cons_succ]
        refine Sym.take_at 20 49 (.agg (bs a)) rfl rfl (by kernel_rfl) (by kernel_rfl) (by kernel_rfl) (fun _ _ _ h => h) rfl (fun _ hw => run_row rfl rfl (hw.2.2) Try.underlying23 rfl (by rw [bs_sz]; exact info_b)) ⟨k129, k128, k127⟩ ?_
        simp only [List.setIfInBounds_toArray, List.set_cons_zero, List.set_cons_succ]
        refine Sym.take_at 21 50 (.int .i64 ((n * m : Nat) : Int)) rfl rfl (by kernel_rfl) (by kernel_rfl) (by kernel_rfl) (fun _ _ _ h => h) rfl (fun _ hw => run_mv rfl rfl) ⟨k129, k128, k127⟩ ?_
        simp only [List.setIfInBounds_toArray, List.set_cons_zero, List.set_cons_succ]
        refine Sym.take_at 22 51 (.int .u8 (((n * m) % 256 : Nat) : Int)) rfl rfl (by kernel_rfl) (by kernel_rfl) (by kernel_rfl) (fun _ _ _ h => h) rfl (fun _ hw => run_intu8 (n * m) rfl rfl) ⟨k129, k128, k127⟩ ?_
        simp only [List.setIfInBounds_toArray, List.set_cons_zero, List.set_cons_succ]
        refine Sym.take_at 23 52 (.int .i64 ((n * m : Nat) : Int)) rfl rfl (by kernel_rfl) (by kernel_rfl) (by kernel_rfl) (fun _ _ _ h => h) rfl (fun _ hw => run_mv rfl rfl) ⟨k129, k128, k127⟩ ?_
        simp only [List.setIfInBounds_toArray, List.set_cons_zero, List.set_cons_succ]
        refine Sym.take_at 24 53 (.int .i64 (((n * m) / 256 : Nat) : Int)) rfl rfl (by kernel_rfl) (by kernel_rfl) (by kernel_rfl) (fun _ _ _ h => h) rfl (fun _ hw => run_shr8 (n * m) (by have := Nat.mul_lt_mul'' Hn.out Hm.out; omega) rfl rfl) ⟨k129, k128, k127⟩ ?_
        simp only [List.setIfInBounds_toArray, List.set_cons_zero, List.set_cons_succ]
        refine Sym.take_at 25 54 (.int .u8 ((((n * m) / 256) % 256 : Nat) : Int)) rfl rfl (by kernel_rfl) (by kernel_rfl) (by kernel_rfl) (fun _ _ _ h => h) rfl (fun _ hw => run_intu8 ((n * m) / 256) rfl rfl) ⟨k129, k128, k127⟩ ?_
        simp only [List.setIfInBounds_toArray, List.set_cons_zero, List.set_cons_succ]
        refine Sym.take_at 26 55 (.agg (bs (n * m))) rfl rfl (by kernel_rfl) (by kernel_rfl) (by kernel_rfl) (fun _ _ _ h => h) rfl (fun _ hw => run_bd2 (n * m) (by have := Nat.mul_lt_mul'' Hn.out Hm.out; omega) rfl rfl rfl) ⟨k129, k128, k127⟩ ?_
        simp only [List.setIfInBounds_toArray, List.set_cons_zero, List.set_cons_succ]
        refine one_ready 19 (by kernel_rfl) ?_
        refine opd rfl rfl (w_enter 48 (.agg (bs ((a ^ n % PP) ^ m % PP))) rfl (run_Power rfl rfl rfl) (power_any (a ^ n % PP) m (Nat.lt_trans (Nat.mod_lt _ (by decide)) pp_lt) (Nat.lt_trans Hm.out (by decide)) _) (fun w131 hb132 => ?_))
        have k133 := k127.call hb132
        have k134 := k128.call hb132
        have k135 := k129.call hb132
        have hbel136 := bel_call hbel130 hb132
        refine ⟨⟨k135, k134, k133⟩, ?_⟩
        simp only [List.setIfInBounds_toArray, List.set_cons_zero, List.set_cons_succ]
        refine one_ready 27 (by kernel_rfl) ?_
        refine opd rfl rfl (w_enter 56 (.agg (bs (a ^ (n * m) % PP))) rfl (run_Power rfl rfl rfl) (power_any a (n * m) Ha.out (by have := Nat.mul_lt_mul'' Hn.out Hm.out; unfold MM; omega) _) (fun w137 hb138 => ?_))
        have k139 := k133.call hb138
        have k140 := k134.call hb138
        have k141 := k135.call hb138
        have hbel142 := bel_call hbel136 hb138
        refine ⟨⟨k141, k140, k139⟩, ?_⟩
        simp only [List.setIfInBounds_toArray, List.set_cons_zero, List.set_cons_succ]
        refine Sym.take_at 28 57 (.bool true) rfl rfl (by kernel_rfl) (by kernel_rfl) (by kernel_rfl) (fun _ _ _ h => h) rfl (fun _ hw => run_eqN ((a ^ n % PP) ^ m % PP) (a ^ (n * m) % PP) (Nat.lt_trans (Nat.mod_lt _ (by decide)) pp_lt) (Nat.lt_trans (Nat.mod_lt _ (by decide)) pp_lt) true (decide_eq_true F2) rfl rfl rfl) ⟨k141, k140, k139⟩ ?_
        simp only [List.setIfInBounds_toArray, List.set_cons_zero, List.set_cons_succ]
        refine Sym.take_at 29 58 (.bool true) rfl rfl (by kernel_rfl) (by kernel_rfl) (by kernel_rfl) (fun _ _ _ h => h) (wanted_none rfl) (fun _ hw => run_pick rfl rfl rfl) ⟨k141, k140, k139⟩ ?_
        simp only [List.setIfInBounds_toArray, List.set_cons_zero, List.set_cons_succ]
        refine one_ready 30 (by kernel_rfl) ?_
        refine opd rfl (wanted_none rfl) (w_value 6 (.bool true) rfl (run_as rfl rfl) ⟨⟨k141, k140, k139⟩, ?_⟩)
        simp only [List.setIfInBounds_toArray, List.set_cons_zero, List.set_cons_succ]
        refine wpAnyH_done (by kernel_rfl) ?_ _
        go_step
        go_step
        go_wp2
        go_ret
        exact ⟨rfl, hbel142⟩
    · refine opd rfl (wanted_none rfl) (w_alloc (c := bs 0) (T := 23) 9 rfl (run_alN rfl) (fun w143 he144 => ?_))
      have hne146 : w.heap.size ≠ w9.heap.size := Nat.ne_of_lt k11.lt
      have k145 := k11.alloc he144
      have k147 := Blk.new he144
      have hg148 : w.heap.size ≤ w9.heap.size := hbel12.size
      have hbel149 := bel_alloc hbel12 he144
      refine ⟨k145, ?_⟩
      simp only [List.setIfInBounds_toArray, List.set_cons_zero, List.set_cons_succ]
      refine two_ready 7 9 (by kernel_rfl) ?_ ?_
      · refine opd rfl (wanted_none rfl) (w_enter 28 (.agg (bs (a ^ m % PP))) rfl (run_Power rfl rfl rfl) (power_any a m Ha.out (Nat.lt_trans Hm.out (by decide)) _) (fun w150 hb151 => ?_))
        have k152 := k145.call hb151
        have k153 := k147.call hb151
        have hbel154 := bel_call hbel149 hb151
        refine ⟨k152, ?_⟩
        simp only [List.setIfInBounds_toArray, List.set_cons_zero, List.set_cons_succ]
        refine one_ready 9 (by kernel_rfl) ?_
        refine opd rfl (wanted_none rfl) (w_alloc (c := bs 0) (T := 23) 10 rfl (run_alN rfl) (fun w155 he156 => ?_))
        have hne158 : w.heap.size ≠ w150.heap.size := Nat.ne_of_lt k152.lt
        have k157 := k152.alloc he156
        have hne160 : w9.heap.size ≠ w150.heap.size := Nat.ne_of_lt k153.lt
        have k159 := k153.alloc he156
        have k161 := Blk.new he156
        have hg162 : w.heap.size ≤ w150.heap.size := hbel154.size
        have hbel163 := bel_alloc hbel154 he156
        refine ⟨k157, ?_⟩
        simp only [List.setIfInBounds_toArray, List.set_cons_zero, List.set_cons_succ]
        refine one_ready 10 (by kernel_rfl) ?_
        refine opd rfl (wanted_none rfl) (w_store 23 _ _ (w9.heap.size) (bs (a ^ n % PP)) rfl rfl rfl rfl k159 (by rw [bs_sz]; exact info_b) ((bs_sz _).trans (bs_sz _).symm) (bs_one _) (fun w164 he165 => ?_))
        have k166 := k157.other hne146 he165
        have k167 := k161.other hne160.symm he165
        have k168 := k159.set he165
        have hbel169 := bel_set hbel163 hg148 he165
        refine ⟨k166, ?_⟩
        refine one_ready 11 (by kernel_rfl) ?_
        refine opd rfl (wanted_none rfl) (w_store 23 _ _ (w150.heap.size) (bs (a ^ m % PP)) rfl rfl rfl rfl k167 (by rw [bs_sz]; exact info_b) ((bs_sz _).trans (bs_sz _).symm) (bs_one _) (fun w170 he171 => ?_))
        have k172 := k166.other hne158 he171
        have k173 := k168.other hne160 he171
        have k174 := k167.set he171
        have hbel175 := bel_set hbel169 hg162 he171
        refine ⟨k172, ?_⟩
        refine wpAnyH_done (by kernel_rfl) ?_ _
        go_step
        go_step
        go_step
        have k176 := k172.drew
        have k177 := k173.drew
        have k178 := k174.drew
        have hbel179 := hbel175.drew
        refine wp_region_held_drew (S := fun w' => Blk w' (w9.heap.size) (bs (a ^ n % PP)) 23 ∧ Blk w' (w150.heap.size) (bs (a ^ m % PP)) 23 ∧ Blk w' (w.heap.size) (bs a) 23) (by kernel_rfl) ⟨k177, k178, k176⟩ (fun _ => ?_)
        generalize w170.drew = wd180 at *
        refine one_ready 0 (by kernel_rfl) ?_
        refine opd rfl (wanted_none rfl) (w_enter 29 (.bool true) rfl (run_awake rfl) (awake_any _) (fun w181 hb182 => ?_))
        have k183 := k176.call hb182
        have k184 := k177.call hb182
        have k185 := k178.call hb182
        have hbel186 := bel_call hbel179 hb182
        refine ⟨⟨k184, k185, k183⟩, ?_⟩
        simp only [List.setIfInBounds_toArray, List.set_cons_zero, List.set_cons_succ]
        refine Sym.take_at 1 30 (.bool true) rfl rfl (by kernel_rfl) (by kernel_rfl) (by kernel_rfl) (fun _ _ _ h => h) (wanted_none rfl) (fun _ hw => run_mv rfl rfl) ⟨k184, k185, k183⟩ ?_
        simp only [List.setIfInBounds_toArray, List.set_cons_zero, List.set_cons_succ]
        refine Sym.take_at 2 31 (.agg (bs (a ^ n % PP))) rfl rfl (by kernel_rfl) (by kernel_rfl) (by kernel_rfl) (fun _ _ _ h => h) rfl (fun _ hw => run_row rfl rfl (hw.1) Try.underlying23 rfl (by rw [bs_sz]; exact info_b)) ⟨k184, k185, k183⟩ ?_
        simp only [List.setIfInBounds_toArray, List.set_cons_zero, List.set_cons_succ]
        refine Sym.take_at 3 32 (.agg (bs (a ^ m % PP))) rfl rfl (by kernel_rfl) (by kernel_rfl) (by kernel_rfl) (fun _ _ _ h => h) rfl (fun _ hw => run_row rfl rfl (hw.2.1) Try.underlying23 rfl (by rw [bs_sz]; exact info_b)) ⟨k184, k185, k183⟩ ?_
        simp only [List.setIfInBounds_toArray, List.set_cons_zero, List.set_cons_succ]
        refine Sym.take_at 5 34 (.agg (bs a)) rfl rfl (by kernel_rfl) (by kernel_rfl) (by kernel_rfl) (fun _ _ _ h => h) rfl (fun _ hw => run_row rfl rfl (hw.2.2) Try.underlying23 rfl (by rw [bs_sz]; exact info_b)) ⟨k184, k185, k183⟩ ?_
        simp only [List.setIfInBounds_toArray, List.set_cons_zero, List.set_cons_succ]
        refine Sym.take_at 6 35 (.int .i64 ((n + m : Nat) : Int)) rfl rfl (by kernel_rfl) (by kernel_rfl) (by kernel_rfl) (fun _ _ _ h => h) rfl (fun _ hw => run_mv rfl rfl) ⟨k184, k185, k183⟩ ?_
        simp only [List.setIfInBounds_toArray, List.set_cons_zero, List.set_cons_succ]
        refine Sym.take_at 7 36 (.int .u8 (((n + m) % 256 : Nat) : Int)) rfl rfl (by kernel_rfl) (by kernel_rfl) (by kernel_rfl) (fun _ _ _ h => h) rfl (fun _ hw => run_intu8 (n + m) rfl rfl) ⟨k184, k185, k183⟩ ?_
        simp only [List.setIfInBounds_toArray, List.set_cons_zero, List.set_cons_succ]
        refine Sym.take_at 8 37 (.int .i64 ((n + m : Nat) : Int)) rfl rfl (by kernel_rfl) (by kernel_rfl) (by kernel_rfl) (fun _ _ _ h => h) rfl (fun _ hw => run_mv rfl rfl) ⟨k184, k185, k183⟩ ?_
        simp only [List.setIfInBounds_toArray, List.set_cons_zero, List.set_cons_succ]
        refine Sym.take_at 9 38 (.int .i64 (((n + m) / 256 : Nat) : Int)) rfl rfl (by kernel_rfl) (by kernel_rfl) (by kernel_rfl) (fun _ _ _ h => h) rfl (fun _ hw => run_shr8 (n + m) (by have h1 := Hn.out; have h2 := Hm.out; omega) rfl rfl) ⟨k184, k185, k183⟩ ?_
        simp only [List.setIfInBounds_toArray, List.set_cons_zero, List.set_cons_succ]
        refine Sym.take_at 10 39 (.int .u8 ((((n + m) / 256) % 256 : Nat) : Int)) rfl rfl (by kernel_rfl) (by kernel_rfl) (by kernel_rfl) (fun _ _ _ h => h) rfl (fun _ hw => run_intu8 ((n + m) / 256) rfl rfl) ⟨k184, k185, k183⟩ ?_
        simp only [List.setIfInBounds_toArray, List.set_cons_zero, List.set_cons_succ]
        refine Sym.take_at 11 40 (.agg (bs (n + m))) rfl rfl (by kernel_rfl) (by kernel_rfl) (by kernel_rfl) (fun _ _ _ h => h) rfl (fun _ hw => run_bd2 (n + m) (by have h1 := Hn.out; have h2 := Hm.out; omega) rfl rfl rfl) ⟨k184, k185, k183⟩ ?_
        simp only [List.setIfInBounds_toArray, List.set_cons_zero, List.set_cons_succ]
        refine one_ready 4 (by kernel_rfl) ?_
        refine opd rfl rfl (w_enter 33 (.agg (bs ((a ^ n % PP) * (a ^ m % PP) % PP))) rfl (run_Mul rfl rfl rfl) (mul_any (a ^ n % PP) (a ^ m % PP) (Nat.lt_trans (Nat.mod_lt _ (by decide)) pp_lt) (Nat.lt_trans (Nat.mod_lt _ (by decide)) pp_lt) _) (fun w187 hb188 => ?_))
        have k189 := k183.call hb188
        have k190 := k184.call hb188
        have k191 := k185.call hb188
        have hbel192 := bel_call hbel186 hb188
        refine ⟨⟨k190, k191, k189⟩, ?_⟩
        simp only [List.setIfInBounds_toArray, List.set_cons_zero, List.set_cons_succ]
        refine one_ready 12 (by kernel_rfl) ?_
        refine opd rfl rfl (w_enter 41 (.agg (bs (a ^ (n + m) % PP))) rfl (run_Power rfl rfl rfl) (power_any a (n + m) Ha.out (by have h1 := Hn.out; have h2 := Hm.out; unfold MM; omega) _) (fun w193 hb194 => ?_))
        have k195 := k189.call hb194
        have k196 := k190.call hb194
        have k197 := k191.call hb194
        have hbel198 := bel_call hbel192 hb194
        refine ⟨⟨k196, k197, k195⟩, ?_⟩
        simp only [List.setIfInBounds_toArray, List.set_cons_zero, List.set_cons_succ]
        refine Sym.take_at 13 42 (.bool true) rfl rfl (by kernel_rfl) (by kernel_rfl) (by kernel_rfl) (fun _ _ _ h => h) rfl (fun _ hw => run_eqN ((a ^ n % PP) * (a ^ m % PP) % PP) (a ^ (n + m) % PP) (Nat.lt_trans (Nat.mod_lt _ (by decide)) pp_lt) (Nat.lt_trans (Nat.mod_lt _ (by decide)) pp_lt) true (decide_eq_true F1) rfl rfl rfl) ⟨k196, k197, k195⟩ ?_
        simp only [List.setIfInBounds_toArray, List.set_cons_zero, List.set_cons_succ]
        refine Sym.take_at 14 43 (.bool true) rfl rfl (by kernel_rfl) (by kernel_rfl) (by kernel_rfl) (fun _ _ _ h => h) (wanted_none rfl) (fun _ hw => run_pick rfl rfl rfl) ⟨k196, k197, k195⟩ ?_
        simp only [List.setIfInBounds_toArray, List.set_cons_zero, List.set_cons_succ]
        refine Sym.take_at 15 44 (.bool true) rfl rfl (by kernel_rfl) (by kernel_rfl) (by kernel_rfl) (fun _ _ _ h => h) (wanted_none rfl) (fun _ hw => run_mv rfl rfl) ⟨k196, k197, k195⟩ ?_
        simp only [List.setIfInBounds_toArray, List.set_cons_zero, List.set_cons_succ]
        refine Sym.take_at 16 45 (.agg (bs (a ^ n % PP))) rfl rfl (by kernel_rfl) (by kernel_rfl) (by kernel_rfl) (fun _ _ _ h => h) rfl (fun _ hw => run_row rfl rfl (hw.1) Try.underlying23 rfl (by rw [bs_sz]; exact info_b)) ⟨k196, k197, k195⟩ ?_
        simp only [List.setIfInBounds_toArray, List.set_cons_zero, List.set_cons_succ]
        refine Sym.take_at 17 46 (.int .u8 (m : Int)) rfl rfl (by kernel_rfl) (by kernel_rfl) (by kernel_rfl) (fun _ _ _ h => h) rfl (fun _ hw => run_mv rfl rfl) ⟨k196, k197, k195⟩ ?_
        simp only [List.setIfInBounds_toArray, List.set_cons_zero, List.set_cons_succ]
        refine Sym.take_at 18 47 (.agg (bs m)) rfl rfl (by kernel_rfl) (by kernel_rfl) (by kernel_rfl) (fun _ _ _ h => h) rfl (fun _ hw => run_bd1 m Hm.out rfl rfl) ⟨k196, k197, k195⟩ ?_
        simp only [List.setIfInBounds_toArray, List.set_cons_zero, List.set_cons_succ]
        refine Sym.take_at 20 49 (.agg (bs a)) rfl rfl (by kernel_rfl) (by kernel_rfl) (by kernel_rfl) (fun _ _ _ h => h) rfl (fun _ hw => run_row rfl rfl (hw.2.2) Try.underlying23 rfl (by rw [bs_sz]; exact info_b)) ⟨k196, k197, k195⟩ ?_
        simp only [List.setIfInBounds_toArray, List.set_cons_zero, List.set_cons_succ]
        refine Sym.take_at 21 50 (.int .i64 ((n * m : Nat) : Int)) rfl rfl (by kernel_rfl) (by kernel_rfl) (by kernel_rfl) (fun _ _ _ h => h) rfl (fun _ hw => run_mv rfl rfl) ⟨k196, k197, k195⟩ ?_
        simp only [List.setIfInBounds_toArray, List.set_cons_zero, List.set_cons_succ]
        refine Sym.take_at 22 51 (.int .u8 (((n * m) % 256 : Nat) : Int)) rfl rfl (by kernel_rfl) (by kernel_rfl) (by kernel_rfl) (fun _ _ _ h => h) rfl (fun _ hw => run_intu8 (n * m) rfl rfl) ⟨k196, k197, k195⟩ ?_
        simp only [List.setIfInBounds_toArray, List.set_cons_zero, List.set_cons_succ]
        refine Sym.take_at 23 52 (.int .i64 ((n * m : Nat) : Int)) rfl rfl (by kernel_rfl) (by kernel_rfl) (by kernel_rfl) (fun _ _ _ h => h) rfl (fun _ hw => run_mv rfl rfl) ⟨k196, k197, k195⟩ ?_
        simp only [List.setIfInBounds_toArray, List.set_cons_zero, List.set_cons_succ]
        refine Sym.take_at 24 53 (.int .i64 (((n * m) / 256 : Nat) : Int)) rfl rfl (by kernel_rfl) (by kernel_rfl) (by kernel_rfl) (fun _ _ _ h => h) rfl (fun _ hw => run_shr8 (n * m) (by have := Nat.mul_lt_mul'' Hn.out Hm.out; omega) rfl rfl) ⟨k196, k197, k195⟩ ?_
        simp only [List.setIfInBounds_toArray, List.set_cons_zero, List.set_cons_succ]
        refine Sym.take_at 25 54 (.int .u8 ((((n * m) / 256) % 256 : Nat) : Int)) rfl rfl (by kernel_rfl) (by kernel_rfl) (by kernel_rfl) (fun _ _ _ h => h) rfl (fun _ hw => run_intu8 ((n * m) / 256) rfl rfl) ⟨k196, k197, k195⟩ ?_
        simp only [List.setIfInBounds_toArray, List.set_cons_zero, List.set_cons_succ]
        refine Sym.take_at 26 55 (.agg (bs (n * m))) rfl rfl (by kernel_rfl) (by kernel_rfl) (by kernel_rfl) (fun _ _ _ h => h) rfl (fun _ hw => run_bd2 (n * m) (by have := Nat.mul_lt_mul'' Hn.out Hm.out; omega) rfl rfl rfl) ⟨k196, k197, k195⟩ ?_
        simp only [List.setIfInBounds_toArray, List.set_cons_zero, List.set_cons_succ]
        refine one_ready 19 (by kernel_rfl) ?_
        refine opd rfl rfl (w_enter 48 (.agg (bs ((a ^ n % PP) ^ m % PP))) rfl (run_Power rfl rfl rfl) (power_any (a ^ n % PP) m (Nat.lt_trans (Nat.mod_lt _ (by decide)) pp_lt) (Nat.lt_trans Hm.out (by decide)) _) (fun w199 hb200 => ?_))
        have k201 := k195.call hb200
        have k202 := k196.call hb200
        have k203 := k197.call hb200
        have hbel204 := bel_call hbel198 hb200
        refine ⟨⟨k202, k203, k201⟩, ?_⟩
        simp only [List.setIfInBounds_toArray, List.set_cons_zero, List.set_cons_succ]
        refine one_ready 27 (by kernel_rfl) ?_
        refine opd rfl rfl (w_enter 56 (.agg (bs (a ^ (n * m) % PP))) rfl (run_Power rfl rfl rfl) (power_any a (n * m) Ha.out (by have := Nat.mul_lt_mul'' Hn.out Hm.out; unfold MM; omega) _) (fun w205 hb206 => ?_))
        have k207 := k201.call hb206
        have k208 := k202.call hb206
        have k209 := k203.call hb206
        have hbel210 := bel_call hbel204 hb206
        refine ⟨⟨k208, k209, k207⟩, ?_⟩
        simp only [List.setIfInBounds_toArray, List.set_cons_zero, List.set_cons_succ]
        refine Sym.take_at 28 57 (.bool true) rfl rfl (by kernel_rfl) (by kernel_rfl) (by kernel_rfl) (fun _ _ _ h => h) rfl (fun _ hw => run_eqN ((a ^ n % PP) ^ m % PP) (a ^ (n * m) % PP) (Nat.lt_trans (Nat.mod_lt _ (by decide)) pp_lt) (Nat.lt_trans (Nat.mod_lt _ (by decide)) pp_lt) true (decide_eq_true F2) rfl rfl rfl) ⟨k208, k209, k207⟩ ?_
        simp only [List.setIfInBounds_toArray, List.set_cons_zero, List.set_cons_succ]
        refine Sym.take_at 29 58 (.bool true) rfl rfl (by kernel_rfl) (by kernel_rfl) (by kernel_rfl) (fun _ _ _ h => h) (wanted_none rfl) (fun _ hw => run_pick rfl rfl rfl) ⟨k208, k209, k207⟩ ?_
        simp only [List.setIfInBounds_toArray, List.set_cons_zero, List.set_cons_succ]
        refine one_ready 30 (by kernel_rfl) ?_
        refine opd rfl (wanted_none rfl) (w_value 6 (.bool true) rfl (run_as rfl rfl) ⟨⟨k208, k209, k207⟩, ?_⟩)
        simp only [List.setIfInBounds_toArray, List.set_cons_zero, List.set_cons_succ]
        refine wpAnyH_done (by kernel_rfl) ?_ _
        go_step
        go_step
        go_wp2
        go_ret
        exact ⟨rfl, hbel210⟩
      · refine opd rfl (wanted_none rfl) (w_alloc (c := bs 0) (T := 23) 10 rfl (run_alN rfl) (fun w211 he212 => ?_))
        have hne214 : w.heap.size ≠ w143.heap.size := Nat.ne_of_lt k145.lt
        have k213 := k145.alloc he212
        have hne216 : w9.heap.size ≠ w143.heap.size := Nat.ne_of_lt k147.lt
        have k215 := k147.alloc he212
        have k217 := Blk.new he212
        have hg218 : w.heap.size ≤ w143.heap.size := hbel149.size
        have hbel219 := bel_alloc hbel149 he212
        refine ⟨k213, ?_⟩
        simp only [List.setIfInBounds_toArray, List.set_cons_zero, List.set_cons_succ]
        refine one_ready 7 (by kernel_rfl) ?_
        refine opd rfl (wanted_none rfl) (w_enter 28 (.agg (bs (a ^ m % PP))) rfl (run_Power rfl rfl rfl) (power_any a m Ha.out (Nat.lt_trans Hm.out (by decide)) _) (fun w220 hb221 => ?_))
        have k222 := k213.call hb221
        have k223 := k215.call hb221
        have k224 := k217.call hb221
        have hbel225 := bel_call hbel219 hb221
        refine ⟨k222, ?_⟩
        simp only [List.setIfInBounds_toArray, List.set_cons_zero, List.set_cons_succ]
        refine one_ready 10 (by kernel_rfl) ?_
        refine opd rfl (wanted_none rfl) (w_store 23 _ _ (w9.heap.size) (bs (a ^ n % PP)) rfl rfl rfl rfl k223 (by rw [bs_sz]; exact info_b) ((bs_sz _).trans (bs_sz _).symm) (bs_one _) (fun w226 he227 => ?_))
        have k228 := k222.other hne146 he227
        have k229 := k224.other hne216.symm he227
        have k230 := k223.set he227
        have hbel231 := bel_set hbel225 hg148 he227
        refine ⟨k228, ?_⟩
        refine one_ready 11 (by kernel_rfl) ?_
        refine opd rfl (wanted_none rfl) (w_store 23 _ _ (w143.heap.size) (bs (a ^ m % PP)) rfl rfl rfl rfl k229 (by rw [bs_sz]; exact info_b) ((bs_sz _).trans (bs_sz _).symm) (bs_one _) (fun w232 he233 => ?_))
        have k234 := k228.other hne214 he233
        have k235 := k230.other hne216 he233
        have k236 := k229.set he233
        have hbel237 := bel_set hbel231 hg218 he233
        refine ⟨k234, ?_⟩
        refine wpAnyH_done (by kernel_rfl) ?_ _
        go_step
        go_step
        go_step
        have k238 := k234.drew
        have k239 := k235.drew
        have k240 := k236.drew
        have hbel241 := hbel237.drew
        refine wp_region_held_drew (S := fun w' => Blk w' (w9.heap.size) (bs (a ^ n % PP)) 23 ∧ Blk w' (w143.heap.size) (bs (a ^ m % PP)) 23 ∧ Blk w' (w.heap.size) (bs a) 23) (by kernel_rfl) ⟨k239, k240, k238⟩ (fun _ => ?_)
        generalize w232.drew = wd242 at *
        refine one_ready 0 (by kernel_rfl) ?_
        refine opd rfl (wanted_none rfl) (w_enter 29 (.bool true) rfl (run_awake rfl) (awake_any _) (fun w243 hb244 => ?_))
        have k245 := k238.call hb244
        have k246 := k239.call hb244
        have k247 := k240.call hb244
        have hbel248 := bel_call hbel241 hb244
        refine ⟨⟨k246, k247, k245⟩, ?_⟩
        simp only [List.setIfInBounds_toArray, List.set_cons_zero, List.set_cons_succ]
        refine Sym.take_at 1 30 (.bool true) rfl rfl (by kernel_rfl) (by kernel_rfl) (by kernel_rfl) (fun _ _ _ h => h) (wanted_none rfl) (fun _ hw => run_mv rfl rfl) ⟨k246, k247, k245⟩ ?_
        simp only [List.setIfInBounds_toArray, List.set_cons_zero, List.set_cons_succ]
        refine Sym.take_at 2 31 (.agg (bs (a ^ n % PP))) rfl rfl (by kernel_rfl) (by kernel_rfl) (by kernel_rfl) (fun _ _ _ h => h) rfl (fun _ hw => run_row rfl rfl (hw.1) Try.underlying23 rfl (by rw [bs_sz]; exact info_b)) ⟨k246, k247, k245⟩ ?_
        simp only [List.setIfInBounds_toArray, List.set_cons_zero, List.set_cons_succ]
        refine Sym.take_at 3 32 (.agg (bs (a ^ m % PP))) rfl rfl (by kernel_rfl) (by kernel_rfl) (by kernel_rfl) (fun _ _ _ h => h) rfl (fun _ hw => run_row rfl rfl (hw.2.1) Try.underlying23 rfl (by rw [bs_sz]; exact info_b)) ⟨k246, k247, k245⟩ ?_
        simp only [List.setIfInBounds_toArray, List.set_cons_zero, List.set_cons_succ]
        refine Sym.take_at 5 34 (.agg (bs a)) rfl rfl (by kernel_rfl) (by kernel_rfl) (by kernel_rfl) (fun _ _ _ h => h) rfl (fun _ hw => run_row rfl rfl (hw.2.2) Try.underlying23 rfl (by rw [bs_sz]; exact info_b)) ⟨k246, k247, k245⟩ ?_
        simp only [List.setIfInBounds_toArray, List.set_cons_zero, List.set_cons_succ]
        refine Sym.take_at 6 35 (.int .i64 ((n + m : Nat) : Int)) rfl rfl (by kernel_rfl) (by kernel_rfl) (by kernel_rfl) (fun _ _ _ h => h) rfl (fun _ hw => run_mv rfl rfl) ⟨k246, k247, k245⟩ ?_
        simp only [List.setIfInBounds_toArray, List.set_cons_zero, List.set_cons_succ]
        refine Sym.take_at 7 36 (.int .u8 (((n + m) % 256 : Nat) : Int)) rfl rfl (by kernel_rfl) (by kernel_rfl) (by kernel_rfl) (fun _ _ _ h => h) rfl (fun _ hw => run_intu8 (n + m) rfl rfl) ⟨k246, k247, k245⟩ ?_
        simp only [List.setIfInBounds_toArray, List.set_cons_zero, List.set_cons_succ]
        refine Sym.take_at 8 37 (.int .i64 ((n + m : Nat) : Int)) rfl rfl (by kernel_rfl) (by kernel_rfl) (by kernel_rfl) (fun _ _ _ h => h) rfl (fun _ hw => run_mv rfl rfl) ⟨k246, k247, k245⟩ ?_
        simp only [List.setIfInBounds_toArray, List.set_cons_zero, List.set_cons_succ]
        refine Sym.take_at 9 38 (.int .i64 (((n + m) / 256 : Nat) : Int)) rfl rfl (by kernel_rfl) (by kernel_rfl) (by kernel_rfl) (fun _ _ _ h => h) rfl (fun _ hw => run_shr8 (n + m) (by have h1 := Hn.out; have h2 := Hm.out; omega) rfl rfl) ⟨k246, k247, k245⟩ ?_
        simp only [List.setIfInBounds_toArray, List.set_cons_zero, List.set_cons_succ]
        refine Sym.take_at 10 39 (.int .u8 ((((n + m) / 256) % 256 : Nat) : Int)) rfl rfl (by kernel_rfl) (by kernel_rfl) (by kernel_rfl) (fun _ _ _ h => h) rfl (fun _ hw => run_intu8 ((n + m) / 256) rfl rfl) ⟨k246, k247, k245⟩ ?_
        simp only [List.setIfInBounds_toArray, List.set_cons_zero, List.set_cons_succ]
        refine Sym.take_at 11 40 (.agg (bs (n + m))) rfl rfl (by kernel_rfl) (by kernel_rfl) (by kernel_rfl) (fun _ _ _ h => h) rfl (fun _ hw => run_bd2 (n + m) (by have h1 := Hn.out; have h2 := Hm.out; omega) rfl rfl rfl) ⟨k246, k247, k245⟩ ?_
        simp only [List.setIfInBounds_toArray, List.set_cons_zero, List.set_cons_succ]
        refine one_ready 4 (by kernel_rfl) ?_
        refine opd rfl rfl (w_enter 33 (.agg (bs ((a ^ n % PP) * (a ^ m % PP) % PP))) rfl (run_Mul rfl rfl rfl) (mul_any (a ^ n % PP) (a ^ m % PP) (Nat.lt_trans (Nat.mod_lt _ (by decide)) pp_lt) (Nat.lt_trans (Nat.mod_lt _ (by decide)) pp_lt) _) (fun w249 hb250 => ?_))
        have k251 := k245.call hb250
        have k252 := k246.call hb250
        have k253 := k247.call hb250
        have hbel254 := bel_call hbel248 hb250
        refine ⟨⟨k252, k253, k251⟩, ?_⟩
        simp only [List.setIfInBounds_toArray, List.set_cons_zero, List.set_cons_succ]
        refine one_ready 12 (by kernel_rfl) ?_
        refine opd rfl rfl (w_enter 41 (.agg (bs (a ^ (n + m) % PP))) rfl (run_Power rfl rfl rfl) (power_any a (n + m) Ha.out (by have h1 := Hn.out; have h2 := Hm.out; unfold MM; omega) _) (fun w255 hb256 => ?_))
        have k257 := k251.call hb256
        have k258 := k252.call hb256
        have k259 := k253.call hb256
        have hbel260 := bel_call hbel254 hb256
        refine ⟨⟨k258, k259, k257⟩, ?_⟩
        simp only [List.setIfInBounds_toArray, List.set_cons_zero, List.set_cons_succ]
        refine Sym.take_at 13 42 (.bool true) rfl rfl (by kernel_rfl) (by kernel_rfl) (by kernel_rfl) (fun _ _ _ h => h) rfl (fun _ hw => run_eqN ((a ^ n % PP) * (a ^ m % PP) % PP) (a ^ (n + m) % PP) (Nat.lt_trans (Nat.mod_lt _ (by decide)) pp_lt) (Nat.lt_trans (Nat.mod_lt _ (by decide)) pp_lt) true (decide_eq_true F1) rfl rfl rfl) ⟨k258, k259, k257⟩ ?_
        simp only [List.setIfInBounds_toArray, List.set_cons_zero, List.set_cons_succ]
        refine Sym.take_at 14 43 (.bool true) rfl rfl (by kernel_rfl) (by kernel_rfl) (by kernel_rfl) (fun _ _ _ h => h) (wanted_none rfl) (fun _ hw => run_pick rfl rfl rfl) ⟨k258, k259, k257⟩ ?_
        simp only [List.setIfInBounds_toArray, List.set_cons_zero, List.set_cons_succ]
        refine Sym.take_at 15 44 (.bool true) rfl rfl (by kernel_rfl) (by kernel_rfl) (by kernel_rfl) (fun _ _ _ h => h) (wanted_none rfl) (fun _ hw => run_mv rfl rfl) ⟨k258, k259, k257⟩ ?_
        simp only [List.setIfInBounds_toArray, List.set_cons_zero, List.set_cons_succ]
        refine Sym.take_at 16 45 (.agg (bs (a ^ n % PP))) rfl rfl (by kernel_rfl) (by kernel_rfl) (by kernel_rfl) (fun _ _ _ h => h) rfl (fun _ hw => run_row rfl rfl (hw.1) Try.underlying23 rfl (by rw [bs_sz]; exact info_b)) ⟨k258, k259, k257⟩ ?_
        simp only [List.setIfInBounds_toArray, List.set_cons_zero, List.set_cons_succ]
        refine Sym.take_at 17 46 (.int .u8 (m : Int)) rfl rfl (by kernel_rfl) (by kernel_rfl) (by kernel_rfl) (fun _ _ _ h => h) rfl (fun _ hw => run_mv rfl rfl) ⟨k258, k259, k257⟩ ?_
        simp only [List.setIfInBounds_toArray, List.set_cons_zero, List.set_cons_succ]
        refine Sym.take_at 18 47 (.agg (bs m)) rfl rfl (by kernel_rfl) (by kernel_rfl) (by kernel_rfl) (fun _ _ _ h => h) rfl (fun _ hw => run_bd1 m Hm.out rfl rfl) ⟨k258, k259, k257⟩ ?_
        simp only [List.setIfInBounds_toArray, List.set_cons_zero, List.set_cons_succ]
        refine Sym.take_at 20 49 (.agg (bs a)) rfl rfl (by kernel_rfl) (by kernel_rfl) (by kernel_rfl) (fun _ _ _ h => h) rfl (fun _ hw => run_row rfl rfl (hw.2.2) Try.underlying23 rfl (by rw [bs_sz]; exact info_b)) ⟨k258, k259, k257⟩ ?_
        simp only [List.setIfInBounds_toArray, List.set_cons_zero, List.set_cons_succ]
        refine Sym.take_at 21 50 (.int .i64 ((n * m : Nat) : Int)) rfl rfl (by kernel_rfl) (by kernel_rfl) (by kernel_rfl) (fun _ _ _ h => h) rfl (fun _ hw => run_mv rfl rfl) ⟨k258, k259, k257⟩ ?_
        simp only [List.setIfInBounds_toArray, List.set_cons_zero, List.set_cons_succ]
        refine Sym.take_at 22 51 (.int .u8 (((n * m) % 256 : Nat) : Int)) rfl rfl (by kernel_rfl) (by kernel_rfl) (by kernel_rfl) (fun _ _ _ h => h) rfl (fun _ hw => run_intu8 (n * m) rfl rfl) ⟨k258, k259, k257⟩ ?_
        simp only [List.setIfInBounds_toArray, List.set_cons_zero, List.set_cons_succ]
        refine Sym.take_at 23 52 (.int .i64 ((n * m : Nat) : Int)) rfl rfl (by kernel_rfl) (by kernel_rfl) (by kernel_rfl) (fun _ _ _ h => h) rfl (fun _ hw => run_mv rfl rfl) ⟨k258, k259, k257⟩ ?_
        simp only [List.setIfInBounds_toArray, List.set_cons_zero, List.set_cons_succ]
        refine Sym.take_at 24 53 (.int .i64 (((n * m) / 256 : Nat) : Int)) rfl rfl (by kernel_rfl) (by kernel_rfl) (by kernel_rfl) (fun _ _ _ h => h) rfl (fun _ hw => run_shr8 (n * m) (by have := Nat.mul_lt_mul'' Hn.out Hm.out; omega) rfl rfl) ⟨k258, k259, k257⟩ ?_
        simp only [List.setIfInBounds_toArray, List.set_cons_zero, List.set_cons_succ]
        refine Sym.take_at 25 54 (.int .u8 ((((n * m) / 256) % 256 : Nat) : Int)) rfl rfl (by kernel_rfl) (by kernel_rfl) (by kernel_rfl) (fun _ _ _ h => h) rfl (fun _ hw => run_intu8 ((n * m) / 256) rfl rfl) ⟨k258, k259, k257⟩ ?_
        simp only [List.setIfInBounds_toArray, List.set_cons_zero, List.set_cons_succ]
        refine Sym.take_at 26 55 (.agg (bs (n * m))) rfl rfl (by kernel_rfl) (by kernel_rfl) (by kernel_rfl) (fun _ _ _ h => h) rfl (fun _ hw => run_bd2 (n * m) (by have := Nat.mul_lt_mul'' Hn.out Hm.out; omega) rfl rfl rfl) ⟨k258, k259, k257⟩ ?_
        simp only [List.setIfInBounds_toArray, List.set_cons_zero, List.set_cons_succ]
        refine one_ready 19 (by kernel_rfl) ?_
        refine opd rfl rfl (w_enter 48 (.agg (bs ((a ^ n % PP) ^ m % PP))) rfl (run_Power rfl rfl rfl) (power_any (a ^ n % PP) m (Nat.lt_trans (Nat.mod_lt _ (by decide)) pp_lt) (Nat.lt_trans Hm.out (by decide)) _) (fun w261 hb262 => ?_))
        have k263 := k257.call hb262
        have k264 := k258.call hb262
        have k265 := k259.call hb262
        have hbel266 := bel_call hbel260 hb262
        refine ⟨⟨k264, k265, k263⟩, ?_⟩
        simp only [List.setIfInBounds_toArray, List.set_cons_zero, List.set_cons_succ]
        refine one_ready 27 (by kernel_rfl) ?_
        refine opd rfl rfl (w_enter 56 (.agg (bs (a ^ (n * m) % PP))) rfl (run_Power rfl rfl rfl) (power_any a (n * m) Ha.out (by have := Nat.mul_lt_mul'' Hn.out Hm.out; unfold MM; omega) _) (fun w267 hb268 => ?_))
        have k269 := k263.call hb268
        have k270 := k264.call hb268
        have k271 := k265.call hb268
        have hbel272 := bel_call hbel266 hb268
        refine ⟨⟨k270, k271, k269⟩, ?_⟩
        simp only [List.setIfInBounds_toArray, List.set_cons_zero, List.set_cons_succ]
        refine Sym.take_at 28 57 (.bool true) rfl rfl (by kernel_rfl) (by kernel_rfl) (by kernel_rfl) (fun _ _ _ h => h) rfl (fun _ hw => run_eqN ((a ^ n % PP) ^ m % PP) (a ^ (n * m) % PP) (Nat.lt_trans (Nat.mod_lt _ (by decide)) pp_lt) (Nat.lt_trans (Nat.mod_lt _ (by decide)) pp_lt) true (decide_eq_true F2) rfl rfl rfl) ⟨k270, k271, k269⟩ ?_
        simp only [List.setIfInBounds_toArray, List.set_cons_zero, List.set_cons_succ]
        refine Sym.take_at 29 58 (.bool true) rfl rfl (by kernel_rfl) (by kernel_rfl) (by kernel_rfl) (fun _ _ _ h => h) (wanted_none rfl) (fun _ hw => run_pick rfl rfl rfl) ⟨k270, k271, k269⟩ ?_
        simp only [List.setIfInBounds_toArray, List.set_cons_zero, List.set_cons_succ]
        refine one_ready 30 (by kernel_rfl) ?_
        refine opd rfl (wanted_none rfl) (w_value 6 (.bool true) rfl (run_as rfl rfl) ⟨⟨k270, k271, k269⟩, ?_⟩)
        simp only [List.setIfInBounds_toArray, List.set_cons_zero, List.set_cons_succ]
        refine wpAnyH_done (by kernel_rfl) ?_ _
        go_step
        go_step
        go_wp2
        go_ret
        exact ⟨rfl, hbel272⟩
    · refine opd rfl (wanted_none rfl) (w_alloc (c := bs 0) (T := 23) 10 rfl (run_alN rfl) (fun w273 he274 => ?_))
      have hne276 : w.heap.size ≠ w9.heap.size := Nat.ne_of_lt k11.lt
      have k275 := k11.alloc he274
      have k277 := Blk.new he274
      have hg278 : w.heap.size ≤ w9.heap.size := hbel12.size
      have hbel279 := bel_alloc hbel12 he274
      refine ⟨k275, ?_⟩
      simp only [List.setIfInBounds_toArray, List.set_cons_zero, List.set_cons_succ]
      refine two_ready 7 8 (by kernel_rfl) ?_ ?_
      · refine opd rfl (wanted_none rfl) (w_enter 28 (.agg (bs (a ^ m % PP))) rfl (run_Power rfl rfl rfl) (power_any a m Ha.out (Nat.lt_trans Hm.out (by decide)) _) (fun w280 hb281 => ?_))
        have k282 := k275.call hb281
        have k283 := k277.call hb281
        have hbel284 := bel_call hbel279 hb281
        refine ⟨k282, ?_⟩
        simp only [List.setIfInBounds_toArray, List.set_cons_zero, List.set_cons_succ]
        refine one_ready 8 (by kernel_rfl) ?_
        refine opd rfl (wanted_none rfl) (w_alloc (c := bs 0) (T := 23) 9 rfl (run_alN rfl) (fun w285 he286 => ?_))
        have hne288 : w.heap.size ≠ w280.heap.size := Nat.ne_of_lt k282.lt
        have k287 := k282.alloc he286
        have hne290 : w9.heap.size ≠ w280.heap.size := Nat.ne_of_lt k283.lt
        have k289 := k283.alloc he286
        have k291 := Blk.new he286
        have hg292 : w.heap.size ≤ w280.heap.size := hbel284.size
        have hbel293 := bel_alloc hbel284 he286
        refine ⟨k287, ?_⟩
        simp only [List.setIfInBounds_toArray, List.set_cons_zero, List.set_cons_succ]
        refine one_ready 10 (by kernel_rfl) ?_
        refine opd rfl (wanted_none rfl) (w_store 23 _ _ (w280.heap.size) (bs (a ^ n % PP)) rfl rfl rfl rfl k291 (by rw [bs_sz]; exact info_b) ((bs_sz _).trans (bs_sz _).symm) (bs_one _) (fun w294 he295 => ?_))
        have k296 := k287.other hne288 he295
        have k297 := k289.other hne290 he295
        have k298 := k291.set he295
        have hbel299 := bel_set hbel293 hg292 he295
        refine ⟨k296, ?_⟩
        refine one_ready 11 (by kernel_rfl) ?_
        refine opd rfl (wanted_none rfl) (w_store 23 _ _ (w9.heap.size) (bs (a ^ m % PP)) rfl rfl rfl rfl k297 (by rw [bs_sz]; exact info_b) ((bs_sz _).trans (bs_sz _).symm) (bs_one _) (fun w300 he301 => ?_))
        have k302 := k296.other hne276 he301
        have k303 := k298.other hne290.symm he301
        have k304 := k297.set he301
        have hbel305 := bel_set hbel299 hg278 he301
        refine ⟨k302, ?_⟩
        refine wpAnyH_done (by kernel_rfl) ?_ _
        go_step
        go_step
        go_step
        have k306 := k302.drew
        have k307 := k304.drew
        have k308 := k303.drew
        have hbel309 := hbel305.drew
        refine wp_region_held_drew (S := fun w' => Blk w' (w280.heap.size) (bs (a ^ n % PP)) 23 ∧ Blk w' (w9.heap.size) (bs (a ^ m % PP)) 23 ∧ Blk w' (w.heap.size) (bs a) 23) (by kernel_rfl) ⟨k308, k307, k306⟩ (fun _ => ?_)
        generalize w300.drew = wd310 at *
        refine one_ready 0 (by kernel_rfl) ?_
        refine opd rfl (wanted_none rfl) (w_enter 29 (.bool true) rfl (run_awake rfl) (awake_any _) (fun w311 hb312 => ?_))
        have k313 := k306.call hb312
        have k314 := k307.call hb312
        have k315 := k308.call hb312
        have hbel316 := bel_call hbel309 hb312
        refine ⟨⟨k315, k314, k313⟩, ?_⟩
        simp only [List.setIfInBounds_toArray, List.set_cons_zero, List.set_cons_succ]
        refine Sym.take_at 1 30 (.bool true) rfl rfl (by kernel_rfl) (by kernel_rfl) (by kernel_rfl) (fun _ _ _ h => h) (wanted_none rfl) (fun _ hw => run_mv rfl rfl) ⟨k315, k314, k313⟩ ?_
        simp only [List.setIfInBounds_toArray, List.set_cons_zero, List.set_cons_succ]
        refine Sym.take_at 2 31 (.agg (bs (a ^ n % PP))) rfl rfl (by kernel_rfl) (by kernel_rfl) (by kernel_rfl) (fun _ _ _ h => h) rfl (fun _ hw => run_row rfl rfl (hw.1) Try.underlying23 rfl (by rw [bs_sz]; exact info_b)) ⟨k315, k314, k313⟩ ?_
        simp only [List.setIfInBounds_toArray, List.set_cons_zero, List.set_cons_succ]
        refine Sym.take_at 3 32 (.agg (bs (a ^ m % PP))) rfl rfl (by kernel_rfl) (by kernel_rfl) (by kernel_rfl) (fun _ _ _ h => h) rfl (fun _ hw => run_row rfl rfl (hw.2.1) Try.underlying23 rfl (by rw [bs_sz]; exact info_b)) ⟨k315, k314, k313⟩ ?_
        simp only [List.setIfInBounds_toArray, List.set_cons_zero, List.set_cons_succ]
        refine Sym.take_at 5 34 (.agg (bs a)) rfl rfl (by kernel_rfl) (by kernel_rfl) (by kernel_rfl) (fun _ _ _ h => h) rfl (fun _ hw => run_row rfl rfl (hw.2.2) Try.underlying23 rfl (by rw [bs_sz]; exact info_b)) ⟨k315, k314, k313⟩ ?_
        simp only [List.setIfInBounds_toArray, List.set_cons_zero, List.set_cons_succ]
        refine Sym.take_at 6 35 (.int .i64 ((n + m : Nat) : Int)) rfl rfl (by kernel_rfl) (by kernel_rfl) (by kernel_rfl) (fun _ _ _ h => h) rfl (fun _ hw => run_mv rfl rfl) ⟨k315, k314, k313⟩ ?_
        simp only [List.setIfInBounds_toArray, List.set_cons_zero, List.set_cons_succ]
        refine Sym.take_at 7 36 (.int .u8 (((n + m) % 256 : Nat) : Int)) rfl rfl (by kernel_rfl) (by kernel_rfl) (by kernel_rfl) (fun _ _ _ h => h) rfl (fun _ hw => run_intu8 (n + m) rfl rfl) ⟨k315, k314, k313⟩ ?_
        simp only [List.setIfInBounds_toArray, List.set_cons_zero, List.set_cons_succ]
        refine Sym.take_at 8 37 (.int .i64 ((n + m : Nat) : Int)) rfl rfl (by kernel_rfl) (by kernel_rfl) (by kernel_rfl) (fun _ _ _ h => h) rfl (fun _ hw => run_mv rfl rfl) ⟨k315, k314, k313⟩ ?_
        simp only [List.setIfInBounds_toArray, List.set_cons_zero, List.set_cons_succ]
        refine Sym.take_at 9 38 (.int .i64 (((n + m) / 256 : Nat) : Int)) rfl rfl (by kernel_rfl) (by kernel_rfl) (by kernel_rfl) (fun _ _ _ h => h) rfl (fun _ hw => run_shr8 (n + m) (by have h1 := Hn.out; have h2 := Hm.out; omega) rfl rfl) ⟨k315, k314, k313⟩ ?_
        simp only [List.setIfInBounds_toArray, List.set_cons_zero, List.set_cons_succ]
        refine Sym.take_at 10 39 (.int .u8 ((((n + m) / 256) % 256 : Nat) : Int)) rfl rfl (by kernel_rfl) (by kernel_rfl) (by kernel_rfl) (fun _ _ _ h => h) rfl (fun _ hw => run_intu8 ((n + m) / 256) rfl rfl) ⟨k315, k314, k313⟩ ?_
        simp only [List.setIfInBounds_toArray, List.set_cons_zero, List.set_cons_succ]
        refine Sym.take_at 11 40 (.agg (bs (n + m))) rfl rfl (by kernel_rfl) (by kernel_rfl) (by kernel_rfl) (fun _ _ _ h => h) rfl (fun _ hw => run_bd2 (n + m) (by have h1 := Hn.out; have h2 := Hm.out; omega) rfl rfl rfl) ⟨k315, k314, k313⟩ ?_
        simp only [List.setIfInBounds_toArray, List.set_cons_zero, List.set_cons_succ]
        refine one_ready 4 (by kernel_rfl) ?_
        refine opd rfl rfl (w_enter 33 (.agg (bs ((a ^ n % PP) * (a ^ m % PP) % PP))) rfl (run_Mul rfl rfl rfl) (mul_any (a ^ n % PP) (a ^ m % PP) (Nat.lt_trans (Nat.mod_lt _ (by decide)) pp_lt) (Nat.lt_trans (Nat.mod_lt _ (by decide)) pp_lt) _) (fun w317 hb318 => ?_))
        have k319 := k313.call hb318
        have k320 := k314.call hb318
        have k321 := k315.call hb318
        have hbel322 := bel_call hbel316 hb318
        refine ⟨⟨k321, k320, k319⟩, ?_⟩
        simp only [List.setIfInBounds_toArray, List.set_cons_zero, List.set_cons_succ]
        refine one_ready 12 (by kernel_rfl) ?_
        refine opd rfl rfl (w_enter 41 (.agg (bs (a ^ (n + m) % PP))) rfl (run_Power rfl rfl rfl) (power_any a (n + m) Ha.out (by have h1 := Hn.out; have h2 := Hm.out; unfold MM; omega) _) (fun w323 hb324 => ?_))
        have k325 := k319.call hb324
        have k326 := k320.call hb324
        have k327 := k321.call hb324
        have hbel328 := bel_call hbel322 hb324
        refine ⟨⟨k327, k326, k325⟩, ?_⟩
        simp only [List.setIfInBounds_toArray, List.set_cons_zero, List.set_cons_succ]
        refine Sym.take_at 13 42 (.bool true) rfl rfl (by kernel_rfl) (by kernel_rfl) (by kernel_rfl) (fun _ _ _ h => h) rfl (fun _ hw => run_eqN ((a ^ n % PP) * (a ^ m % PP) % PP) (a ^ (n + m) % PP) (Nat.lt_trans (Nat.mod_lt _ (by decide)) pp_lt) (Nat.lt_trans (Nat.mod_lt _ (by decide)) pp_lt) true (decide_eq_true F1) rfl rfl rfl) ⟨k327, k326, k325⟩ ?_
        simp only [List.setIfInBounds_toArray, List.set_cons_zero, List.set_cons_succ]
        refine Sym.take_at 14 43 (.bool true) rfl rfl (by kernel_rfl) (by kernel_rfl) (by kernel_rfl) (fun _ _ _ h => h) (wanted_none rfl) (fun _ hw => run_pick rfl rfl rfl) ⟨k327, k326, k325⟩ ?_
        simp only [List.setIfInBounds_toArray, List.set_cons_zero, List.set_cons_succ]
        refine Sym.take_at 15 44 (.bool true) rfl rfl (by kernel_rfl) (by kernel_rfl) (by kernel_rfl) (fun _ _ _ h => h) (wanted_none rfl) (fun _ hw => run_mv rfl rfl) ⟨k327, k326, k325⟩ ?_
        simp only [List.setIfInBounds_toArray, List.set_cons_zero, List.set_cons_succ]
        refine Sym.take_at 16 45 (.agg (bs (a ^ n % PP))) rfl rfl (by kernel_rfl) (by kernel_rfl) (by kernel_rfl) (fun _ _ _ h => h) rfl (fun _ hw => run_row rfl rfl (hw.1) Try.underlying23 rfl (by rw [bs_sz]; exact info_b)) ⟨k327, k326, k325⟩ ?_
        simp only [List.setIfInBounds_toArray, List.set_cons_zero, List.set_cons_succ]
        refine Sym.take_at 17 46 (.int .u8 (m : Int)) rfl rfl (by kernel_rfl) (by kernel_rfl) (by kernel_rfl) (fun _ _ _ h => h) rfl (fun _ hw => run_mv rfl rfl) ⟨k327, k326, k325⟩ ?_
        simp only [List.setIfInBounds_toArray, List.set_cons_zero, List.set_cons_succ]
        refine Sym.take_at 18 47 (.agg (bs m)) rfl rfl (by kernel_rfl) (by kernel_rfl) (by kernel_rfl) (fun _ _ _ h => h) rfl (fun _ hw => run_bd1 m Hm.out rfl rfl) ⟨k327, k326, k325⟩ ?_
        simp only [List.setIfInBounds_toArray, List.set_cons_zero, List.set_cons_succ]
        refine Sym.take_at 20 49 (.agg (bs a)) rfl rfl (by kernel_rfl) (by kernel_rfl) (by kernel_rfl) (fun _ _ _ h => h) rfl (fun _ hw => run_row rfl rfl (hw.2.2) Try.underlying23 rfl (by rw [bs_sz]; exact info_b)) ⟨k327, k326, k325⟩ ?_
        simp only [List.setIfInBounds_toArray, List.set_cons_zero, List.set_cons_succ]
        refine Sym.take_at 21 50 (.int .i64 ((n * m : Nat) : Int)) rfl rfl (by kernel_rfl) (by kernel_rfl) (by kernel_rfl) (fun _ _ _ h => h) rfl (fun _ hw => run_mv rfl rfl) ⟨k327, k326, k325⟩ ?_
        simp only [List.setIfInBounds_toArray, List.set_cons_zero, List.set_cons_succ]
        refine Sym.take_at 22 51 (.int .u8 (((n * m) % 256 : Nat) : Int)) rfl rfl (by kernel_rfl) (by kernel_rfl) (by kernel_rfl) (fun _ _ _ h => h) rfl (fun _ hw => run_intu8 (n * m) rfl rfl) ⟨k327, k326, k325⟩ ?_
        simp only [List.setIfInBounds_toArray, List.set_cons_zero, List.set_cons_succ]
        refine Sym.take_at 23 52 (.int .i64 ((n * m : Nat) : Int)) rfl rfl (by kernel_rfl) (by kernel_rfl) (by kernel_rfl) (fun _ _ _ h => h) rfl (fun _ hw => run_mv rfl rfl) ⟨k327, k326, k325⟩ ?_
        simp only [List.setIfInBounds_toArray, List.set_cons_zero, List.set_cons_succ]
        refine Sym.take_at 24 53 (.int .i64 (((n * m) / 256 : Nat) : Int)) rfl rfl (by kernel_rfl) (by kernel_rfl) (by kernel_rfl) (fun _ _ _ h => h) rfl (fun _ hw => run_shr8 (n * m) (by have := Nat.mul_lt_mul'' Hn.out Hm.out; omega) rfl rfl) ⟨k327, k326, k325⟩ ?_
        simp only [List.setIfInBounds_toArray, List.set_cons_zero, List.set_cons_succ]
        refine Sym.take_at 25 54 (.int .u8 ((((n * m) / 256) % 256 : Nat) : Int)) rfl rfl (by kernel_rfl) (by kernel_rfl) (by kernel_rfl) (fun _ _ _ h => h) rfl (fun _ hw => run_intu8 ((n * m) / 256) rfl rfl) ⟨k327, k326, k325⟩ ?_
        simp only [List.setIfInBounds_toArray, List.set_cons_zero, List.set_cons_succ]
        refine Sym.take_at 26 55 (.agg (bs (n * m))) rfl rfl (by kernel_rfl) (by kernel_rfl) (by kernel_rfl) (fun _ _ _ h => h) rfl (fun _ hw => run_bd2 (n * m) (by have := Nat.mul_lt_mul'' Hn.out Hm.out; omega) rfl rfl rfl) ⟨k327, k326, k325⟩ ?_
        simp only [List.setIfInBounds_toArray, List.set_cons_zero, List.set_cons_succ]
        refine one_ready 19 (by kernel_rfl) ?_
        refine opd rfl rfl (w_enter 48 (.agg (bs ((a ^ n % PP) ^ m % PP))) rfl (run_Power rfl rfl rfl) (power_any (a ^ n % PP) m (Nat.lt_trans (Nat.mod_lt _ (by decide)) pp_lt) (Nat.lt_trans Hm.out (by decide)) _) (fun w329 hb330 => ?_))
        have k331 := k325.call hb330
        have k332 := k326.call hb330
        have k333 := k327.call hb330
        have hbel334 := bel_call hbel328 hb330
        refine ⟨⟨k333, k332, k331⟩, ?_⟩
        simp only [List.setIfInBounds_toArray, List.set_cons_zero, List.set_cons_succ]
        refine one_ready 27 (by kernel_rfl) ?_
        refine opd rfl rfl (w_enter 56 (.agg (bs (a ^ (n * m) % PP))) rfl (run_Power rfl rfl rfl) (power_any a (n * m) Ha.out (by have := Nat.mul_lt_mul'' Hn.out Hm.out; unfold MM; omega) _) (fun w335 hb336 => ?_))
        have k337 := k331.call hb336
        have k338 := k332.call hb336
        have k339 := k333.call hb336
        have hbel340 := bel_call hbel334 hb336
        refine ⟨⟨k339, k338, k337⟩, ?_⟩
        simp only [List.setIfInBounds_toArray, List.set_cons_zero, List.set_cons_succ]
        refine Sym.take_at 28 57 (.bool true) rfl rfl (by kernel_rfl) (by kernel_rfl) (by kernel_rfl) (fun _ _ _ h => h) rfl (fun _ hw => run_eqN ((a ^ n % PP) ^ m % PP) (a ^ (n * m) % PP) (Nat.lt_trans (Nat.mod_lt _ (by decide)) pp_lt) (Nat.lt_trans (Nat.mod_lt _ (by decide)) pp_lt) true (decide_eq_true F2) rfl rfl rfl) ⟨k339, k338, k337⟩ ?_
        simp only [List.setIfInBounds_toArray, List.set_cons_zero, List.set_cons_succ]
        refine Sym.take_at 29 58 (.bool true) rfl rfl (by kernel_rfl) (by kernel_rfl) (by kernel_rfl) (fun _ _ _ h => h) (wanted_none rfl) (fun _ hw => run_pick rfl rfl rfl) ⟨k339, k338, k337⟩ ?_
        simp only [List.setIfInBounds_toArray, List.set_cons_zero, List.set_cons_succ]
        refine one_ready 30 (by kernel_rfl) ?_
        refine opd rfl (wanted_none rfl) (w_value 6 (.bool true) rfl (run_as rfl rfl) ⟨⟨k339, k338, k337⟩, ?_⟩)
        simp only [List.setIfInBounds_toArray, List.set_cons_zero, List.set_cons_succ]
        refine wpAnyH_done (by kernel_rfl) ?_ _
        go_step
        go_step
        go_wp2
        go_ret
        exact ⟨rfl, hbel340⟩
      · refine opd rfl (wanted_none rfl) (w_alloc (c := bs 0) (T := 23) 9 rfl (run_alN rfl) (fun w341 he342 => ?_))
        have hne344 : w.heap.size ≠ w273.heap.size := Nat.ne_of_lt k275.lt
        have k343 := k275.alloc he342
        have hne346 : w9.heap.size ≠ w273.heap.size := Nat.ne_of_lt k277.lt
        have k345 := k277.alloc he342
        have k347 := Blk.new he342
        have hg348 : w.heap.size ≤ w273.heap.size := hbel279.size
        have hbel349 := bel_alloc hbel279 he342
        refine ⟨k343, ?_⟩
        simp only [List.setIfInBounds_toArray, List.set_cons_zero, List.set_cons_succ]
        refine one_ready 7 (by kernel_rfl) ?_
        refine opd rfl (wanted_none rfl) (w_enter 28 (.agg (bs (a ^ m % PP))) rfl (run_Power rfl rfl rfl) (power_any a m Ha.out (Nat.lt_trans Hm.out (by decide)) _) (fun w350 hb351 => ?_))
        have k352 := k343.call hb351
        have k353 := k345.call hb351
        have k354 := k347.call hb351
        have hbel355 := bel_call hbel349 hb351
        refine ⟨k352, ?_⟩
        simp only [List.setIfInBounds_toArray, List.set_cons_zero, List.set_cons_succ]
        refine one_ready 10 (by kernel_rfl) ?_
        refine opd rfl (wanted_none rfl) (w_store 23 _ _ (w273.heap.size) (bs (a ^ n % PP)) rfl rfl rfl rfl k354 (by rw [bs_sz]; exact info_b) ((bs_sz _).trans (bs_sz _).symm) (bs_one _) (fun w356 he357 => ?_))
        have k358 := k352.other hne344 he357
        have k359 := k353.other hne346 he357
        have k360 := k354.set he357
        have hbel361 := bel_set hbel355 hg348 he357
        refine ⟨k358, ?_⟩
        refine one_ready 11 (by kernel_rfl) ?_
        refine opd rfl (wanted_none rfl) (w_store 23 _ _ (w9.heap.size) (bs (a ^ m % PP)) rfl rfl rfl rfl k359 (by rw [bs_sz]; exact info_b) ((bs_sz _).trans (bs_sz _).symm) (bs_one _) (fun w362 he363 => ?_))
        have k364 := k358.other hne276 he363
        have k365 := k360.other hne346.symm he363
        have k366 := k359.set he363
        have hbel367 := bel_set hbel361 hg278 he363
        refine ⟨k364, ?_⟩
        refine wpAnyH_done (by kernel_rfl) ?_ _
        go_step
        go_step
        go_step
        have k368 := k364.drew
        have k369 := k366.drew
        have k370 := k365.drew
        have hbel371 := hbel367.drew
        refine wp_region_held_drew (S := fun w' => Blk w' (w273.heap.size) (bs (a ^ n % PP)) 23 ∧ Blk w' (w9.heap.size) (bs (a ^ m % PP)) 23 ∧ Blk w' (w.heap.size) (bs a) 23) (by kernel_rfl) ⟨k370, k369, k368⟩ (fun _ => ?_)
        generalize w362.drew = wd372 at *
        refine one_ready 0 (by kernel_rfl) ?_
        refine opd rfl (wanted_none rfl) (w_enter 29 (.bool true) rfl (run_awake rfl) (awake_any _) (fun w373 hb374 => ?_))
        have k375 := k368.call hb374
        have k376 := k369.call hb374
        have k377 := k370.call hb374
        have hbel378 := bel_call hbel371 hb374
        refine ⟨⟨k377, k376, k375⟩, ?_⟩
        simp only [List.setIfInBounds_toArray, List.set_cons_zero, List.set_cons_succ]
        refine Sym.take_at 1 30 (.bool true) rfl rfl (by kernel_rfl) (by kernel_rfl) (by kernel_rfl) (fun _ _ _ h => h) (wanted_none rfl) (fun _ hw => run_mv rfl rfl) ⟨k377, k376, k375⟩ ?_
        simp only [List.setIfInBounds_toArray, List.set_cons_zero, List.set_cons_succ]
        refine Sym.take_at 2 31 (.agg (bs (a ^ n % PP))) rfl rfl (by kernel_rfl) (by kernel_rfl) (by kernel_rfl) (fun _ _ _ h => h) rfl (fun _ hw => run_row rfl rfl (hw.1) Try.underlying23 rfl (by rw [bs_sz]; exact info_b)) ⟨k377, k376, k375⟩ ?_
        simp only [List.setIfInBounds_toArray, List.set_cons_zero, List.set_cons_succ]
        refine Sym.take_at 3 32 (.agg (bs (a ^ m % PP))) rfl rfl (by kernel_rfl) (by kernel_rfl) (by kernel_rfl) (fun _ _ _ h => h) rfl (fun _ hw => run_row rfl rfl (hw.2.1) Try.underlying23 rfl (by rw [bs_sz]; exact info_b)) ⟨k377, k376, k375⟩ ?_
        simp only [List.setIfInBounds_toArray, List.set_cons_zero, List.set_cons_succ]
        refine Sym.take_at 5 34 (.agg (bs a)) rfl rfl (by kernel_rfl) (by kernel_rfl) (by kernel_rfl) (fun _ _ _ h => h) rfl (fun _ hw => run_row rfl rfl (hw.2.2) Try.underlying23 rfl (by rw [bs_sz]; exact info_b)) ⟨k377, k376, k375⟩ ?_
        simp only [List.setIfInBounds_toArray, List.set_cons_zero, List.set_cons_succ]
        refine Sym.take_at 6 35 (.int .i64 ((n + m : Nat) : Int)) rfl rfl (by kernel_rfl) (by kernel_rfl) (by kernel_rfl) (fun _ _ _ h => h) rfl (fun _ hw => run_mv rfl rfl) ⟨k377, k376, k375⟩ ?_
        simp only [List.setIfInBounds_toArray, List.set_cons_zero, List.set_cons_succ]
        refine Sym.take_at 7 36 (.int .u8 (((n + m) % 256 : Nat) : Int)) rfl rfl (by kernel_rfl) (by kernel_rfl) (by kernel_rfl) (fun _ _ _ h => h) rfl (fun _ hw => run_intu8 (n + m) rfl rfl) ⟨k377, k376, k375⟩ ?_
        simp only [List.setIfInBounds_toArray, List.set_cons_zero, List.set_cons_succ]
        refine Sym.take_at 8 37 (.int .i64 ((n + m : Nat) : Int)) rfl rfl (by kernel_rfl) (by kernel_rfl) (by kernel_rfl) (fun _ _ _ h => h) rfl (fun _ hw => run_mv rfl rfl) ⟨k377, k376, k375⟩ ?_
        simp only [List.setIfInBounds_toArray, List.set_cons_zero, List.set_cons_succ]
        refine Sym.take_at 9 38 (.int .i64 (((n + m) / 256 : Nat) : Int)) rfl rfl (by kernel_rfl) (by kernel_rfl) (by kernel_rfl) (fun _ _ _ h => h) rfl (fun _ hw => run_shr8 (n + m) (by have h1 := Hn.out; have h2 := Hm.out; omega) rfl rfl) ⟨k377, k376, k375⟩ ?_
        simp only [List.setIfInBounds_toArray, List.set_cons_zero, List.set_cons_succ]
        refine Sym.take_at 10 39 (.int .u8 ((((n + m) / 256) % 256 : Nat) : Int)) rfl rfl (by kernel_rfl) (by kernel_rfl) (by kernel_rfl) (fun _ _ _ h => h) rfl (fun _ hw => run_intu8 ((n + m) / 256) rfl rfl) ⟨k377, k376, k375⟩ ?_
        simp only [List.setIfInBounds_toArray, List.set_cons_zero, List.set_cons_succ]
        refine Sym.take_at 11 40 (.agg (bs (n + m))) rfl rfl (by kernel_rfl) (by kernel_rfl) (by kernel_rfl) (fun _ _ _ h => h) rfl (fun _ hw => run_bd2 (n + m) (by have h1 := Hn.out; have h2 := Hm.out; omega) rfl rfl rfl) ⟨k377, k376, k375⟩ ?_
        simp only [List.setIfInBounds_toArray, List.set_cons_zero, List.set_cons_succ]
        refine one_ready 4 (by kernel_rfl) ?_
        refine opd rfl rfl (w_enter 33 (.agg (bs ((a ^ n % PP) * (a ^ m % PP) % PP))) rfl (run_Mul rfl rfl rfl) (mul_any (a ^ n % PP) (a ^ m % PP) (Nat.lt_trans (Nat.mod_lt _ (by decide)) pp_lt) (Nat.lt_trans (Nat.mod_lt _ (by decide)) pp_lt) _) (fun w379 hb380 => ?_))
        have k381 := k375.call hb380
        have k382 := k376.call hb380
        have k383 := k377.call hb380
        have hbel384 := bel_call hbel378 hb380
        refine ⟨⟨k383, k382, k381⟩, ?_⟩
        simp only [List.setIfInBounds_toArray, List.set_cons_zero, List.set_cons_succ]
        refine one_ready 12 (by kernel_rfl) ?_
        refine opd rfl rfl (w_enter 41 (.agg (bs (a ^ (n + m) % PP))) rfl (run_Power rfl rfl rfl) (power_any a (n + m) Ha.out (by have h1 := Hn.out; have h2 := Hm.out; unfold MM; omega) _) (fun w385 hb386 => ?_))
        have k387 := k381.call hb386
        have k388 := k382.call hb386
        have k389 := k383.call hb386
        have hbel390 := bel_call hbel384 hb386
        refine ⟨⟨k389, k388, k387⟩, ?_⟩
        simp only [List.setIfInBounds_toArray, List.set_cons_zero, List.set_cons_succ]
        refine Sym.take_at 13 42 (.bool true) rfl rfl (by kernel_rfl) (by kernel_rfl) (by kernel_rfl) (fun _ _ _ h => h) rfl (fun _ hw => run_eqN ((a ^ n % PP) * (a ^ m % PP) % PP) (a ^ (n + m) % PP) (Nat.lt_trans (Nat.mod_lt _ (by decide)) pp_lt) (Nat.lt_trans (Nat.mod_lt _ (by decide)) pp_lt) true (decide_eq_true F1) rfl rfl rfl) ⟨k389, k388, k387⟩ ?_
        simp only [List.setIfInBounds_toArray, List.set_cons_zero, List.set_cons_succ]
        refine Sym.take_at 14 43 (.bool true) rfl rfl (by kernel_rfl) (by kernel_rfl) (by kernel_rfl) (fun _ _ _ h => h) (wanted_none rfl) (fun _ hw => run_pick rfl rfl rfl) ⟨k389, k388, k387⟩ ?_
        simp only [List.setIfInBounds_toArray, List.set_cons_zero, List.set_cons_succ]
        refine Sym.take_at 15 44 (.bool true) rfl rfl (by kernel_rfl) (by kernel_rfl) (by kernel_rfl) (fun _ _ _ h => h) (wanted_none rfl) (fun _ hw => run_mv rfl rfl) ⟨k389, k388, k387⟩ ?_
        simp only [List.setIfInBounds_toArray, List.set_cons_zero, List.set_cons_succ]
        refine Sym.take_at 16 45 (.agg (bs (a ^ n % PP))) rfl rfl (by kernel_rfl) (by kernel_rfl) (by kernel_rfl) (fun _ _ _ h => h) rfl (fun _ hw => run_row rfl rfl (hw.1) Try.underlying23 rfl (by rw [bs_sz]; exact info_b)) ⟨k389, k388, k387⟩ ?_
        simp only [List.setIfInBounds_toArray, List.set_cons_zero, List.set_cons_succ]
        refine Sym.take_at 17 46 (.int .u8 (m : Int)) rfl rfl (by kernel_rfl) (by kernel_rfl) (by kernel_rfl) (fun _ _ _ h => h) rfl (fun _ hw => run_mv rfl rfl) ⟨k389, k388, k387⟩ ?_
        simp only [List.setIfInBounds_toArray, List.set_cons_zero, List.set_cons_succ]
        refine Sym.take_at 18 47 (.agg (bs m)) rfl rfl (by kernel_rfl) (by kernel_rfl) (by kernel_rfl) (fun _ _ _ h => h) rfl (fun _ hw => run_bd1 m Hm.out rfl rfl) ⟨k389, k388, k387⟩ ?_
        simp only [List.setIfInBounds_toArray, List.set_cons_zero, List.set_cons_succ]
        refine Sym.take_at 20 49 (.agg (bs a)) rfl rfl (by kernel_rfl) (by kernel_rfl) (by kernel_rfl) (fun _ _ _ h => h) rfl (fun _ hw => run_row rfl rfl (hw.2.2) Try.underlying23 rfl (by rw [bs_sz]; exact info_b)) ⟨k389, k388, k387⟩ ?_
        simp only [List.setIfInBounds_toArray, List.set_cons_zero, List.set_cons_succ]
        refine Sym.take_at 21 50 (.int .i64 ((n * m : Nat) : Int)) rfl rfl (by kernel_rfl) (by kernel_rfl) (by kernel_rfl) (fun _ _ _ h => h) rfl (fun _ hw => run_mv rfl rfl) ⟨k389, k388, k387⟩ ?_
        simp only [List.setIfInBounds_toArray, List.set_cons_zero, List.set_cons_succ]
        refine Sym.take_at 22 51 (.int .u8 (((n * m) % 256 : Nat) : Int)) rfl rfl (by kernel_rfl) (by kernel_rfl) (by kernel_rfl) (fun _ _ _ h => h) rfl (fun _ hw => run_intu8 (n * m) rfl rfl) ⟨k389, k388, k387⟩ ?_
        simp only [List.setIfInBounds_toArray, List.set_cons_zero, List.set_cons_succ]
        refine Sym.take_at 23 52 (.int .i64 ((n * m : Nat) : Int)) rfl rfl (by kernel_rfl) (by kernel_rfl) (by kernel_rfl) (fun _ _ _ h => h) rfl (fun _ hw => run_mv rfl rfl) ⟨k389, k388, k387⟩ ?_
        simp only [List.setIfInBounds_toArray, List.set_cons_zero, List.set_cons_succ]
        refine Sym.take_at 24 53 (.int .i64 (((n * m) / 256 : Nat) : Int)) rfl rfl (by kernel_rfl) (by kernel_rfl) (by kernel_rfl) (fun _ _ _ h => h) rfl (fun _ hw => run_shr8 (n * m) (by have := Nat.mul_lt_mul'' Hn.out Hm.out; omega) rfl rfl) ⟨k389, k388, k387⟩ ?_
        simp only [List.setIfInBounds_toArray, List.set_cons_zero, List.set_cons_succ]
        refine Sym.take_at 25 54 (.int .u8 ((((n * m) / 256) % 256 : Nat) : Int)) rfl rfl (by kernel_rfl) (by kernel_rfl) (by kernel_rfl) (fun _ _ _ h => h) rfl (fun _ hw => run_intu8 ((n * m) / 256) rfl rfl) ⟨k389, k388, k387⟩ ?_
        simp only [List.setIfInBounds_toArray, List.set_cons_zero, List.set_cons_succ]
        refine Sym.take_at 26 55 (.agg (bs (n * m))) rfl rfl (by kernel_rfl) (by kernel_rfl) (by kernel_rfl) (fun _ _ _ h => h) rfl (fun _ hw => run_bd2 (n * m) (by have := Nat.mul_lt_mul'' Hn.out Hm.out; omega) rfl rfl rfl) ⟨k389, k388, k387⟩ ?_
        simp only [List.setIfInBounds_toArray, List.set_cons_zero, List.set_cons_succ]
        refine one_ready 19 (by kernel_rfl) ?_
        refine opd rfl rfl (w_enter 48 (.agg (bs ((a ^ n % PP) ^ m % PP))) rfl (run_Power rfl rfl rfl) (power_any (a ^ n % PP) m (Nat.lt_trans (Nat.mod_lt _ (by decide)) pp_lt) (Nat.lt_trans Hm.out (by decide)) _) (fun w391 hb392 => ?_))
        have k393 := k387.call hb392
        have k394 := k388.call hb392
        have k395 := k389.call hb392
        have hbel396 := bel_call hbel390 hb392
        refine ⟨⟨k395, k394, k393⟩, ?_⟩
        simp only [List.setIfInBounds_toArray, List.set_cons_zero, List.set_cons_succ]
        refine one_ready 27 (by kernel_rfl) ?_
        refine opd rfl rfl (w_enter 56 (.agg (bs (a ^ (n * m) % PP))) rfl (run_Power rfl rfl rfl) (power_any a (n * m) Ha.out (by have := Nat.mul_lt_mul'' Hn.out Hm.out; unfold MM; omega) _) (fun w397 hb398 => ?_))
        have k399 := k393.call hb398
        have k400 := k394.call hb398
        have k401 := k395.call hb398
        have hbel402 := bel_call hbel396 hb398
        refine ⟨⟨k401, k400, k399⟩, ?_⟩
        simp only [List.setIfInBounds_toArray, List.set_cons_zero, List.set_cons_succ]
        refine Sym.take_at 28 57 (.bool true) rfl rfl (by kernel_rfl) (by kernel_rfl) (by kernel_rfl) (fun _ _ _ h => h) rfl (fun _ hw => run_eqN ((a ^ n % PP) ^ m % PP) (a ^ (n * m) % PP) (Nat.lt_trans (Nat.mod_lt _ (by decide)) pp_lt) (Nat.lt_trans (Nat.mod_lt _ (by decide)) pp_lt) true (decide_eq_true F2) rfl rfl rfl) ⟨k401, k400, k399⟩ ?_
        simp only [List.setIfInBounds_toArray, List.set_cons_zero, List.set_cons_succ]
        refine Sym.take_at 29 58 (.bool true) rfl rfl (by kernel_rfl) (by kernel_rfl) (by kernel_rfl) (fun _ _ _ h => h) (wanted_none rfl) (fun _ hw => run_pick rfl rfl rfl) ⟨k401, k400, k399⟩ ?_
        simp only [List.setIfInBounds_toArray, List.set_cons_zero, List.set_cons_succ]
        refine one_ready 30 (by kernel_rfl) ?_
        refine opd rfl (wanted_none rfl) (w_value 6 (.bool true) rfl (run_as rfl rfl) ⟨⟨k401, k400, k399⟩, ?_⟩)
        simp only [List.setIfInBounds_toArray, List.set_cons_zero, List.set_cons_succ]
        refine wpAnyH_done (by kernel_rfl) ?_ _
        go_step
        go_step
        go_wp2
        go_ret
        exact ⟨rfl, hbel402⟩
  · refine opd rfl (wanted_none rfl) (w_alloc (c := bs 0) (T := 23) 9 rfl (run_alN rfl) (fun w403 he404 => ?_))
    have hne406 : w.heap.size ≠ wd8.heap.size := Nat.ne_of_lt k6.lt
    have k405 := k6.alloc he404
    have k407 := Blk.new he404
    have hg408 : w.heap.size ≤ wd8.heap.size := hbel7.size
    have hbel409 := bel_alloc hbel7 he404
    refine ⟨k405, ?_⟩
    simp only [List.setIfInBounds_toArray, List.set_cons_zero, List.set_cons_succ]
    refine two_ready 3 9 (by kernel_rfl) ?_ ?_
    · refine opd rfl (wanted_none rfl) (w_enter 24 (.agg (bs (a ^ n % PP))) rfl (run_Power rfl rfl rfl) (power_any a n Ha.out (Nat.lt_trans Hn.out (by decide)) _) (fun w410 hb411 => ?_))
      have k412 := k405.call hb411
      have k413 := k407.call hb411
      have hbel414 := bel_call hbel409 hb411
      refine ⟨k412, ?_⟩
      simp only [List.setIfInBounds_toArray, List.set_cons_zero, List.set_cons_succ]
      refine two_ready 7 9 (by kernel_rfl) ?_ ?_
      · refine opd rfl (wanted_none rfl) (w_enter 28 (.agg (bs (a ^ m % PP))) rfl (run_Power rfl rfl rfl) (power_any a m Ha.out (Nat.lt_trans Hm.out (by decide)) _) (fun w415 hb416 => ?_))
        have k417 := k412.call hb416
        have k418 := k413.call hb416
        have hbel419 := bel_call hbel414 hb416
        refine ⟨k417, ?_⟩
        simp only [List.setIfInBounds_toArray, List.set_cons_zero, List.set_cons_succ]
        refine one_ready 9 (by kernel_rfl) ?_
        refine opd rfl (wanted_none rfl) (w_alloc (c := bs 0) (T := 23) 10 rfl (run_alN rfl) (fun w420 he421 => ?_))
        have hne423 : w.heap.size ≠ w415.heap.size := Nat.ne_of_lt k417.lt
        have k422 := k417.alloc he421
        have hne425 : wd8.heap.size ≠ w415.heap.size := Nat.ne_of_lt k418.lt
        have k424 := k418.alloc he421
        have k426 := Blk.new he421
        have hg427 : w.heap.size ≤ w415.heap.size := hbel419.size
        have hbel428 := bel_alloc hbel419 he421
        refine ⟨k422, ?_⟩
        simp only [List.setIfInBounds_toArray, List.set_cons_zero, List.set_cons_succ]
        refine one_ready 10 (by kernel_rfl) ?_
        refine opd rfl (wanted_none rfl) (w_store 23 _ _ (wd8.heap.size) (bs (a ^ n % PP)) rfl rfl rfl rfl k424 (by rw [bs_sz]; exact info_b) ((bs_sz _).trans (bs_sz _).symm) (bs_one _) (fun w429 he430 => ?_))
        have k431 := k422.other hne406 he430
        have k432 := k426.other hne425.symm he430
        have k433 := k424.set he430
        have hbel434 := bel_set hbel428 hg408 he430
        refine ⟨k431, ?_⟩
        refine one_ready 11 (by kernel_rfl) ?_
        refine opd rfl (wanted_none rfl) (w_store 23 _ _ (w415.heap.size) (bs (a ^ m % PP)) rfl rfl rfl rfl k432 (by rw [bs_sz]; exact info_b) ((bs_sz _).trans (bs_sz _).symm) (bs_one _) (fun w435 he436 => ?_))
        have k437 := k431.other hne423 he436
        have k438 := k433.other hne425 he436
        have k439 := k432.set he436
        have hbel440 := bel_set hbel434 hg427 he436
        refine ⟨k437, ?_⟩
        refine wpAnyH_done (by kernel_rfl) ?_ _
        go_step
        go_step
        go_step
        have k441 := k437.drew
        have k442 := k438.drew
        have k443 := k439.drew
        have hbel444 := hbel440.drew
        refine wp_region_held_drew (S := fun w' => Blk w' (wd8.heap.size) (bs (a ^ n % PP)) 23 ∧ Blk w' (w415.heap.size) (bs (a ^ m % PP)) 23 ∧ Blk w' (w.heap.size) (bs a) 23) (by kernel_rfl) ⟨k442, k443, k441⟩ (fun _ => ?_)
        generalize w435.drew = wd445 at *
        refine one_ready 0 (by kernel_rfl) ?_
        refine opd rfl (wanted_none rfl) (w_enter 29 (.bool true) rfl (run_awake rfl) (awake_any _) (fun w446 hb447 => ?_))
        have k448 := k441.call hb447
        have k449 := k442.call hb447
        have k450 := k443.call hb447
        have hbel451 := bel_call hbel444 hb447
        refine ⟨⟨k449, k450, k448⟩, ?_⟩
        simp only [List.setIfInBounds_toArray, List.set_cons_zero, List.set_cons_succ]
        refine Sym.take_at 1 30 (.bool true) rfl rfl (by kernel_rfl) (by kernel_rfl) (by kernel_rfl) (fun _ _ _ h => h) (wanted_none rfl) (fun _ hw => run_mv rfl rfl) ⟨k449, k450, k448⟩ ?_
        simp only [List.setIfInBounds_toArray, List.set_cons_zero, List.set_cons_succ]
        refine Sym.take_at 2 31 (.agg (bs (a ^ n % PP))) rfl rfl (by kernel_rfl) (by kernel_rfl) (by kernel_rfl) (fun _ _ _ h => h) rfl (fun _ hw => run_row rfl rfl (hw.1) Try.underlying23 rfl (by rw [bs_sz]; exact info_b)) ⟨k449, k450, k448⟩ ?_
        simp only [List.setIfInBounds_toArray, List.set_cons_zero, List.set_cons_succ]
        refine Sym.take_at 3 32 (.agg (bs (a ^ m % PP))) rfl rfl (by kernel_rfl) (by kernel_rfl) (by kernel_rfl) (fun _ _ _ h => h) rfl (fun _ hw => run_row rfl rfl (hw.2.1) Try.underlying23 rfl (by rw [bs_sz]; exact info_b)) ⟨k449, k450, k448⟩ ?_
        simp only [List.setIfInBounds_toArray, List.set_cons_zero, List.set_cons_succ]
        refine Sym.take_at 5 34 (.agg (bs a)) rfl rfl (by kernel_rfl) (by kernel_rfl) (by kernel_rfl) (fun _ _ _ h => h) rfl (fun _ hw => run_row rfl rfl (hw.2.2) Try.underlying23 rfl (by rw [bs_sz]; exact info_b)) ⟨k449, k450, k448⟩ ?_
        simp only [List.setIfInBounds_toArray, List.set_cons_zero, List.set_cons_succ]
        refine Sym.take_at 6 35 (.int .i64 ((n + m : Nat) : Int)) rfl rfl (by kernel_rfl) (by kernel_rfl) (by kernel_rfl) (fun _ _ _ h => h) rfl (fun _ hw => run_mv rfl rfl) ⟨k449, k450, k448⟩ ?_
        simp only [List.setIfInBounds_toArray, List.set_cons_zero, List.set_cons_succ]
        refine Sym.take_at 7 36 (.int .u8 (((n + m) % 256 : Nat) : Int)) rfl rfl (by kernel_rfl) (by kernel_rfl) (by kernel_rfl) (fun _ _ _ h => h) rfl (fun _ hw => run_intu8 (n + m) rfl rfl) ⟨k449, k450, k448⟩ ?_
        simp only [List.setIfInBounds_toArray, List.set_cons_zero, List.set_cons_succ]
        refine Sym.take_at 8 37 (.int .i64 ((n + m : Nat) : Int)) rfl rfl (by kernel_rfl) (by kernel_rfl) (by kernel_rfl) (fun _ _ _ h => h) rfl (fun _ hw => run_mv rfl rfl) ⟨k449, k450, k448⟩ ?_
        simp only [List.setIfInBounds_toArray, List.set_cons_zero, List.set_cons_succ]
        refine Sym.take_at 9 38 (.int .i64 (((n + m) / 256 : Nat) : Int)) rfl rfl (by kernel_rfl) (by kernel_rfl) (by kernel_rfl) (fun _ _ _ h => h) rfl (fun _ hw => run_shr8 (n + m) (by have h1 := Hn.out; have h2 := Hm.out; omega) rfl rfl) ⟨k449, k450, k448⟩ ?_
        simp only [List.setIfInBounds_toArray, List.set_cons_zero, List.set_cons_succ]
        refine Sym.take_at 10 39 (.int .u8 ((((n + m) / 256) % 256 : Nat) : Int)) rfl rfl (by kernel_rfl) (by kernel_rfl) (by kernel_rfl) (fun _ _ _ h => h) rfl (fun _ hw => run_intu8 ((n + m) / 256) rfl rfl) ⟨k449, k450, k448⟩ ?_
        simp only [List.setIfInBounds_toArray, List.set_cons_zero, List.set_cons_succ]
        refine Sym.take_at 11 40 (.agg (bs (n + m))) rfl rfl (by kernel_rfl) (by kernel_rfl) (by kernel_rfl) (fun _ _ _ h => h) rfl (fun _ hw => run_bd2 (n + m) (by have h1 := Hn.out; have h2 := Hm.out; omega) rfl rfl rfl) ⟨k449, k450, k448⟩ ?_
        simp only [List.setIfInBounds_toArray, List.set_cons_zero, List.set_cons_succ]
        refine one_ready 4 (by kernel_rfl) ?_
        refine opd rfl rfl (w_enter 33 (.agg (bs ((a ^ n % PP) * (a ^ m % PP) % PP))) rfl (run_Mul rfl rfl rfl) (mul_any (a ^ n % PP) (a ^ m % PP) (Nat.lt_trans (Nat.mod_lt _ (by decide)) pp_lt) (Nat.lt_trans (Nat.mod_lt _ (by decide)) pp_lt) _) (fun w452 hb453 => ?_))
        have k454 := k448.call hb453
        have k455 := k449.call hb453
        have k456 := k450.call hb453
        have hbel457 := bel_call hbel451 hb453
        refine ⟨⟨k455, k456, k454⟩, ?_⟩
        simp only [List.setIfInBounds_toArray, List.set_cons_zero, List.set_cons_succ]
        refine one_ready 12 (by kernel_rfl) ?_
        refine opd rfl rfl (w_enter 41 (.agg (bs (a ^ (n + m) % PP))) rfl (run_Power rfl rfl rfl) (power_any a (n + m) Ha.out (by have h1 := Hn.out; have h2 := Hm.out; unfold MM; omega) _) (fun w458 hb459 => ?_))
        have k460 := k454.call hb459
        have k461 := k455.call hb459
        have k462 := k456.call hb459
        have hbel463 := bel_call hbel457 hb459
        refine ⟨⟨k461, k462, k460⟩, ?_⟩
        simp only [List.setIfInBounds_toArray, List.set_cons_zero, List.set_cons_succ]
        refine Sym.take_at 13 42 (.bool true) rfl rfl (by kernel_rfl) (by kernel_rfl) (by kernel_rfl) (fun _ _ _ h => h) rfl (fun _ hw => run_eqN ((a ^ n % PP) * (a ^ m % PP) % PP) (a ^ (n + m) % PP) (Nat.lt_trans (Nat.mod_lt _ (by decide)) pp_lt) (Nat.lt_trans (Nat.mod_lt _ (by decide)) pp_lt) true (decide_eq_true F1) rfl rfl rfl) ⟨k461, k462, k460⟩ ?_
        simp only [List.setIfInBounds_toArray, List.set_cons_zero, List.set_cons_succ]
        refine Sym.take_at 14 43 (.bool true) rfl rfl (by kernel_rfl) (by kernel_rfl) (by kernel_rfl) (fun _ _ _ h => h) (wanted_none rfl) (fun _ hw => run_pick rfl rfl rfl) ⟨k461, k462, k460⟩ ?_
        simp only [List.setIfInBounds_toArray, List.set_cons_zero, List.set_cons_succ]
        refine Sym.take_at 15 44 (.bool true) rfl rfl (by kernel_rfl) (by kernel_rfl) (by kernel_rfl) (fun _ _ _ h => h) (wanted_none rfl) (fun _ hw => run_mv rfl rfl) ⟨k461, k462, k460⟩ ?_
        simp only [List.setIfInBounds_toArray, List.set_cons_zero, List.set_cons_succ]
        refine Sym.take_at 16 45 (.agg (bs (a ^ n % PP))) rfl rfl (by kernel_rfl) (by kernel_rfl) (by kernel_rfl) (fun _ _ _ h => h) rfl (fun _ hw => run_row rfl rfl (hw.1) Try.underlying23 rfl (by rw [bs_sz]; exact info_b)) ⟨k461, k462, k460⟩ ?_
        simp only [List.setIfInBounds_toArray, List.set_cons_zero, List.set_cons_succ]
        refine Sym.take_at 17 46 (.int .u8 (m : Int)) rfl rfl (by kernel_rfl) (by kernel_rfl) (by kernel_rfl) (fun _ _ _ h => h) rfl (fun _ hw => run_mv rfl rfl) ⟨k461, k462, k460⟩ ?_
        simp only [List.setIfInBounds_toArray, List.set_cons_zero, List.set_cons_succ]
        refine Sym.take_at 18 47 (.agg (bs m)) rfl rfl (by kernel_rfl) (by kernel_rfl) (by kernel_rfl) (fun _ _ _ h => h) rfl (fun _ hw => run_bd1 m Hm.out rfl rfl) ⟨k461, k462, k460⟩ ?_
        simp only [List.setIfInBounds_toArray, List.set_cons_zero, List.set_cons_succ]
        refine Sym.take_at 20 49 (.agg (bs a)) rfl rfl (by kernel_rfl) (by kernel_rfl) (by kernel_rfl) (fun _ _ _ h => h) rfl (fun _ hw => run_row rfl rfl (hw.2.2) Try.underlying23 rfl (by rw [bs_sz]; exact info_b)) ⟨k461, k462, k460⟩ ?_
        simp only [List.setIfInBounds_toArray, List.set_cons_zero, List.set_cons_succ]
        refine Sym.take_at 21 50 (.int .i64 ((n * m : Nat) : Int)) rfl rfl (by kernel_rfl) (by kernel_rfl) (by kernel_rfl) (fun _ _ _ h => h) rfl (fun _ hw => run_mv rfl rfl) ⟨k461, k462, k460⟩ ?_
        simp only [List.setIfInBounds_toArray, List.set_cons_zero, List.set_cons_succ]
        refine Sym.take_at 22 51 (.int .u8 (((n * m) % 256 : Nat) : Int)) rfl rfl (by kernel_rfl) (by kernel_rfl) (by kernel_rfl) (fun _ _ _ h => h) rfl (fun _ hw => run_intu8 (n * m) rfl rfl) ⟨k461, k462, k460⟩ ?_
        simp only [List.setIfInBounds_toArray, List.set_cons_zero, List.set_cons_succ]
        refine Sym.take_at 23 52 (.int .i64 ((n * m : Nat) : Int)) rfl rfl (by kernel_rfl) (by kernel_rfl) (by kernel_rfl) (fun _ _ _ h => h) rfl (fun _ hw => run_mv rfl rfl) ⟨k461, k462, k460⟩ ?_
        simp only [List.setIfInBounds_toArray, List.set_cons_zero, List.set_cons_succ]
        refine Sym.take_at 24 53 (.int .i64 (((n * m) / 256 : Nat) : Int)) rfl rfl (by kernel_rfl) (by kernel_rfl) (by kernel_rfl) (fun _ _ _ h => h) rfl (fun _ hw => run_shr8 (n * m) (by have := Nat.mul_lt_mul'' Hn.out Hm.out; omega) rfl rfl) ⟨k461, k462, k460⟩ ?_
        simp only [List.setIfInBounds_toArray, List.set_cons_zero, List.set_cons_succ]
        refine Sym.take_at 25 54 (.int .u8 ((((n * m) / 256) % 256 : Nat) : Int)) rfl rfl (by kernel_rfl) (by kernel_rfl) (by kernel_rfl) (fun _ _ _ h => h) rfl (fun _ hw => run_intu8 ((n * m) / 256) rfl rfl) ⟨k461, k462, k460⟩ ?_
        simp only [List.setIfInBounds_toArray, List.set_cons_zero, List.set_cons_succ]
        refine Sym.take_at 26 55 (.agg (bs (n * m))) rfl rfl (by kernel_rfl) (by kernel_rfl) (by kernel_rfl) (fun _ _ _ h => h) rfl (fun _ hw => run_bd2 (n * m) (by have := Nat.mul_lt_mul'' Hn.out Hm.out; omega) rfl rfl rfl) ⟨k461, k462, k460⟩ ?_
        simp only [List.setIfInBounds_toArray, List.set_cons_zero, List.set_cons_succ]
        refine one_ready 19 (by kernel_rfl) ?_
        refine opd rfl rfl (w_enter 48 (.agg (bs ((a ^ n % PP) ^ m % PP))) rfl (run_Power rfl rfl rfl) (power_any (a ^ n % PP) m (Nat.lt_trans (Nat.mod_lt _ (by decide)) pp_lt) (Nat.lt_trans Hm.out (by decide)) _) (fun w464 hb465 => ?_))
        have k466 := k460.call hb465
        have k467 := k461.call hb465
        have k468 := k462.call hb465
        have hbel469 := bel_call hbel463 hb465
        refine ⟨⟨k467, k468, k466⟩, ?_⟩
        simp only [List.setIfInBounds_toArray, List.set_cons_zero, List.set_cons_succ]
        refine one_ready 27 (by kernel_rfl) ?_
        refine opd rfl rfl (w_enter 56 (.agg (bs (a ^ (n * m) % PP))) rfl (run_Power rfl rfl rfl) (power_any a (n * m) Ha.out (by have := Nat.mul_lt_mul'' Hn.out Hm.out; unfold MM; omega) _) (fun w470 hb471 => ?_))
        have k472 := k466.call hb471
        have k473 := k467.call hb471
        have k474 := k468.call hb471
        have hbel475 := bel_call hbel469 hb471
        refine ⟨⟨k473, k474, k472⟩, ?_⟩
        simp only [List.setIfInBounds_toArray, List.set_cons_zero, List.set_cons_succ]
        refine Sym.take_at 28 57 (.bool true) rfl rfl (by kernel_rfl) (by kernel_rfl) (by kernel_rfl) (fun _ _ _ h => h) rfl (fun _ hw => run_eqN ((a ^ n % PP) ^ m % PP) (a ^ (n * m) % PP) (Nat.lt_trans (Nat.mod_lt _ (by decide)) pp_lt) (Nat.lt_trans (Nat.mod_lt _ (by decide)) pp_lt) true (decide_eq_true F2) rfl rfl rfl) ⟨k473, k474, k472⟩ ?_
        simp only [List.setIfInBounds_toArray, List.set_cons_zero, List.set_cons_succ]
        refine Sym.take_at 29 58 (.bool true) rfl rfl (by kernel_rfl) (by kernel_rfl) (by kernel_rfl) (fun _ _ _ h => h) (wanted_none rfl) (fun _ hw => run_pick rfl rfl rfl) ⟨k473, k474, k472⟩ ?_
        simp only [List.setIfInBounds_toArray, List.set_cons_zero, List.set_cons_succ]
        refine one_ready 30 (by kernel_rfl) ?_
        refine opd rfl (wanted_none rfl) (w_value 6 (.bool true) rfl (run_as rfl rfl) ⟨⟨k473, k474, k472⟩, ?_⟩)
        simp only [List.setIfInBounds_toArray, List.set_cons_zero, List.set_cons_succ]
        refine wpAnyH_done (by kernel_rfl) ?_ _
        go_step
        go_step
        go_wp2
        go_ret
        exact ⟨rfl, hbel475⟩
      · refine opd rfl (wanted_none rfl) (w_alloc (c := bs 0) (T := 23) 10 rfl (run_alN rfl) (fun w476 he477 => ?_))
        have hne479 : w.heap.size ≠ w410.heap.size := Nat.ne_of_lt k412.lt
        have k478 := k412.alloc he477
        have hne481 : wd8.heap.size ≠ w410.heap.size := Nat.ne_of_lt k413.lt
        have k480 := k413.alloc he477
        have k482 := Blk.new he477
        have hg483 : w.heap.size ≤ w410.heap.size := hbel414.size
        have hbel484 := bel_alloc hbel414 he477
        refine ⟨k478, ?_⟩
        simp only [List.setIfInBounds_toArray, List.set_cons_zero, List.set_cons_succ]
        refine one_ready 7 (by kernel_rfl) ?_
        refine opd rfl (wanted_none rfl) (w_enter 28 (.agg (bs (a ^ m % PP))) rfl (run_Power rfl rfl rfl) (power_any a m Ha.out (Nat.lt_trans Hm.out (by decide)) _) (fun w485 hb486 => ?_))
        have k487 := k478.call hb486
        have k488 := k480.call hb486
        have k489 := k482.call hb486
        have hbel490 := bel_call hbel484 hb486
        refine ⟨k487, ?_⟩
        simp only [List.setIfInBounds_toArray, List.set_cons_zero, List.set_cons_succ]
        refine one_ready 10 (by kernel_rfl) ?_
        refine opd rfl (wanted_none rfl) (w_store 23 _ _ (wd8.heap.size) (bs (a ^ n % PP)) rfl rfl rfl rfl k488 (by rw [bs_sz]; exact info_b) ((bs_sz _).trans (bs_sz _).symm) (bs_one _) (fun w491 he492 => ?_))
        have k493 := k487.other hne406 he492
        have k494 := k489.other hne481.symm he492
        have k495 := k488.set he492
        have hbel496 := bel_set hbel490 hg408 he492
        refine ⟨k493, ?_⟩
        refine one_ready 11 (by kernel_rfl) ?_
        refine opd rfl (wanted_none rfl) (w_store 23 _ _ (w410.heap.size) (bs (a ^ m % PP)) rfl rfl rfl rfl k494 (by rw [bs_sz]; exact info_b) ((bs_sz _).trans (bs_sz _).symm) (bs_one _) (fun w497 he498 => ?_))
        have k499 := k493.other hne479 he498
        have k500 := k495.other hne481 he498
        have k501 := k494.set he498
        have hbel502 := bel_set hbel496 hg483 he498
        refine ⟨k499, ?_⟩
        refine wpAnyH_done (by kernel_rfl) ?_ _
        go_step
        go_step
        go_step
        have k503 := k499.drew
        have k504 := k500.drew
        have k505 := k501.drew
        have hbel506 := hbel502.drew
        refine wp_region_held_drew (S := fun w' => Blk w' (wd8.heap.size) (bs (a ^ n % PP)) 23 ∧ Blk w' (w410.heap.size) (bs (a ^ m % PP)) 23 ∧ Blk w' (w.heap.size) (bs a) 23) (by kernel_rfl) ⟨k504, k505, k503⟩ (fun _ => ?_)
        generalize w497.drew = wd507 at *
        refine one_ready 0 (by kernel_rfl) ?_
        refine opd rfl (wanted_none rfl) (w_enter 29 (.bool true) rfl (run_awake rfl) (awake_any _) (fun w508 hb509 => ?_))
        have k510 := k503.call hb509
        have k511 := k504.call hb509
        have k512 := k505.call hb509
        have hbel513 := bel_call hbel506 hb509
        refine ⟨⟨k511, k512, k510⟩, ?_⟩
        simp only [List.setIfInBounds_toArray, List.set_cons_zero, List.set_cons_succ]
        refine Sym.take_at 1 30 (.bool true) rfl rfl (by kernel_rfl) (by kernel_rfl) (by kernel_rfl) (fun _ _ _ h => h) (wanted_none rfl) (fun _ hw => run_mv rfl rfl) ⟨k511, k512, k510⟩ ?_
        simp only [List.setIfInBounds_toArray, List.set_cons_zero, List.set_cons_succ]
        refine Sym.take_at 2 31 (.agg (bs (a ^ n % PP))) rfl rfl (by kernel_rfl) (by kernel_rfl) (by kernel_rfl) (fun _ _ _ h => h) rfl (fun _ hw => run_row rfl rfl (hw.1) Try.underlying23 rfl (by rw [bs_sz]; exact info_b)) ⟨k511, k512, k510⟩ ?_
        simp only [List.setIfInBounds_toArray, List.set_cons_zero, List.set_cons_succ]
        refine Sym.take_at 3 32 (.agg (bs (a ^ m % PP))) rfl rfl (by kernel_rfl) (by kernel_rfl) (by kernel_rfl) (fun _ _ _ h => h) rfl (fun _ hw => run_row rfl rfl (hw.2.1) Try.underlying23 rfl (by rw [bs_sz]; exact info_b)) ⟨k511, k512, k510⟩ ?_
        simp only [List.setIfInBounds_toArray, List.set_cons_zero, List.set_cons_succ]
        refine Sym.take_at 5 34 (.agg (bs a)) rfl rfl (by kernel_rfl) (by kernel_rfl) (by kernel_rfl) (fun _ _ _ h => h) rfl (fun _ hw => run_row rfl rfl (hw.2.2) Try.underlying23 rfl (by rw [bs_sz]; exact info_b)) ⟨k511, k512, k510⟩ ?_
        simp only [List.setIfInBounds_toArray, List.set_cons_zero, List.set_cons_succ]
        refine Sym.take_at 6 35 (.int .i64 ((n + m : Nat) : Int)) rfl rfl (by kernel_rfl) (by kernel_rfl) (by kernel_rfl) (fun _ _ _ h => h) rfl (fun _ hw => run_mv rfl rfl) ⟨k511, k512, k510⟩ ?_
        simp only [List.setIfInBounds_toArray, List.set_cons_zero, List.set_cons_succ]
        refine Sym.take_at 7 36 (.int .u8 (((n + m) % 256 : Nat) : Int)) rfl rfl (by kernel_rfl) (by kernel_rfl) (by kernel_rfl) (fun _ _ _ h => h) rfl (fun _ hw => run_intu8 (n + m) rfl rfl) ⟨k511, k512, k510⟩ ?_
        simp only [List.setIfInBounds_toArray, List.set_cons_zero, List.set_cons_succ]
        refine Sym.take_at 8 37 (.int .i64 ((n + m : Nat) : Int)) rfl rfl (by kernel_rfl) (by kernel_rfl) (by kernel_rfl) (fun _ _ _ h => h) rfl (fun _ hw => run_mv rfl rfl) ⟨k511, k512, k510⟩ ?_
        simp only [List.setIfInBounds_toArray, List.set_cons_zero, List.set_cons_succ]
        refine Sym.take_at 9 38 (.int .i64 (((n + m) / 256 : Nat) : Int)) rfl rfl (by kernel_rfl) (by kernel_rfl) (by kernel_rfl) (fun _ _ _ h => h) rfl (fun _ hw => run_shr8 (n + m) (by have h1 := Hn.out; have h2 := Hm.out; omega) rfl rfl) ⟨k511, k512, k510⟩ ?_
        simp only [List.setIfInBounds_toArray, List.set_cons_zero, List.set_cons_succ]
        refine Sym.take_at 10 39 (.int .u8 ((((n + m) / 256) % 256 : Nat) : Int)) rfl rfl (by kernel_rfl) (by kernel_rfl) (by kernel_rfl) (fun _ _ _ h => h) rfl (fun _ hw => run_intu8 ((n + m) / 256) rfl rfl) ⟨k511, k512, k510⟩ ?_
        simp only [List.setIfInBounds_toArray, List.set_cons_zero, List.set_cons_succ]
        refine Sym.take_at 11 40 (.agg (bs (n + m))) rfl rfl (by kernel_rfl) (by kernel_rfl) (by kernel_rfl) (fun _ _ _ h => h) rfl (fun _ hw => run_bd2 (n + m) (by have h1 := Hn.out; have h2 := Hm.out; omega) rfl rfl rfl) ⟨k511, k512, k510⟩ ?_
        simp only [List.setIfInBounds_toArray, List.set_cons_zero, List.set_cons_succ]
        refine one_ready 4 (by kernel_rfl) ?_
        refine opd rfl rfl (w_enter 33 (.agg (bs ((a ^ n % PP) * (a ^ m % PP) % PP))) rfl (run_Mul rfl rfl rfl) (mul_any (a ^ n % PP) (a ^ m % PP) (Nat.lt_trans (Nat.mod_lt _ (by decide)) pp_lt) (Nat.lt_trans (Nat.mod_lt _ (by decide)) pp_lt) _) (fun w514 hb515 => ?_))
        have k516 := k510.call hb515
        have k517 := k511.call hb515
        have k518 := k512.call hb515
        have hbel519 := bel_call hbel513 hb515
        refine ⟨⟨k517, k518, k516⟩, ?_⟩
        simp only [List.setIfInBounds_toArray, List.set_cons_zero, List.set_cons_succ]
        refine one_ready 12 (by kernel_rfl) ?_
        refine opd rfl rfl (w_enter 41 (.agg (bs (a ^ (n + m) % PP))) rfl (run_Power rfl rfl rfl) (power_any a (n + m) Ha.out (by have h1 := Hn.out; have h2 := Hm.out; unfold MM; omega) _) (fun w520 hb521 => ?_))
        have k522 := k516.call hb521
        have k523 := k517.call hb521
        have k524 := k518.call hb521
        have hbel525 := bel_call hbel519 hb521
        refine ⟨⟨k523, k524, k522⟩, ?_⟩
        simp only [List.setIfInBounds_toArray, List.set_cons_zero, List.set_cons_succ]
        refine Sym.take_at 13 42 (.bool true) rfl rfl (by kernel_rfl) (by kernel_rfl) (by kernel_rfl) (fun _ _ _ h => h) rfl (fun _ hw => run_eqN ((a ^ n % PP) * (a ^ m % PP) % PP) (a ^ (n + m) % PP) (Nat.lt_trans (Nat.mod_lt _ (by decide)) pp_lt) (Nat.lt_trans (Nat.mod_lt _ (by decide)) pp_lt) true (decide_eq_true F1) rfl rfl rfl) ⟨k523, k524, k522⟩ ?_
        simp only [List.setIfInBounds_toArray, List.set_cons_zero, List.set_cons_succ]
        refine Sym.take_at 14 43 (.bool true) rfl rfl (by kernel_rfl) (by kernel_rfl) (by kernel_rfl) (fun _ _ _ h => h) (wanted_none rfl) (fun _ hw => run_pick rfl rfl rfl) ⟨k523, k524, k522⟩ ?_
        simp only [List.setIfInBounds_toArray, List.set_cons_zero, List.set_cons_succ]
        refine Sym.take_at 15 44 (.bool true) rfl rfl (by kernel_rfl) (by kernel_rfl) (by kernel_rfl) (fun _ _ _ h => h) (wanted_none rfl) (fun _ hw => run_mv rfl rfl) ⟨k523, k524, k522⟩ ?_
        simp only [List.setIfInBounds_toArray, List.set_cons_zero, List.set_cons_succ]
        refine Sym.take_at 16 45 (.agg (bs (a ^ n % PP))) rfl rfl (by kernel_rfl) (by kernel_rfl) (by kernel_rfl) (fun _ _ _ h => h) rfl (fun _ hw => run_row rfl rfl (hw.1) Try.underlying23 rfl (by rw [bs_sz]; exact info_b)) ⟨k523, k524, k522⟩ ?_
        simp only [List.setIfInBounds_toArray, List.set_cons_zero, List.set_cons_succ]
        refine Sym.take_at 17 46 (.int .u8 (m : Int)) rfl rfl (by kernel_rfl) (by kernel_rfl) (by kernel_rfl) (fun _ _ _ h => h) rfl (fun _ hw => run_mv rfl rfl) ⟨k523, k524, k522⟩ ?_
        simp only [List.setIfInBounds_toArray, List.set_cons_zero, List.set_cons_succ]
        refine Sym.take_at 18 47 (.agg (bs m)) rfl rfl (by kernel_rfl) (by kernel_rfl) (by kernel_rfl) (fun _ _ _ h => h) rfl (fun _ hw => run_bd1 m Hm.out rfl rfl) ⟨k523, k524, k522⟩ ?_
        simp only [List.setIfInBounds_toArray, List.set_cons_zero, List.set_cons_succ]
        refine Sym.take_at 20 49 (.agg (bs a)) rfl rfl (by kernel_rfl) (by kernel_rfl) (by kernel_rfl) (fun _ _ _ h => h) rfl (fun _ hw => run_row rfl rfl (hw.2.2) Try.underlying23 rfl (by rw [bs_sz]; exact info_b)) ⟨k523, k524, k522⟩ ?_
        simp only [List.setIfInBounds_toArray, List.set_cons_zero, List.set_cons_succ]
        refine Sym.take_at 21 50 (.int .i64 ((n * m : Nat) : Int)) rfl rfl (by kernel_rfl) (by kernel_rfl) (by kernel_rfl) (fun _ _ _ h => h) rfl (fun _ hw => run_mv rfl rfl) ⟨k523, k524, k522⟩ ?_
        simp only [List.setIfInBounds_toArray, List.set_cons_zero, List.set_cons_succ]
        refine Sym.take_at 22 51 (.int .u8 (((n * m) % 256 : Nat) : Int)) rfl rfl (by kernel_rfl) (by kernel_rfl) (by kernel_rfl) (fun _ _ _ h => h) rfl (fun _ hw => run_intu8 (n * m) rfl rfl) ⟨k523, k524, k522⟩ ?_
        simp only [List.setIfInBounds_toArray, List.set_cons_zero, List.set_cons_succ]
        refine Sym.take_at 23 52 (.int .i64 ((n * m : Nat) : Int)) rfl rfl (by kernel_rfl) (by kernel_rfl) (by kernel_rfl) (fun _ _ _ h => h) rfl (fun _ hw => run_mv rfl rfl) ⟨k523, k524, k522⟩ ?_
        simp only [List.setIfInBounds_toArray, List.set_cons_zero, List.set_cons_succ]
        refine Sym.take_at 24 53 (.int .i64 (((n * m) / 256 : Nat) : Int)) rfl rfl (by kernel_rfl) (by kernel_rfl) (by kernel_rfl) (fun _ _ _ h => h) rfl (fun _ hw => run_shr8 (n * m) (by have := Nat.mul_lt_mul'' Hn.out Hm.out; omega) rfl rfl) ⟨k523, k524, k522⟩ ?_
        simp only [List.setIfInBounds_toArray, List.set_cons_zero, List.set_cons_succ]
        refine Sym.take_at 25 54 (.int .u8 ((((n * m) / 256) % 256 : Nat) : Int)) rfl rfl (by kernel_rfl) (by kernel_rfl) (by kernel_rfl) (fun _ _ _ h => h) rfl (fun _ hw => run_intu8 ((n * m) / 256) rfl rfl) ⟨k523, k524, k522⟩ ?_
        simp only [List.setIfInBounds_toArray, List.set_cons_zero, List.set_cons_succ]
        refine Sym.take_at 26 55 (.agg (bs (n * m))) rfl rfl (by kernel_rfl) (by kernel_rfl) (by kernel_rfl) (fun _ _ _ h => h) rfl (fun _ hw => run_bd2 (n * m) (by have := Nat.mul_lt_mul'' Hn.out Hm.out; omega) rfl rfl rfl) ⟨k523, k524, k522⟩ ?_
        simp only [List.setIfInBounds_toArray, List.set_cons_zero, List.set_cons_succ]
        refine one_ready 19 (by kernel_rfl) ?_
        refine opd rfl rfl (w_enter 48 (.agg (bs ((a ^ n % PP) ^ m % PP))) rfl (run_Power rfl rfl rfl) (power_any (a ^ n % PP) m (Nat.lt_trans (Nat.mod_lt _ (by decide)) pp_lt) (Nat.lt_trans Hm.out (by decide)) _) (fun w526 hb527 => ?_))
        have k528 := k522.call hb527
        have k529 := k523.call hb527
        have k530 := k524.call hb527
        have hbel531 := bel_call hbel525 hb527
        refine ⟨⟨k529, k530, k528⟩, ?_⟩
        simp only [List.setIfInBounds_toArray, List.set_cons_zero, List.set_cons_succ]
        refine one_ready 27 (by kernel_rfl) ?_
        refine opd rfl rfl (w_enter 56 (.agg (bs (a ^ (n * m) % PP))) rfl (run_Power rfl rfl rfl) (power_any a (n * m) Ha.out (by have := Nat.mul_lt_mul'' Hn.out Hm.out; unfold MM; omega) _) (fun w532 hb533 => ?_))
        have k534 := k528.call hb533
        have k535 := k529.call hb533
        have k536 := k530.call hb533
        have hbel537 := bel_call hbel531 hb533
        refine ⟨⟨k535, k536, k534⟩, ?_⟩
        simp only [List.setIfInBounds_toArray, List.set_cons_zero, List.set_cons_succ]
        refine Sym.take_at 28 57 (.bool true) rfl rfl (by kernel_rfl) (by kernel_rfl) (by kernel_rfl) (fun _ _ _ h => h) rfl (fun _ hw => run_eqN ((a ^ n % PP) ^ m % PP) (a ^ (n * m) % PP) (Nat.lt_trans (Nat.mod_lt _ (by decide)) pp_lt) (Nat.lt_trans (Nat.mod_lt _ (by decide)) pp_lt) true (decide_eq_true F2) rfl rfl rfl) ⟨k535, k536, k534⟩ ?_
        simp only [List.setIfInBounds_toArray, List.set_cons_zero, List.set_cons_succ]
        refine Sym.take_at 29 58 (.bool true) rfl rfl (by kernel_rfl) (by kernel_rfl) (by kernel_rfl) (fun _ _ _ h => h) (wanted_none rfl) (fun _ hw => run_pick rfl rfl rfl) ⟨k535, k536, k534⟩ ?_
        simp only [List.setIfInBounds_toArray, List.set_cons_zero, List.set_cons_succ]
        refine one_ready 30 (by kernel_rfl) ?_
        refine opd rfl (wanted_none rfl) (w_value 6 (.bool true) rfl (run_as rfl rfl) ⟨⟨k535, k536, k534⟩, ?_⟩)
        simp only [List.setIfInBounds_toArray, List.set_cons_zero, List.set_cons_succ]
        refine wpAnyH_done (by kernel_rfl) ?_ _
        go_step
        go_step
        go_wp2
        go_ret
        exact ⟨rfl, hbel537⟩
    · refine opd rfl (wanted_none rfl) (w_alloc (c := bs 0) (T := 23) 10 rfl (run_alN rfl) (fun w538 he539 => ?_))
      have hne541 : w.heap.size ≠ w403.heap.size := Nat.ne_of_lt k405.lt
      have k540 := k405.alloc he539
      have hne543 : wd8.heap.size ≠ w403.heap.size := Nat.ne_of_lt k407.lt
      have k542 := k407.alloc he539
      have k544 := Blk.new he539
      have hg545 : w.heap.size ≤ w403.heap.size := hbel409.size
      have hbel546 := bel_alloc hbel409 he539
      refine ⟨k540, ?_⟩
      simp only [List.setIfInBounds_toArray, List.set_cons_zero, List.set_cons_succ]
      refine one_ready 3 (by kernel_rfl) ?_
      refine opd rfl (wanted_none rfl) (w_enter 24 (.agg (bs (a ^ n % PP))) rfl (run_Power rfl rfl rfl) (power_any a n Ha.out (Nat.lt_trans Hn.out (by decide)) _) (fun w547 hb548 => ?_))
      have k549 := k540.call hb548
      have k550 := k542.call hb548
      have k551 := k544.call hb548
      have hbel552 := bel_call hbel546 hb548
      refine ⟨k549, ?_⟩
      simp only [List.setIfInBounds_toArray, List.set_cons_zero, List.set_cons_succ]
      refine one_ready 7 (by kernel_rfl) ?_
      refine opd rfl (wanted_none rfl) (w_enter 28 (.agg (bs (a ^ m % PP))) rfl (run_Power rfl rfl rfl) (power_any a m Ha.out (Nat.lt_trans Hm.out (by decide)) _) (fun w553 hb554 => ?_))
      have k555 := k549.call hb554
      have k556 := k550.call hb554
      have k557 := k551.call hb554
      have hbel558 := bel_call hbel552 hb554
      refine ⟨k555, ?_⟩
      simp only [List.setIfInBounds_toArray, List.set_cons_zero, List.set_cons_succ]
      refine one_ready 10 (by kernel_rfl) ?_
      refine opd rfl (wanted_none rfl) (w_store 23 _ _ (wd8.heap.size) (bs (a ^ n % PP)) rfl rfl rfl rfl k556 (by rw [bs_sz]; exact info_b) ((bs_sz _).trans (bs_sz _).symm) (bs_one _) (fun w559 he560 => ?_))
      have k561 := k555.other hne406 he560
      have k562 := k557.other hne543.symm he560
      have k563 := k556.set he560
      have hbel564 := bel_set hbel558 hg408 he560
      refine ⟨k561, ?_⟩
      refine one_ready 11 (by kernel_rfl) ?_
      refine opd rfl (wanted_none rfl) (w_store 23 _ _ (w403.heap.size) (bs (a ^ m % PP)) rfl rfl rfl rfl k562 (by rw [bs_sz]; exact info_b) ((bs_sz _).trans (bs_sz _).symm) (bs_one _) (fun w565 he566 => ?_))
      have k567 := k561.other hne541 he566
      have k568 := k563.other hne543 he566
      have k569 := k562.set he566
      have hbel570 := bel_set hbel564 hg545 he566
      refine ⟨k567, ?_⟩
      refine wpAnyH_done (by kernel_rfl) ?_ _
      go_step
      go_step
      go_step
      have k571 := k567.drew
      have k572 := k568.drew
      have k573 := k569.drew
      have hbel574 := hbel570.drew
      refine wp_region_held_drew (S := fun w' => Blk w' (wd8.heap.size) (bs (a ^ n % PP)) 23 ∧ Blk w' (w403.heap.size) (bs (a ^ m % PP)) 23 ∧ Blk w' (w.heap.size) (bs a) 23) (by kernel_rfl) ⟨k572, k573, k571⟩ (fun _ => ?_)
      generalize w565.drew = wd575 at *
      refine one_ready 0 (by kernel_rfl) ?_
      refine opd rfl (wanted_none rfl) (w_enter 29 (.bool true) rfl (run_awake rfl) (awake_any _) (fun w576 hb577 => ?_))
      have k578 := k571.call hb577
      have k579 := k572.call hb577
      have k580 := k573.call hb577
      have hbel581 := bel_call hbel574 hb577
      refine ⟨⟨k579, k580, k578⟩, ?_⟩
      simp only [List.setIfInBounds_toArray, List.set_cons_zero, List.set_cons_succ]
      refine Sym.take_at 1 30 (.bool true) rfl rfl (by kernel_rfl) (by kernel_rfl) (by kernel_rfl) (fun _ _ _ h => h) (wanted_none rfl) (fun _ hw => run_mv rfl rfl) ⟨k579, k580, k578⟩ ?_
      simp only [List.setIfInBounds_toArray, List.set_cons_zero, List.set_cons_succ]
      refine Sym.take_at 2 31 (.agg (bs (a ^ n % PP))) rfl rfl (by kernel_rfl) (by kernel_rfl) (by kernel_rfl) (fun _ _ _ h => h) rfl (fun _ hw => run_row rfl rfl (hw.1) Try.underlying23 rfl (by rw [bs_sz]; exact info_b)) ⟨k579, k580, k578⟩ ?_
      simp only [List.setIfInBounds_toArray, List.set_cons_zero, List.set_cons_succ]
      refine Sym.take_at 3 32 (.agg (bs (a ^ m % PP))) rfl rfl (by kernel_rfl) (by kernel_rfl) (by kernel_rfl) (fun _ _ _ h => h) rfl (fun _ hw => run_row rfl rfl (hw.2.1) Try.underlying23 rfl (by rw [bs_sz]; exact info_b)) ⟨k579, k580, k578⟩ ?_
      simp only [List.setIfInBounds_toArray, List.set_cons_zero, List.set_cons_succ]
      refine Sym.take_at 5 34 (.agg (bs a)) rfl rfl (by kernel_rfl) (by kernel_rfl) (by kernel_rfl) (fun _ _ _ h => h) rfl (fun _ hw => run_row rfl rfl (hw.2.2) Try.underlying23 rfl (by rw [bs_sz]; exact info_b)) ⟨k579, k580, k578⟩ ?_
      simp only [List.setIfInBounds_toArray, List.set_cons_zero, List.set_cons_succ]
      refine Sym.take_at 6 35 (.int .i64 ((n + m : Nat) : Int)) rfl rfl (by kernel_rfl) (by kernel_rfl) (by kernel_rfl) (fun _ _ _ h => h) rfl (fun _ hw => run_mv rfl rfl) ⟨k579, k580, k578⟩ ?_
      simp only [List.setIfInBounds_toArray, List.set_cons_zero, List.set_cons_succ]
      refine Sym.take_at 7 36 (.int .u8 (((n + m) % 256 : Nat) : Int)) rfl rfl (by kernel_rfl) (by kernel_rfl) (by kernel_rfl) (fun _ _ _ h => h) rfl (fun _ hw => run_intu8 (n + m) rfl rfl) ⟨k579, k580, k578⟩ ?_
      simp only [List.setIfInBounds_toArray, List.set_cons_zero, List.set_cons_succ]
      refine Sym.take_at 8 37 (.int .i64 ((n + m : Nat) : Int)) rfl rfl (by kernel_rfl) (by kernel_rfl) (by kernel_rfl) (fun _ _ _ h => h) rfl (fun _ hw => run_mv rfl rfl) ⟨k579, k580, k578⟩ ?_
      simp only [List.setIfInBounds_toArray, List.set_cons_zero, List.set_cons_succ]
      refine Sym.take_at 9 38 (.int .i64 (((n + m) / 256 : Nat) : Int)) rfl rfl (by kernel_rfl) (by kernel_rfl) (by kernel_rfl) (fun _ _ _ h => h) rfl (fun _ hw => run_shr8 (n + m) (by have h1 := Hn.out; have h2 := Hm.out; omega) rfl rfl) ⟨k579, k580, k578⟩ ?_
      simp only [List.setIfInBounds_toArray, List.set_cons_zero, List.set_cons_succ]
      refine Sym.take_at 10 39 (.int .u8 ((((n + m) / 256) % 256 : Nat) : Int)) rfl rfl (by kernel_rfl) (by kernel_rfl) (by kernel_rfl) (fun _ _ _ h => h) rfl (fun _ hw => run_intu8 ((n + m) / 256) rfl rfl) ⟨k579, k580, k578⟩ ?_
      simp only [List.setIfInBounds_toArray, List.set_cons_zero, List.set_cons_succ]
      refine Sym.take_at 11 40 (.agg (bs (n + m))) rfl rfl (by kernel_rfl) (by kernel_rfl) (by kernel_rfl) (fun _ _ _ h => h) rfl (fun _ hw => run_bd2 (n + m) (by have h1 := Hn.out; have h2 := Hm.out; omega) rfl rfl rfl) ⟨k579, k580, k578⟩ ?_
      simp only [List.setIfInBounds_toArray, List.set_cons_zero, List.set_cons_succ]
      refine one_ready 4 (by kernel_rfl) ?_
      refine opd rfl rfl (w_enter 33 (.agg (bs ((a ^ n % PP) * (a ^ m % PP) % PP))) rfl (run_Mul rfl rfl rfl) (mul_any (a ^ n % PP) (a ^ m % PP) (Nat.lt_trans (Nat.mod_lt _ (by decide)) pp_lt) (Nat.lt_trans (Nat.mod_lt _ (by decide)) pp_lt) _) (fun w582 hb583 => ?_))
      have k584 := k578.call hb583
      have k585 := k579.call hb583
      have k586 := k580.call hb583
      have hbel587 := bel_call hbel581 hb583
      refine ⟨⟨k585, k586, k584⟩, ?_⟩
      simp only [List.setIfInBounds_toArray, List.set_cons_zero, List.set_cons_succ]
      refine one_ready 12 (by kernel_rfl) ?_
      refine opd rfl rfl (w_enter 41 (.agg (bs (a ^ (n + m) % PP))) rfl (run_Power rfl rfl rfl) (power_any a (n + m) Ha.out (by have h1 := Hn.out; have h2 := Hm.out; unfold MM; omega) _) (fun w588 hb589 => ?_))
      have k590 := k584.call hb589
      have k591 := k585.call hb589
      have k592 := k586.call hb589
      have hbel593 := bel_call hbel587 hb589
      refine ⟨⟨k591, k592, k590⟩, ?_⟩
      simp only [List.setIfInBounds_toArray, List.set_cons_zero, List.set_cons_succ]
      refine Sym.take_at 13 42 (.bool true) rfl rfl (by kernel_rfl) (by kernel_rfl) (by kernel_rfl) (fun _ _ _ h => h) rfl (fun _ hw => run_eqN ((a ^ n % PP) * (a ^ m % PP) % PP) (a ^ (n + m) % PP) (Nat.lt_trans (Nat.mod_lt _ (by decide)) pp_lt) (Nat.lt_trans (Nat.mod_lt _ (by decide)) pp_lt) true (decide_eq_true F1) rfl rfl rfl) ⟨k591, k592, k590⟩ ?_
      simp only [List.setIfInBounds_toArray, List.set_cons_zero, List.set_cons_succ]
      refine Sym.take_at 14 43 (.bool true) rfl rfl (by kernel_rfl) (by kernel_rfl) (by kernel_rfl) (fun _ _ _ h => h) (wanted_none rfl) (fun _ hw => run_pick rfl rfl rfl) ⟨k591, k592, k590⟩ ?_
      simp only [List.setIfInBounds_toArray, List.set_cons_zero, List.set_cons_succ]
      refine Sym.take_at 15 44 (.bool true) rfl rfl (by kernel_rfl) (by kernel_rfl) (by kernel_rfl) (fun _ _ _ h => h) (wanted_none rfl) (fun _ hw => run_mv rfl rfl) ⟨k591, k592, k590⟩ ?_
      simp only [List.setIfInBounds_toArray, List.set_cons_zero, List.set_cons_succ]
      refine Sym.take_at 16 45 (.agg (bs (a ^ n % PP))) rfl rfl (by kernel_rfl) (by kernel_rfl) (by kernel_rfl) (fun _ _ _ h => h) rfl (fun _ hw => run_row rfl rfl (hw.1) Try.underlying23 rfl (by rw [bs_sz]; exact info_b)) ⟨k591, k592, k590⟩ ?_
      simp only [List.setIfInBounds_toArray, List.set_cons_zero, List.set_cons_succ]
      refine Sym.take_at 17 46 (.int .u8 (m : Int)) rfl rfl (by kernel_rfl) (by kernel_rfl) (by kernel_rfl) (fun _ _ _ h => h) rfl (fun _ hw => run_mv rfl rfl) ⟨k591, k592, k590⟩ ?_
      simp only [List.setIfInBounds_toArray, List.set_cons_zero, List.set_cons_succ]
      refine Sym.take_at 18 47 (.agg (bs m)) rfl rfl (by kernel_rfl) (by kernel_rfl) (by kernel_rfl) (fun _ _ _ h => h) rfl (fun _ hw => run_bd1 m Hm.out rfl rfl) ⟨k591, k592, k590⟩ ?_
      simp only [List.setIfInBounds_toArray, List.set_cons_zero, List.set_cons_succ]
      refine Sym.take_at 20 49 (.agg (bs a)) rfl rfl (by kernel_rfl) (by kernel_rfl) (by kernel_rfl) (fun _ _ _ h => h) rfl (fun _ hw => run_row rfl rfl (hw.2.2) Try.underlying23 rfl (by rw [bs_sz]; exact info_b)) ⟨k591, k592, k590⟩ ?_
      simp only [List.setIfInBounds_toArray, List.set_cons_zero, List.set_cons_succ]
      refine Sym.take_at 21 50 (.int .i64 ((n * m : Nat) : Int)) rfl rfl (by kernel_rfl) (by kernel_rfl) (by kernel_rfl) (fun _ _ _ h => h) rfl (fun _ hw => run_mv rfl rfl) ⟨k591, k592, k590⟩ ?_
      simp only [List.setIfInBounds_toArray, List.set_cons_zero, List.set_cons_succ]
      refine Sym.take_at 22 51 (.int .u8 (((n * m) % 256 : Nat) : Int)) rfl rfl (by kernel_rfl) (by kernel_rfl) (by kernel_rfl) (fun _ _ _ h => h) rfl (fun _ hw => run_intu8 (n * m) rfl rfl) ⟨k591, k592, k590⟩ ?_
      simp only [List.setIfInBounds_toArray, List.set_cons_zero, List.set_cons_succ]
      refine Sym.take_at 23 52 (.int .i64 ((n * m : Nat) : Int)) rfl rfl (by kernel_rfl) (by kernel_rfl) (by kernel_rfl) (fun _ _ _ h => h) rfl (fun _ hw => run_mv rfl rfl) ⟨k591, k592, k590⟩ ?_
      simp only [List.setIfInBounds_toArray, List.set_cons_zero, List.set_cons_succ]
      refine Sym.take_at 24 53 (.int .i64 (((n * m) / 256 : Nat) : Int)) rfl rfl (by kernel_rfl) (by kernel_rfl) (by kernel_rfl) (fun _ _ _ h => h) rfl (fun _ hw => run_shr8 (n * m) (by have := Nat.mul_lt_mul'' Hn.out Hm.out; omega) rfl rfl) ⟨k591, k592, k590⟩ ?_
      simp only [List.setIfInBounds_toArray, List.set_cons_zero, List.set_cons_succ]
      refine Sym.take_at 25 54 (.int .u8 ((((n * m) / 256) % 256 : Nat) : Int)) rfl rfl (by kernel_rfl) (by kernel_rfl) (by kernel_rfl) (fun _ _ _ h => h) rfl (fun _ hw => run_intu8 ((n * m) / 256) rfl rfl) ⟨k591, k592, k590⟩ ?_
      simp only [List.setIfInBounds_toArray, List.set_cons_zero, List.set_cons_succ]
      refine Sym.take_at 26 55 (.agg (bs (n * m))) rfl rfl (by kernel_rfl) (by kernel_rfl) (by kernel_rfl) (fun _ _ _ h => h) rfl (fun _ hw => run_bd2 (n * m) (by have := Nat.mul_lt_mul'' Hn.out Hm.out; omega) rfl rfl rfl) ⟨k591, k592, k590⟩ ?_
      simp only [List.setIfInBounds_toArray, List.set_cons_zero, List.set_cons_succ]
      refine one_ready 19 (by kernel_rfl) ?_
      refine opd rfl rfl (w_enter 48 (.agg (bs ((a ^ n % PP) ^ m % PP))) rfl (run_Power rfl rfl rfl) (power_any (a ^ n % PP) m (Nat.lt_trans (Nat.mod_lt _ (by decide)) pp_lt) (Nat.lt_trans Hm.out (by decide)) _) (fun w594 hb595 => ?_))
      have k596 := k590.call hb595
      have k597 := k591.call hb595
      have k598 := k592.call hb595
      have hbel599 := bel_call hbel593 hb595
      refine ⟨⟨k597, k598, k596⟩, ?_⟩
      simp only [List.setIfInBounds_toArray, List.set_cons_zero, List.set_cons_succ]
      refine one_ready 27 (by kernel_rfl) ?_
      refine opd rfl rfl (w_enter 56 (.agg (bs (a ^ (n * m) % PP))) rfl (run_Power rfl rfl rfl) (power_any a (n * m) Ha.out (by have := Nat.mul_lt_mul'' Hn.out Hm.out; unfold MM; omega) _) (fun w600 hb601 => ?_))
      have k602 := k596.call hb601
      have k603 := k597.call hb601
      have k604 := k598.call hb601
      have hbel605 := bel_call hbel599 hb601
      refine ⟨⟨k603, k604, k602⟩, ?_⟩
      simp only [List.setIfInBounds_toArray, List.set_cons_zero, List.set_cons_succ]
      refine Sym.take_at 28 57 (.bool true) rfl rfl (by kernel_rfl) (by kernel_rfl) (by kernel_rfl) (fun _ _ _ h => h) rfl (fun _ hw => run_eqN ((a ^ n % PP) ^ m % PP) (a ^ (n * m) % PP) (Nat.lt_trans (Nat.mod_lt _ (by decide)) pp_lt) (Nat.lt_trans (Nat.mod_lt _ (by decide)) pp_lt) true (decide_eq_true F2) rfl rfl rfl) ⟨k603, k604, k602⟩ ?_
      simp only [List.setIfInBounds_toArray, List.set_cons_zero, List.set_cons_succ]
      refine Sym.take_at 29 58 (.bool true) rfl rfl (by kernel_rfl) (by kernel_rfl) (by kernel_rfl) (fun _ _ _ h => h) (wanted_none rfl) (fun _ hw => run_pick rfl rfl rfl) ⟨k603, k604, k602⟩ ?_
      simp only [List.setIfInBounds_toArray, List.set_cons_zero, List.set_cons_succ]
      refine one_ready 30 (by kernel_rfl) ?_
      refine opd rfl (wanted_none rfl) (w_value 6 (.bool true) rfl (run_as rfl rfl) ⟨⟨k603, k604, k602⟩, ?_⟩)
      simp only [List.setIfInBounds_toArray, List.set_cons_zero, List.set_cons_succ]
      refine wpAnyH_done (by kernel_rfl) ?_ _
      go_step
      go_step
      go_wp2
      go_ret
      exact ⟨rfl, hbel605⟩
  · refine opd rfl (wanted_none rfl) (w_alloc (c := bs 0) (T := 23) 10 rfl (run_alN rfl) (fun w606 he607 => ?_))
    have hne609 : w.heap.size ≠ wd8.heap.size := Nat.ne_of_lt k6.lt
    have k608 := k6.alloc he607
    have k610 := Blk.new he607
    have hg611 : w.heap.size ≤ wd8.heap.size := hbel7.size
    have hbel612 := bel_alloc hbel7 he607
    refine ⟨k608, ?_⟩
    simp only [List.setIfInBounds_toArray, List.set_cons_zero, List.set_cons_succ]
    refine two_ready 3 8 (by kernel_rfl) ?_ ?_
    · refine opd rfl (wanted_none rfl) (w_enter 24 (.agg (bs (a ^ n % PP))) rfl (run_Power rfl rfl rfl) (power_any a n Ha.out (Nat.lt_trans Hn.out (by decide)) _) (fun w613 hb614 => ?_))
      have k615 := k608.call hb614
      have k616 := k610.call hb614
      have hbel617 := bel_call hbel612 hb614
      refine ⟨k615, ?_⟩
      simp only [List.setIfInBounds_toArray, List.set_cons_zero, List.set_cons_succ]
      refine two_ready 7 8 (by kernel_rfl) ?_ ?_
      · refine opd rfl (wanted_none rfl) (w_enter 28 (.agg (bs (a ^ m % PP))) rfl (run_Power rfl rfl rfl) (power_any a m Ha.out (Nat.lt_trans Hm.out (by decide)) _) (fun w618 hb619 => ?_))
        have k620 := k615.call hb619
        have k621 := k616.call hb619
        have hbel622 := bel_call hbel617 hb619
        refine ⟨k620, ?_⟩
        simp only [List.setIfInBounds_toArray, List.set_cons_zero, List.set_cons_succ]
        refine one_ready 8 (by kernel_rfl) ?_
        refine opd rfl (wanted_none rfl) (w_alloc (c := bs 0) (T := 23) 9 rfl (run_alN rfl) (fun w623 he624 => ?_))
        have hne626 : w.heap.size ≠ w618.heap.size := Nat.ne_of_lt k620.lt
        have k625 := k620.alloc he624
        have hne628 : wd8.heap.size ≠ w618.heap.size := Nat.ne_of_lt k621.lt
        have k627 := k621.alloc he624
        have k629 := Blk.new he624
        have hg630 : w.heap.size ≤ w618.heap.size := hbel622.size
        have hbel631 := bel_alloc hbel622 he624
        refine ⟨k625, ?_⟩
        simp only [List.setIfInBounds_toArray, List.set_cons_zero, List.set_cons_succ]
        refine one_ready 10 (by kernel_rfl) ?_
        refine opd rfl (wanted_none rfl) (w_store 23 _ _ (w618.heap.size) (bs (a ^ n % PP)) rfl rfl rfl rfl k629 (by rw [bs_sz]; exact info_b) ((bs_sz _).trans (bs_sz _).symm) (bs_one _) (fun w632 he633 => ?_))
        have k634 := k625.other hne626 he633
        have k635 := k627.other hne628 he633
        have k636 := k629.set he633
        have hbel637 := bel_set hbel631 hg630 he633
        refine ⟨k634, ?_⟩
        refine one_ready 11 (by kernel_rfl) ?_
        refine opd rfl (wanted_none rfl) (w_store 23 _ _ (wd8.heap.size) (bs (a ^ m % PP)) rfl rfl rfl rfl k635 (by rw [bs_sz]; exact info_b) ((bs_sz _).trans (bs_sz _).symm) (bs_one _) (fun w638 he639 => ?_))
        have k640 := k634.other hne609 he639
        have k641 := k636.other hne628.symm he639
        have k642 := k635.set he639
        have hbel643 := bel_set hbel637 hg611 he639
        refine ⟨k640, ?_⟩
        refine wpAnyH_done (by kernel_rfl) ?_ _
        go_step
        go_step
        go_step
        have k644 := k640.drew
        have k645 := k642.drew
        have k646 := k641.drew
        have hbel647 := hbel643.drew
        refine wp_region_held_drew (S := fun w' => Blk w' (w618.heap.size) (bs (a ^ n % PP)) 23 ∧ Blk w' (wd8.heap.size) (bs (a ^ m % PP)) 23 ∧ Blk w' (w.heap.size) (bs a) 23) (by kernel_rfl) ⟨k646, k645, k644⟩ (fun _ => ?_)
        generalize w638.drew = wd648 at *
        refine one_ready 0 (by kernel_rfl) ?_
        refine opd rfl (wanted_none rfl) (w_enter 29 (.bool true) rfl (run_awake rfl) (awake_any _) (fun w649 hb650 => ?_))
        have k651 := k644.call hb650
        have k652 := k645.call hb650
        have k653 := k646.call hb650
        have hbel654 := bel_call hbel647 hb650
        refine ⟨⟨k653, k652, k651⟩, ?_⟩
        simp only [List.setIfInBounds_toArray, List.set_cons_zero, List.set_cons_succ]
        refine Sym.take_at 1 30 (.bool true) rfl rfl (by kernel_rfl) (by kernel_rfl) (by kernel_rfl) (fun _ _ _ h => h) (wanted_none rfl) (fun _ hw => run_mv rfl rfl) ⟨k653, k652, k651⟩ ?_
        simp only [List.setIfInBounds_toArray, List.set_cons_zero, List.set_cons_succ]
        refine Sym.take_at 2 31 (.agg (bs (a ^ n % PP))) rfl rfl (by kernel_rfl) (by kernel_rfl) (by kernel_rfl) (fun _ _ _ h => h) rfl (fun _ hw => run_row rfl rfl (hw.1) Try.underlying23 rfl (by rw [bs_sz]; exact info_b)) ⟨k653, k652, k651⟩ ?_
        simp only [List.setIfInBounds_toArray, List.set_cons_zero, List.set_cons_succ]
        refine Sym.take_at 3 32 (.agg (bs (a ^ m % PP))) rfl rfl (by kernel_rfl) (by kernel_rfl) (by kernel_rfl) (fun _ _ _ h => h) rfl (fun _ hw => run_row rfl rfl (hw.2.1) Try.underlying23 rfl (by rw [bs_sz]; exact info_b)) ⟨k653, k652, k651⟩ ?_
        simp only [List.setIfInBounds_toArray, List.set_cons_zero, List.set_cons_succ]
        refine Sym.take_at 5 34 (.agg (bs a)) rfl rfl (by kernel_rfl) (by kernel_rfl) (by kernel_rfl) (fun _ _ _ h => h) rfl (fun _ hw => run_row rfl rfl (hw.2.2) Try.underlying23 rfl (by rw [bs_sz]; exact info_b)) ⟨k653, k652, k651⟩ ?_
        simp only [List.setIfInBounds_toArray, List.set_cons_zero, List.set_cons_succ]
        refine Sym.take_at 6 35 (.int .i64 ((n + m : Nat) : Int)) rfl rfl (by kernel_rfl) (by kernel_rfl) (by kernel_rfl) (fun _ _ _ h => h) rfl (fun _ hw => run_mv rfl rfl) ⟨k653, k652, k651⟩ ?_
        simp only [List.setIfInBounds_toArray, List.set_cons_zero, List.set_cons_succ]
        refine Sym.take_at 7 36 (.int .u8 (((n + m) % 256 : Nat) : Int)) rfl rfl (by kernel_rfl) (by kernel_rfl) (by kernel_rfl) (fun _ _ _ h => h) rfl (fun _ hw => run_intu8 (n + m) rfl rfl) ⟨k653, k652, k651⟩ ?_
        simp only [List.setIfInBounds_toArray, List.set_cons_zero, List.set_cons_succ]
        refine Sym.take_at 8 37 (.int .i64 ((n + m : Nat) : Int)) rfl rfl (by kernel_rfl) (by kernel_rfl) (by kernel_rfl) (fun _ _ _ h => h) rfl (fun _ hw => run_mv rfl rfl) ⟨k653, k652, k651⟩ ?_
        simp only [List.setIfInBounds_toArray, List.set_cons_zero, List.set_cons_succ]
        refine Sym.take_at 9 38 (.int .i64 (((n + m) / 256 : Nat) : Int)) rfl rfl (by kernel_rfl) (by kernel_rfl) (by kernel_rfl) (fun _ _ _ h => h) rfl (fun _ hw => run_shr8 (n + m) (by have h1 := Hn.out; have h2 := Hm.out; omega) rfl rfl) ⟨k653, k652, k651⟩ ?_
        simp only [List.setIfInBounds_toArray, List.set_cons_zero, List.set_cons_succ]
        refine Sym.take_at 10 39 (.int .u8 ((((n + m) / 256) % 256 : Nat) : Int)) rfl rfl (by kernel_rfl) (by kernel_rfl) (by kernel_rfl) (fun _ _ _ h => h) rfl (fun _ hw => run_intu8 ((n + m) / 256) rfl rfl) ⟨k653, k652, k651⟩ ?_
        simp only [List.setIfInBounds_toArray, List.set_cons_zero, List.set_cons_succ]
        refine Sym.take_at 11 40 (.agg (bs (n + m))) rfl rfl (by kernel_rfl) (by kernel_rfl) (by kernel_rfl) (fun _ _ _ h => h) rfl (fun _ hw => run_bd2 (n + m) (by have h1 := Hn.out; have h2 := Hm.out; omega) rfl rfl rfl) ⟨k653, k652, k651⟩ ?_
        simp only [List.setIfInBounds_toArray, List.set_cons_zero, List.set_cons_succ]
        refine one_ready 4 (by kernel_rfl) ?_
        refine opd rfl rfl (w_enter 33 (.agg (bs ((a ^ n % PP) * (a ^ m % PP) % PP))) rfl (run_Mul rfl rfl rfl) (mul_any (a ^ n % PP) (a ^ m % PP) (Nat.lt_trans (Nat.mod_lt _ (by decide)) pp_lt) (Nat.lt_trans (Nat.mod_lt _ (by decide)) pp_lt) _) (fun w655 hb656 => ?_))
        have k657 := k651.call hb656
        have k658 := k652.call hb656
        have k659 := k653.call hb656
        have hbel660 := bel_call hbel654 hb656
        refine ⟨⟨k659, k658, k657⟩, ?_⟩
        simp only [List.setIfInBounds_toArray, List.set_cons_zero, List.set_cons_succ]
        refine one_ready 12 (by kernel_rfl) ?_
        refine opd rfl rfl (w_enter 41 (.agg (bs (a ^ (n + m) % PP))) rfl (run_Power rfl rfl rfl) (power_any a (n + m) Ha.out (by have h1 := Hn.out; have h2 := Hm.out; unfold MM; omega) _) (fun w661 hb662 => ?_))
        have k663 := k657.call hb662
        have k664 := k658.call hb662
        have k665 := k659.call hb662
        have hbel666 := bel_call hbel660 hb662
        refine ⟨⟨k665, k664, k663⟩, ?_⟩
        simp only [List.setIfInBounds_toArray, List.set_cons_zero, List.set_cons_succ]
        refine Sym.take_at 13 42 (.bool true) rfl rfl (by kernel_rfl) (by kernel_rfl) (by kernel_rfl) (fun _ _ _ h => h) rfl (fun _ hw => run_eqN ((a ^ n % PP) * (a ^ m % PP) % PP) (a ^ (n + m) % PP) (Nat.lt_trans (Nat.mod_lt _ (by decide)) pp_lt) (Nat.lt_trans (Nat.mod_lt _ (by decide)) pp_lt) true (decide_eq_true F1) rfl rfl rfl) ⟨k665, k664, k663⟩ ?_
        simp only [List.setIfInBounds_toArray, List.set_cons_zero, List.set_cons_succ]
        refine Sym.take_at 14 43 (.bool true) rfl rfl (by kernel_rfl) (by kernel_rfl) (by kernel_rfl) (fun _ _ _ h => h) (wanted_none rfl) (fun _ hw => run_pick rfl rfl rfl) ⟨k665, k664, k663⟩ ?_
        simp only [List.setIfInBounds_toArray, List.set_cons_zero, List.set_cons_succ]
        refine Sym.take_at 15 44 (.bool true) rfl rfl (by kernel_rfl) (by kernel_rfl) (by kernel_rfl) (fun _ _ _ h => h) (wanted_none rfl) (fun _ hw => run_mv rfl rfl) ⟨k665, k664, k663⟩ ?_
        simp only [List.setIfInBounds_toArray, List.set_cons_zero, List.set_cons_succ]
        refine Sym.take_at 16 45 (.agg (bs (a ^ n % PP))) rfl rfl (by kernel_rfl) (by kernel_rfl) (by kernel_rfl) (fun _ _ _ h => h) rfl (fun _ hw => run_row rfl rfl (hw.1) Try.underlying23 rfl (by rw [bs_sz]; exact info_b)) ⟨k665, k664, k663⟩ ?_
        simp only [List.setIfInBounds_toArray, List.set_cons_zero, List.set_cons_succ]
        refine Sym.take_at 17 46 (.int .u8 (m : Int)) rfl rfl (by kernel_rfl) (by kernel_rfl) (by kernel_rfl) (fun _ _ _ h => h) rfl (fun _ hw => run_mv rfl rfl) ⟨k665, k664, k663⟩ ?_
        simp only [List.setIfInBounds_toArray, List.set_cons_zero, List.set_cons_succ]
        refine Sym.take_at 18 47 (.agg (bs m)) rfl rfl (by kernel_rfl) (by kernel_rfl) (by kernel_rfl) (fun _ _ _ h => h) rfl (fun _ hw => run_bd1 m Hm.out rfl rfl) ⟨k665, k664, k663⟩ ?_
        simp only [List.setIfInBounds_toArray, List.set_cons_zero, List.set_cons_succ]
        refine Sym.take_at 20 49 (.agg (bs a)) rfl rfl (by kernel_rfl) (by kernel_rfl) (by kernel_rfl) (fun _ _ _ h => h) rfl (fun _ hw => run_row rfl rfl (hw.2.2) Try.underlying23 rfl (by rw [bs_sz]; exact info_b)) ⟨k665, k664, k663⟩ ?_
        simp only [List.setIfInBounds_toArray, List.set_cons_zero, List.set_cons_succ]
        refine Sym.take_at 21 50 (.int .i64 ((n * m : Nat) : Int)) rfl rfl (by kernel_rfl) (by kernel_rfl) (by kernel_rfl) (fun _ _ _ h => h) rfl (fun _ hw => run_mv rfl rfl) ⟨k665, k664, k663⟩ ?_
        simp only [List.setIfInBounds_toArray, List.set_cons_zero, List.set_cons_succ]
        refine Sym.take_at 22 51 (.int .u8 (((n * m) % 256 : Nat) : Int)) rfl rfl (by kernel_rfl) (by kernel_rfl) (by kernel_rfl) (fun _ _ _ h => h) rfl (fun _ hw => run_intu8 (n * m) rfl rfl) ⟨k665, k664, k663⟩ ?_
        simp only [List.setIfInBounds_toArray, List.set_cons_zero, List.set_cons_succ]
        refine Sym.take_at 23 52 (.int .i64 ((n * m : Nat) : Int)) rfl rfl (by kernel_rfl) (by kernel_rfl) (by kernel_rfl) (fun _ _ _ h => h) rfl (fun _ hw => run_mv rfl rfl) ⟨k665, k664, k663⟩ ?_
        simp only [List.setIfInBounds_toArray, List.set_cons_zero, List.set_cons_succ]
        refine Sym.take_at 24 53 (.int .i64 (((n * m) / 256 : Nat) : Int)) rfl rfl (by kernel_rfl) (by kernel_rfl) (by kernel_rfl) (fun _ _ _ h => h) rfl (fun _ hw => run_shr8 (n * m) (by have := Nat.mul_lt_mul'' Hn.out Hm.out; omega) rfl rfl) ⟨k665, k664, k663⟩ ?_
        simp only [List.setIfInBounds_toArray, List.set_cons_zero, List.set_cons_succ]
        refine Sym.take_at 25 54 (.int .u8 ((((n * m) / 256) % 256 : Nat) : Int)) rfl rfl (by kernel_rfl) (by kernel_rfl) (by kernel_rfl) (fun _ _ _ h => h) rfl (fun _ hw => run_intu8 ((n * m) / 256) rfl rfl) ⟨k665, k664, k663⟩ ?_
        simp only [List.setIfInBounds_toArray, List.set_cons_zero, List.set_cons_succ]
        refine Sym.take_at 26 55 (.agg (bs (n * m))) rfl rfl (by kernel_rfl) (by kernel_rfl) (by kernel_rfl) (fun _ _ _ h => h) rfl (fun _ hw => run_bd2 (n * m) (by have := Nat.mul_lt_mul'' Hn.out Hm.out; omega) rfl rfl rfl) ⟨k665, k664, k663⟩ ?_
        simp only [List.setIfInBounds_toArray, List.set_cons_zero, List.set_cons_succ]
        refine one_ready 19 (by kernel_rfl) ?_
        refine opd rfl rfl (w_enter 48 (.agg (bs ((a ^ n % PP) ^ m % PP))) rfl (run_Power rfl rfl rfl) (power_any (a ^ n % PP) m (Nat.lt_trans (Nat.mod_lt _ (by decide)) pp_lt) (Nat.lt_trans Hm.out (by decide)) _) (fun w667 hb668 => ?_))
        have k669 := k663.call hb668
        have k670 := k664.call hb668
        have k671 := k665.call hb668
        have hbel672 := bel_call hbel666 hb668
        refine ⟨⟨k671, k670, k669⟩, ?_⟩
        simp only [List.setIfInBounds_toArray, List.set_cons_zero, List.set_cons_succ]
        refine one_ready 27 (by kernel_rfl) ?_
        refine opd rfl rfl (w_enter 56 (.agg (bs (a ^ (n * m) % PP))) rfl (run_Power rfl rfl rfl) (power_any a (n * m) Ha.out (by have := Nat.mul_lt_mul'' Hn.out Hm.out; unfold MM; omega) _) (fun w673 hb674 => ?_))
        have k675 := k669.call hb674
        have k676 := k670.call hb674
        have k677 := k671.call hb674
        have hbel678 := bel_call hbel672 hb674
        refine ⟨⟨k677, k676, k675⟩, ?_⟩
        simp only [List.setIfInBounds_toArray, List.set_cons_zero, List.set_cons_succ]
        refine Sym.take_at 28 57 (.bool true) rfl rfl (by kernel_rfl) (by kernel_rfl) (by kernel_rfl) (fun _ _ _ h => h) rfl (fun _ hw => run_eqN ((a ^ n % PP) ^ m % PP) (a ^ (n * m) % PP) (Nat.lt_trans (Nat.mod_lt _ (by decide)) pp_lt) (Nat.lt_trans (Nat.mod_lt _ (by decide)) pp_lt) true (decide_eq_true F2) rfl rfl rfl) ⟨k677, k676, k675⟩ ?_
        simp only [List.setIfInBounds_toArray, List.set_cons_zero, List.set_cons_succ]
        refine Sym.take_at 29 58 (.bool true) rfl rfl (by kernel_rfl) (by kernel_rfl) (by kernel_rfl) (fun _ _ _ h => h) (wanted_none rfl) (fun _ hw => run_pick rfl rfl rfl) ⟨k677, k676, k675⟩ ?_
        simp only [List.setIfInBounds_toArray, List.set_cons_zero, List.set_cons_succ]
        refine one_ready 30 (by kernel_rfl) ?_
        refine opd rfl (wanted_none rfl) (w_value 6 (.bool true) rfl (run_as rfl rfl) ⟨⟨k677, k676, k675⟩, ?_⟩)
        simp only [List.setIfInBounds_toArray, List.set_cons_zero, List.set_cons_succ]
        refine wpAnyH_done (by kernel_rfl) ?_ _
        go_step
        go_step
        go_wp2
        go_ret
        exact ⟨rfl, hbel678⟩
      · refine opd rfl (wanted_none rfl) (w_alloc (c := bs 0) (T := 23) 9 rfl (run_alN rfl) (fun w679 he680 => ?_))
        have hne682 : w.heap.size ≠ w613.heap.size := Nat.ne_of_lt k615.lt
        have k681 := k615.alloc he680
        have hne684 : wd8.heap.size ≠ w613.heap.size := Nat.ne_of_lt k616.lt
        have k683 := k616.alloc he680
        have k685 := Blk.new he680
        have hg686 : w.heap.size ≤ w613.heap.size := hbel617.size
        have hbel687 := bel_alloc hbel617 he680
        refine ⟨k681, ?_⟩
        simp only [List.setIfInBounds_toArray, List.set_cons_zero, List.set_cons_succ]
        refine one_ready 7 (by kernel_rfl) ?_
        refine opd rfl (wanted_none rfl) (w_enter 28 (.agg (bs (a ^ m % PP))) rfl (run_Power rfl rfl rfl) (power_any a m Ha.out (Nat.lt_trans Hm.out (by decide)) _) (fun w688 hb689 => ?_))
        have k690 := k681.call hb689
        have k691 := k683.call hb689
        have k692 := k685.call hb689
        have hbel693 := bel_call hbel687 hb689
        refine ⟨k690, ?_⟩
        simp only [List.setIfInBounds_toArray, List.set_cons_zero, List.set_cons_succ]
        refine one_ready 10 (by kernel_rfl) ?_
        refine opd rfl (wanted_none rfl) (w_store 23 _ _ (w613.heap.size) (bs (a ^ n % PP)) rfl rfl rfl rfl k692 (by rw [bs_sz]; exact info_b) ((bs_sz _).trans (bs_sz _).symm) (bs_one _) (fun w694 he695 => ?_))
        have k696 := k690.other hne682 he695
        have k697 := k691.other hne684 he695
        have k698 := k692.set he695
        have hbel699 := bel_set hbel693 hg686 he695
        refine ⟨k696, ?_⟩
        refine one_ready 11 (by kernel_rfl) ?_
        refine opd rfl (wanted_none rfl) (w_store 23 _ _ (wd8.heap.size) (bs (a ^ m % PP)) rfl rfl rfl rfl k697 (by rw [bs_sz]; exact info_b) ((bs_sz _).trans (bs_sz _).symm) (bs_one _) (fun w700 he701 => ?_))
        have k702 := k696.other hne609 he701
        have k703 := k698.other hne684.symm he701
        have k704 := k697.set he701
        have hbel705 := bel_set hbel699 hg611 he701
        refine ⟨k702, ?_⟩
        refine wpAnyH_done (by kernel_rfl) ?_ _
        go_step
        go_step
        go_step
        have k706 := k702.drew
        have k707 := k704.drew
        have k708 := k703.drew
        have hbel709 := hbel705.drew
        refine wp_region_held_drew (S := fun w' => Blk w' (w613.heap.size) (bs (a ^ n % PP)) 23 ∧ Blk w' (wd8.heap.size) (bs (a ^ m % PP)) 23 ∧ Blk w' (w.heap.size) (bs a) 23) (by kernel_rfl) ⟨k708, k707, k706⟩ (fun _ => ?_)
        generalize w700.drew = wd710 at *
        refine one_ready 0 (by kernel_rfl) ?_
        refine opd rfl (wanted_none rfl) (w_enter 29 (.bool true) rfl (run_awake rfl) (awake_any _) (fun w711 hb712 => ?_))
        have k713 := k706.call hb712
        have k714 := k707.call hb712
        have k715 := k708.call hb712
        have hbel716 := bel_call hbel709 hb712
        refine ⟨⟨k715, k714, k713⟩, ?_⟩
        simp only [List.setIfInBounds_toArray, List.set_cons_zero, List.set_cons_succ]
        refine Sym.take_at 1 30 (.bool true) rfl rfl (by kernel_rfl) (by kernel_rfl) (by kernel_rfl) (fun _ _ _ h => h) (wanted_none rfl) (fun _ hw => run_mv rfl rfl) ⟨k715, k714, k713⟩ ?_
        simp only [List.setIfInBounds_toArray, List.set_cons_zero, List.set_cons_succ]
        refine Sym.take_at 2 31 (.agg (bs (a ^ n % PP))) rfl rfl (by kernel_rfl) (by kernel_rfl) (by kernel_rfl) (fun _ _ _ h => h) rfl (fun _ hw => run_row rfl rfl (hw.1) Try.underlying23 rfl (by rw [bs_sz]; exact info_b)) ⟨k715, k714, k713⟩ ?_
        simp only [List.setIfInBounds_toArray, List.set_cons_zero, List.set_cons_succ]
        refine Sym.take_at 3 32 (.agg (bs (a ^ m % PP))) rfl rfl (by kernel_rfl) (by kernel_rfl) (by kernel_rfl) (fun _ _ _ h => h) rfl (fun _ hw => run_row rfl rfl (hw.2.1) Try.underlying23 rfl (by rw [bs_sz]; exact info_b)) ⟨k715, k714, k713⟩ ?_
        simp only [List.setIfInBounds_toArray, List.set_cons_zero, List.set_cons_succ]
        refine Sym.take_at 5 34 (.agg (bs a)) rfl rfl (by kernel_rfl) (by kernel_rfl) (by kernel_rfl) (fun _ _ _ h => h) rfl (fun _ hw => run_row rfl rfl (hw.2.2) Try.underlying23 rfl (by rw [bs_sz]; exact info_b)) ⟨k715, k714, k713⟩ ?_
        simp only [List.setIfInBounds_toArray, List.set_cons_zero, List.set_cons_succ]
        refine Sym.take_at 6 35 (.int .i64 ((n + m : Nat) : Int)) rfl rfl (by kernel_rfl) (by kernel_rfl) (by kernel_rfl) (fun _ _ _ h => h) rfl (fun _ hw => run_mv rfl rfl) ⟨k715, k714, k713⟩ ?_
        simp only [List.setIfInBounds_toArray, List.set_cons_zero, List.set_cons_succ]
        refine Sym.take_at 7 36 (.int .u8 (((n + m) % 256 : Nat) : Int)) rfl rfl (by kernel_rfl) (by kernel_rfl) (by kernel_rfl) (fun _ _ _ h => h) rfl (fun _ hw => run_intu8 (n + m) rfl rfl) ⟨k715, k714, k713⟩ ?_
        simp only [List.setIfInBounds_toArray, List.set_cons_zero, List.set_cons_succ]
        refine Sym.take_at 8 37 (.int .i64 ((n + m : Nat) : Int)) rfl rfl (by kernel_rfl) (by kernel_rfl) (by kernel_rfl) (fun _ _ _ h => h) rfl (fun _ hw => run_mv rfl rfl) ⟨k715, k714, k713⟩ ?_
        simp only [List.setIfInBounds_toArray, List.set_cons_zero, List.set_cons_succ]
        refine Sym.take_at 9 38 (.int .i64 (((n + m) / 256 : Nat) : Int)) rfl rfl (by kernel_rfl) (by kernel_rfl) (by kernel_rfl) (fun _ _ _ h => h) rfl (fun _ hw => run_shr8 (n + m) (by have h1 := Hn.out; have h2 := Hm.out; omega) rfl rfl) ⟨k715, k714, k713⟩ ?_
        simp only [List.setIfInBounds_toArray, List.set_cons_zero, List.set_cons_succ]
        refine Sym.take_at 10 39 (.int .u8 ((((n + m) / 256) % 256 : Nat) : Int)) rfl rfl (by kernel_rfl) (by kernel_rfl) (by kernel_rfl) (fun _ _ _ h => h) rfl (fun _ hw => run_intu8 ((n + m) / 256) rfl rfl) ⟨k715, k714, k713⟩ ?_
        simp only [List.setIfInBounds_toArray, List.set_cons_zero, List.set_cons_succ]
        refine Sym.take_at 11 40 (.agg (bs (n + m))) rfl rfl (by kernel_rfl) (by kernel_rfl) (by kernel_rfl) (fun _ _ _ h => h) rfl (fun _ hw => run_bd2 (n + m) (by have h1 := Hn.out; have h2 := Hm.out; omega) rfl rfl rfl) ⟨k715, k714, k713⟩ ?_
        simp only [List.setIfInBounds_toArray, List.set_cons_zero, List.set_cons_succ]
        refine one_ready 4 (by kernel_rfl) ?_
        refine opd rfl rfl (w_enter 33 (.agg (bs ((a ^ n % PP) * (a ^ m % PP) % PP))) rfl (run_Mul rfl rfl rfl) (mul_any (a ^ n % PP) (a ^ m % PP) (Nat.lt_trans (Nat.mod_lt _ (by decide)) pp_lt) (Nat.lt_trans (Nat.mod_lt _ (by decide)) pp_lt) _) (fun w717 hb718 => ?_))
        have k719 := k713.call hb718
        have k720 := k714.call hb718
        have k721 := k715.call hb718
        have hbel722 := bel_call hbel716 hb718
        refine ⟨⟨k721, k720, k719⟩, ?_⟩
        simp only [List.setIfInBounds_toArray, List.set_cons_zero, List.set_cons_succ]
        refine one_ready 12 (by kernel_rfl) ?_
        refine opd rfl rfl (w_enter 41 (.agg (bs (a ^ (n + m) % PP))) rfl (run_Power rfl rfl rfl) (power_any a (n + m) Ha.out (by have h1 := Hn.out; have h2 := Hm.out; unfold MM; omega) _) (fun w723 hb724 => ?_))
        have k725 := k719.call hb724
        have k726 := k720.call hb724
        have k727 := k721.call hb724
        have hbel728 := bel_call hbel722 hb724
        refine ⟨⟨k727, k726, k725⟩, ?_⟩
        simp only [List.setIfInBounds_toArray, List.set_cons_zero, List.set_cons_succ]
        refine Sym.take_at 13 42 (.bool true) rfl rfl (by kernel_rfl) (by kernel_rfl) (by kernel_rfl) (fun _ _ _ h => h) rfl (fun _ hw => run_eqN ((a ^ n % PP) * (a ^ m % PP) % PP) (a ^ (n + m) % PP) (Nat.lt_trans (Nat.mod_lt _ (by decide)) pp_lt) (Nat.lt_trans (Nat.mod_lt _ (by decide)) pp_lt) true (decide_eq_true F1) rfl rfl rfl) ⟨k727, k726, k725⟩ ?_
        simp only [List.setIfInBounds_toArray, List.set_cons_zero, List.set_cons_succ]
        refine Sym.take_at 14 43 (.bool true) rfl rfl (by kernel_rfl) (by kernel_rfl) (by kernel_rfl) (fun _ _ _ h => h) (wanted_none rfl) (fun _ hw => run_pick rfl rfl rfl) ⟨k727, k726, k725⟩ ?_
        simp only [List.setIfInBounds_toArray, List.set_cons_zero, List.set_cons_succ]
        refine Sym.take_at 15 44 (.bool true) rfl rfl (by kernel_rfl) (by kernel_rfl) (by kernel_rfl) (fun _ _ _ h => h) (wanted_none rfl) (fun _ hw => run_mv rfl rfl) ⟨k727, k726, k725⟩ ?_
        simp only [List.setIfInBounds_toArray, List.set_cons_zero, List.set_cons_succ]
        refine Sym.take_at 16 45 (.agg (bs (a ^ n % PP))) rfl rfl (by kernel_rfl) (by kernel_rfl) (by kernel_rfl) (fun _ _ _ h => h) rfl (fun _ hw => run_row rfl rfl (hw.1) Try.underlying23 rfl (by rw [bs_sz]; exact info_b)) ⟨k727, k726, k725⟩ ?_
        simp only [List.setIfInBounds_toArray, List.set_cons_zero, List.set_cons_succ]
        refine Sym.take_at 17 46 (.int .u8 (m : Int)) rfl rfl (by kernel_rfl) (by kernel_rfl) (by kernel_rfl) (fun _ _ _ h => h) rfl (fun _ hw => run_mv rfl rfl) ⟨k727, k726, k725⟩ ?_
        simp only [List.setIfInBounds_toArray, List.set_cons_zero, List.set_cons_succ]
        refine Sym.take_at 18 47 (.agg (bs m)) rfl rfl (by kernel_rfl) (by kernel_rfl) (by kernel_rfl) (fun _ _ _ h => h) rfl (fun _ hw => run_bd1 m Hm.out rfl rfl) ⟨k727, k726, k725⟩ ?_
        simp only [List.setIfInBounds_toArray, List.set_cons_zero, List.set_cons_succ]
        refine Sym.take_at 20 49 (.agg (bs a)) rfl rfl (by kernel_rfl) (by kernel_rfl) (by kernel_rfl) (fun _ _ _ h => h) rfl (fun _ hw => run_row rfl rfl (hw.2.2) Try.underlying23 rfl (by rw [bs_sz]; exact info_b)) ⟨k727, k726, k725⟩ ?_
        simp only [List.setIfInBounds_toArray, List.set_cons_zero, List.set_cons_succ]
        refine Sym.take_at 21 50 (.int .i64 ((n * m : Nat) : Int)) rfl rfl (by kernel_rfl) (by kernel_rfl) (by kernel_rfl) (fun _ _ _ h => h) rfl (fun _ hw => run_mv rfl rfl) ⟨k727, k726, k725⟩ ?_
        simp only [List.setIfInBounds_toArray, List.set_cons_zero, List.set_cons_succ]
        refine Sym.take_at 22 51 (.int .u8 (((n * m) % 256 : Nat) : Int)) rfl rfl (by kernel_rfl) (by kernel_rfl) (by kernel_rfl) (fun _ _ _ h => h) rfl (fun _ hw => run_intu8 (n * m) rfl rfl) ⟨k727, k726, k725⟩ ?_
        simp only [List.setIfInBounds_toArray, List.set_cons_zero, List.set_cons_succ]
        refine Sym.take_at 23 52 (.int .i64 ((n * m : Nat) : Int)) rfl rfl (by kernel_rfl) (by kernel_rfl) (by kernel_rfl) (fun _ _ _ h => h) rfl (fun _ hw => run_mv rfl rfl) ⟨k727, k726, k725⟩ ?_
        simp only [List.setIfInBounds_toArray, List.set_cons_zero, List.set_cons_succ]
        refine Sym.take_at 24 53 (.int .i64 (((n * m) / 256 : Nat) : Int)) rfl rfl (by kernel_rfl) (by kernel_rfl) (by kernel_rfl) (fun _ _ _ h => h) rfl (fun _ hw => run_shr8 (n * m) (by have := Nat.mul_lt_mul'' Hn.out Hm.out; omega) rfl rfl) ⟨k727, k726, k725⟩ ?_
        simp only [List.setIfInBounds_toArray, List.set_cons_zero, List.set_cons_succ]
        refine Sym.take_at 25 54 (.int .u8 ((((n * m) / 256) % 256 : Nat) : Int)) rfl rfl (by kernel_rfl) (by kernel_rfl) (by kernel_rfl) (fun _ _ _ h => h) rfl (fun _ hw => run_intu8 ((n * m) / 256) rfl rfl) ⟨k727, k726, k725⟩ ?_
        simp only [List.setIfInBounds_toArray, List.set_cons_zero, List.set_cons_succ]
        refine Sym.take_at 26 55 (.agg (bs (n * m))) rfl rfl (by kernel_rfl) (by kernel_rfl) (by kernel_rfl) (fun _ _ _ h => h) rfl (fun _ hw => run_bd2 (n * m) (by have := Nat.mul_lt_mul'' Hn.out Hm.out; omega) rfl rfl rfl) ⟨k727, k726, k725⟩ ?_
        simp only [List.setIfInBounds_toArray, List.set_cons_zero, List.set_cons_succ]
        refine one_ready 19 (by kernel_rfl) ?_
        refine opd rfl rfl (w_enter 48 (.agg (bs ((a ^ n % PP) ^ m % PP))) rfl (run_Power rfl rfl rfl) (power_any (a ^ n % PP) m (Nat.lt_trans (Nat.mod_lt _ (by decide)) pp_lt) (Nat.lt_trans Hm.out (by decide)) _) (fun w729 hb730 => ?_))
        have k731 := k725.call hb730
        have k732 := k726.call hb730
        have k733 := k727.call hb730
        have hbel734 := bel_call hbel728 hb730
        refine ⟨⟨k733, k732, k731⟩, ?_⟩
        simp only [List.setIfInBounds_toArray, List.set_cons_zero, List.set_cons_succ]
        refine one_ready 27 (by kernel_rfl) ?_
        refine opd rfl rfl (w_enter 56 (.agg (bs (a ^ (n * m) % PP))) rfl (run_Power rfl rfl rfl) (power_any a (n * m) Ha.out (by have := Nat.mul_lt_mul'' Hn.out Hm.out; unfold MM; omega) _) (fun w735 hb736 => ?_))
        have k737 := k731.call hb736
        have k738 := k732.call hb736
        have k739 := k733.call hb736
        have hbel740 := bel_call hbel734 hb736
        refine ⟨⟨k739, k738, k737⟩, ?_⟩
        simp only [List.setIfInBounds_toArray, List.set_cons_zero, List.set_cons_succ]
        refine Sym.take_at 28 57 (.bool true) rfl rfl (by kernel_rfl) (by kernel_rfl) (by kernel_rfl) (fun _ _ _ h => h) rfl (fun _ hw => run_eqN ((a ^ n % PP) ^ m % PP) (a ^ (n * m) % PP) (Nat.lt_trans (Nat.mod_lt _ (by decide)) pp_lt) (Nat.lt_trans (Nat.mod_lt _ (by decide)) pp_lt) true (decide_eq_true F2) rfl rfl rfl) ⟨k739, k738, k737⟩ ?_
        simp only [List.setIfInBounds_toArray, List.set_cons_zero, List.set_cons_succ]
        refine Sym.take_at 29 58 (.bool true) rfl rfl (by kernel_rfl) (by kernel_rfl) (by kernel_rfl) (fun _ _ _ h => h) (wanted_none rfl) (fun _ hw => run_pick rfl rfl rfl) ⟨k739, k738, k737⟩ ?_
        simp only [List.setIfInBounds_toArray, List.set_cons_zero, List.set_cons_succ]
        refine one_ready 30 (by kernel_rfl) ?_
        refine opd rfl (wanted_none rfl) (w_value 6 (.bool true) rfl (run_as rfl rfl) ⟨⟨k739, k738, k737⟩, ?_⟩)
        simp only [List.setIfInBounds_toArray, List.set_cons_zero, List.set_cons_succ]
        refine wpAnyH_done (by kernel_rfl) ?_ _
        go_step
        go_step
        go_wp2
        go_ret
        exact ⟨rfl, hbel740⟩
    · refine opd rfl (wanted_none rfl) (w_alloc (c := bs 0) (T := 23) 9 rfl (run_alN rfl) (fun w741 he742 => ?_))
      have hne744 : w.heap.size ≠ w606.heap.size := Nat.ne_of_lt k608.lt
      have k743 := k608.alloc he742
      have hne746 : wd8.heap.size ≠ w606.heap.size := Nat.ne_of_lt k610.lt
      have k745 := k610.alloc he742
      have k747 := Blk.new he742
      have hg748 : w.heap.size ≤ w606.heap.size := hbel612.size
      have hbel749 := bel_alloc hbel612 he742
      refine ⟨k743, ?_⟩
      simp only [List.setIfInBounds_toArray, List.set_cons_zero, List.set_cons_succ]
      refine one_ready 3 (by kernel_rfl) ?_
      refine opd rfl (wanted_none rfl) (w_enter 24 (.agg (bs (a ^ n % PP))) rfl (run_Power rfl rfl rfl) (power_any a n Ha.out (Nat.lt_trans Hn.out (by decide)) _) (fun w750 hb751 => ?_))
      have k752 := k743.call hb751
      have k753 := k745.call hb751
      have k754 := k747.call hb751
      have hbel755 := bel_call hbel749 hb751
      refine ⟨k752, ?_⟩
      simp only [List.setIfInBounds_toArray, List.set_cons_zero, List.set_cons_succ]
      refine one_ready 7 (by kernel_rfl) ?_
      refine opd rfl (wanted_none rfl) (w_enter 28 (.agg (bs (a ^ m % PP))) rfl (run_Power rfl rfl rfl) (power_any a m Ha.out (Nat.lt_trans Hm.out (by decide)) _) (fun w756 hb757 => ?_))
      have k758 := k752.call hb757
      have k759 := k753.call hb757
      have k760 := k754.call hb757
      have hbel761 := bel_call hbel755 hb757
      refine ⟨k758, ?_⟩
      simp only [List.setIfInBounds_toArray, List.set_cons_zero, List.set_cons_succ]
      refine one_ready 10 (by kernel_rfl) ?_
      refine opd rfl (wanted_none rfl) (w_store 23 _ _ (w606.heap.size) (bs (a ^ n % PP)) rfl rfl rfl rfl k760 (by rw [bs_sz]; exact info_b) ((bs_sz _).trans (bs_sz _).symm) (bs_one _) (fun w762 he763 => ?_))
      have k764 := k758.other hne744 he763
      have k765 := k759.other hne746 he763
      have k766 := k760.set he763
      have hbel767 := bel_set hbel761 hg748 he763
      refine ⟨k764, ?_⟩
      refine one_ready 11 (by kernel_rfl) ?_
      refine opd rfl (wanted_none rfl) (w_store 23 _ _ (wd8.heap.size) (bs (a ^ m % PP)) rfl rfl rfl rfl k765 (by rw [bs_sz]; exact info_b) ((bs_sz _).trans (bs_sz _).symm) (bs_one _) (fun w768 he769 => ?_))
      have k770 := k764.other hne609 he769
      have k771 := k766.other hne746.symm he769
      have k772 := k765.set he769
      have hbel773 := bel_set hbel767 hg611 he769
      refine ⟨k770, ?_⟩
      refine wpAnyH_done (by kernel_rfl) ?_ _
      go_step
      go_step
      go_step
      have k774 := k770.drew
      have k775 := k772.drew
      have k776 := k771.drew
      have hbel777 := hbel773.drew
      refine wp_region_held_drew (S := fun w' => Blk w' (w606.heap.size) (bs (a ^ n % PP)) 23 ∧ Blk w' (wd8.heap.size) (bs (a ^ m % PP)) 23 ∧ Blk w' (w.heap.size) (bs a) 23) (by kernel_rfl) ⟨k776, k775, k774⟩ (fun _ => ?_)
      generalize w768.drew = wd778 at *
      refine one_ready 0 (by kernel_rfl) ?_
      refine opd rfl (wanted_none rfl) (w_enter 29 (.bool true) rfl (run_awake rfl) (awake_any _) (fun w779 hb780 => ?_))
      have k781 := k774.call hb780
      have k782 := k775.call hb780
      have k783 := k776.call hb780
      have hbel784 := bel_call hbel777 hb780
      refine ⟨⟨k783, k782, k781⟩, ?_⟩
      simp only [List.setIfInBounds_toArray, List.set_cons_zero, List.set_cons_succ]
      refine Sym.take_at 1 30 (.bool true) rfl rfl (by kernel_rfl) (by kernel_rfl) (by kernel_rfl) (fun _ _ _ h => h) (wanted_none rfl) (fun _ hw => run_mv rfl rfl) ⟨k783, k782, k781⟩ ?_
      simp only [List.setIfInBounds_toArray, List.set_cons_zero, List.set_cons_succ]
      refine Sym.take_at 2 31 (.agg (bs (a ^ n % PP))) rfl rfl (by kernel_rfl) (by kernel_rfl) (by kernel_rfl) (fun _ _ _ h => h) rfl (fun _ hw => run_row rfl rfl (hw.1) Try.underlying23 rfl (by rw [bs_sz]; exact info_b)) ⟨k783, k782, k781⟩ ?_
      simp only [List.setIfInBounds_toArray, List.set_cons_zero, List.set_cons_succ]
      refine Sym.take_at 3 32 (.agg (bs (a ^ m % PP))) rfl rfl (by kernel_rfl) (by kernel_rfl) (by kernel_rfl) (fun _ _ _ h => h) rfl (fun _ hw => run_row rfl rfl (hw.2.1) Try.underlying23 rfl (by rw [bs_sz]; exact info_b)) ⟨k783, k782, k781⟩ ?_
      simp only [List.setIfInBounds_toArray, List.set_cons_zero, List.set_cons_succ]
      refine Sym.take_at 5 34 (.agg (bs a)) rfl rfl (by kernel_rfl) (by kernel_rfl) (by kernel_rfl) (fun _ _ _ h => h) rfl (fun _ hw => run_row rfl rfl (hw.2.2) Try.underlying23 rfl (by rw [bs_sz]; exact info_b)) ⟨k783, k782, k781⟩ ?_
      simp only [List.setIfInBounds_toArray, List.set_cons_zero, List.set_cons_succ]
      refine Sym.take_at 6 35 (.int .i64 ((n + m : Nat) : Int)) rfl rfl (by kernel_rfl) (by kernel_rfl) (by kernel_rfl) (fun _ _ _ h => h) rfl (fun _ hw => run_mv rfl rfl) ⟨k783, k782, k781⟩ ?_
      simp only [List.setIfInBounds_toArray, List.set_cons_zero, List.set_cons_succ]
      refine Sym.take_at 7 36 (.int .u8 (((n + m) % 256 : Nat) : Int)) rfl rfl (by kernel_rfl) (by kernel_rfl) (by kernel_rfl) (fun _ _ _ h => h) rfl (fun _ hw => run_intu8 (n + m) rfl rfl) ⟨k783, k782, k781⟩ ?_
      simp only [List.setIfInBounds_toArray, List.set_cons_zero, List.set_cons_succ]
      refine Sym.take_at 8 37 (.int .i64 ((n + m : Nat) : Int)) rfl rfl (by kernel_rfl) (by kernel_rfl) (by kernel_rfl) (fun _ _ _ h => h) rfl (fun _ hw => run_mv rfl rfl) ⟨k783, k782, k781⟩ ?_
      simp only [List.setIfInBounds_toArray, List.set_cons_zero, List.set_cons_succ]
      refine Sym.take_at 9 38 (.int .i64 (((n + m) / 256 : Nat) : Int)) rfl rfl (by kernel_rfl) (by kernel_rfl) (by kernel_rfl) (fun _ _ _ h => h) rfl (fun _ hw => run_shr8 (n + m) (by have h1 := Hn.out; have h2 := Hm.out; omega) rfl rfl) ⟨k783, k782, k781⟩ ?_
      simp only [List.setIfInBounds_toArray, List.set_cons_zero, List.set_cons_succ]
      refine Sym.take_at 10 39 (.int .u8 ((((n + m) / 256) % 256 : Nat) : Int)) rfl rfl (by kernel_rfl) (by kernel_rfl) (by kernel_rfl) (fun _ _ _ h => h) rfl (fun _ hw => run_intu8 ((n + m) / 256) rfl rfl) ⟨k783, k782, k781⟩ ?_
      simp only [List.setIfInBounds_toArray, List.set_cons_zero, List.set_cons_succ]
      refine Sym.take_at 11 40 (.agg (bs (n + m))) rfl rfl (by kernel_rfl) (by kernel_rfl) (by kernel_rfl) (fun _ _ _ h => h) rfl (fun _ hw => run_bd2 (n + m) (by have h1 := Hn.out; have h2 := Hm.out; omega) rfl rfl rfl) ⟨k783, k782, k781⟩ ?_
      simp only [List.setIfInBounds_toArray, List.set_cons_zero, List.set_cons_succ]
      refine one_ready 4 (by kernel_rfl) ?_
      refine opd rfl rfl (w_enter 33 (.agg (bs ((a ^ n % PP) * (a ^ m % PP) % PP))) rfl (run_Mul rfl rfl rfl) (mul_any (a ^ n % PP) (a ^ m % PP) (Nat.lt_trans (Nat.mod_lt _ (by decide)) pp_lt) (Nat.lt_trans (Nat.mod_lt _ (by decide)) pp_lt) _) (fun w785 hb786 => ?_))
      have k787 := k781.call hb786
      have k788 := k782.call hb786
      have k789 := k783.call hb786
      have hbel790 := bel_call hbel784 hb786
      refine ⟨⟨k789, k788, k787⟩, ?_⟩
      simp only [List.setIfInBounds_toArray, List.set_cons_zero, List.set_cons_succ]
      refine one_ready 12 (by kernel_rfl) ?_
      refine opd rfl rfl (w_enter 41 (.agg (bs (a ^ (n + m) % PP))) rfl (run_Power rfl rfl rfl) (power_any a (n + m) Ha.out (by have h1 := Hn.out; have h2 := Hm.out; unfold MM; omega) _) (fun w791 hb792 => ?_))
      have k793 := k787.call hb792
      have k794 := k788.call hb792
      have k795 := k789.call hb792
      have hbel796 := bel_call hbel790 hb792
      refine ⟨⟨k795, k794, k793⟩, ?_⟩
      simp only [List.setIfInBounds_toArray, List.set_cons_zero, List.set_cons_succ]
      refine Sym.take_at 13 42 (.bool true) rfl rfl (by kernel_rfl) (by kernel_rfl) (by kernel_rfl) (fun _ _ _ h => h) rfl (fun _ hw => run_eqN ((a ^ n % PP) * (a ^ m % PP) % PP) (a ^ (n + m) % PP) (Nat.lt_trans (Nat.mod_lt _ (by decide)) pp_lt) (Nat.lt_trans (Nat.mod_lt _ (by decide)) pp_lt) true (decide_eq_true F1) rfl rfl rfl) ⟨k795, k794, k793⟩ ?_
      simp only [List.setIfInBounds_toArray, List.set_cons_zero, List.set_cons_succ]
      refine Sym.take_at 14 43 (.bool true) rfl rfl (by kernel_rfl) (by kernel_rfl) (by kernel_rfl) (fun _ _ _ h => h) (wanted_none rfl) (fun _ hw => run_pick rfl rfl rfl) ⟨k795, k794, k793⟩ ?_
      simp only [List.setIfInBounds_toArray, List.set_cons_zero, List.set_cons_succ]
      refine Sym.take_at 15 44 (.bool true) rfl rfl (by kernel_rfl) (by kernel_rfl) (by kernel_rfl) (fun _ _ _ h => h) (wanted_none rfl) (fun _ hw => run_mv rfl rfl) ⟨k795, k794, k793⟩ ?_
      simp only [List.setIfInBounds_toArray, List.set_cons_zero, List.set_cons_succ]
      refine Sym.take_at 16 45 (.agg (bs (a ^ n % PP))) rfl rfl (by kernel_rfl) (by kernel_rfl) (by kernel_rfl) (fun _ _ _ h => h) rfl (fun _ hw => run_row rfl rfl (hw.1) Try.underlying23 rfl (by rw [bs_sz]; exact info_b)) ⟨k795, k794, k793⟩ ?_
      simp only [List.setIfInBounds_toArray, List.set_cons_zero, List.set_cons_succ]
      refine Sym.take_at 17 46 (.int .u8 (m : Int)) rfl rfl (by kernel_rfl) (by kernel_rfl) (by kernel_rfl) (fun _ _ _ h => h) rfl (fun _ hw => run_mv rfl rfl) ⟨k795, k794, k793⟩ ?_
      simp only [List.setIfInBounds_toArray, List.set_cons_zero, List.set_cons_succ]
      refine Sym.take_at 18 47 (.agg (bs m)) rfl rfl (by kernel_rfl) (by kernel_rfl) (by kernel_rfl) (fun _ _ _ h => h) rfl (fun _ hw => run_bd1 m Hm.out rfl rfl) ⟨k795, k794, k793⟩ ?_
      simp only [List.setIfInBounds_toArray, List.set_cons_zero, List.set_cons_succ]
      refine Sym.take_at 20 49 (.agg (bs a)) rfl rfl (by kernel_rfl) (by kernel_rfl) (by kernel_rfl) (fun _ _ _ h => h) rfl (fun _ hw => run_row rfl rfl (hw.2.2) Try.underlying23 rfl (by rw [bs_sz]; exact info_b)) ⟨k795, k794, k793⟩ ?_
      simp only [List.setIfInBounds_toArray, List.set_cons_zero, List.set_cons_succ]
      refine Sym.take_at 21 50 (.int .i64 ((n * m : Nat) : Int)) rfl rfl (by kernel_rfl) (by kernel_rfl) (by kernel_rfl) (fun _ _ _ h => h) rfl (fun _ hw => run_mv rfl rfl) ⟨k795, k794, k793⟩ ?_
      simp only [List.setIfInBounds_toArray, List.set_cons_zero, List.set_cons_succ]
      refine Sym.take_at 22 51 (.int .u8 (((n * m) % 256 : Nat) : Int)) rfl rfl (by kernel_rfl) (by kernel_rfl) (by kernel_rfl) (fun _ _ _ h => h) rfl (fun _ hw => run_intu8 (n * m) rfl rfl) ⟨k795, k794, k793⟩ ?_
      simp only [List.setIfInBounds_toArray, List.set_cons_zero, List.set_cons_succ]
      refine Sym.take_at 23 52 (.int .i64 ((n * m : Nat) : Int)) rfl rfl (by kernel_rfl) (by kernel_rfl) (by kernel_rfl) (fun _ _ _ h => h) rfl (fun _ hw => run_mv rfl rfl) ⟨k795, k794, k793⟩ ?_
      simp only [List.setIfInBounds_toArray, List.set_cons_zero, List.set_cons_succ]
      refine Sym.take_at 24 53 (.int .i64 (((n * m) / 256 : Nat) : Int)) rfl rfl (by kernel_rfl) (by kernel_rfl) (by kernel_rfl) (fun _ _ _ h => h) rfl (fun _ hw => run_shr8 (n * m) (by have := Nat.mul_lt_mul'' Hn.out Hm.out; omega) rfl rfl) ⟨k795, k794, k793⟩ ?_
      simp only [List.setIfInBounds_toArray, List.set_cons_zero, List.set_cons_succ]
      refine Sym.take_at 25 54 (.int .u8 ((((n * m) / 256) % 256 : Nat) : Int)) rfl rfl (by kernel_rfl) (by kernel_rfl) (by kernel_rfl) (fun _ _ _ h => h) rfl (fun _ hw => run_intu8 ((n * m) / 256) rfl rfl) ⟨k795, k794, k793⟩ ?_
      simp only [List.setIfInBounds_toArray, List.set_cons_zero, List.set_cons_succ]
      refine Sym.take_at 26 55 (.agg (bs (n * m))) rfl rfl (by kernel_rfl) (by kernel_rfl) (by kernel_rfl) (fun _ _ _ h => h) rfl (fun _ hw => run_bd2 (n * m) (by have := Nat.mul_lt_mul'' Hn.out Hm.out; omega) rfl rfl rfl) ⟨k795, k794, k793⟩ ?_
      simp only [List.setIfInBounds_toArray, List.set_cons_zero, List.set_cons_succ]
      refine one_ready 19 (by kernel_rfl) ?_
      refine opd rfl rfl (w_enter 48 (.agg (bs ((a ^ n % PP) ^ m % PP))) rfl (run_Power rfl rfl rfl) (power_any (a ^ n % PP) m (Nat.lt_trans (Nat.mod_lt _ (by decide)) pp_lt) (Nat.lt_trans Hm.out (by decide)) _) (fun w797 hb798 => ?_))
      have k799 := k793.call hb798
      have k800 := k794.call hb798
      have k801 := k795.call hb798
      have hbel802 := bel_call hbel796 hb798
      refine ⟨⟨k801, k800, k799⟩, ?_⟩
      simp only [List.setIfInBounds_toArray, List.set_cons_zero, List.set_cons_succ]
      refine one_ready 27 (by kernel_rfl) ?_
      refine opd rfl rfl (w_enter 56 (.agg (bs (a ^ (n * m) % PP))) rfl (run_Power rfl rfl rfl) (power_any a (n * m) Ha.out (by have := Nat.mul_lt_mul'' Hn.out Hm.out; unfold MM; omega) _) (fun w803 hb804 => ?_))
      have k805 := k799.call hb804
      have k806 := k800.call hb804
      have k807 := k801.call hb804
      have hbel808 := bel_call hbel802 hb804
      refine ⟨⟨k807, k806, k805⟩, ?_⟩
      simp only [List.setIfInBounds_toArray, List.set_cons_zero, List.set_cons_succ]
      refine Sym.take_at 28 57 (.bool true) rfl rfl (by kernel_rfl) (by kernel_rfl) (by kernel_rfl) (fun _ _ _ h => h) rfl (fun _ hw => run_eqN ((a ^ n % PP) ^ m % PP) (a ^ (n * m) % PP) (Nat.lt_trans (Nat.mod_lt _ (by decide)) pp_lt) (Nat.lt_trans (Nat.mod_lt _ (by decide)) pp_lt) true (decide_eq_true F2) rfl rfl rfl) ⟨k807, k806, k805⟩ ?_
      simp only [List.setIfInBounds_toArray, List.set_cons_zero, List.set_cons_succ]
      refine Sym.take_at 29 58 (.bool true) rfl rfl (by kernel_rfl) (by kernel_rfl) (by kernel_rfl) (fun _ _ _ h => h) (wanted_none rfl) (fun _ hw => run_pick rfl rfl rfl) ⟨k807, k806, k805⟩ ?_
      simp only [List.setIfInBounds_toArray, List.set_cons_zero, List.set_cons_succ]
      refine one_ready 30 (by kernel_rfl) ?_
      refine opd rfl (wanted_none rfl) (w_value 6 (.bool true) rfl (run_as rfl rfl) ⟨⟨k807, k806, k805⟩, ?_⟩)
      simp only [List.setIfInBounds_toArray, List.set_cons_zero, List.set_cons_succ]
      refine wpAnyH_done (by kernel_rfl) ?_ _
      go_step
      go_step
      go_wp2
      go_ret
      exact ⟨rfl, hbel808⟩

set_option maxRecDepth 100000 in
theorem lifted (os : Os) (started : os.Started) (H : Type) (enc : TypeId × Value → H) :
    ReturnsInHanded {} Try.checked os 9 .any (Rows.fieldStepsSpec.pre6 enc Try.prog Try.f9 Rows.fieldStepsRow.domain false) (Rows.fieldStepsSpec.post enc Try.prog Try.f9 false true false false) := by
  refine returnsInHanded_of_change (C := Try.checked) own started (by kernel_rfl) Try.func9
    (ChangeSpec.witness6 (enc := enc) (C := Try.checked) false ⟨#[], #[.agg #[.int .u8 0, .int .u8 0, .int .u8 0, .int .u8 0, .int .u8 0, .int .u8 0, .int .u8 0, .int .u8 0, .int .u8 0, .int .u8 0, .int .u8 0, .int .u8 0, .int .u8 0, .int .u8 0, .int .u8 0, .int .u8 0, .int .u8 0, .int .u8 0, .int .u8 0, .int .u8 0, .int .u8 0, .int .u8 0, .int .u8 0, .int .u8 0, .int .u8 0, .int .u8 0, .int .u8 0, .int .u8 0, .int .u8 0, .int .u8 0, .int .u8 0, .int .u8 0], .int .u8 0, .int .u8 0], []⟩ 8 (by kernel_rfl) (by kernel_rfl) (by kernel_rfl) (by kernel_rfl)) ?_
  intro W base args ds gs before hval0 hW hcnd _
  have hval : ∀ (j : Nat) t v, Try.f9.params[j]? = some t → args[j]? = some v → Value.okWide Try.prog W .any base t v := hval0
  have hW' := hW
  obtain ⟨p, q, hA0, hV, rfl, hfz, hnd⟩ := hW
  have hA : DataW.TrodAll enc Try.prog W 0 (fun _ => true) true Try.f9.params.toList args.toList ds p := hA0
  rw [Try.params9] at hA hval
  obtain ⟨v0, vs0, d0, ds0, p0, q0, hargs, rfl, rfl, h0, r0⟩ := trodAll_cons hA
  obtain ⟨v1, vs1, d1, ds1, p1, q1, rfl, rfl, rfl, h1, r1⟩ := trodAll_cons r0
  obtain ⟨v2, vs2, d2, ds2, p2, q2, rfl, rfl, rfl, h2, r2⟩ := trodAll_cons r1
  obtain ⟨rfl, rfl, rfl⟩ := trodAll_nil r2
  obtain rfl : args = #[v0, v1, v2] := by cases args; simp_all
  obtain ⟨rfl, rfl⟩ := trodVars_none hV
  obtain ⟨a0, b0, rfl, rfl, k0⟩ := open_num (hval 0 23 v0 rfl rfl) h0
  obtain ⟨z1, rfl, rfl, rfl, w1⟩ := open_int Try.underlying5 (hval 1 5 v1 rfl rfl) h1
  obtain ⟨a1, rfl⟩ := Int.eq_ofNat_of_zero_le (bounds_u8 w1).1
  have b1 : a1 < 256 := by have := (bounds_u8 w1).2; omega
  obtain ⟨z2, rfl, rfl, rfl, w2⟩ := open_int Try.underlying5 (hval 2 5 v2 rfl rfl) h2
  obtain ⟨a2, rfl⟩ := Int.eq_ofNat_of_zero_le (bounds_u8 w2).1
  have b2 : a2 < 256 := by have := (bounds_u8 w2).2; omega
  clear hA0 hval0
  simp only [List.append_nil] at hW'
  refine (walk a0 b0 a1 b1 a2 b2 W).mono fun e W' ⟨he, hg⟩ => ?_
  subst he
  exact ⟨_, rfl, _, _, _, [], [], [], hW', (trodAll_cons_mk (shut_bool Try.underlying4 _) trodAll_mk0), (trodAll_cons_mk (k0 _ _) (trodAll_cons_mk (shut_int Try.underlying5 w1) (trodAll_cons_mk (shut_int Try.underlying5 w2) trodAll_mk0))), rfl, hg.frame _, fun h => by cases h⟩

theorem over : Rows.fieldStepsRow.holds Try.pinned (OpenSpec.ofChange Rows.fieldStepsSpec) :=
  OpenClaim.holds_of_wide 9 Try.f9 rfl rfl rfl rfl rfl rfl rfl ⟨rfl, rfl, rfl, rfl, rfl⟩ rfl rfl rfl rfl rfl (by kernel_rfl) Try.func9 (by kernel_rfl)
    (of_decide_eq_true (by kernel_rfl)) (by unfold Func.isWrapper; first | (rw [if_pos (by decide +kernel)]; kernel_rfl) | (rw [if_neg (by decide +kernel)]; exact ⟨rfl, rfl⟩))
    (fun os started H enc _ => lifted os started H enc)

/-- The statement. -/
theorem proved : Rows.FieldStepsSaid :=
  over
#print axioms proved
end Go.Proofs.Ytghcggecahaccaa.fieldSteps
