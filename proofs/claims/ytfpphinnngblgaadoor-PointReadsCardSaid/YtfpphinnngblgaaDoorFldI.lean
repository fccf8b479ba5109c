/- Layer 3: what the package offers. -/
import Derived.Test.YtfpphinnngblgaaDoorFldH
import Derived.Test.YtfpphinnngblgaaDoorSym
namespace Go.Proofs.YtfpphinnngblgaaDoor.Fld
open Go.RowKit
open Go.Proofs.YtfpphinnngblgaaDoor.Arr Go.Proofs.YtfpphinnngblgaaDoor.Sym

def canonB (a : Nat) : Bool := decide (a < PP)
theorem run_one {o : Oper} {a : Act} {w : World} {x : Operand} {b : Nat} {c : Bool} (ho : o.op = .binOp .eql 50 x (.const (.int .u64 1)) 50) (hx : a.eval x = .int .u64 (b : Int)) (hb : decide (b = 1) = c) :
    (execOp a.eval o).run Tryd.prog w = .ok (.value (.bool c)) w := by
  have e : ((b : Int) == 1) = c := by rw [← hb, Bool.eq_iff_iff]; simp; omega
  unfold execOp
  simp only [ho, hx]
  have hf : a.eval (.const (.int .u64 1)) = .int .u64 1 := rfl
  generalize a.eval = f at *
  go_simp
theorem minus_ge (a b : Nat) (h : b ≤ a ∧ b ≤ MM) (w : World) : Calls Tryd.prog 46 #[.agg (ws a), .agg (ws b)] w fun e w' => e = .returned (.tuple #[.agg (ws (a - b)), .int .u64 (bo a b 4 : Int)]) ∧ Below w.heap.size w w' := by
  have := minus_any a b w h.2
  rw [ws_low (a + MM - b) (a - b) (by omega)] at this
  exact this
theorem fold_add (a b : Nat) (ha : a < MM) (hb : b < MM) (w : World) : Calls Tryd.prog 52 #[.agg (ws (a + b)), .int .u64 (car a b 4 : Int)] w fun e w' => e = .returned (.agg (ws ((a + b) % PP))) ∧ Below w.heap.size w w' := by
  have h := fold_any ((a + b) % MM) (car a b 4) (Nat.mod_lt _ (by decide)) (by have := car_le a b 4; omega) w
  rw [ws_mod, car_top a b ha hb, Nat.mul_comm, Nat.mod_add_div] at h
  rw [car_top a b ha hb]
  exact h
theorem canon_fact (a : Nat) (ha : a < MM) : decide (bo a PP 4 = 1) = canonB a := by
  unfold canonB
  rw [bo_top a PP ha pp_lt]
  by_cases h : a < PP
  · rw [if_pos h]; simp [h]
  · rw [if_neg h]; simp [h]

set_option maxHeartbeats 1000000 in
theorem canon_any (a : Nat) (ha : a < MM) (w : World) : Calls Tryd.prog 27 #[.agg (bs a)] w fun e w' => e = .returned (.bool (canonB a)) ∧ Below w.heap.size w w' := by
  have HA := Lib.hid ha
  clear ha
  go_enter Tryd.func27, Tryd.ntmps27
  have hbel0 := Below.refl w.heap.size w
  go_step
  go_step
  go_step
  refine lst (wanted_none rfl) (w_alloc (c := bs a) (T := 23) 1 rfl (run_box rfl rfl) (fun w1 he2 => ?_))
  have k3 := Blk.new he2
  have hg4 : w.heap.size ≤ w.heap.size := hbel0.size
  have hbel5 := bel_alloc hbel0 he2
  simp only [nz1, nz2, nz3]
  refine lv 2 (.bool false) rfl rfl (run_as rfl rfl) ?_
  simp only [nz1, nz2, nz3]
  go_step
  go_step
  go_step
  go_step
  go_step
  refine lv 6 (.agg (bs a)) rfl rfl (run_row rfl rfl k3 Tryd.underlying23 rfl (by rw [bs_sz]; exact info_b)) ?_
  simp only [nz1, nz2, nz3]
  refine lst (wanted_none rfl) (w_enter 7 (.agg (ws a)) rfl (run_load rfl rfl) (load_any a _) (fun w6 hb7 => ?_))
  have k8 := k3.call hb7
  have hbel9 := bel_call hbel5 hb7
  simp only [nz1, nz2, nz3]
  refine lst (wanted_none rfl) (w_enter 8 (.agg (ws PP)) rfl (run_order rfl) (order_pp _) (fun w10 hb11 => ?_))
  have k12 := k8.call hb11
  have hbel13 := bel_call hbel9 hb11
  simp only [nz1, nz2, nz3]
  refine lst (wanted_none rfl) (w_enter 9 (.tuple #[.agg (ws (a + MM - PP)), .int .u64 (bo a PP 4 : Int)]) rfl (run_minus rfl rfl rfl) (minus_any a PP _ (Nat.le_of_lt pp_lt)) (fun w14 hb15 => ?_))
  have k16 := k12.call hb15
  have hbel17 := bel_call hbel13 hb15
  simp only [nz1, nz2, nz3]
  refine lv 5 (.tuple #[.agg (ws (a + MM - PP)), .int .u64 (bo a PP 4 : Int)]) rfl rfl (run_mv rfl rfl) ?_
  simp only [nz1, nz2, nz3]
  refine lv 10 (.agg (ws (a + MM - PP))) rfl rfl (run_ex rfl rfl rfl) ?_
  simp only [nz1, nz2, nz3]
  refine lv 11 (.int .u64 (bo a PP 4 : Int)) rfl rfl (run_ex rfl rfl rfl) ?_
  simp only [nz1, nz2, nz3]
  refine lst (wanted_none rfl) (w_alloc (c := ws 0) (T := 52) 3 rfl (run_alW rfl) (fun w18 he19 => ?_))
  have hne21 : w.heap.size ≠ w14.heap.size := Nat.ne_of_lt k16.lt
  have k20 := k16.alloc he19
  have k22 := Blk.new he19
  have hg23 : w.heap.size ≤ w14.heap.size := hbel17.size
  have hbel24 := bel_alloc hbel17 he19
  simp only [nz1, nz2, nz3]
  refine lst (wanted_none rfl) (w_store 52 _ _ (w14.heap.size) (ws (a + MM - PP)) rfl rfl rfl rfl k22 (by rw [ws_sz]; exact info_w) (by rw [ws_sz, ws_sz]) (ws_one _) (fun w25 he26 => ?_))
  have k27 := k20.other hne21 he26
  have k28 := k22.set he26
  have hbel29 := bel_set hbel24 hg23 he26
  refine lv 4 (.int .u64 (bo a PP 4 : Int)) rfl rfl (run_as rfl rfl) ?_
  simp only [nz1, nz2, nz3]
  go_step
  go_step
  go_step
  go_step
  go_step
  refine lv 12 (.int .u64 (bo a PP 4 : Int)) rfl rfl (run_mv rfl rfl) ?_
  simp only [nz1, nz2, nz3]
  refine lv 13 (.bool (canonB a)) rfl rfl (run_one rfl rfl (canon_fact a HA.out)) ?_
  simp only [nz1, nz2, nz3]
  refine lv 2 (.bool (canonB a)) rfl rfl (run_as rfl rfl) ?_
  simp only [nz1, nz2, nz3]
  go_step
  go_step
  go_step
  go_wp2
  go_ret
  exact ⟨rfl, hbel29⟩

set_option maxHeartbeats 1000000 in
theorem reduce_any (a : Nat) (ha : a < MM) (w : World) : Calls Tryd.prog 43 #[.agg (bs a)] w fun e w' => e = .returned (.agg (bs (a % PP))) ∧ Below w.heap.size w w' := by
  have HA := Lib.hid ha
  clear ha
  go_enter Tryd.func43, Tryd.ntmps43
  have hbel0 := Below.refl w.heap.size w
  go_step
  go_step
  go_step
  refine lst (wanted_none rfl) (w_alloc (c := bs a) (T := 23) 1 rfl (run_box rfl rfl) (fun w1 he2 => ?_))
  have k3 := Blk.new he2
  have hg4 : w.heap.size ≤ w.heap.size := hbel0.size
  have hbel5 := bel_alloc hbel0 he2
  simp only [nz1, nz2, nz3]
  refine lst (wanted_none rfl) (w_alloc (c := bs 0) (T := 23) 2 rfl (run_alN rfl) (fun w6 he7 => ?_))
  have hne9 : w.heap.size ≠ w1.heap.size := Nat.ne_of_lt k3.lt
  have k8 := k3.alloc he7
  have k10 := Blk.new he7
  have hg11 : w.heap.size ≤ w1.heap.size := hbel5.size
  have hbel12 := bel_alloc hbel5 he7
  simp only [nz1, nz2, nz3]
  go_step
  go_step
  go_step
  go_step
  go_step
  refine lv 3 (.agg (bs a)) rfl rfl (run_row rfl rfl k8 Tryd.underlying23 rfl (by rw [bs_sz]; exact info_b)) ?_
  simp only [nz1, nz2, nz3]
  refine lst (wanted_none rfl) (w_enter 4 (.agg (ws a)) rfl (run_load rfl rfl) (load_any a _) (fun w13 hb14 => ?_))
  have k15 := k8.call hb14
  have k16 := k10.call hb14
  have hbel17 := bel_call hbel12 hb14
  simp only [nz1, nz2, nz3]
  refine lst (wanted_none rfl) (w_enter 5 (.agg (ws (a % PP))) rfl (run_rest rfl rfl) (rest_any a HA.out _) (fun w18 hb19 => ?_))
  have k20 := k15.call hb19
  have k21 := k16.call hb19
  have hbel22 := bel_call hbel17 hb19
  simp only [nz1, nz2, nz3]
  refine lst (wanted_none rfl) (w_enter 6 (.agg (bs (a % PP))) rfl (run_store rfl rfl) (store_any (a % PP) _) (fun w23 hb24 => ?_))
  have k25 := k20.call hb24
  have k26 := k21.call hb24
  have hbel27 := bel_call hbel22 hb24
  simp only [nz1, nz2, nz3]
  refine lst (wanted_none rfl) (w_store 23 _ _ (w1.heap.size) (bs (a % PP)) rfl rfl rfl rfl k26 (by rw [bs_sz]; exact info_b) (by rw [bs_sz, bs_sz]) (bs_one _) (fun w28 he29 => ?_))
  have k30 := k25.other hne9 he29
  have k31 := k26.set he29
  have hbel32 := bel_set hbel27 hg11 he29
  go_step
  go_step
  go_step
  go_wp2
  refine bodyPost_ret (v := .agg (bs (a % PP))) (results_cell_row rfl _ _ (w1.heap.size) 23 _ (0, 0) _ rfl k31 Tryd.underlying23 rfl (by rw [bs_sz]; exact info_b)) rfl ⟨rfl, hbel32⟩

set_option maxHeartbeats 1000000 in
theorem neg_any (a : Nat) (ha : a < MM) (w : World) : Calls Tryd.prog 34 #[.agg (bs a)] w fun e w' => e = .returned (.agg (bs ((PP - (a % PP)) % PP))) ∧ Below w.heap.size w w' := by
  have HA := Lib.hid ha
  clear ha
  go_enter Tryd.func34, Tryd.ntmps34
  have hbel0 := Below.refl w.heap.size w
  go_step
  go_step
  go_step
  refine lst (wanted_none rfl) (w_alloc (c := bs a) (T := 23) 1 rfl (run_box rfl rfl) (fun w1 he2 => ?_))
  have k3 := Blk.new he2
  have hg4 : w.heap.size ≤ w.heap.size := hbel0.size
  have hbel5 := bel_alloc hbel0 he2
  simp only [nz1, nz2, nz3]
  refine lst (wanted_none rfl) (w_alloc (c := bs 0) (T := 23) 2 rfl (run_alN rfl) (fun w6 he7 => ?_))
  have hne9 : w.heap.size ≠ w1.heap.size := Nat.ne_of_lt k3.lt
  have k8 := k3.alloc he7
  have k10 := Blk.new he7
  have hg11 : w.heap.size ≤ w1.heap.size := hbel5.size
  have hbel12 := bel_alloc hbel5 he7
  simp only [nz1, nz2, nz3]
  go_step
  go_step
  go_step
  go_step
  have k13 := k8.drew
  have k14 := k10.drew
  have hbel15 := hbel12.drew
  refine wp_region_held_drew (S := fun w' => Blk w' (w.heap.size) (bs a) 23) (by kernel_rfl) k13 (fun _ => ?_)
  generalize w6.drew = wd16 at *
  refine tk 1 7 (.agg (bs a)) rfl rfl (fun _ hw => run_row rfl rfl hw Tryd.underlying23 rfl (by rw [bs_sz]; exact info_b)) k13 ?_
  simp only [nz1, nz2, nz3]
  refine two_ready 0 8 (by kernel_rfl) ?_ ?_
  · refine opd rfl (wanted_none rfl) (w_enter 6 (.agg (ws PP)) rfl (run_order rfl) (order_pp _) (fun w17 hb18 => ?_))
    have k19 := k13.call hb18
    have k20 := k14.call hb18
    have hbel21 := bel_call hbel15 hb18
    refine ⟨k19, ?_⟩
    simp only [nz1, nz2, nz3]
    refine two_ready 2 8 (by kernel_rfl) ?_ ?_
    · refine opd rfl (wanted_none rfl) (w_enter 8 (.agg (ws a)) rfl (run_load rfl rfl) (load_any a _) (fun w22 hb23 => ?_))
      have k24 := k19.call hb23
      have k25 := k20.call hb23
      have hbel26 := bel_call hbel21 hb23
      refine ⟨k24, ?_⟩
      simp only [nz1, nz2, nz3]
      refine two_ready 3 8 (by kernel_rfl) ?_ ?_
      · refine opd rfl (wanted_none rfl) (w_enter 9 (.agg (ws (a % PP))) rfl (run_rest rfl rfl) (rest_any a HA.out _) (fun w27 hb28 => ?_))
        have k29 := k24.call hb28
        have k30 := k25.call hb28
        have hbel31 := bel_call hbel26 hb28
        refine ⟨k29, ?_⟩
        simp only [nz1, nz2, nz3]
        refine two_ready 4 8 (by kernel_rfl) ?_ ?_
        · refine opd rfl (wanted_none rfl) (w_enter 10 (.tuple #[.agg (ws (PP - (a % PP))), .int .u64 (bo PP (a % PP) 4 : Int)]) rfl (run_minus rfl rfl rfl) (minus_ge PP (a % PP) ⟨Nat.le_of_lt (Nat.mod_lt _ (by decide)), Nat.le_trans (Nat.le_of_lt (Nat.mod_lt _ (by decide))) (Nat.le_of_lt pp_lt)⟩ _) (fun w32 hb33 => ?_))
          have k34 := k29.call hb33
          have k35 := k30.call hb33
          have hbel36 := bel_call hbel31 hb33
          refine ⟨k34, ?_⟩
          simp only [nz1, nz2, nz3]
          refine tk 5 5 (.tuple #[.agg (ws (PP - (a % PP))), .int .u64 (bo PP (a % PP) 4 : Int)]) rfl rfl (fun _ hw => run_mv rfl rfl) k34 ?_
          simp only [nz1, nz2, nz3]
          refine tk 6 11 (.agg (ws (PP - (a % PP)))) rfl rfl (fun _ hw => run_ex rfl rfl rfl) k34 ?_
          simp only [nz1, nz2, nz3]
          refine tk 7 12 (.int .u64 (bo PP (a % PP) 4 : Int)) rfl rfl (fun _ hw => run_ex rfl rfl rfl) k34 ?_
          simp only [nz1, nz2, nz3]
          refine one_ready 8 (by kernel_rfl) ?_
          refine opd rfl (wanted_none rfl) (w_alloc (c := ws 0) (T := 52) 3 rfl (run_alW rfl) (fun w37 he38 => ?_))
          have hne40 : w.heap.size ≠ w32.heap.size := Nat.ne_of_lt k34.lt
          have k39 := k34.alloc he38
          have hne42 : w1.heap.size ≠ w32.heap.size := Nat.ne_of_lt k35.lt
          have k41 := k35.alloc he38
          have k43 := Blk.new he38
          have hg44 : w.heap.size ≤ w32.heap.size := hbel36.size
          have hbel45 := bel_alloc hbel36 he38
          refine ⟨k39, ?_⟩
          simp only [nz1, nz2, nz3]
          refine one_ready 9 (by kernel_rfl) ?_
          refine opd rfl (wanted_none rfl) (w_store 52 _ _ (w32.heap.size) (ws (PP - (a % PP))) rfl rfl rfl rfl k43 (by rw [ws_sz]; exact info_w) (by rw [ws_sz, ws_sz]) (ws_one _) (fun w46 he47 => ?_))
          have k48 := k39.other hne40 he47
          have k49 := k41.other hne42 he47
          have k50 := k43.set he47
          have hbel51 := bel_set hbel45 hg44 he47
          refine ⟨k48, ?_⟩
          refine one_ready 10 (by kernel_rfl) ?_
          refine opd rfl (wanted_none rfl) (w_value 4 (.int .u64 (bo PP (a % PP) 4 : Int)) rfl (run_as rfl rfl) ⟨k48, ?_⟩)
          simp only [nz1, nz2, nz3]
          refine wpAnyH_done (by kernel_rfl) ?_ _
          go_step
          go_step
          go_step
          go_step
          refine lv 13 (.agg (ws (PP - (a % PP)))) rfl rfl (run_row rfl rfl k50 Tryd.underlying52 rfl (by rw [ws_sz]; exact info_w)) ?_
          simp only [nz1, nz2, nz3]
          refine lst (wanted_none rfl) (w_enter 14 (.agg (ws ((PP - (a % PP)) % PP))) rfl (run_rest rfl rfl) (rest_any (PP - (a % PP)) (Nat.lt_of_le_of_lt (Nat.sub_le _ _) pp_lt) _) (fun w52 hb53 => ?_))
          have k54 := k48.call hb53
          have k55 := k49.call hb53
          have k56 := k50.call hb53
          have hbel57 := bel_call hbel51 hb53
          simp only [nz1, nz2, nz3]
          refine lst (wanted_none rfl) (w_enter 15 (.agg (bs ((PP - (a % PP)) % PP))) rfl (run_store rfl rfl) (store_any ((PP - (a % PP)) % PP) _) (fun w58 hb59 => ?_))
          have k60 := k54.call hb59
          have k61 := k55.call hb59
          have k62 := k56.call hb59
          have hbel63 := bel_call hbel57 hb59
          simp only [nz1, nz2, nz3]
          refine lst (wanted_none rfl) (w_store 23 _ _ (w1.heap.size) (bs ((PP - (a % PP)) % PP)) rfl rfl rfl rfl k61 (by rw [bs_sz]; exact info_b) (by rw [bs_sz, bs_sz]) (bs_one _) (fun w64 he65 => ?_))
          have k66 := k60.other hne9 he65
          have k67 := k62.other hne42.symm he65
          have k68 := k61.set he65
          have hbel69 := bel_set hbel63 hg11 he65
          go_step
          go_step
          go_step
          go_wp2
          refine bodyPost_ret (v := .agg (bs ((PP - (a % PP)) % PP))) (results_cell_row rfl _ _ (w1.heap.size) 23 _ (0, 0) _ rfl k68 Tryd.underlying23 rfl (by rw [bs_sz]; exact info_b)) rfl ⟨rfl, hbel69⟩
        · refine opd rfl (wanted_none rfl) (w_alloc (c := ws 0) (T := 52) 3 rfl (run_alW rfl) (fun w70 he71 => ?_))
          have hne73 : w.heap.size ≠ w27.heap.size := Nat.ne_of_lt k29.lt
          have k72 := k29.alloc he71
          have hne75 : w1.heap.size ≠ w27.heap.size := Nat.ne_of_lt k30.lt
          have k74 := k30.alloc he71
          have k76 := Blk.new he71
          have hg77 : w.heap.size ≤ w27.heap.size := hbel31.size
          have hbel78 := bel_alloc hbel31 he71
          refine ⟨k72, ?_⟩
          simp only [nz1, nz2, nz3]
          refine one_ready 4 (by kernel_rfl) ?_
          refine opd rfl (wanted_none rfl) (w_enter 10 (.tuple #[.agg (ws (PP - (a % PP))), .int .u64 (bo PP (a % PP) 4 : Int)]) rfl (run_minus rfl rfl rfl) (minus_ge PP (a % PP) ⟨Nat.le_of_lt (Nat.mod_lt _ (by decide)), Nat.le_trans (Nat.le_of_lt (Nat.mod_lt _ (by decide))) (Nat.le_of_lt pp_lt)⟩ _) (fun w79 hb80 => ?_))
          have k81 := k72.call hb80
          have k82 := k74.call hb80
          have k83 := k76.call hb80
          have hbel84 := bel_call hbel78 hb80
          refine ⟨k81, ?_⟩
          simp only [nz1, nz2, nz3]
          refine tk 5 5 (.tuple #[.agg (ws (PP - (a % PP))), .int .u64 (bo PP (a % PP) 4 : Int)]) rfl rfl (fun _ hw => run_mv rfl rfl) k81 ?_
          simp only [nz1, nz2, nz3]
          refine tk 6 11 (.agg (ws (PP - (a % PP)))) rfl rfl (fun _ hw => run_ex rfl rfl rfl) k81 ?_
          simp only [nz1, nz2, nz3]
          refine tk 7 12 (.int .u64 (bo PP (a % PP) 4 : Int)) rfl rfl (fun _ hw => run_ex rfl rfl rfl) k81 ?_
          simp only [nz1, nz2, nz3]
          refine one_ready 9 (by kernel_rfl) ?_
          refine opd rfl (wanted_none rfl) (w_store 52 _ _ (w27.heap.size) (ws (PP - (a % PP))) rfl rfl rfl rfl k83 (by rw [ws_sz]; exact info_w) (by rw [ws_sz, ws_sz]) (ws_one _) (fun w85 he86 => ?_))
          have k87 := k81.other hne73 he86
          have k88 := k82.other hne75 he86
          have k89 := k83.set he86
          have hbel90 := bel_set hbel84 hg77 he86
          refine ⟨k87, ?_⟩
          refine one_ready 10 (by kernel_rfl) ?_
          refine opd rfl (wanted_none rfl) (w_value 4 (.int .u64 (bo PP (a % PP) 4 : Int)) rfl (run_as rfl rfl) ⟨k87, ?_⟩)
          simp only [nz1, nz2, nz3]
          refine wpAnyH_done (by kernel_rfl) ?_ _
          go_step
          go_step
          go_step
          go_step
          refine lv 13 (.agg (ws (PP - (a % PP)))) rfl rfl (run_row rfl rfl k89 Tryd.underlying52 rfl (by rw [ws_sz]; exact info_w)) ?_
          simp only [nz1, nz2, nz3]
          refine lst (wanted_none rfl) (w_enter 14 (.agg (ws ((PP - (a % PP)) % PP))) rfl (run_rest rfl rfl) (rest_any (PP - (a % PP)) (Nat.lt_of_le_of_lt (Nat.sub_le _ _) pp_lt) _) (fun w91 hb92 => ?_))
          have k93 := k87.call hb92
          have k94 := k88.call hb92
          have k95 := k89.call hb92
          have hbel96 := bel_call hbel90 hb92
          simp only [nz1, nz2, nz3]
          refine lst (wanted_none rfl) (w_enter 15 (.agg (bs ((PP - (a % PP)) % PP))) rfl (run_store rfl rfl) (store_any ((PP - (a % PP)) % PP) _) (fun w97 hb98 => ?_))
          have k99 := k93.call hb98
          have k100 := k94.call hb98
          have k101 := k95.call hb98
          have hbel102 := bel_call hbel96 hb98
          simp only [nz1, nz2, nz3]
          refine lst (wanted_none rfl) (w_store 23 _ _ (w1.heap.size) (bs ((PP - (a % PP)) % PP)) rfl rfl rfl rfl k100 (by rw [bs_sz]; exact info_b) (by rw [bs_sz, bs_sz]) (bs_one _) (fun w103 he104 => ?_))
          have k105 := k99.other hne9 he104
          have k106 := k101.other hne75.symm he104
          have k107 := k100.set he104
          have hbel108 := bel_set hbel102 hg11 he104
          go_step
          go_step
          go_step
          go_wp2
          refine bodyPost_ret (v := .agg (bs ((PP - (a % PP)) % PP))) (results_cell_row rfl _ _ (w1.heap.size) 23 _ (0, 0) _ rfl k107 Tryd.underlying23 rfl (by rw [bs_sz]; exact info_b)) rfl ⟨rfl, hbel108⟩
      · refine opd rfl (wanted_none rfl) (w_alloc (c := ws 0) (T := 52) 3 rfl (run_alW rfl) (fun w109 he110 => ?_))
        have hne112 : w.heap.size ≠ w22.heap.size := Nat.ne_of_lt k24.lt
        have k111 := k24.alloc he110
        have hne114 : w1.heap.size ≠ w22.heap.size := Nat.ne_of_lt k25.lt
        have k113 := k25.alloc he110
        have k115 := Blk.new he110
        have hg116 : w.heap.size ≤ w22.heap.size := hbel26.size
        have hbel117 := bel_alloc hbel26 he110
        refine ⟨k111, ?_⟩
        simp only [nz1, nz2, nz3]
        refine one_ready 3 (by kernel_rfl) ?_
        refine opd rfl (wanted_none rfl) (w_enter 9 (.agg (ws (a % PP))) rfl (run_rest rfl rfl) (rest_any a HA.out _) (fun w118 hb119 => ?_))
        have k120 := k111.call hb119
        have k121 := k113.call hb119
        have k122 := k115.call hb119
        have hbel123 := bel_call hbel117 hb119
        refine ⟨k120, ?_⟩
        simp only [nz1, nz2, nz3]
        refine one_ready 4 (by kernel_rfl) ?_
        refine opd rfl (wanted_none rfl) (w_enter 10 (.tuple #[.agg (ws (PP - (a % PP))), .int .u64 (bo PP (a % PP) 4 : Int)]) rfl (run_minus rfl rfl rfl) (minus_ge PP (a % PP) ⟨Nat.le_of_lt (Nat.mod_lt _ (by decide)), Nat.le_trans (Nat.le_of_lt (Nat.mod_lt _ (by decide))) (Nat.le_of_lt pp_lt)⟩ _) (fun w124 hb125 => ?_))
        have k126 := k120.call hb125
        have k127 := k121.call hb125
        have k128 := k122.call hb125
        have hbel129 := bel_call hbel123 hb125
        refine ⟨k126, ?_⟩
        simp only [nz1, nz2, nz3]
        refine tk 5 5 (.tuple #[.agg (ws (PP - (a % PP))), .int .u64 (bo PP (a % PP) 4 : Int)]) rfl rfl (fun _ hw => run_mv rfl rfl) k126 ?_
        simp only [nz1, nz2, nz3]
        refine tk 6 11 (.agg (ws (PP - (a % PP)))) rfl rfl (fun _ hw => run_ex rfl rfl rfl) k126 ?_
        simp only [nz1, nz2, nz3]
        refine tk 7 12 (.int .u64 (bo PP (a % PP) 4 : Int)) rfl rfl (fun _ hw => run_ex rfl rfl rfl) k126 ?_
        simp only [nz1, nz2, nz3]
        refine one_ready 9 (by kernel_rfl) ?_
        refine opd rfl (wanted_none rfl) (w_store 52 _ _ (w22.heap.size) (ws (PP - (a % PP))) rfl rfl rfl rfl k128 (by rw [ws_sz]; exact info_w) (by rw [ws_sz, ws_sz]) (ws_one _) (fun w130 he131 => ?_))
        have k132 := k126.other hne112 he131
        have k133 := k127.other hne114 he131
        have k134 := k128.set he131
        have hbel135 := bel_set hbel129 hg116 he131
        refine ⟨k132, ?_⟩
        refine one_ready 10 (by kernel_rfl) ?_
        refine opd rfl (wanted_none rfl) (w_value 4 (.int .u64 (bo PP (a % PP) 4 : Int)) rfl (run_as rfl rfl) ⟨k132, ?_⟩)
        simp only [nz1, nz2, nz3]
        refine wpAnyH_done (by kernel_rfl) ?_ _
        go_step
        go_step
        go_step
        go_step
        refine lv 13 (.agg (ws (PP - (a % PP)))) rfl rfl (run_row rfl rfl k134 Tryd.underlying52 rfl (by rw [ws_sz]; exact info_w)) ?_
        simp only [nz1, nz2, nz3]
        refine lst (wanted_none rfl) (w_enter 14 (.agg (ws ((PP - (a % PP)) % PP))) rfl (run_rest rfl rfl) (rest_any (PP - (a % PP)) (Nat.lt_of_le_of_lt (Nat.sub_le _ _) pp_lt) _) (fun w136 hb137 => ?_))
        have k138 := k132.call hb137
        have k139 := k133.call hb137
        have k140 := k134.call hb137
        have hbel141 := bel_call hbel135 hb137
        simp only [nz1, nz2, nz3]
        refine lst (wanted_none rfl) (w_enter 15 (.agg (bs ((PP - (a % PP)) % PP))) rfl (run_store rfl rfl) (store_any ((PP - (a % PP)) % PP) _) (fun w142 hb143 => ?_))
        have k144 := k138.call hb143
        have k145 := k139.call hb143
        have k146 := k140.call hb143
        have hbel147 := bel_call hbel141 hb143
        simp only [nz1, nz2, nz3]
        refine lst (wanted_none rfl) (w_store 23 _ _ (w1.heap.size) (bs ((PP - (a % PP)) % PP)) rfl rfl rfl rfl k145 (by rw [bs_sz]; exact info_b) (by rw [bs_sz, bs_sz]) (bs_one _) (fun w148 he149 => ?_))
        have k150 := k144.other hne9 he149
        have k151 := k146.other hne114.symm he149
        have k152 := k145.set he149
        have hbel153 := bel_set hbel147 hg11 he149
        go_step
        go_step
        go_step
        go_wp2
        refine bodyPost_ret (v := .agg (bs ((PP - (a % PP)) % PP))) (results_cell_row rfl _ _ (w1.heap.size) 23 _ (0, 0) _ rfl k152 Tryd.underlying23 rfl (by rw [bs_sz]; exact info_b)) rfl ⟨rfl, hbel153⟩
    · refine opd rfl (wanted_none rfl) (w_alloc (c := ws 0) (T := 52) 3 rfl (run_alW rfl) (fun w154 he155 => ?_))
      have hne157 : w.heap.size ≠ w17.heap.size := Nat.ne_of_lt k19.lt
      have k156 := k19.alloc he155
      have hne159 : w1.heap.size ≠ w17.heap.size := Nat.ne_of_lt k20.lt
      have k158 := k20.alloc he155
      have k160 := Blk.new he155
      have hg161 : w.heap.size ≤ w17.heap.size := hbel21.size
      have hbel162 := bel_alloc hbel21 he155
      refine ⟨k156, ?_⟩
      simp only [nz1, nz2, nz3]
      refine one_ready 2 (by kernel_rfl) ?_
      refine opd rfl (wanted_none rfl) (w_enter 8 (.agg (ws a)) rfl (run_load rfl rfl) (load_any a _) (fun w163 hb164 => ?_))
      have k165 := k156.call hb164
      have k166 := k158.call hb164
      have k167 := k160.call hb164
      have hbel168 := bel_call hbel162 hb164
      refine ⟨k165, ?_⟩
      simp only [nz1, nz2, nz3]
      refine one_ready 3 (by kernel_rfl) ?_
      refine opd rfl (wanted_none rfl) (w_enter 9 (.agg (ws (a % PP))) rfl (run_rest rfl rfl) (rest_any a HA.out _) (fun w169 hb170 => ?_))
      have k171 := k165.call hb170
      have k172 := k166.call hb170
      have k173 := k167.call hb170
      have hbel174 := bel_call hbel168 hb170
      refine ⟨k171, ?_⟩
      simp only [nz1, nz2, nz3]
      refine one_ready 4 (by kernel_rfl) ?_
      refine opd rfl (wanted_none rfl) (w_enter 10 (.tuple #[.agg (ws (PP - (a % PP))), .int .u64 (bo PP (a % PP) 4 : Int)]) rfl (run_minus rfl rfl rfl) (minus_ge PP (a % PP) ⟨Nat.le_of_lt (Nat.mod_lt _ (by decide)), Nat.le_trans (Nat.le_of_lt (Nat.mod_lt _ (by decide))) (Nat.le_of_lt pp_lt)⟩ _) (fun w175 hb176 => ?_))
      have k177 := k171.call hb176
      have k178 := k172.call hb176
      have k179 := k173.call hb176
      have hbel180 := bel_call hbel174 hb176
      refine ⟨k177, ?_⟩
      simp only [nz1, nz2, nz3]
      refine tk 5 5 (.tuple #[.agg (ws (PP - (a % PP))), .int .u64 (bo PP (a % PP) 4 : Int)]) rfl rfl (fun _ hw => run_mv rfl rfl) k177 ?_
      simp only [nz1, nz2, nz3]
      refine tk 6 11 (.agg (ws (PP - (a % PP)))) rfl rfl (fun _ hw => run_ex rfl rfl rfl) k177 ?_
      simp only [nz1, nz2, nz3]
      refine tk 7 12 (.int .u64 (bo PP (a % PP) 4 : Int)) rfl rfl (fun _ hw => run_ex rfl rfl rfl) k177 ?_
      simp only [nz1, nz2, nz3]
      refine one_ready 9 (by kernel_rfl) ?_
      refine opd rfl (wanted_none rfl) (w_store 52 _ _ (w17.heap.size) (ws (PP - (a % PP))) rfl rfl rfl rfl k179 (by rw [ws_sz]; exact info_w) (by rw [ws_sz, ws_sz]) (ws_one _) (fun w181 he182 => ?_))
      have k183 := k177.other hne157 he182
      have k184 := k178.other hne159 he182
      have k185 := k179.set he182
      have hbel186 := bel_set hbel180 hg161 he182
      refine ⟨k183, ?_⟩
      refine one_ready 10 (by kernel_rfl) ?_
      refine opd rfl (wanted_none rfl) (w_value 4 (.int .u64 (bo PP (a % PP) 4 : Int)) rfl (run_as rfl rfl) ⟨k183, ?_⟩)
      simp only [nz1, nz2, nz3]
      refine wpAnyH_done (by kernel_rfl) ?_ _
      go_step
      go_step
      go_step
      go_step
      refine lv 13 (.agg (ws (PP - (a % PP)))) rfl rfl (run_row rfl rfl k185 Tryd.underlying52 rfl (by rw [ws_sz]; exact info_w)) ?_
      simp only [nz1, nz2, nz3]
      refine lst (wanted_none rfl) (w_enter 14 (.agg (ws ((PP - (a % PP)) % PP))) rfl (run_rest rfl rfl) (rest_any (PP - (a % PP)) (Nat.lt_of_le_of_lt (Nat.sub_le _ _) pp_lt) _) (fun w187 hb188 => ?_))
      have k189 := k183.call hb188
      have k190 := k184.call hb188
      have k191 := k185.call hb188
      have hbel192 := bel_call hbel186 hb188
      simp only [nz1, nz2, nz3]
      refine lst (wanted_none rfl) (w_enter 15 (.agg (bs ((PP - (a % PP)) % PP))) rfl (run_store rfl rfl) (store_any ((PP - (a % PP)) % PP) _) (fun w193 hb194 => ?_))
      have k195 := k189.call hb194
      have k196 := k190.call hb194
      have k197 := k191.call hb194
      have hbel198 := bel_call hbel192 hb194
      simp only [nz1, nz2, nz3]
      refine lst (wanted_none rfl) (w_store 23 _ _ (w1.heap.size) (bs ((PP - (a % PP)) % PP)) rfl rfl rfl rfl k196 (by rw [bs_sz]; exact info_b) (by rw [bs_sz, bs_sz]) (bs_one _) (fun w199 he200 => ?_))
      have k201 := k195.other hne9 he200
      have k202 := k197.other hne159.symm he200
      have k203 := k196.set he200
      have hbel204 := bel_set hbel198 hg11 he200
      go_step
      go_step
      go_step
      go_wp2
      refine bodyPost_ret (v := .agg (bs ((PP - (a % PP)) % PP))) (results_cell_row rfl _ _ (w1.heap.size) 23 _ (0, 0) _ rfl k203 Tryd.underlying23 rfl (by rw [bs_sz]; exact info_b)) rfl ⟨rfl, hbel204⟩
  · refine opd rfl (wanted_none rfl) (w_alloc (c := ws 0) (T := 52) 3 rfl (run_alW rfl) (fun w205 he206 => ?_))
    have hne208 : w.heap.size ≠ wd16.heap.size := Nat.ne_of_lt k13.lt
    have k207 := k13.alloc he206
    have hne210 : w1.heap.size ≠ wd16.heap.size := Nat.ne_of_lt k14.lt
    have k209 := k14.alloc he206
    have k211 := Blk.new he206
    have hg212 : w.heap.size ≤ wd16.heap.size := hbel15.size
    have hbel213 := bel_alloc hbel15 he206
    refine ⟨k207, ?_⟩
    simp only [nz1, nz2, nz3]
    refine one_ready 0 (by kernel_rfl) ?_
    refine opd rfl (wanted_none rfl) (w_enter 6 (.agg (ws PP)) rfl (run_order rfl) (order_pp _) (fun w214 hb215 => ?_))
    have k216 := k207.call hb215
    have k217 := k209.call hb215
    have k218 := k211.call hb215
    have hbel219 := bel_call hbel213 hb215
    refine ⟨k216, ?_⟩
    simp only [nz1, nz2, nz3]
    refine one_ready 2 (by kernel_rfl) ?_
    refine opd rfl (wanted_none rfl) (w_enter 8 (.agg (ws a)) rfl (run_load rfl rfl) (load_any a _) (fun w220 hb221 => ?_))
    have k222 := k216.call hb221
    have k223 := k217.call hb221
    have k224 := k218.call hb221
    have hbel225 := bel_call hbel219 hb221
    refine ⟨k222, ?_⟩
    simp only [nz1, nz2, nz3]
    refine one_ready 3 (by kernel_rfl) ?_
    refine opd rfl (wanted_none rfl) (w_enter 9 (.agg (ws (a % PP))) rfl (run_rest rfl rfl) (rest_any a HA.out _) (fun w226 hb227 => ?_))
    have k228 := k222.call hb227
    have k229 := k223.call hb227
    have k230 := k224.call hb227
    have hbel231 := bel_call hbel225 hb227
    refine ⟨k228, ?_⟩
    simp only [nz1, nz2, nz3]
    refine one_ready 4 (by kernel_rfl) ?_
    refine opd rfl (wanted_none rfl) (w_enter 10 (.tuple #[.agg (ws (PP - (a % PP))), .int .u64 (bo PP (a % PP) 4 : Int)]) rfl (run_minus rfl rfl rfl) (minus_ge PP (a % PP) ⟨Nat.le_of_lt (Nat.mod_lt _ (by decide)), Nat.le_trans (Nat.le_of_lt (Nat.mod_lt _ (by decide))) (Nat.le_of_lt pp_lt)⟩ _) (fun w232 hb233 => ?_))
    have k234 := k228.call hb233
    have k235 := k229.call hb233
    have k236 := k230.call hb233
    have hbel237 := bel_call hbel231 hb233
    refine ⟨k234, ?_⟩
    simp only [nz1, nz2, nz3]
    refine tk 5 5 (.tuple #[.agg (ws (PP - (a % PP))), .int .u64 (bo PP (a % PP) 4 : Int)]) rfl rfl (fun _ hw => run_mv rfl rfl) k234 ?_
    simp only [nz1, nz2, nz3]
    refine tk 6 11 (.agg (ws (PP - (a % PP)))) rfl rfl (fun _ hw => run_ex rfl rfl rfl) k234 ?_
    simp only [nz1, nz2, nz3]
    refine tk 7 12 (.int .u64 (bo PP (a % PP) 4 : Int)) rfl rfl (fun _ hw => run_ex rfl rfl rfl) k234 ?_
    simp only [nz1, nz2, nz3]
    refine one_ready 9 (by kernel_rfl) ?_
    refine opd rfl (wanted_none rfl) (w_store 52 _ _ (wd16.heap.size) (ws (PP - (a % PP))) rfl rfl rfl rfl k236 (by rw [ws_sz]; exact info_w) (by rw [ws_sz, ws_sz]) (ws_one _) (fun w238 he239 => ?_))
    have k240 := k234.other hne208 he239
    have k241 := k235.other hne210 he239
    have k242 := k236.set he239
    have hbel243 := bel_set hbel237 hg212 he239
    refine ⟨k240, ?_⟩
    refine one_ready 10 (by kernel_rfl) ?_
    refine opd rfl (wanted_none rfl) (w_value 4 (.int .u64 (bo PP (a % PP) 4 : Int)) rfl (run_as rfl rfl) ⟨k240, ?_⟩)
    simp only [nz1, nz2, nz3]
    refine wpAnyH_done (by kernel_rfl) ?_ _
    go_step
    go_step
    go_step
    go_step
    refine lv 13 (.agg (ws (PP - (a % PP)))) rfl rfl (run_row rfl rfl k242 Tryd.underlying52 rfl (by rw [ws_sz]; exact info_w)) ?_
    simp only [nz1, nz2, nz3]
    refine lst (wanted_none rfl) (w_enter 14 (.agg (ws ((PP - (a % PP)) % PP))) rfl (run_rest rfl rfl) (rest_any (PP - (a % PP)) (Nat.lt_of_le_of_lt (Nat.sub_le _ _) pp_lt) _) (fun w244 hb245 => ?_))
    have k246 := k240.call hb245
    have k247 := k241.call hb245
    have k248 := k242.call hb245
    have hbel249 := bel_call hbel243 hb245
    simp only [nz1, nz2, nz3]
    refine lst (wanted_none rfl) (w_enter 15 (.agg (bs ((PP - (a % PP)) % PP))) rfl (run_store rfl rfl) (store_any ((PP - (a % PP)) % PP) _) (fun w250 hb251 => ?_))
    have k252 := k246.call hb251
    have k253 := k247.call hb251
    have k254 := k248.call hb251
    have hbel255 := bel_call hbel249 hb251
    simp only [nz1, nz2, nz3]
    refine lst (wanted_none rfl) (w_store 23 _ _ (w1.heap.size) (bs ((PP - (a % PP)) % PP)) rfl rfl rfl rfl k253 (by rw [bs_sz]; exact info_b) (by rw [bs_sz, bs_sz]) (bs_one _) (fun w256 he257 => ?_))
    have k258 := k252.other hne9 he257
    have k259 := k254.other hne210.symm he257
    have k260 := k253.set he257
    have hbel261 := bel_set hbel255 hg11 he257
    go_step
    go_step
    go_step
    go_wp2
    refine bodyPost_ret (v := .agg (bs ((PP - (a % PP)) % PP))) (results_cell_row rfl _ _ (w1.heap.size) 23 _ (0, 0) _ rfl k260 Tryd.underlying23 rfl (by rw [bs_sz]; exact info_b)) rfl ⟨rfl, hbel261⟩

set_option maxHeartbeats 1000000 in
theorem add_any (a b : Nat) (ha : a < MM) (hb : b < MM) (w : World) : Calls Tryd.prog 29 #[.agg (bs a), .agg (bs b)] w fun e w' => e = .returned (.agg (bs ((a + b) % PP))) ∧ Below w.heap.size w w' := by
  have HA := Lib.hid ha
  have HB := Lib.hid hb
  clear ha hb
  go_enter Tryd.func29, Tryd.ntmps29
  have hbel0 := Below.refl w.heap.size w
  go_step
  go_step
  go_step
  refine lst (wanted_none rfl) (w_alloc (c := bs a) (T := 23) 2 rfl (run_box rfl rfl) (fun w1 he2 => ?_))
  have k3 := Blk.new he2
  have hg4 : w.heap.size ≤ w.heap.size := hbel0.size
  have hbel5 := bel_alloc hbel0 he2
  simp only [nz1, nz2, nz3]
  refine lst (wanted_none rfl) (w_alloc (c := bs b) (T := 23) 3 rfl (run_box rfl rfl) (fun w6 he7 => ?_))
  have hne9 : w.heap.size ≠ w1.heap.size := Nat.ne_of_lt k3.lt
  have k8 := k3.alloc he7
  have k10 := Blk.new he7
  have hg11 : w.heap.size ≤ w1.heap.size := hbel5.size
  have hbel12 := bel_alloc hbel5 he7
  simp only [nz1, nz2, nz3]
  refine lst (wanted_none rfl) (w_alloc (c := bs 0) (T := 23) 4 rfl (run_alN rfl) (fun w13 he14 => ?_))
  have hne16 : w.heap.size ≠ w6.heap.size := Nat.ne_of_lt k8.lt
  have k15 := k8.alloc he14
  have hne18 : w1.heap.size ≠ w6.heap.size := Nat.ne_of_lt k10.lt
  have k17 := k10.alloc he14
  have k19 := Blk.new he14
  have hg20 : w.heap.size ≤ w6.heap.size := hbel12.size
  have hbel21 := bel_alloc hbel12 he14
  simp only [nz1, nz2, nz3]
  go_step
  go_step
  go_step
  go_step
  have k22 := k15.drew
  have k23 := k17.drew
  have k24 := k19.drew
  have hbel25 := hbel21.drew
  refine wp_region_held_drew (S := fun w' => Blk w' (w.heap.size) (bs a) 23 ∧ Blk w' (w1.heap.size) (bs b) 23) (by kernel_rfl) ⟨k22, k23⟩ (fun _ => ?_)
  generalize w13.drew = wd26 at *
  refine tk 0 8 (.agg (bs a)) rfl rfl (fun _ hw => run_row rfl rfl (hw.1) Tryd.underlying23 rfl (by rw [bs_sz]; exact info_b)) ⟨k22, k23⟩ ?_
  simp only [nz1, nz2, nz3]
  refine tk 2 10 (.agg (bs b)) rfl rfl (fun _ hw => run_row rfl rfl (hw.2) Tryd.underlying23 rfl (by rw [bs_sz]; exact info_b)) ⟨k22, k23⟩ ?_
  simp only [nz1, nz2, nz3]
  refine two_ready 1 8 (by kernel_rfl) ?_ ?_
  · refine opd rfl (wanted_none rfl) (w_enter 9 (.agg (ws a)) rfl (run_load rfl rfl) (load_any a _) (fun w27 hb28 => ?_))
    have k29 := k22.call hb28
    have k30 := k23.call hb28
    have k31 := k24.call hb28
    have hbel32 := bel_call hbel25 hb28
    refine ⟨⟨k29, k30⟩, ?_⟩
    simp only [nz1, nz2, nz3]
    refine two_ready 3 8 (by kernel_rfl) ?_ ?_
    · refine opd rfl (wanted_none rfl) (w_enter 11 (.agg (ws b)) rfl (run_load rfl rfl) (load_any b _) (fun w33 hb34 => ?_))
      have k35 := k29.call hb34
      have k36 := k30.call hb34
      have k37 := k31.call hb34
      have hbel38 := bel_call hbel32 hb34
      refine ⟨⟨k35, k36⟩, ?_⟩
      simp only [nz1, nz2, nz3]
      refine two_ready 4 8 (by kernel_rfl) ?_ ?_
      · refine opd rfl (wanted_none rfl) (w_enter 12 (.tuple #[.agg (ws (a + b)), .int .u64 (car a b 4 : Int)]) rfl (run_plus rfl rfl rfl) (plus_any a b _) (fun w39 hb40 => ?_))
        have k41 := k35.call hb40
        have k42 := k36.call hb40
        have k43 := k37.call hb40
        have hbel44 := bel_call hbel38 hb40
        refine ⟨⟨k41, k42⟩, ?_⟩
        simp only [nz1, nz2, nz3]
        refine tk 5 7 (.tuple #[.agg (ws (a + b)), .int .u64 (car a b 4 : Int)]) rfl rfl (fun _ hw => run_mv rfl rfl) ⟨k41, k42⟩ ?_
        simp only [nz1, nz2, nz3]
        refine tk 6 13 (.agg (ws (a + b))) rfl rfl (fun _ hw => run_ex rfl rfl rfl) ⟨k41, k42⟩ ?_
        simp only [nz1, nz2, nz3]
        refine tk 7 14 (.int .u64 (car a b 4 : Int)) rfl rfl (fun _ hw => run_ex rfl rfl rfl) ⟨k41, k42⟩ ?_
        simp only [nz1, nz2, nz3]
        refine one_ready 8 (by kernel_rfl) ?_
        refine opd rfl (wanted_none rfl) (w_alloc (c := ws 0) (T := 52) 5 rfl (run_alW rfl) (fun w45 he46 => ?_))
        have hne48 : w.heap.size ≠ w39.heap.size := Nat.ne_of_lt k41.lt
        have k47 := k41.alloc he46
        have hne50 : w1.heap.size ≠ w39.heap.size := Nat.ne_of_lt k42.lt
        have k49 := k42.alloc he46
        have hne52 : w6.heap.size ≠ w39.heap.size := Nat.ne_of_lt k43.lt
        have k51 := k43.alloc he46
        have k53 := Blk.new he46
        have hg54 : w.heap.size ≤ w39.heap.size := hbel44.size
        have hbel55 := bel_alloc hbel44 he46
        refine ⟨⟨k47, k49⟩, ?_⟩
        simp only [nz1, nz2, nz3]
        refine one_ready 9 (by kernel_rfl) ?_
        refine opd rfl (wanted_none rfl) (w_store 52 _ _ (w39.heap.size) (ws (a + b)) rfl rfl rfl rfl k53 (by rw [ws_sz]; exact info_w) (by rw [ws_sz, ws_sz]) (ws_one _) (fun w56 he57 => ?_))
        have k58 := k47.other hne48 he57
        have k59 := k49.other hne50 he57
        have k60 := k51.other hne52 he57
        have k61 := k53.set he57
        have hbel62 := bel_set hbel55 hg54 he57
        refine ⟨⟨k58, k59⟩, ?_⟩
        refine one_ready 10 (by kernel_rfl) ?_
        refine opd rfl (wanted_none rfl) (w_value 6 (.int .u64 (car a b 4 : Int)) rfl (run_as rfl rfl) ⟨⟨k58, k59⟩, ?_⟩)
        simp only [nz1, nz2, nz3]
        refine wpAnyH_done (by kernel_rfl) ?_ _
        go_step
        go_step
        go_step
        go_step
        refine lv 15 (.agg (ws (a + b))) rfl rfl (run_row rfl rfl k61 Tryd.underlying52 rfl (by rw [ws_sz]; exact info_w)) ?_
        simp only [nz1, nz2, nz3]
        refine lv 16 (.int .u64 (car a b 4 : Int)) rfl rfl (run_mv rfl rfl) ?_
        simp only [nz1, nz2, nz3]
        refine lst (wanted_none rfl) (w_enter 17 (.agg (ws ((a + b) % PP))) rfl (run_fold rfl rfl rfl) (fold_add a b HA.out HB.out _) (fun w63 hb64 => ?_))
        have k65 := k58.call hb64
        have k66 := k59.call hb64
        have k67 := k60.call hb64
        have k68 := k61.call hb64
        have hbel69 := bel_call hbel62 hb64
        simp only [nz1, nz2, nz3]
        refine lst (wanted_none rfl) (w_enter 18 (.agg (bs ((a + b) % PP))) rfl (run_store rfl rfl) (store_any ((a + b) % PP) _) (fun w70 hb71 => ?_))
        have k72 := k65.call hb71
        have k73 := k66.call hb71
        have k74 := k67.call hb71
        have k75 := k68.call hb71
        have hbel76 := bel_call hbel69 hb71
        simp only [nz1, nz2, nz3]
        refine lst (wanted_none rfl) (w_store 23 _ _ (w6.heap.size) (bs ((a + b) % PP)) rfl rfl rfl rfl k74 (by rw [bs_sz]; exact info_b) (by rw [bs_sz, bs_sz]) (bs_one _) (fun w77 he78 => ?_))
        have k79 := k72.other hne16 he78
        have k80 := k73.other hne18 he78
        have k81 := k75.other hne52.symm he78
        have k82 := k74.set he78
        have hbel83 := bel_set hbel76 hg20 he78
        go_step
        go_step
        go_step
        go_wp2
        refine bodyPost_ret (v := .agg (bs ((a + b) % PP))) (results_cell_row rfl _ _ (w6.heap.size) 23 _ (0, 0) _ rfl k82 Tryd.underlying23 rfl (by rw [bs_sz]; exact info_b)) rfl ⟨rfl, hbel83⟩
      · refine opd rfl (wanted_none rfl) (w_alloc (c := ws 0) (T := 52) 5 rfl (run_alW rfl) (fun w84 he85 => ?_))
        have hne87 : w.heap.size ≠ w33.heap.size := Nat.ne_of_lt k35.lt
        have k86 := k35.alloc he85
        have hne89 : w1.heap.size ≠ w33.heap.size := Nat.ne_of_lt k36.lt
        have k88 := k36.alloc he85
        have hne91 : w6.heap.size ≠ w33.heap.size := Nat.ne_of_lt k37.lt
        have k90 := k37.alloc he85
        have k92 := Blk.new he85
        have hg93 : w.heap.size ≤ w33.heap.size := hbel38.size
        have hbel94 := bel_alloc hbel38 he85
        refine ⟨⟨k86, k88⟩, ?_⟩
        simp only [nz1, nz2, nz3]
        refine one_ready 4 (by kernel_rfl) ?_
        refine opd rfl (wanted_none rfl) (w_enter 12 (.tuple #[.agg (ws (a + b)), .int .u64 (car a b 4 : Int)]) rfl (run_plus rfl rfl rfl) (plus_any a b _) (fun w95 hb96 => ?_))
        have k97 := k86.call hb96
        have k98 := k88.call hb96
        have k99 := k90.call hb96
        have k100 := k92.call hb96
        have hbel101 := bel_call hbel94 hb96
        refine ⟨⟨k97, k98⟩, ?_⟩
        simp only [nz1, nz2, nz3]
        refine tk 5 7 (.tuple #[.agg (ws (a + b)), .int .u64 (car a b 4 : Int)]) rfl rfl (fun _ hw => run_mv rfl rfl) ⟨k97, k98⟩ ?_
        simp only [nz1, nz2, nz3]
        refine tk 6 13 (.agg (ws (a + b))) rfl rfl (fun _ hw => run_ex rfl rfl rfl) ⟨k97, k98⟩ ?_
        simp only [nz1, nz2, nz3]
        refine tk 7 14 (.int .u64 (car a b 4 : Int)) rfl rfl (fun _ hw => run_ex rfl rfl rfl) ⟨k97, k98⟩ ?_
        simp only [nz1, nz2, nz3]
        refine one_ready 9 (by kernel_rfl) ?_
        refine opd rfl (wanted_none rfl) (w_store 52 _ _ (w33.heap.size) (ws (a + b)) rfl rfl rfl rfl k100 (by rw [ws_sz]; exact info_w) (by rw [ws_sz, ws_sz]) (ws_one _) (fun w102 he103 => ?_))
        have k104 := k97.other hne87 he103
        have k105 := k98.other hne89 he103
        have k106 := k99.other hne91 he103
        have k107 := k100.set he103
        have hbel108 := bel_set hbel101 hg93 he103
        refine ⟨⟨k104, k105⟩, ?_⟩
        refine one_ready 10 (by kernel_rfl) ?_
        refine opd rfl (wanted_none rfl) (w_value 6 (.int .u64 (car a b 4 : Int)) rfl (run_as rfl rfl) ⟨⟨k104, k105⟩, ?_⟩)
        simp only [nz1, nz2, nz3]
        refine wpAnyH_done (by kernel_rfl) ?_ _
        go_step
        go_step
        go_step
        go_step
        refine lv 15 (.agg (ws (a + b))) rfl rfl (run_row rfl rfl k107 Tryd.underlying52 rfl (by rw [ws_sz]; exact info_w)) ?_
        simp only [nz1, nz2, nz3]
        refine lv 16 (.int .u64 (car a b 4 : Int)) rfl rfl (run_mv rfl rfl) ?_
        simp only [nz1, nz2, nz3]
        refine lst (wanted_none rfl) (w_enter 17 (.agg (ws ((a + b) % PP))) rfl (run_fold rfl rfl rfl) (fold_add a b HA.out HB.out _) (fun w109 hb110 => ?_))
        have k111 := k104.call hb110
        have k112 := k105.call hb110
        have k113 := k106.call hb110
        have k114 := k107.call hb110
        have hbel115 := bel_call hbel108 hb110
        simp only [nz1, nz2, nz3]
        refine lst (wanted_none rfl) (w_enter 18 (.agg (bs ((a + b) % PP))) rfl (run_store rfl rfl) (store_any ((a + b) % PP) _) (fun w116 hb117 => ?_))
        have k118 := k111.call hb117
        have k119 := k112.call hb117
        have k120 := k113.call hb117
        have k121 := k114.call hb117
        have hbel122 := bel_call hbel115 hb117
        simp only [nz1, nz2, nz3]
        refine lst (wanted_none rfl) (w_store 23 _ _ (w6.heap.size) (bs ((a + b) % PP)) rfl rfl rfl rfl k120 (by rw [bs_sz]; exact info_b) (by rw [bs_sz, bs_sz]) (bs_one _) (fun w123 he124 => ?_))
        have k125 := k118.other hne16 he124
        have k126 := k119.other hne18 he124
        have k127 := k121.other hne91.symm he124
        have k128 := k120.set he124
        have hbel129 := bel_set hbel122 hg20 he124
        go_step
        go_step
        go_step
        go_wp2
        refine bodyPost_ret (v := .agg (bs ((a + b) % PP))) (results_cell_row rfl _ _ (w6.heap.size) 23 _ (0, 0) _ rfl k128 Tryd.underlying23 rfl (by rw [bs_sz]; exact info_b)) rfl ⟨rfl, hbel129⟩
    · refine opd rfl (wanted_none rfl) (w_alloc (c := ws 0) (T := 52) 5 rfl (run_alW rfl) (fun w130 he131 => ?_))
      have hne133 : w.heap.size ≠ w27.heap.size := Nat.ne_of_lt k29.lt
      have k132 := k29.alloc he131
      have hne135 : w1.heap.size ≠ w27.heap.size := Nat.ne_of_lt k30.lt
      have k134 := k30.alloc he131
      have hne137 : w6.heap.size ≠ w27.heap.size := Nat.ne_of_lt k31.lt
      have k136 := k31.alloc he131
      have k138 := Blk.new he131
      have hg139 : w.heap.size ≤ w27.heap.size := hbel32.size
      have hbel140 := bel_alloc hbel32 he131
      refine ⟨⟨k132, k134⟩, ?_⟩
      simp only [nz1, nz2, nz3]
      refine one_ready 3 (by kernel_rfl) ?_
      refine opd rfl (wanted_none rfl) (w_enter 11 (.agg (ws b)) rfl (run_load rfl rfl) (load_any b _) (fun w141 hb142 => ?_))
      have k143 := k132.call hb142
      have k144 := k134.call hb142
      have k145 := k136.call hb142
      have k146 := k138.call hb142
      have hbel147 := bel_call hbel140 hb142
      refine ⟨⟨k143, k144⟩, ?_⟩
      simp only [nz1, nz2, nz3]
      refine one_ready 4 (by kernel_rfl) ?_
      refine opd rfl (wanted_none rfl) (w_enter 12 (.tuple #[.agg (ws (a + b)), .int .u64 (car a b 4 : Int)]) rfl (run_plus rfl rfl rfl) (plus_any a b _) (fun w148 hb149 => ?_))
      have k150 := k143.call hb149
      have k151 := k144.call hb149
      have k152 := k145.call hb149
      have k153 := k146.call hb149
      have hbel154 := bel_call hbel147 hb149
      refine ⟨⟨k150, k151⟩, ?_⟩
      simp only [nz1, nz2, nz3]
      refine tk 5 7 (.tuple #[.agg (ws (a + b)), .int .u64 (car a b 4 : Int)]) rfl rfl (fun _ hw => run_mv rfl rfl) ⟨k150, k151⟩ ?_
      simp only [nz1, nz2, nz3]
      refine tk 6 13 (.agg (ws (a + b))) rfl rfl (fun _ hw => run_ex rfl rfl rfl) ⟨k150, k151⟩ ?_
      simp only [nz1, nz2, nz3]
      refine tk 7 14 (.int .u64 (car a b 4 : Int)) rfl rfl (fun _ hw => run_ex rfl rfl rfl) ⟨k150, k151⟩ ?_
      simp only [nz1, nz2, nz3]
      refine one_ready 9 (by kernel_rfl) ?_
      refine opd rfl (wanted_none rfl) (w_store 52 _ _ (w27.heap.size) (ws (a + b)) rfl rfl rfl rfl k153 (by rw [ws_sz]; exact info_w) (by rw [ws_sz, ws_sz]) (ws_one _) (fun w155 he156 => ?_))
      have k157 := k150.other hne133 he156
      have k158 := k151.other hne135 he156
      have k159 := k152.other hne137 he156
      have k160 := k153.set he156
      have hbel161 := bel_set hbel154 hg139 he156
      refine ⟨⟨k157, k158⟩, ?_⟩
      refine one_ready 10 (by kernel_rfl) ?_
      refine opd rfl (wanted_none rfl) (w_value 6 (.int .u64 (car a b 4 : Int)) rfl (run_as rfl rfl) ⟨⟨k157, k158⟩, ?_⟩)
      simp only [nz1, nz2, nz3]
      refine wpAnyH_done (by kernel_rfl) ?_ _
      go_step
      go_step
      go_step
      go_step
      refine lv 15 (.agg (ws (a + b))) rfl rfl (run_row rfl rfl k160 Tryd.underlying52 rfl (by rw [ws_sz]; exact info_w)) ?_
      simp only [nz1, nz2, nz3]
      refine lv 16 (.int .u64 (car a b 4 : Int)) rfl rfl (run_mv rfl rfl) ?_
      simp only [nz1, nz2, nz3]
      refine lst (wanted_none rfl) (w_enter 17 (.agg (ws ((a + b) % PP))) rfl (run_fold rfl rfl rfl) (fold_add a b HA.out HB.out _) (fun w162 hb163 => ?_))
      have k164 := k157.call hb163
      have k165 := k158.call hb163
      have k166 := k159.call hb163
      have k167 := k160.call hb163
      have hbel168 := bel_call hbel161 hb163
      simp only [nz1, nz2, nz3]
      refine lst (wanted_none rfl) (w_enter 18 (.agg (bs ((a + b) % PP))) rfl (run_store rfl rfl) (store_any ((a + b) % PP) _) (fun w169 hb170 => ?_))
      have k171 := k164.call hb170
      have k172 := k165.call hb170
      have k173 := k166.call hb170
      have k174 := k167.call hb170
      have hbel175 := bel_call hbel168 hb170
      simp only [nz1, nz2, nz3]
      refine lst (wanted_none rfl) (w_store 23 _ _ (w6.heap.size) (bs ((a + b) % PP)) rfl rfl rfl rfl k173 (by rw [bs_sz]; exact info_b) (by rw [bs_sz, bs_sz]) (bs_one _) (fun w176 he177 => ?_))
      have k178 := k171.other hne16 he177
      have k179 := k172.other hne18 he177
      have k180 := k174.other hne137.symm he177
      have k181 := k173.set he177
      have hbel182 := bel_set hbel175 hg20 he177
      go_step
      go_step
      go_step
      go_wp2
      refine bodyPost_ret (v := .agg (bs ((a + b) % PP))) (results_cell_row rfl _ _ (w6.heap.size) 23 _ (0, 0) _ rfl k181 Tryd.underlying23 rfl (by rw [bs_sz]; exact info_b)) rfl ⟨rfl, hbel182⟩
  · refine opd rfl (wanted_none rfl) (w_alloc (c := ws 0) (T := 52) 5 rfl (run_alW rfl) (fun w183 he184 => ?_))
    have hne186 : w.heap.size ≠ wd26.heap.size := Nat.ne_of_lt k22.lt
    have k185 := k22.alloc he184
    have hne188 : w1.heap.size ≠ wd26.heap.size := Nat.ne_of_lt k23.lt
    have k187 := k23.alloc he184
    have hne190 : w6.heap.size ≠ wd26.heap.size := Nat.ne_of_lt k24.lt
    have k189 := k24.alloc he184
    have k191 := Blk.new he184
    have hg192 : w.heap.size ≤ wd26.heap.size := hbel25.size
    have hbel193 := bel_alloc hbel25 he184
    refine ⟨⟨k185, k187⟩, ?_⟩
    simp only [nz1, nz2, nz3]
    refine one_ready 1 (by kernel_rfl) ?_
    refine opd rfl (wanted_none rfl) (w_enter 9 (.agg (ws a)) rfl (run_load rfl rfl) (load_any a _) (fun w194 hb195 => ?_))
    have k196 := k185.call hb195
    have k197 := k187.call hb195
    have k198 := k189.call hb195
    have k199 := k191.call hb195
    have hbel200 := bel_call hbel193 hb195
    refine ⟨⟨k196, k197⟩, ?_⟩
    simp only [nz1, nz2, nz3]
    refine one_ready 3 (by kernel_rfl) ?_
    refine opd rfl (wanted_none rfl) (w_enter 11 (.agg (ws b)) rfl (run_load rfl rfl) (load_any b _) (fun w201 hb202 => ?_))
    have k203 := k196.call hb202
    have k204 := k197.call hb202
    have k205 := k198.call hb202
    have k206 := k199.call hb202
    have hbel207 := bel_call hbel200 hb202
    refine ⟨⟨k203, k204⟩, ?_⟩
    simp only [nz1, nz2, nz3]
    refine one_ready 4 (by kernel_rfl) ?_
    refine opd rfl (wanted_none rfl) (w_enter 12 (.tuple #[.agg (ws (a + b)), .int .u64 (car a b 4 : Int)]) rfl (run_plus rfl rfl rfl) (plus_any a b _) (fun w208 hb209 => ?_))
    have k210 := k203.call hb209
    have k211 := k204.call hb209
    have k212 := k205.call hb209
    have k213 := k206.call hb209
    have hbel214 := bel_call hbel207 hb209
    refine ⟨⟨k210, k211⟩, ?_⟩
    simp only [nz1, nz2, nz3]
    refine tk 5 7 (.tuple #[.agg (ws (a + b)), .int .u64 (car a b 4 : Int)]) rfl rfl (fun _ hw => run_mv rfl rfl) ⟨k210, k211⟩ ?_
    simp only [nz1, nz2, nz3]
    refine tk 6 13 (.agg (ws (a + b))) rfl rfl (fun _ hw => run_ex rfl rfl rfl) ⟨k210, k211⟩ ?_
    simp only [nz1, nz2, nz3]
    refine tk 7 14 (.int .u64 (car a b 4 : Int)) rfl rfl (fun _ hw => run_ex rfl rfl rfl) ⟨k210, k211⟩ ?_
    simp only [nz1, nz2, nz3]
    refine one_ready 9 (by kernel_rfl) ?_
    refine opd rfl (wanted_none rfl) (w_store 52 _ _ (wd26.heap.size) (ws (a + b)) rfl rfl rfl rfl k213 (by rw [ws_sz]; exact info_w) (by rw [ws_sz, ws_sz]) (ws_one _) (fun w215 he216 => ?_))
    have k217 := k210.other hne186 he216
    have k218 := k211.other hne188 he216
    have k219 := k212.other hne190 he216
    have k220 := k213.set he216
    have hbel221 := bel_set hbel214 hg192 he216
    refine ⟨⟨k217, k218⟩, ?_⟩
    refine one_ready 10 (by kernel_rfl) ?_
    refine opd rfl (wanted_none rfl) (w_value 6 (.int .u64 (car a b 4 : Int)) rfl (run_as rfl rfl) ⟨⟨k217, k218⟩, ?_⟩)
    simp only [nz1, nz2, nz3]
    refine wpAnyH_done (by kernel_rfl) ?_ _
    go_step
    go_step
    go_step
    go_step
    refine lv 15 (.agg (ws (a + b))) rfl rfl (run_row rfl rfl k220 Tryd.underlying52 rfl (by rw [ws_sz]; exact info_w)) ?_
    simp only [nz1, nz2, nz3]
    refine lv 16 (.int .u64 (car a b 4 : Int)) rfl rfl (run_mv rfl rfl) ?_
    simp only [nz1, nz2, nz3]
    refine lst (wanted_none rfl) (w_enter 17 (.agg (ws ((a + b) % PP))) rfl (run_fold rfl rfl rfl) (fold_add a b HA.out HB.out _) (fun w222 hb223 => ?_))
    have k224 := k217.call hb223
    have k225 := k218.call hb223
    have k226 := k219.call hb223
    have k227 := k220.call hb223
    have hbel228 := bel_call hbel221 hb223
    simp only [nz1, nz2, nz3]
    refine lst (wanted_none rfl) (w_enter 18 (.agg (bs ((a + b) % PP))) rfl (run_store rfl rfl) (store_any ((a + b) % PP) _) (fun w229 hb230 => ?_))
    have k231 := k224.call hb230
    have k232 := k225.call hb230
    have k233 := k226.call hb230
    have k234 := k227.call hb230
    have hbel235 := bel_call hbel228 hb230
    simp only [nz1, nz2, nz3]
    refine lst (wanted_none rfl) (w_store 23 _ _ (w6.heap.size) (bs ((a + b) % PP)) rfl rfl rfl rfl k233 (by rw [bs_sz]; exact info_b) (by rw [bs_sz, bs_sz]) (bs_one _) (fun w236 he237 => ?_))
    have k238 := k231.other hne16 he237
    have k239 := k232.other hne18 he237
    have k240 := k234.other hne190.symm he237
    have k241 := k233.set he237
    have hbel242 := bel_set hbel235 hg20 he237
    go_step
    go_step
    go_step
    go_wp2
    refine bodyPost_ret (v := .agg (bs ((a + b) % PP))) (results_cell_row rfl _ _ (w6.heap.size) 23 _ (0, 0) _ rfl k241 Tryd.underlying23 rfl (by rw [bs_sz]; exact info_b)) rfl ⟨rfl, hbel242⟩

set_option maxHeartbeats 1000000 in
theorem mul_any (a b : Nat) (ha : a < MM) (hb : b < MM) (w : World) : Calls Tryd.prog 28 #[.agg (bs a), .agg (bs b)] w fun e w' => e = .returned (.agg (bs (a * b % PP))) ∧ Below w.heap.size w w' := by
  have HA := Lib.hid ha
  have HB := Lib.hid hb
  clear ha hb
  go_enter Tryd.func28, Tryd.ntmps28
  have hbel0 := Below.refl w.heap.size w
  go_step
  go_step
  go_step
  refine lst (wanted_none rfl) (w_alloc (c := bs a) (T := 23) 2 rfl (run_box rfl rfl) (fun w1 he2 => ?_))
  have k3 := Blk.new he2
  have hg4 : w.heap.size ≤ w.heap.size := hbel0.size
  have hbel5 := bel_alloc hbel0 he2
  simp only [nz1, nz2, nz3]
  refine lst (wanted_none rfl) (w_alloc (c := bs b) (T := 23) 3 rfl (run_box rfl rfl) (fun w6 he7 => ?_))
  have hne9 : w.heap.size ≠ w1.heap.size := Nat.ne_of_lt k3.lt
  have k8 := k3.alloc he7
  have k10 := Blk.new he7
  have hg11 : w.heap.size ≤ w1.heap.size := hbel5.size
  have hbel12 := bel_alloc hbel5 he7
  simp only [nz1, nz2, nz3]
  refine lst (wanted_none rfl) (w_alloc (c := bs 0) (T := 23) 4 rfl (run_alN rfl) (fun w13 he14 => ?_))
  have hne16 : w.heap.size ≠ w6.heap.size := Nat.ne_of_lt k8.lt
  have k15 := k8.alloc he14
  have hne18 : w1.heap.size ≠ w6.heap.size := Nat.ne_of_lt k10.lt
  have k17 := k10.alloc he14
  have k19 := Blk.new he14
  have hg20 : w.heap.size ≤ w6.heap.size := hbel12.size
  have hbel21 := bel_alloc hbel12 he14
  simp only [nz1, nz2, nz3]
  go_step
  go_step
  go_step
  go_step
  have k22 := k15.drew
  have k23 := k17.drew
  have k24 := k19.drew
  have hbel25 := hbel21.drew
  refine wp_region_held_drew (S := fun w' => Blk w' (w.heap.size) (bs a) 23 ∧ Blk w' (w1.heap.size) (bs b) 23) (by kernel_rfl) ⟨k22, k23⟩ (fun _ => ?_)
  generalize w13.drew = wd26 at *
  refine tk 0 5 (.agg (bs a)) rfl rfl (fun _ hw => run_row rfl rfl (hw.1) Tryd.underlying23 rfl (by rw [bs_sz]; exact info_b)) ⟨k22, k23⟩ ?_
  simp only [nz1, nz2, nz3]
  refine tk 2 7 (.agg (bs b)) rfl rfl (fun _ hw => run_row rfl rfl (hw.2) Tryd.underlying23 rfl (by rw [bs_sz]; exact info_b)) ⟨k22, k23⟩ ?_
  simp only [nz1, nz2, nz3]
  refine one_ready 1 (by kernel_rfl) ?_
  refine opd rfl (wanted_none rfl) (w_enter 6 (.agg (ws a)) rfl (run_load rfl rfl) (load_any a _) (fun w27 hb28 => ?_))
  have k29 := k22.call hb28
  have k30 := k23.call hb28
  have k31 := k24.call hb28
  have hbel32 := bel_call hbel25 hb28
  refine ⟨⟨k29, k30⟩, ?_⟩
  simp only [nz1, nz2, nz3]
  refine one_ready 3 (by kernel_rfl) ?_
  refine opd rfl (wanted_none rfl) (w_enter 8 (.agg (ws b)) rfl (run_load rfl rfl) (load_any b _) (fun w33 hb34 => ?_))
  have k35 := k29.call hb34
  have k36 := k30.call hb34
  have k37 := k31.call hb34
  have hbel38 := bel_call hbel32 hb34
  refine ⟨⟨k35, k36⟩, ?_⟩
  simp only [nz1, nz2, nz3]
  refine one_ready 4 (by kernel_rfl) ?_
  refine opd rfl (wanted_none rfl) (w_enter 9 (.agg (ws (a * b % PP))) rfl (run_multiply rfl rfl rfl) (multiply_any a b HA.out HB.out _) (fun w39 hb40 => ?_))
  have k41 := k35.call hb40
  have k42 := k36.call hb40
  have k43 := k37.call hb40
  have hbel44 := bel_call hbel38 hb40
  refine ⟨⟨k41, k42⟩, ?_⟩
  simp only [nz1, nz2, nz3]
  refine one_ready 5 (by kernel_rfl) ?_
  refine opd rfl (wanted_none rfl) (w_enter 10 (.agg (bs (a * b % PP))) rfl (run_store rfl rfl) (store_any (a * b % PP) _) (fun w45 hb46 => ?_))
  have k47 := k41.call hb46
  have k48 := k42.call hb46
  have k49 := k43.call hb46
  have hbel50 := bel_call hbel44 hb46
  refine ⟨⟨k47, k48⟩, ?_⟩
  simp only [nz1, nz2, nz3]
  refine one_ready 6 (by kernel_rfl) ?_
  refine opd rfl (wanted_none rfl) (w_store 23 _ _ (w6.heap.size) (bs (a * b % PP)) rfl rfl rfl rfl k49 (by rw [bs_sz]; exact info_b) (by rw [bs_sz, bs_sz]) (bs_one _) (fun w51 he52 => ?_))
  have k53 := k47.other hne16 he52
  have k54 := k48.other hne18 he52
  have k55 := k49.set he52
  have hbel56 := bel_set hbel50 hg20 he52
  refine ⟨⟨k53, k54⟩, ?_⟩
  refine wpAnyH_done (by kernel_rfl) ?_ _
  go_step
  go_step
  go_wp2
  refine bodyPost_ret (v := .agg (bs (a * b % PP))) (results_cell_row rfl _ _ (w6.heap.size) 23 _ (0, 0) _ rfl k55 Tryd.underlying23 rfl (by rw [bs_sz]; exact info_b)) rfl ⟨rfl, hbel56⟩

set_option maxHeartbeats 1000000 in
theorem inv_any (a : Nat) (ha : a < MM) (w : World) : Calls Tryd.prog 33 #[.agg (bs a)] w fun e w' => e = .returned (.agg (bs (a ^ (PP - 2) % PP))) ∧ Below w.heap.size w w' := by
  have HA := Lib.hid ha
  clear ha
  go_enter Tryd.func33, Tryd.ntmps33
  have hbel0 := Below.refl w.heap.size w
  go_step
  go_step
  go_step
  refine lst (wanted_none rfl) (w_alloc (c := bs a) (T := 23) 1 rfl (run_box rfl rfl) (fun w1 he2 => ?_))
  have k3 := Blk.new he2
  have hg4 : w.heap.size ≤ w.heap.size := hbel0.size
  have hbel5 := bel_alloc hbel0 he2
  simp only [nz1, nz2, nz3]
  refine lst (wanted_none rfl) (w_alloc (c := bs 0) (T := 23) 2 rfl (run_alN rfl) (fun w6 he7 => ?_))
  have hne9 : w.heap.size ≠ w1.heap.size := Nat.ne_of_lt k3.lt
  have k8 := k3.alloc he7
  have k10 := Blk.new he7
  have hg11 : w.heap.size ≤ w1.heap.size := hbel5.size
  have hbel12 := bel_alloc hbel5 he7
  simp only [nz1, nz2, nz3]
  go_step
  go_step
  go_step
  go_step
  go_step
  refine lst (wanted_none rfl) (w_enter 6 (.agg (ws PP)) rfl (run_order rfl) (order_pp _) (fun w13 hb14 => ?_))
  have k15 := k8.call hb14
  have k16 := k10.call hb14
  have hbel17 := bel_call hbel12 hb14
  simp only [nz1, nz2, nz3]
  refine lv 7 (.agg (ws 2)) rfl rfl (by unfold execOp; go_simp; rfl) ?_
  simp only [nz1, nz2, nz3]
  refine lst (wanted_none rfl) (w_enter 8 (.tuple #[.agg (ws (PP - 2)), .int .u64 (bo PP 2 4 : Int)]) rfl (run_minus rfl rfl rfl) (minus_ge PP 2 ⟨by decide, by decide⟩ _) (fun w18 hb19 => ?_))
  have k20 := k15.call hb19
  have k21 := k16.call hb19
  have hbel22 := bel_call hbel17 hb19
  simp only [nz1, nz2, nz3]
  refine lv 5 (.tuple #[.agg (ws (PP - 2)), .int .u64 (bo PP 2 4 : Int)]) rfl rfl (run_mv rfl rfl) ?_
  simp only [nz1, nz2, nz3]
  refine lv 9 (.agg (ws (PP - 2))) rfl rfl (run_ex rfl rfl rfl) ?_
  simp only [nz1, nz2, nz3]
  refine lv 10 (.int .u64 (bo PP 2 4 : Int)) rfl rfl (run_ex rfl rfl rfl) ?_
  simp only [nz1, nz2, nz3]
  refine lst (wanted_none rfl) (w_alloc (c := ws 0) (T := 52) 3 rfl (run_alW rfl) (fun w23 he24 => ?_))
  have hne26 : w.heap.size ≠ w18.heap.size := Nat.ne_of_lt k20.lt
  have k25 := k20.alloc he24
  have hne28 : w1.heap.size ≠ w18.heap.size := Nat.ne_of_lt k21.lt
  have k27 := k21.alloc he24
  have k29 := Blk.new he24
  have hg30 : w.heap.size ≤ w18.heap.size := hbel22.size
  have hbel31 := bel_alloc hbel22 he24
  simp only [nz1, nz2, nz3]
  refine lst (wanted_none rfl) (w_store 52 _ _ (w18.heap.size) (ws (PP - 2)) rfl rfl rfl rfl k29 (by rw [ws_sz]; exact info_w) (by rw [ws_sz, ws_sz]) (ws_one _) (fun w32 he33 => ?_))
  have k34 := k25.other hne26 he33
  have k35 := k27.other hne28 he33
  have k36 := k29.set he33
  have hbel37 := bel_set hbel31 hg30 he33
  refine lv 4 (.int .u64 (bo PP 2 4 : Int)) rfl rfl (run_as rfl rfl) ?_
  simp only [nz1, nz2, nz3]
  go_step
  go_step
  go_step
  go_step
  have k38 := k34.drew
  have k39 := k35.drew
  have k40 := k36.drew
  have hbel41 := hbel37.drew
  refine wp_region_held_drew (S := fun w' => Blk w' (w.heap.size) (bs a) 23 ∧ Blk w' (w18.heap.size) (ws (PP - 2)) 52) (by kernel_rfl) ⟨k38, k40⟩ (fun _ => ?_)
  generalize w32.drew = wd42 at *
  refine tk 0 11 (.agg (bs a)) rfl rfl (fun _ hw => run_row rfl rfl (hw.1) Tryd.underlying23 rfl (by rw [bs_sz]; exact info_b)) ⟨k38, k40⟩ ?_
  simp only [nz1, nz2, nz3]
  refine tk 2 13 (.agg (ws (PP - 2))) rfl rfl (fun _ hw => run_row rfl rfl (hw.2) Tryd.underlying52 rfl (by rw [ws_sz]; exact info_w)) ⟨k38, k40⟩ ?_
  simp only [nz1, nz2, nz3]
  refine one_ready 1 (by kernel_rfl) ?_
  refine opd rfl (wanted_none rfl) (w_enter 12 (.agg (ws a)) rfl (run_load rfl rfl) (load_any a _) (fun w43 hb44 => ?_))
  have k45 := k38.call hb44
  have k46 := k39.call hb44
  have k47 := k40.call hb44
  have hbel48 := bel_call hbel41 hb44
  refine ⟨⟨k45, k47⟩, ?_⟩
  simp only [nz1, nz2, nz3]
  refine one_ready 3 (by kernel_rfl) ?_
  refine opd rfl (wanted_none rfl) (w_enter 14 (.agg (ws (a ^ (PP - 2) % PP))) rfl (run_raise rfl rfl rfl) (raise_any a (PP - 2) HA.out (Nat.lt_of_le_of_lt (Nat.sub_le _ _) pp_lt) _) (fun w49 hb50 => ?_))
  have k51 := k45.call hb50
  have k52 := k46.call hb50
  have k53 := k47.call hb50
  have hbel54 := bel_call hbel48 hb50
  refine ⟨⟨k51, k53⟩, ?_⟩
  simp only [nz1, nz2, nz3]
  refine one_ready 4 (by kernel_rfl) ?_
  refine opd rfl (wanted_none rfl) (w_enter 15 (.agg (bs (a ^ (PP - 2) % PP))) rfl (run_store rfl rfl) (store_any (a ^ (PP - 2) % PP) _) (fun w55 hb56 => ?_))
  have k57 := k51.call hb56
  have k58 := k52.call hb56
  have k59 := k53.call hb56
  have hbel60 := bel_call hbel54 hb56
  refine ⟨⟨k57, k59⟩, ?_⟩
  simp only [nz1, nz2, nz3]
  refine one_ready 5 (by kernel_rfl) ?_
  refine opd rfl (wanted_none rfl) (w_store 23 _ _ (w1.heap.size) (bs (a ^ (PP - 2) % PP)) rfl rfl rfl rfl k58 (by rw [bs_sz]; exact info_b) (by rw [bs_sz, bs_sz]) (bs_one _) (fun w61 he62 => ?_))
  have k63 := k57.other hne9 he62
  have k64 := k59.other hne28.symm he62
  have k65 := k58.set he62
  have hbel66 := bel_set hbel60 hg11 he62
  refine ⟨⟨k63, k64⟩, ?_⟩
  refine wpAnyH_done (by kernel_rfl) ?_ _
  go_step
  go_step
  go_wp2
  refine bodyPost_ret (v := .agg (bs (a ^ (PP - 2) % PP))) (results_cell_row rfl _ _ (w1.heap.size) 23 _ (0, 0) _ rfl k65 Tryd.underlying23 rfl (by rw [bs_sz]; exact info_b)) rfl ⟨rfl, hbel66⟩

end Go.Proofs.YtfpphinnngblgaaDoor.Fld
