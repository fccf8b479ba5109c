/- Layer 3: differences, roots. -/
import Derived.Test.YtfpphinnngblgaaDoorFldJ
namespace Go.Proofs.YtfpphinnngblgaaDoor.Fld
open Go.RowKit
open Go.Proofs.YtfpphinnngblgaaDoor.Arr Go.Proofs.YtfpphinnngblgaaDoor.Sym

/-- The order and 3, by 8; the order less 1, by 4. -/
def K1 : Nat := 7237005577332262213973186563042994240829374041602535252466099000494570602494
def K2 : Nat := 14474011154664524427946373126085988481658748083205070504932198000989141204987
theorem bs_low (n m : Nat) (h : n = m + MM) : bs n = bs m := by
  subst h
  refine rowOf_congr fun j hj => ?_
  unfold bt
  rw [MM_eq_b, show (256 : Nat) ^ 32 = 256 ^ j * 256 ^ (32 - j) by rw [← Nat.pow_add]; congr 1; omega, Nat.add_mul_div_left _ _ (Nat.pow_pos (by decide)), show 32 - j = (31 - j) + 1 by omega, Nat.pow_succ, Nat.mul_comm, Nat.add_mul_mod_self_left]
set_option maxHeartbeats 1000000 in
theorem sub_lt (a b : Nat) (ha : a < MM) (hb : b < MM) (hc : decide (bo (a % PP) (b % PP) 4 = 1) = true) (w : World) : Calls Tryd.prog 32 #[.agg (bs a), .agg (bs b)] w fun e w' => e = .returned (.agg (bs (((a % PP) + MM - (b % PP)) + PP))) ∧ Below w.heap.size w w' := by
  have HA := Lib.hid ha
  have HB := Lib.hid hb
  clear ha hb
  have HC := Lib.hid hc
  clear hc
  go_enter Tryd.func32, Tryd.ntmps32
  have hbel0 := Below.refl w.heap.size w
  go_step
  go_step
  go_step
  refine lst (wanted_none rfl) (w_alloc (c := bs a) (T := 23) 2 rfl (run_box rfl rfl) (fun w1 he2 => ?_))
  have k3 := Blk.new he2
  have hg4 : w.heap.size ≤ w.heap.size := hbel0.size
  have hbel5 := bel_alloc hbel0 he2
  simp only [nz1, nz2, nz3]
  refine lst (wanted_none rfl) (w_alloc (c := bs b) (T := 23) 3 rfl (run_box rfl rfl) (fun w6 he7 => ?_))
  have hne9 : w.heap.size ≠ w1.heap.size := Nat.ne_of_lt k3.lt
  have k8 := k3.alloc he7
  have k10 := Blk.new he7
  have hg11 : w.heap.size ≤ w1.heap.size := hbel5.size
  have hbel12 := bel_alloc hbel5 he7
  simp only [nz1, nz2, nz3]
  refine lst (wanted_none rfl) (w_alloc (c := bs 0) (T := 23) 4 rfl (run_alN rfl) (fun w13 he14 => ?_))
  have hne16 : w.heap.size ≠ w6.heap.size := Nat.ne_of_lt k8.lt
  have k15 := k8.alloc he14
  have hne18 : w1.heap.size ≠ w6.heap.size := Nat.ne_of_lt k10.lt
  have k17 := k10.alloc he14
  have k19 := Blk.new he14
  have hg20 : w.heap.size ≤ w6.heap.size := hbel12.size
  have hbel21 := bel_alloc hbel12 he14
  simp only [nz1, nz2, nz3]
  go_step
  go_step
  go_step
  go_step
  have k22 := k15.drew
  have k23 := k17.drew
  have k24 := k19.drew
  have hbel25 := hbel21.drew
  refine wp_region_held_drew (S := fun w' => Blk w' (w.heap.size) (bs a) 23 ∧ Blk w' (w1.heap.size) (bs b) 23) (by kernel_rfl) ⟨k22, k23⟩ (fun _ => ?_)
  generalize w13.drew = wd26 at *
  refine tk 0 8 (.agg (bs a)) rfl rfl (fun _ hw => run_row rfl rfl (hw.1) Tryd.underlying23 rfl (by rw [bs_sz]; exact info_b)) ⟨k22, k23⟩ ?_
  simp only [nz1, nz2, nz3]
  refine tk 3 11 (.agg (bs b)) rfl rfl (fun _ hw => run_row rfl rfl (hw.2) Tryd.underlying23 rfl (by rw [bs_sz]; exact info_b)) ⟨k22, k23⟩ ?_
  simp only [nz1, nz2, nz3]
  refine two_ready 1 10 (by kernel_rfl) ?_ ?_
  · refine opd rfl (wanted_none rfl) (w_enter 9 (.agg (ws a)) rfl (run_load rfl rfl) (load_any a _) (fun w27 hb28 => ?_))
    have k29 := k22.call hb28
    have k30 := k23.call hb28
    have k31 := k24.call hb28
    have hbel32 := bel_call hbel25 hb28
    refine ⟨⟨k29, k30⟩, ?_⟩
    simp only [nz1, nz2, nz3]
    refine two_ready 2 10 (by kernel_rfl) ?_ ?_
    · refine opd rfl (wanted_none rfl) (w_enter 10 (.agg (ws (a % PP))) rfl (run_rest rfl rfl) (rest_any a HA.out _) (fun w33 hb34 => ?_))
      have k35 := k29.call hb34
      have k36 := k30.call hb34
      have k37 := k31.call hb34
      have hbel38 := bel_call hbel32 hb34
      refine ⟨⟨k35, k36⟩, ?_⟩
      simp only [nz1, nz2, nz3]
      refine two_ready 4 10 (by kernel_rfl) ?_ ?_
      · refine opd rfl (wanted_none rfl) (w_enter 12 (.agg (ws b)) rfl (run_load rfl rfl) (load_any b _) (fun w39 hb40 => ?_))
        have k41 := k35.call hb40
        have k42 := k36.call hb40
        have k43 := k37.call hb40
        have hbel44 := bel_call hbel38 hb40
        refine ⟨⟨k41, k42⟩, ?_⟩
        simp only [nz1, nz2, nz3]
        refine two_ready 5 10 (by kernel_rfl) ?_ ?_
        · refine opd rfl (wanted_none rfl) (w_enter 13 (.agg (ws (b % PP))) rfl (run_rest rfl rfl) (rest_any b HB.out _) (fun w45 hb46 => ?_))
          have k47 := k41.call hb46
          have k48 := k42.call hb46
          have k49 := k43.call hb46
          have hbel50 := bel_call hbel44 hb46
          refine ⟨⟨k47, k48⟩, ?_⟩
          simp only [nz1, nz2, nz3]
          refine two_ready 6 10 (by kernel_rfl) ?_ ?_
          · refine opd rfl (wanted_none rfl) (w_enter 14 (.tuple #[.agg (ws ((a % PP) + MM - (b % PP))), .int .u64 (bo (a % PP) (b % PP) 4 : Int)]) rfl (run_minus rfl rfl rfl) (minus_any (a % PP) (b % PP) _ (Nat.le_of_lt (Nat.lt_trans (Nat.mod_lt _ (by decide)) pp_lt))) (fun w51 hb52 => ?_))
            have k53 := k47.call hb52
            have k54 := k48.call hb52
            have k55 := k49.call hb52
            have hbel56 := bel_call hbel50 hb52
            refine ⟨⟨k53, k54⟩, ?_⟩
            simp only [nz1, nz2, nz3]
            refine tk 7 7 (.tuple #[.agg (ws ((a % PP) + MM - (b % PP))), .int .u64 (bo (a % PP) (b % PP) 4 : Int)]) rfl rfl (fun _ hw => run_mv rfl rfl) ⟨k53, k54⟩ ?_
            simp only [nz1, nz2, nz3]
            refine tk 8 15 (.agg (ws ((a % PP) + MM - (b % PP)))) rfl rfl (fun _ hw => run_ex rfl rfl rfl) ⟨k53, k54⟩ ?_
            simp only [nz1, nz2, nz3]
            refine tk 9 16 (.int .u64 (bo (a % PP) (b % PP) 4 : Int)) rfl rfl (fun _ hw => run_ex rfl rfl rfl) ⟨k53, k54⟩ ?_
            simp only [nz1, nz2, nz3]
            refine one_ready 10 (by kernel_rfl) ?_
            refine opd rfl (wanted_none rfl) (w_alloc (c := ws 0) (T := 52) 5 rfl (run_alW rfl) (fun w57 he58 => ?_))
            have hne60 : w.heap.size ≠ w51.heap.size := Nat.ne_of_lt k53.lt
            have k59 := k53.alloc he58
            have hne62 : w1.heap.size ≠ w51.heap.size := Nat.ne_of_lt k54.lt
            have k61 := k54.alloc he58
            have hne64 : w6.heap.size ≠ w51.heap.size := Nat.ne_of_lt k55.lt
            have k63 := k55.alloc he58
            have k65 := Blk.new he58
            have hg66 : w.heap.size ≤ w51.heap.size := hbel56.size
            have hbel67 := bel_alloc hbel56 he58
            refine ⟨⟨k59, k61⟩, ?_⟩
            simp only [nz1, nz2, nz3]
            refine one_ready 11 (by kernel_rfl) ?_
            refine opd rfl (wanted_none rfl) (w_store 52 _ _ (w51.heap.size) (ws ((a % PP) + MM - (b % PP))) rfl rfl rfl rfl k65 (by rw [ws_sz]; exact info_w) ((ws_sz _).trans (ws_sz _).symm) (ws_one _) (fun w68 he69 => ?_))
            have k70 := k59.other hne60 he69
            have k71 := k61.other hne62 he69
            have k72 := k63.other hne64 he69
            have k73 := k65.set he69
            have hbel74 := bel_set hbel67 hg66 he69
            refine ⟨⟨k70, k71⟩, ?_⟩
            refine one_ready 12 (by kernel_rfl) ?_
            refine opd rfl (wanted_none rfl) (w_value 6 (.int .u64 (bo (a % PP) (b % PP) 4 : Int)) rfl (run_as rfl rfl) ⟨⟨k70, k71⟩, ?_⟩)
            simp only [nz1, nz2, nz3]
            refine wpAnyH_done (by kernel_rfl) ?_ _
            go_step
            go_step
            go_step
            go_step
            go_step
            refine lv 17 (.int .u64 (bo (a % PP) (b % PP) 4 : Int)) rfl rfl (run_mv rfl rfl) ?_
            simp only [nz1, nz2, nz3]
            refine lv 18 (.bool true) rfl rfl (run_one rfl rfl HC.out) ?_
            simp only [nz1, nz2, nz3]
            go_step
            go_step
            go_step
            go_step
            have k75 := k70.drew
            have k76 := k71.drew
            have k77 := k72.drew
            have k78 := k73.drew
            have hbel79 := hbel74.drew
            refine wp_region_held_drew (S := fun w' => True) (by kernel_rfl) trivial (fun _ => ?_)
            generalize w68.drew = wd80 at *
            refine two_ready 0 1 (by kernel_rfl) ?_ ?_
            · refine opd rfl (wanted_none rfl) (w_value 20 (.agg (ws ((a % PP) + MM - (b % PP)))) rfl (run_row rfl rfl k78 Tryd.underlying52 rfl (by rw [ws_sz]; exact info_w)) ⟨trivial, ?_⟩)
              simp only [nz1, nz2, nz3]
              refine one_ready 1 (by kernel_rfl) ?_
              refine opd rfl (wanted_none rfl) (w_enter 21 (.agg (ws PP)) rfl (run_order rfl) (order_pp _) (fun w81 hb82 => ?_))
              have k83 := k75.call hb82
              have k84 := k76.call hb82
              have k85 := k77.call hb82
              have k86 := k78.call hb82
              have hbel87 := bel_call hbel79 hb82
              refine ⟨trivial, ?_⟩
              simp only [nz1, nz2, nz3]
              refine one_ready 2 (by kernel_rfl) ?_
              refine opd rfl (wanted_none rfl) (w_enter 22 (.tuple #[.agg (ws (((a % PP) + MM - (b % PP)) + PP)), .int .u64 (car ((a % PP) + MM - (b % PP)) PP 4 : Int)]) rfl (run_plus rfl rfl rfl) (plus_any ((a % PP) + MM - (b % PP)) PP _) (fun w88 hb89 => ?_))
              have k90 := k83.call hb89
              have k91 := k84.call hb89
              have k92 := k85.call hb89
              have k93 := k86.call hb89
              have hbel94 := bel_call hbel87 hb89
              refine ⟨trivial, ?_⟩
              simp only [nz1, nz2, nz3]
              refine tk 3 19 (.tuple #[.agg (ws (((a % PP) + MM - (b % PP)) + PP)), .int .u64 (car ((a % PP) + MM - (b % PP)) PP 4 : Int)]) rfl rfl (fun _ hw => run_mv rfl rfl) trivial ?_
              simp only [nz1, nz2, nz3]
              refine tk 4 23 (.agg (ws (((a % PP) + MM - (b % PP)) + PP))) rfl rfl (fun _ hw => run_ex rfl rfl rfl) trivial ?_
              simp only [nz1, nz2, nz3]
              refine tk 5 24 (.int .u64 (car ((a % PP) + MM - (b % PP)) PP 4 : Int)) rfl rfl (fun _ hw => run_ex rfl rfl rfl) trivial ?_
              simp only [nz1, nz2, nz3]
              refine one_ready 6 (by kernel_rfl) ?_
              refine opd rfl (wanted_none rfl) (w_store 52 _ _ (w51.heap.size) (ws (((a % PP) + MM - (b % PP)) + PP)) rfl rfl rfl rfl k93 (by rw [ws_sz]; exact info_w) ((ws_sz _).trans (ws_sz _).symm) (ws_one _) (fun w95 he96 => ?_))
              have k97 := k90.other hne60 he96
              have k98 := k91.other hne62 he96
              have k99 := k92.other hne64 he96
              have k100 := k93.set he96
              have hbel101 := bel_set hbel94 hg66 he96
              refine ⟨trivial, ?_⟩
              refine wpAnyH_done (by kernel_rfl) ?_ _
              go_step
              go_step
              go_step
              go_step
              refine lv 25 (.agg (ws (((a % PP) + MM - (b % PP)) + PP))) rfl rfl (run_row rfl rfl k100 Tryd.underlying52 rfl (by rw [ws_sz]; exact info_w)) ?_
              simp only [nz1, nz2, nz3]
              refine lst (wanted_none rfl) (w_enter 26 (.agg (bs (((a % PP) + MM - (b % PP)) + PP))) rfl (run_store rfl rfl) (store_any (((a % PP) + MM - (b % PP)) + PP) _) (fun w102 hb103 => ?_))
              have k104 := k97.call hb103
              have k105 := k98.call hb103
              have k106 := k99.call hb103
              have k107 := k100.call hb103
              have hbel108 := bel_call hbel101 hb103
              simp only [nz1, nz2, nz3]
              refine lst (wanted_none rfl) (w_store 23 _ _ (w6.heap.size) (bs (((a % PP) + MM - (b % PP)) + PP)) rfl rfl rfl rfl k106 (by rw [bs_sz]; exact info_b) ((bs_sz _).trans (bs_sz _).symm) (bs_one _) (fun w109 he110 => ?_))
              have k111 := k104.other hne16 he110
              have k112 := k105.other hne18 he110
              have k113 := k107.other hne64.symm he110
              have k114 := k106.set he110
              have hbel115 := bel_set hbel108 hg20 he110
              go_step
              go_step
              go_step
              go_wp2
              refine bodyPost_ret (v := .agg (bs (((a % PP) + MM - (b % PP)) + PP))) (results_cell_row rfl _ _ (w6.heap.size) 23 _ (0, 0) _ rfl k114 Tryd.underlying23 rfl (by rw [bs_sz]; exact info_b)) rfl ⟨rfl, hbel115⟩
            · refine opd rfl (wanted_none rfl) (w_enter 21 (.agg (ws PP)) rfl (run_order rfl) (order_pp _) (fun w116 hb117 => ?_))
              have k118 := k75.call hb117
              have k119 := k76.call hb117
              have k120 := k77.call hb117
              have k121 := k78.call hb117
              have hbel122 := bel_call hbel79 hb117
              refine ⟨trivial, ?_⟩
              simp only [nz1, nz2, nz3]
              refine one_ready 0 (by kernel_rfl) ?_
              refine opd rfl (wanted_none rfl) (w_value 20 (.agg (ws ((a % PP) + MM - (b % PP)))) rfl (run_row rfl rfl k121 Tryd.underlying52 rfl (by rw [ws_sz]; exact info_w)) ⟨trivial, ?_⟩)
              simp only [nz1, nz2, nz3]
              refine one_ready 2 (by kernel_rfl) ?_
              refine opd rfl (wanted_none rfl) (w_enter 22 (.tuple #[.agg (ws (((a % PP) + MM - (b % PP)) + PP)), .int .u64 (car ((a % PP) + MM - (b % PP)) PP 4 : Int)]) rfl (run_plus rfl rfl rfl) (plus_any ((a % PP) + MM - (b % PP)) PP _) (fun w123 hb124 => ?_))
              have k125 := k118.call hb124
              have k126 := k119.call hb124
              have k127 := k120.call hb124
              have k128 := k121.call hb124
              have hbel129 := bel_call hbel122 hb124
              refine ⟨trivial, ?_⟩
              simp only [nz1, nz2, nz3]
              refine tk 3 19 (.tuple #[.agg (ws (((a % PP) + MM - (b % PP)) + PP)), .int .u64 (car ((a % PP) + MM - (b % PP)) PP 4 : Int)]) rfl rfl (fun _ hw => run_mv rfl rfl) trivial ?_
              simp only [nz1, nz2, nz3]
              refine tk 4 23 (.agg (ws (((a % PP) + MM - (b % PP)) + PP))) rfl rfl (fun _ hw => run_ex rfl rfl rfl) trivial ?_
              simp only [nz1, nz2, nz3]
              refine tk 5 24 (.int .u64 (car ((a % PP) + MM - (b % PP)) PP 4 : Int)) rfl rfl (fun _ hw => run_ex rfl rfl rfl) trivial ?_
              simp only [nz1, nz2, nz3]
              refine one_ready 6 (by kernel_rfl) ?_
              refine opd rfl (wanted_none rfl) (w_store 52 _ _ (w51.heap.size) (ws (((a % PP) + MM - (b % PP)) + PP)) rfl rfl rfl rfl k128 (by rw [ws_sz]; exact info_w) ((ws_sz _).trans (ws_sz _).symm) (ws_one _) (fun w130 he131 => ?_))
              have k132 := k125.other hne60 he131
              have k133 := k126.other hne62 he131
              have k134 := k127.other hne64 he131
              have k135 := k128.set he131
              have hbel136 := bel_set hbel129 hg66 he131
              refine ⟨trivial, ?_⟩
              refine wpAnyH_done (by kernel_rfl) ?_ _
              go_step
              go_step
              go_step
              go_step
              refine lv 25 (.agg (ws (((a % PP) + MM - (b % PP)) + PP))) rfl rfl (run_row rfl rfl k135 Tryd.underlying52 rfl (by rw [ws_sz]; exact info_w)) ?_
              simp only [nz1, nz2, nz3]
              refine lst (wanted_none rfl) (w_enter 26 (.agg (bs (((a % PP) + MM - (b % PP)) + PP))) rfl (run_store rfl rfl) (store_any (((a % PP) + MM - (b % PP)) + PP) _) (fun w137 hb138 => ?_))
              have k139 := k132.call hb138
              have k140 := k133.call hb138
              have k141 := k134.call hb138
              have k142 := k135.call hb138
              have hbel143 := bel_call hbel136 hb138
              simp only [nz1, nz2, nz3]
              refine lst (wanted_none rfl) (w_store 23 _ _ (w6.heap.size) (bs (((a % PP) + MM - (b % PP)) + PP)) rfl rfl rfl rfl k141 (by rw [bs_sz]; exact info_b) ((bs_sz _).trans (bs_sz _).symm) (bs_one _) (fun w144 he145 => ?_))
              have k146 := k139.other hne16 he145
              have k147 := k140.other hne18 he145
              have k148 := k142.other hne64.symm he145
              have k149 := k141.set he145
              have hbel150 := bel_set hbel143 hg20 he145
              go_step
              go_step
              go_step
              go_wp2
              refine bodyPost_ret (v := .agg (bs (((a % PP) + MM - (b % PP)) + PP))) (results_cell_row rfl _ _ (w6.heap.size) 23 _ (0, 0) _ rfl k149 Tryd.underlying23 rfl (by rw [bs_sz]; exact info_b)) rfl ⟨rfl, hbel150⟩
          · refine opd rfl (wanted_none rfl) (w_alloc (c := ws 0) (T := 52) 5 rfl (run_alW rfl) (fun w151 he152 => ?_))
            have hne154 : w.heap.size ≠ w45.heap.size := Nat.ne_of_lt k47.lt
            have k153 := k47.alloc he152
            have hne156 : w1.heap.size ≠ w45.heap.size := Nat.ne_of_lt k48.lt
            have k155 := k48.alloc he152
            have hne158 : w6.heap.size ≠ w45.heap.size := Nat.ne_of_lt k49.lt
            have k157 := k49.alloc he152
            have k159 := Blk.new he152
            have hg160 : w.heap.size ≤ w45.heap.size := hbel50.size
            have hbel161 := bel_alloc hbel50 he152
            refine ⟨⟨k153, k155⟩, ?_⟩
            simp only [nz1, nz2, nz3]
            refine one_ready 6 (by kernel_rfl) ?_
            refine opd rfl (wanted_none rfl) (w_enter 14 (.tuple #[.agg (ws ((a % PP) + MM - (b % PP))), .int .u64 (bo (a % PP) (b % PP) 4 : Int)]) rfl (run_minus rfl rfl rfl) (minus_any (a % PP) (b % PP) _ (Nat.le_of_lt (Nat.lt_trans (Nat.mod_lt _ (by decide)) pp_lt))) (fun w162 hb163 => ?_))
            have k164 := k153.call hb163
            have k165 := k155.call hb163
            have k166 := k157.call hb163
            have k167 := k159.call hb163
            have hbel168 := bel_call hbel161 hb163
            refine ⟨⟨k164, k165⟩, ?_⟩
            simp only [nz1, nz2, nz3]
            refine tk 7 7 (.tuple #[.agg (ws ((a % PP) + MM - (b % PP))), .int .u64 (bo (a % PP) (b % PP) 4 : Int)]) rfl rfl (fun _ hw => run_mv rfl rfl) ⟨k164, k165⟩ ?_
            simp only [nz1, nz2, nz3]
            refine tk 8 15 (.agg (ws ((a % PP) + MM - (b % PP)))) rfl rfl (fun _ hw => run_ex rfl rfl rfl) ⟨k164, k165⟩ ?_
            simp only [nz1, nz2, nz3]
            refine tk 9 16 (.int .u64 (bo (a % PP) (b % PP) 4 : Int)) rfl rfl (fun _ hw => run_ex rfl rfl rfl) ⟨k164, k165⟩ ?_
            simp only [nz1, nz2, nz3]
            refine one_ready 11 (by kernel_rfl) ?_
            refine opd rfl (wanted_none rfl) (w_store 52 _ _ (w45.heap.size) (ws ((a % PP) + MM - (b % PP))) rfl rfl rfl rfl k167 (by rw [ws_sz]; exact info_w) ((ws_sz _).trans (ws_sz _).symm) (ws_one _) (fun w169 he170 => ?_))
            have k171 := k164.other hne154 he170
            have k172 := k165.other hne156 he170
            have k173 := k166.other hne158 he170
            have k174 := k167.set he170
            have hbel175 := bel_set hbel168 hg160 he170
            refine ⟨⟨k171, k172⟩, ?_⟩
            refine one_ready 12 (by kernel_rfl) ?_
            refine opd rfl (wanted_none rfl) (w_value 6 (.int .u64 (bo (a % PP) (b % PP) 4 : Int)) rfl (run_as rfl rfl) ⟨⟨k171, k172⟩, ?_⟩)
            simp only [nz1, nz2, nz3]
            refine wpAnyH_done (by kernel_rfl) ?_ _
            go_step
            go_step
            go_step
            go_step
            go_step
            refine lv 17 (.int .u64 (bo (a % PP) (b % PP) 4 : Int)) rfl rfl (run_mv rfl rfl) ?_
            simp only [nz1, nz2, nz3]
            refine lv 18 (.bool true) rfl rfl (run_one rfl rfl HC.out) ?_
            simp only [nz1, nz2, nz3]
            go_step
            go_step
            go_step
            go_step
            have k176 := k171.drew
            have k177 := k172.drew
            have k178 := k173.drew
            have k179 := k174.drew
            have hbel180 := hbel175.drew
            refine wp_region_held_drew (S := fun w' => True) (by kernel_rfl) trivial (fun _ => ?_)
            generalize w169.drew = wd181 at *
            refine two_ready 0 1 (by kernel_rfl) ?_ ?_
            · refine opd rfl (wanted_none rfl) (w_value 20 (.agg (ws ((a % PP) + MM - (b % PP)))) rfl (run_row rfl rfl k179 Tryd.underlying52 rfl (by rw [ws_sz]; exact info_w)) ⟨trivial, ?_⟩)
              simp only [nz1, nz2, nz3]
              refine one_ready 1 (by kernel_rfl) ?_
              refine opd rfl (wanted_none rfl) (w_enter 21 (.agg (ws PP)) rfl (run_order rfl) (order_pp _) (fun w182 hb183 => ?_))
              have k184 := k176.call hb183
              have k185 := k177.call hb183
              have k186 := k178.call hb183
              have k187 := k179.call hb183
              have hbel188 := bel_call hbel180 hb183
              refine ⟨trivial, ?_⟩
              simp only [nz1, nz2, nz3]
              refine one_ready 2 (by kernel_rfl) ?_
              refine opd rfl (wanted_none rfl) (w_enter 22 (.tuple #[.agg (ws (((a % PP) + MM - (b % PP)) + PP)), .int .u64 (car ((a % PP) + MM - (b % PP)) PP 4 : Int)]) rfl (run_plus rfl rfl rfl) (plus_any ((a % PP) + MM - (b % PP)) PP _) (fun w189 hb190 => ?_))
              have k191 := k184.call hb190
              have k192 := k185.call hb190
              have k193 := k186.call hb190
              have k194 := k187.call hb190
              have hbel195 := bel_call hbel188 hb190
              refine ⟨trivial, ?_⟩
              simp only [nz1, nz2, nz3]
              refine tk 3 19 (.tuple #[.agg (ws (((a % PP) + MM - (b % PP)) + PP)), .int .u64 (car ((a % PP) + MM - (b % PP)) PP 4 : Int)]) rfl rfl (fun _ hw => run_mv rfl rfl) trivial ?_
              simp only [nz1, nz2, nz3]
              refine tk 4 23 (.agg (ws (((a % PP) + MM - (b % PP)) + PP))) rfl rfl (fun _ hw => run_ex rfl rfl rfl) trivial ?_
              simp only [nz1, nz2, nz3]
              refine tk 5 24 (.int .u64 (car ((a % PP) + MM - (b % PP)) PP 4 : Int)) rfl rfl (fun _ hw => run_ex rfl rfl rfl) trivial ?_
              simp only [nz1, nz2, nz3]
              refine one_ready 6 (by kernel_rfl) ?_
              refine opd rfl (wanted_none rfl) (w_store 52 _ _ (w45.heap.size) (ws (((a % PP) + MM - (b % PP)) + PP)) rfl rfl rfl rfl k194 (by rw [ws_sz]; exact info_w) ((ws_sz _).trans (ws_sz _).symm) (ws_one _) (fun w196 he197 => ?_))
              have k198 := k191.other hne154 he197
              have k199 := k192.other hne156 he197
              have k200 := k193.other hne158 he197
              have k201 := k194.set he197
              have hbel202 := bel_set hbel195 hg160 he197
              refine ⟨trivial, ?_⟩
              refine wpAnyH_done (by kernel_rfl) ?_ _
              go_step
              go_step
              go_step
              go_step
              refine lv 25 (.agg (ws (((a % PP) + MM - (b % PP)) + PP))) rfl rfl (run_row rfl rfl k201 Tryd.underlying52 rfl (by rw [ws_sz]; exact info_w)) ?_
              simp only [nz1, nz2, nz3]
              refine lst (wanted_none rfl) (w_enter 26 (.agg (bs (((a % PP) + MM - (b % PP)) + PP))) rfl (run_store rfl rfl) (store_any (((a % PP) + MM - (b % PP)) + PP) _) (fun w203 hb204 => ?_))
              have k205 := k198.call hb204
              have k206 := k199.call hb204
              have k207 := k200.call hb204
              have k208 := k201.call hb204
              have hbel209 := bel_call hbel202 hb204
              simp only [nz1, nz2, nz3]
              refine lst (wanted_none rfl) (w_store 23 _ _ (w6.heap.size) (bs (((a % PP) + MM - (b % PP)) + PP)) rfl rfl rfl rfl k207 (by rw [bs_sz]; exact info_b) ((bs_sz _).trans (bs_sz _).symm) (bs_one _) (fun w210 he211 => ?_))
              have k212 := k205.other hne16 he211
              have k213 := k206.other hne18 he211
              have k214 := k208.other hne158.symm he211
              have k215 := k207.set he211
              have hbel216 := bel_set hbel209 hg20 he211
              go_step
              go_step
              go_step
              go_wp2
              refine bodyPost_ret (v := .agg (bs (((a % PP) + MM - (b % PP)) + PP))) (results_cell_row rfl _ _ (w6.heap.size) 23 _ (0, 0) _ rfl k215 Tryd.underlying23 rfl (by rw [bs_sz]; exact info_b)) rfl ⟨rfl, hbel216⟩
            · refine opd rfl (wanted_none rfl) (w_enter 21 (.agg (ws PP)) rfl (run_order rfl) (order_pp _) (fun w217 hb218 => ?_))
              have k219 := k176.call hb218
              have k220 := k177.call hb218
              have k221 := k178.call hb218
              have k222 := k179.call hb218
              have hbel223 := bel_call hbel180 hb218
              refine ⟨trivial, ?_⟩
              simp only [nz1, nz2, nz3]
              refine one_ready 0 (by kernel_rfl) ?_
              refine opd rfl (wanted_none rfl) (w_value 20 (.agg (ws ((a % PP) + MM - (b % PP)))) rfl (run_row rfl rfl k222 Tryd.underlying52 rfl (by rw [ws_sz]; exact info_w)) ⟨trivial, ?_⟩)
              simp only [nz1, nz2, nz3]
              refine one_ready 2 (by kernel_rfl) ?_
              refine opd rfl (wanted_none rfl) (w_enter 22 (.tuple #[.agg (ws (((a % PP) + MM - (b % PP)) + PP)), .int .u64 (car ((a % PP) + MM - (b % PP)) PP 4 : Int)]) rfl (run_plus rfl rfl rfl) (plus_any ((a % PP) + MM - (b % PP)) PP _) (fun w224 hb225 => ?_))
              have k226 := k219.call hb225
              have k227 := k220.call hb225
              have k228 := k221.call hb225
              have k229 := k222.call hb225
              have hbel230 := bel_call hbel223 hb225
              refine ⟨trivial, ?_⟩
              simp only [nz1, nz2, nz3]
              refine tk 3 19 (.tuple #[.agg (ws (((a % PP) + MM - (b % PP)) + PP)), .int .u64 (car ((a % PP) + MM - (b % PP)) PP 4 : Int)]) rfl rfl (fun _ hw => run_mv rfl rfl) trivial ?_
              simp only [nz1, nz2, nz3]
              refine tk 4 23 (.agg (ws (((a % PP) + MM - (b % PP)) + PP))) rfl rfl (fun _ hw => run_ex rfl rfl rfl) trivial ?_
              simp only [nz1, nz2, nz3]
              refine tk 5 24 (.int .u64 (car ((a % PP) + MM - (b % PP)) PP 4 : Int)) rfl rfl (fun _ hw => run_ex rfl rfl rfl) trivial ?_
              simp only [nz1, nz2, nz3]
              refine one_ready 6 (by kernel_rfl) ?_
              refine opd rfl (wanted_none rfl) (w_store 52 _ _ (w45.heap.size) (ws (((a % PP) + MM - (b % PP)) + PP)) rfl rfl rfl rfl k229 (by rw [ws_sz]; exact info_w) ((ws_sz _).trans (ws_sz _).symm) (ws_one _) (fun w231 he232 => ?_))
              have k233 := k226.other hne154 he232
              have k234 := k227.other hne156 he232
              have k235 := k228.other hne158 he232
              have k236 := k229.set he232
              have hbel237 := bel_set hbel230 hg160 he232
              refine ⟨trivial, ?_⟩
              refine wpAnyH_done (by kernel_rfl) ?_ _
              go_step
              go_step
              go_step
              go_step
              refine lv 25 (.agg (ws (((a % PP) + MM - (b % PP)) + PP))) rfl rfl (run_row rfl rfl k236 Tryd.underlying52 rfl (by rw [ws_sz]; exact info_w)) ?_
              simp only [nz1, nz2, nz3]
              refine lst (wanted_none rfl) (w_enter 26 (.agg (bs (((a % PP) + MM - (b % PP)) + PP))) rfl (run_store rfl rfl) (store_any (((a % PP) + MM - (b % PP)) + PP) _) (fun w238 hb239 => ?_))
              have k240 := k233.call hb239
              have k241 := k234.call hb239
              have k242 := k235.call hb239
              have k243 := k236.call hb239
              have hbel244 := bel_call hbel237 hb239
              simp only [nz1, nz2, nz3]
              refine lst (wanted_none rfl) (w_store 23 _ _ (w6.heap.size) (bs (((a % PP) + MM - (b % PP)) + PP)) rfl rfl rfl rfl k242 (by rw [bs_sz]; exact info_b) ((bs_sz _).trans (bs_sz _).symm) (bs_one _) (fun w245 he246 => ?_))
              have k247 := k240.other hne16 he246
              have k248 := k241.other hne18 he246
              have k249 := k243.other hne158.symm he246
              have k250 := k242.set he246
              have hbel251 := bel_set hbel244 hg20 he246
              go_step
              go_step
              go_step
              go_wp2
              refine bodyPost_ret (v := .agg (bs (((a % PP) + MM - (b % PP)) + PP))) (results_cell_row rfl _ _ (w6.heap.size) 23 _ (0, 0) _ rfl k250 Tryd.underlying23 rfl (by rw [bs_sz]; exact info_b)) rfl ⟨rfl, hbel251⟩
        · refine opd rfl (wanted_none rfl) (w_alloc (c := ws 0) (T := 52) 5 rfl (run_alW rfl) (fun w252 he253 => ?_))
          have hne255 : w.heap.size ≠ w39.heap.size := Nat.ne_of_lt k41.lt
          have k254 := k41.alloc he253
          have hne257 : w1.heap.size ≠ w39.heap.size := Nat.ne_of_lt k42.lt
          have k256 := k42.alloc he253
          have hne259 : w6.heap.size ≠ w39.heap.size := Nat.ne_of_lt k43.lt
          have k258 := k43.alloc he253
          have k260 := Blk.new he253
          have hg261 : w.heap.size ≤ w39.heap.size := hbel44.size
          have hbel262 := bel_alloc hbel44 he253
          refine ⟨⟨k254, k256⟩, ?_⟩
          simp only [nz1, nz2, nz3]
          refine one_ready 5 (by kernel_rfl) ?_
          refine opd rfl (wanted_none rfl) (w_enter 13 (.agg (ws (b % PP))) rfl (run_rest rfl rfl) (rest_any b HB.out _) (fun w263 hb264 => ?_))
          have k265 := k254.call hb264
          have k266 := k256.call hb264
          have k267 := k258.call hb264
          have k268 := k260.call hb264
          have hbel269 := bel_call hbel262 hb264
          refine ⟨⟨k265, k266⟩, ?_⟩
          simp only [nz1, nz2, nz3]
          refine one_ready 6 (by kernel_rfl) ?_
          refine opd rfl (wanted_none rfl) (w_enter 14 (.tuple #[.agg (ws ((a % PP) + MM - (b % PP))), .int .u64 (bo (a % PP) (b % PP) 4 : Int)]) rfl (run_minus rfl rfl rfl) (minus_any (a % PP) (b % PP) _ (Nat.le_of_lt (Nat.lt_trans (Nat.mod_lt _ (by decide)) pp_lt))) (fun w270 hb271 => ?_))
          have k272 := k265.call hb271
          have k273 := k266.call hb271
          have k274 := k267.call hb271
          have k275 := k268.call hb271
          have hbel276 := bel_call hbel269 hb271
          refine ⟨⟨k272, k273⟩, ?_⟩
          simp only [nz1, nz2, nz3]
          refine tk 7 7 (.tuple #[.agg (ws ((a % PP) + MM - (b % PP))), .int .u64 (bo (a % PP) (b % PP) 4 : Int)]) rfl rfl (fun _ hw => run_mv rfl rfl) ⟨k272, k273⟩ ?_
          simp only [nz1, nz2, nz3]
          refine tk 8 15 (.agg (ws ((a % PP) + MM - (b % PP)))) rfl rfl (fun _ hw => run_ex rfl rfl rfl) ⟨k272, k273⟩ ?_
          simp only [nz1, nz2, nz3]
          refine tk 9 16 (.int .u64 (bo (a % PP) (b % PP) 4 : Int)) rfl rfl (fun _ hw => run_ex rfl rfl rfl) ⟨k272, k273⟩ ?_
          simp only [nz1, nz2, nz3]
          refine one_ready 11 (by kernel_rfl) ?_
          refine opd rfl (wanted_none rfl) (w_store 52 _ _ (w39.heap.size) (ws ((a % PP) + MM - (b % PP))) rfl rfl rfl rfl k275 (by rw [ws_sz]; exact info_w) ((ws_sz _).trans (ws_sz _).symm) (ws_one _) (fun w277 he278 => ?_))
          have k279 := k272.other hne255 he278
          have k280 := k273.other hne257 he278
          have k281 := k274.other hne259 he278
          have k282 := k275.set he278
          have hbel283 := bel_set hbel276 hg261 he278
          refine ⟨⟨k279, k280⟩, ?_⟩
          refine one_ready 12 (by kernel_rfl) ?_
          refine opd rfl (wanted_none rfl) (w_value 6 (.int .u64 (bo (a % PP) (b % PP) 4 : Int)) rfl (run_as rfl rfl) ⟨⟨k279, k280⟩, ?_⟩)
          simp only [nz1, nz2, nz3]
          refine wpAnyH_done (by kernel_rfl) ?_ _
          go_step
          go_step
          go_step
          go_step
          go_step
          refine lv 17 (.int .u64 (bo (a % PP) (b % PP) 4 : Int)) rfl rfl (run_mv rfl rfl) ?_
          simp only [nz1, nz2, nz3]
          refine lv 18 (.bool true) rfl rfl (run_one rfl rfl HC.out) ?_
          simp only [nz1, nz2, nz3]
          go_step
          go_step
          go_step
          go_step
          have k284 := k279.drew
          have k285 := k280.drew
          have k286 := k281.drew
          have k287 := k282.drew
          have hbel288 := hbel283.drew
          refine wp_region_held_drew (S := fun w' => True) (by kernel_rfl) trivial (fun _ => ?_)
          generalize w277.drew = wd289 at *
          refine two_ready 0 1 (by kernel_rfl) ?_ ?_
          · refine opd rfl (wanted_none rfl) (w_value 20 (.agg (ws ((a % PP) + MM - (b % PP)))) rfl (run_row rfl rfl k287 Tryd.underlying52 rfl (by rw [ws_sz]; exact info_w)) ⟨trivial, ?_⟩)
            simp only [nz1, nz2, nz3]
            refine one_ready 1 (by kernel_rfl) ?_
            refine opd rfl (wanted_none rfl) (w_enter 21 (.agg (ws PP)) rfl (run_order rfl) (order_pp _) (fun w290 hb291 => ?_))
            have k292 := k284.call hb291
            have k293 := k285.call hb291
            have k294 := k286.call hb291
            have k295 := k287.call hb291
            have hbel296 := bel_call hbel288 hb291
            refine ⟨trivial, ?_⟩
            simp only [nz1, nz2, nz3]
            refine one_ready 2 (by kernel_rfl) ?_
            refine opd rfl (wanted_none rfl) (w_enter 22 (.tuple #[.agg (ws (((a % PP) + MM - (b % PP)) + PP)), .int .u64 (car ((a % PP) + MM - (b % PP)) PP 4 : Int)]) rfl (run_plus rfl rfl rfl) (plus_any ((a % PP) + MM - (b % PP)) PP _) (fun w297 hb298 => ?_))
            have k299 := k292.call hb298
            have k300 := k293.call hb298
            have k301 := k294.call hb298
            have k302 := k295.call hb298
            have hbel303 := bel_call hbel296 hb298
            refine ⟨trivial, ?_⟩
            simp only [nz1, nz2, nz3]
            refine tk 3 19 (.tuple #[.agg (ws (((a % PP) + MM - (b % PP)) + PP)), .int .u64 (car ((a % PP) + MM - (b % PP)) PP 4 : Int)]) rfl rfl (fun _ hw => run_mv rfl rfl) trivial ?_
            simp only [nz1, nz2, nz3]
            refine tk 4 23 (.agg (ws (((a % PP) + MM - (b % PP)) + PP))) rfl rfl (fun _ hw => run_ex rfl rfl rfl) trivial ?_
            simp only [nz1, nz2, nz3]
            refine tk 5 24 (.int .u64 (car ((a % PP) + MM - (b % PP)) PP 4 : Int)) rfl rfl (fun _ hw => run_ex rfl rfl rfl) trivial ?_
            simp only [nz1, nz2, nz3]
            refine one_ready 6 (by kernel_rfl) ?_
            refine opd rfl (wanted_none rfl) (w_store 52 _ _ (w39.heap.size) (ws (((a % PP) + MM - (b % PP)) + PP)) rfl rfl rfl rfl k302 (by rw [ws_sz]; exact info_w) ((ws_sz _).trans (ws_sz _).symm) (ws_one _) (fun w304 he305 => ?_))
            have k306 := k299.other hne255 he305
            have k307 := k300.other hne257 he305
            have k308 := k301.other hne259 he305
            have k309 := k302.set he305
            have hbel310 := bel_set hbel303 hg261 he305
            refine ⟨trivial, ?_⟩
            refine wpAnyH_done (by kernel_rfl) ?_ _
            go_step
            go_step
            go_step
            go_step
            refine lv 25 (.agg (ws (((a % PP) + MM - (b % PP)) + PP))) rfl rfl (run_row rfl rfl k309 Tryd.underlying52 rfl (by rw [ws_sz]; exact info_w)) ?_
            simp only [nz1, nz2, nz3]
            refine lst (wanted_none rfl) (w_enter 26 (.agg (bs (((a % PP) + MM - (b % PP)) + PP))) rfl (run_store rfl rfl) (store_any (((a % PP) + MM - (b % PP)) + PP) _) (fun w311 hb312 => ?_))
            have k313 := k306.call hb312
            have k314 := k307.call hb312
            have k315 := k308.call hb312
            have k316 := k309.call hb312
            have hbel317 := bel_call hbel310 hb312
            simp only [nz1, nz2, nz3]
            refine lst (wanted_none rfl) (w_store 23 _ _ (w6.heap.size) (bs (((a % PP) + MM - (b % PP)) + PP)) rfl rfl rfl rfl k315 (by rw [bs_sz]; exact info_b) ((bs_sz _).trans (bs_sz _).symm) (bs_one _) (fun w318 he319 => ?_))
            have k320 := k313.other hne16 he319
            have k321 := k314.other hne18 he319
            have k322 := k316.other hne259.symm he319
            have k323 := k315.set he319
            have hbel324 := bel_set hbel317 hg20 he319
            go_step
            go_step
            go_step
            go_wp2
            refine bodyPost_ret (v := .agg (bs (((a % PP) + MM - (b % PP)) + PP))) (results_cell_row rfl _ _ (w6.heap.size) 23 _ (0, 0) _ rfl k323 Tryd.underlying23 rfl (by rw [bs_sz]; exact info_b)) rfl ⟨rfl, hbel324⟩
          · refine opd rfl (wanted_none rfl) (w_enter 21 (.agg (ws PP)) rfl (run_order rfl) (order_pp _) (fun w325 hb326 => ?_))
            have k327 := k284.call hb326
            have k328 := k285.call hb326
            have k329 := k286.call hb326
            have k330 := k287.call hb326
            have hbel331 := bel_call hbel288 hb326
            refine ⟨trivial, ?_⟩
            simp only [nz1, nz2, nz3]
            refine one_ready 0 (by kernel_rfl) ?_
            refine opd rfl (wanted_none rfl) (w_value 20 (.agg (ws ((a % PP) + MM - (b % PP)))) rfl (run_row rfl rfl k330 Tryd.underlying52 rfl (by rw [ws_sz]; exact info_w)) ⟨trivial, ?_⟩)
            simp only [nz1, nz2, nz3]
            refine one_ready 2 (by kernel_rfl) ?_
            refine opd rfl (wanted_none rfl) (w_enter 22 (.tuple #[.agg (ws (((a % PP) + MM - (b % PP)) + PP)), .int .u64 (car ((a % PP) + MM - (b % PP)) PP 4 : Int)]) rfl (run_plus rfl rfl rfl) (plus_any ((a % PP) + MM - (b % PP)) PP _) (fun w332 hb333 => ?_))
            have k334 := k327.call hb333
            have k335 := k328.call hb333
            have k336 := k329.call hb333
            have k337 := k330.call hb333
            have hbel338 := bel_call hbel331 hb333
            refine ⟨trivial, ?_⟩
            simp only [nz1, nz2, nz3]
            refine tk 3 19 (.tuple #[.agg (ws (((a % PP) + MM - (b % PP)) + PP)), .int .u64 (car ((a % PP) + MM - (b % PP)) PP 4 : Int)]) rfl rfl (fun _ hw => run_mv rfl rfl) trivial ?_
            simp only [nz1, nz2, nz3]
            refine tk 4 23 (.agg (ws (((a % PP) + MM - (b % PP)) + PP))) rfl rfl (fun _ hw => run_ex rfl rfl rfl) trivial ?_
            simp only [nz1, nz2, nz3]
            refine tk 5 24 (.int .u64 (car ((a % PP) + MM - (b % PP)) PP 4 : Int)) rfl rfl (fun _ hw => run_ex rfl rfl rfl) trivial ?_
            simp only [nz1, nz2, nz3]
            refine one_ready 6 (by kernel_rfl) ?_
            refine opd rfl (wanted_none rfl) (w_store 52 _ _ (w39.heap.size) (ws (((a % PP) + MM - (b % PP)) + PP)) rfl rfl rfl rfl k337 (by rw [ws_sz]; exact info_w) ((ws_sz _).trans (ws_sz _).symm) (ws_one _) (fun w339 he340 => ?_))
            have k341 := k334.other hne255 he340
            have k342 := k335.other hne257 he340
            have k343 := k336.other hne259 he340
            have k344 := k337.set he340
            have hbel345 := bel_set hbel338 hg261 he340
            refine ⟨trivial, ?_⟩
            refine wpAnyH_done (by kernel_rfl) ?_ _
            go_step
            go_step
            go_step
            go_step
            refine lv 25 (.agg (ws (((a % PP) + MM - (b % PP)) + PP))) rfl rfl (run_row rfl rfl k344 Tryd.underlying52 rfl (by rw [ws_sz]; exact info_w)) ?_
            simp only [nz1, nz2, nz3]
            refine lst (wanted_none rfl) (w_enter 26 (.agg (bs (((a % PP) + MM - (b % PP)) + PP))) rfl (run_store rfl rfl) (store_any (((a % PP) + MM - (b % PP)) + PP) _) (fun w346 hb347 => ?_))
            have k348 := k341.call hb347
            have k349 := k342.call hb347
            have k350 := k343.call hb347
            have k351 := k344.call hb347
            have hbel352 := bel_call hbel345 hb347
            simp only [nz1, nz2, nz3]
            refine lst (wanted_none rfl) (w_store 23 _ _ (w6.heap.size) (bs (((a % PP) + MM - (b % PP)) + PP)) rfl rfl rfl rfl k350 (by rw [bs_sz]; exact info_b) ((bs_sz _).trans (bs_sz _).symm) (bs_one _) (fun w353 he354 => ?_))
            have k355 := k348.other hne16 he354
            have k356 := k349.other hne18 he354
            have k357 := k351.other hne259.symm he354
            have k358 := k350.set he354
            have hbel359 := bel_set hbel352 hg20 he354
            go_step
            go_step
            go_step
            go_wp2
            refine bodyPost_ret (v := .agg (bs (((a % PP) + MM - (b % PP)) + PP))) (results_cell_row rfl _ _ (w6.heap.size) 23 _ (0, 0) _ rfl k358 Tryd.underlying23 rfl (by rw [bs_sz]; exact info_b)) rfl ⟨rfl, hbel359⟩
      · refine opd rfl (wanted_none rfl) (w_alloc (c := ws 0) (T := 52) 5 rfl (run_alW rfl) (fun w360 he361 => ?_))
        have hne363 : w.heap.size ≠ w33.heap.size := Nat.ne_of_lt k35.lt
        have k362 := k35.alloc he361
        have hne365 : w1.heap.size ≠ w33.heap.size := Nat.ne_of_lt k36.lt
        have k364 := k36.alloc he361
        have hne367 : w6.heap.size ≠ w33.heap.size := Nat.ne_of_lt k37.lt
        have k366 := k37.alloc he361
        have k368 := Blk.new he361
        have hg369 : w.heap.size ≤ w33.heap.size := hbel38.size
        have hbel370 := bel_alloc hbel38 he361
        refine ⟨⟨k362, k364⟩, ?_⟩
        simp only [nz1, nz2, nz3]
        refine one_ready 4 (by kernel_rfl) ?_
        refine opd rfl (wanted_none rfl) (w_enter 12 (.agg (ws b)) rfl (run_load rfl rfl) (load_any b _) (fun w371 hb372 => ?_))
        have k373 := k362.call hb372
        have k374 := k364.call hb372
        have k375 := k366.call hb372
        have k376 := k368.call hb372
        have hbel377 := bel_call hbel370 hb372
        refine ⟨⟨k373, k374⟩, ?_⟩
        simp only [nz1, nz2, nz3]
        refine one_ready 5 (by kernel_rfl) ?_
        refine opd rfl (wanted_none rfl) (w_enter 13 (.agg (ws (b % PP))) rfl (run_rest rfl rfl) (rest_any b HB.out _) (fun w378 hb379 => ?_))
        have k380 := k373.call hb379
        have k381 := k374.call hb379
        have k382 := k375.call hb379
        have k383 := k376.call hb379
        have hbel384 := bel_call hbel377 hb379
        refine ⟨⟨k380, k381⟩, ?_⟩
        simp only [nz1, nz2, nz3]
        refine one_ready 6 (by kernel_rfl) ?_
        refine opd rfl (wanted_none rfl) (w_enter 14 (.tuple #[.agg (ws ((a % PP) + MM - (b % PP))), .int .u64 (bo (a % PP) (b % PP) 4 : Int)]) rfl (run_minus rfl rfl rfl) (minus_any (a % PP) (b % PP) _ (Nat.le_of_lt (Nat.lt_trans (Nat.mod_lt _ (by decide)) pp_lt))) (fun w385 hb386 => ?_))
        have k387 := k380.call hb386
        have k388 := k381.call hb386
        have k389 := k382.call hb386
        have k390 := k383.call hb386
        have hbel391 := bel_call hbel384 hb386
        refine ⟨⟨k387, k388⟩, ?_⟩
        simp only [nz1, nz2, nz3]
        refine tk 7 7 (.tuple #[.agg (ws ((a % PP) + MM - (b % PP))), .int .u64 (bo (a % PP) (b % PP) 4 : Int)]) rfl rfl (fun _ hw => run_mv rfl rfl) ⟨k387, k388⟩ ?_
        simp only [nz1, nz2, nz3]
        refine tk 8 15 (.agg (ws ((a % PP) + MM - (b % PP)))) rfl rfl (fun _ hw => run_ex rfl rfl rfl) ⟨k387, k388⟩ ?_
        simp only [nz1, nz2, nz3]
        refine tk 9 16 (.int .u64 (bo (a % PP) (b % PP) 4 : Int)) rfl rfl (fun _ hw => run_ex rfl rfl rfl) ⟨k387, k388⟩ ?_
        simp only [nz1, nz2, nz3]
        refine one_ready 11 (by kernel_rfl) ?_
        refine opd rfl (wanted_none rfl) (w_store 52 _ _ (w33.heap.size) (ws ((a % PP) + MM - (b % PP))) rfl rfl rfl rfl k390 (by rw [ws_sz]; exact info_w) ((ws_sz _).trans (ws_sz _).symm) (ws_one _) (fun w392 he393 => ?_))
        have k394 := k387.other hne363 he393
        have k395 := k388.other hne365 he393
        have k396 := k389.other hne367 he393
        have k397 := k390.set he393
        have hbel398 := bel_set hbel391 hg369 he393
        refine ⟨⟨k394, k395⟩, ?_⟩
        refine one_ready 12 (by kernel_rfl) ?_
        refine opd rfl (wanted_none rfl) (w_value 6 (.int .u64 (bo (a % PP) (b % PP) 4 : Int)) rfl (run_as rfl rfl) ⟨⟨k394, k395⟩, ?_⟩)
        simp only [nz1, nz2, nz3]
        refine wpAnyH_done (by kernel_rfl) ?_ _
        go_step
        go_step
        go_step
        go_step
        go_step
        refine lv 17 (.int .u64 (bo (a % PP) (b % PP) 4 : Int)) rfl rfl (run_mv rfl rfl) ?_
        simp only [nz1, nz2, nz3]
        refine lv 18 (.bool true) rfl rfl (run_one rfl rfl HC.out) ?_
        simp only [nz1, nz2, nz3]
        go_step
        go_step
        go_step
        go_step
        have k399 := k394.drew
        have k400 := k395.drew
        have k401 := k396.drew
        have k402 := k397.drew
        have hbel403 := hbel398.drew
        refine wp_region_held_drew (S := fun w' => True) (by kernel_rfl) trivial (fun _ => ?_)
        generalize w392.drew = wd404 at *
        refine two_ready 0 1 (by kernel_rfl) ?_ ?_
        · refine opd rfl (wanted_none rfl) (w_value 20 (.agg (ws ((a % PP) + MM - (b % PP)))) rfl (run_row rfl rfl k402 Tryd.underlying52 rfl (by rw [ws_sz]; exact info_w)) ⟨trivial, ?_⟩)
          simp only [nz1, nz2, nz3]
          refine one_ready 1 (by kernel_rfl) ?_
          refine opd rfl (wanted_none rfl) (w_enter 21 (.agg (ws PP)) rfl (run_order rfl) (order_pp _) (fun w405 hb406 => ?_))
          have k407 := k399.call hb406
          have k408 := k400.call hb406
          have k409 := k401.call hb406
          have k410 := k402.call hb406
          have hbel411 := bel_call hbel403 hb406
          refine ⟨trivial, ?_⟩
          simp only [nz1, nz2, nz3]
          refine one_ready 2 (by kernel_rfl) ?_
          refine opd rfl (wanted_none rfl) (w_enter 22 (.tuple #[.agg (ws (((a % PP) + MM - (b % PP)) + PP)), .int .u64 (car ((a % PP) + MM - (b % PP)) PP 4 : Int)]) rfl (run_plus rfl rfl rfl) (plus_any ((a % PP) + MM - (b % PP)) PP _) (fun w412 hb413 => ?_))
          have k414 := k407.call hb413
          have k415 := k408.call hb413
          have k416 := k409.call hb413
          have k417 := k410.call hb413
          have hbel418 := bel_call hbel411 hb413
          refine ⟨trivial, ?_⟩
          simp only [nz1, nz2, nz3]
          refine tk 3 19 (.tuple #[.agg (ws (((a % PP) + MM - (b % PP)) + PP)), .int .u64 (car ((a % PP) + MM - (b % PP)) PP 4 : Int)]) rfl rfl (fun _ hw => run_mv rfl rfl) trivial ?_
          simp only [nz1, nz2, nz3]
          refine tk 4 23 (.agg (ws (((a % PP) + MM - (b % PP)) + PP))) rfl rfl (fun _ hw => run_ex rfl rfl rfl) trivial ?_
          simp only [nz1, nz2, nz3]
          refine tk 5 24 (.int .u64 (car ((a % PP) + MM - (b % PP)) PP 4 : Int)) rfl rfl (fun _ hw => run_ex rfl rfl rfl) trivial ?_
          simp only [nz1, nz2, nz3]
          refine one_ready 6 (by kernel_rfl) ?_
          refine opd rfl (wanted_none rfl) (w_store 52 _ _ (w33.heap.size) (ws (((a % PP) + MM - (b % PP)) + PP)) rfl rfl rfl rfl k417 (by rw [ws_sz]; exact info_w) ((ws_sz _).trans (ws_sz _).symm) (ws_one _) (fun w419 he420 => ?_))
          have k421 := k414.other hne363 he420
          have k422 := k415.other hne365 he420
          have k423 := k416.other hne367 he420
          have k424 := k417.set he420
          have hbel425 := bel_set hbel418 hg369 he420
          refine ⟨trivial, ?_⟩
          refine wpAnyH_done (by kernel_rfl) ?_ _
          go_step
          go_step
          go_step
          go_step
          refine lv 25 (.agg (ws (((a % PP) + MM - (b % PP)) + PP))) rfl rfl (run_row rfl rfl k424 Tryd.underlying52 rfl (by rw [ws_sz]; exact info_w)) ?_
          simp only [nz1, nz2, nz3]
          refine lst (wanted_none rfl) (w_enter 26 (.agg (bs (((a % PP) + MM - (b % PP)) + PP))) rfl (run_store rfl rfl) (store_any (((a % PP) + MM - (b % PP)) + PP) _) (fun w426 hb427 => ?_))
          have k428 := k421.call hb427
          have k429 := k422.call hb427
          have k430 := k423.call hb427
          have k431 := k424.call hb427
          have hbel432 := bel_call hbel425 hb427
          simp only [nz1, nz2, nz3]
          refine lst (wanted_none rfl) (w_store 23 _ _ (w6.heap.size) (bs (((a % PP) + MM - (b % PP)) + PP)) rfl rfl rfl rfl k430 (by rw [bs_sz]; exact info_b) ((bs_sz _).trans (bs_sz _).symm) (bs_one _) (fun w433 he434 => ?_))
          have k435 := k428.other hne16 he434
          have k436 := k429.other hne18 he434
          have k437 := k431.other hne367.symm he434
          have k438 := k430.set he434
          have hbel439 := bel_set hbel432 hg20 he434
          go_step
          go_step
          go_step
          go_wp2
          refine bodyPost_ret (v := .agg (bs (((a % PP) + MM - (b % PP)) + PP))) (results_cell_row rfl _ _ (w6.heap.size) 23 _ (0, 0) _ rfl k438 Tryd.underlying23 rfl (by rw [bs_sz]; exact info_b)) rfl ⟨rfl, hbel439⟩
        · refine opd rfl (wanted_none rfl) (w_enter 21 (.agg (ws PP)) rfl (run_order rfl) (order_pp _) (fun w440 hb441 => ?_))
          have k442 := k399.call hb441
          have k443 := k400.call hb441
          have k444 := k401.call hb441
          have k445 := k402.call hb441
          have hbel446 := bel_call hbel403 hb441
          refine ⟨trivial, ?_⟩
          simp only [nz1, nz2, nz3]
          refine one_ready 0 (by kernel_rfl) ?_
          refine opd rfl (wanted_none rfl) (w_value 20 (.agg (ws ((a % PP) + MM - (b % PP)))) rfl (run_row rfl rfl k445 Tryd.underlying52 rfl (by rw [ws_sz]; exact info_w)) ⟨trivial, ?_⟩)
          simp only [nz1, nz2, nz3]
          refine one_ready 2 (by kernel_rfl) ?_
          refine opd rfl (wanted_none rfl) (w_enter 22 (.tuple #[.agg (ws (((a % PP) + MM - (b % PP)) + PP)), .int .u64 (car ((a % PP) + MM - (b % PP)) PP 4 : Int)]) rfl (run_plus rfl rfl rfl) (plus_any ((a % PP) + MM - (b % PP)) PP _) (fun w447 hb448 => ?_))
          have k449 := k442.call hb448
          have k450 := k443.call hb448
          have k451 := k444.call hb448
          have k452 := k445.call hb448
          have hbel453 := bel_call hbel446 hb448
          refine ⟨trivial, ?_⟩
          simp only [nz1, nz2, nz3]
          refine tk 3 19 (.tuple #[.agg (ws (((a % PP) + MM - (b % PP)) + PP)), .int .u64 (car ((a % PP) + MM - (b % PP)) PP 4 : Int)]) rfl rfl (fun _ hw => run_mv rfl rfl) trivial ?_
          simp only [nz1, nz2, nz3]
          refine tk 4 23 (.agg (ws (((a % PP) + MM - (b % PP)) + PP))) rfl rfl (fun _ hw => run_ex rfl rfl rfl) trivial ?_
          simp only [nz1, nz2, nz3]
          refine tk 5 24 (.int .u64 (car ((a % PP) + MM - (b % PP)) PP 4 : Int)) rfl rfl (fun _ hw => run_ex rfl rfl rfl) trivial ?_
          simp only [nz1, nz2, nz3]
          refine one_ready 6 (by kernel_rfl) ?_
          refine opd rfl (wanted_none rfl) (w_store 52 _ _ (w33.heap.size) (ws (((a % PP) + MM - (b % PP)) + PP)) rfl rfl rfl rfl k452 (by rw [ws_sz]; exact info_w) ((ws_sz _).trans (ws_sz _).symm) (ws_one _) (fun w454 he455 => ?_))
          have k456 := k449.other hne363 he455
          have k457 := k450.other hne365 he455
          have k458 := k451.other hne367 he455
          have k459 := k452.set he455
          have hbel460 := bel_set hbel453 hg369 he455
          refine ⟨trivial, ?_⟩
          refine wpAnyH_done (by kernel_rfl) ?_ _
          go_step
          go_step
          go_step
          go_step
          refine lv 25 (.agg (ws (((a % PP) + MM - (b % PP)) + PP))) rfl rfl (run_row rfl rfl k459 Tryd.underlying52 rfl (by rw [ws_sz]; exact info_w)) ?_
          simp only [nz1, nz2, nz3]
          refine lst (wanted_none rfl) (w_enter 26 (.agg (bs (((a % PP) + MM - (b % PP)) + PP))) rfl (run_store rfl rfl) (store_any (((a % PP) + MM - (b % PP)) + PP) _) (fun w461 hb462 => ?_))
          have k463 := k456.call hb462
          have k464 := k457.call hb462
          have k465 := k458.call hb462
          have k466 := k459.call hb462
          have hbel467 := bel_call hbel460 hb462
          simp only [nz1, nz2, nz3]
          refine lst (wanted_none rfl) (w_store 23 _ _ (w6.heap.size) (bs (((a % PP) + MM - (b % PP)) + PP)) rfl rfl rfl rfl k465 (by rw [bs_sz]; exact info_b) ((bs_sz _).trans (bs_sz _).symm) (bs_one _) (fun w468 he469 => ?_))
          have k470 := k463.other hne16 he469
          have k471 := k464.other hne18 he469
          have k472 := k466.other hne367.symm he469
          have k473 := k465.set he469
          have hbel474 := bel_set hbel467 hg20 he469
          go_step
          go_step
          go_step
          go_wp2
          refine bodyPost_ret (v := .agg (bs (((a % PP) + MM - (b % PP)) + PP))) (results_cell_row rfl _ _ (w6.heap.size) 23 _ (0, 0) _ rfl k473 Tryd.underlying23 rfl (by rw [bs_sz]; exact info_b)) rfl ⟨rfl, hbel474⟩
    · refine opd rfl (wanted_none rfl) (w_alloc (c := ws 0) (T := 52) 5 rfl (run_alW rfl) (fun w475 he476 => ?_))
      have hne478 : w.heap.size ≠ w27.heap.size := Nat.ne_of_lt k29.lt
      have k477 := k29.alloc he476
      have hne480 : w1.heap.size ≠ w27.heap.size := Nat.ne_of_lt k30.lt
      have k479 := k30.alloc he476
      have hne482 : w6.heap.size ≠ w27.heap.size := Nat.ne_of_lt k31.lt
      have k481 := k31.alloc he476
      have k483 := Blk.new he476
      have hg484 : w.heap.size ≤ w27.heap.size := hbel32.size
      have hbel485 := bel_alloc hbel32 he476
      refine ⟨⟨k477, k479⟩, ?_⟩
      simp only [nz1, nz2, nz3]
      refine one_ready 2 (by kernel_rfl) ?_
      refine opd rfl (wanted_none rfl) (w_enter 10 (.agg (ws (a % PP))) rfl (run_rest rfl rfl) (rest_any a HA.out _) (fun w486 hb487 => ?_))
      have k488 := k477.call hb487
      have k489 := k479.call hb487
      have k490 := k481.call hb487
      have k491 := k483.call hb487
      have hbel492 := bel_call hbel485 hb487
      refine ⟨⟨k488, k489⟩, ?_⟩
      simp only [nz1, nz2, nz3]
      refine one_ready 4 (by kernel_rfl) ?_
      refine opd rfl (wanted_none rfl) (w_enter 12 (.agg (ws b)) rfl (run_load rfl rfl) (load_any b _) (fun w493 hb494 => ?_))
      have k495 := k488.call hb494
      have k496 := k489.call hb494
      have k497 := k490.call hb494
      have k498 := k491.call hb494
      have hbel499 := bel_call hbel492 hb494
      refine ⟨⟨k495, k496⟩, ?_⟩
      simp only [nz1, nz2, nz3]
      refine one_ready 5 (by kernel_rfl) ?_
      refine opd rfl (wanted_none rfl) (w_enter 13 (.agg (ws (b % PP))) rfl (run_rest rfl rfl) (rest_any b HB.out _) (fun w500 hb501 => ?_))
      have k502 := k495.call hb501
      have k503 := k496.call hb501
      have k504 := k497.call hb501
      have k505 := k498.call hb501
      have hbel506 := bel_call hbel499 hb501
      refine ⟨⟨k502, k503⟩, ?_⟩
      simp only [nz1, nz2, nz3]
      refine one_ready 6 (by kernel_rfl) ?_
      refine opd rfl (wanted_none rfl) (w_enter 14 (.tuple #[.agg (ws ((a % PP) + MM - (b % PP))), .int .u64 (bo (a % PP) (b % PP) 4 : Int)]) rfl (run_minus rfl rfl rfl) (minus_any (a % PP) (b % PP) _ (Nat.le_of_lt (Nat.lt_trans (Nat.mod_lt _ (by decide)) pp_lt))) (fun w507 hb508 => ?_))
      have k509 := k502.call hb508
      have k510 := k503.call hb508
      have k511 := k504.call hb508
      have k512 := k505.call hb508
      have hbel513 := bel_call hbel506 hb508
      refine ⟨⟨k509, k510⟩, ?_⟩
      simp only [nz1, nz2, nz3]
      refine tk 7 7 (.tuple #[.agg (ws ((a % PP) + MM - (b % PP))), .int .u64 (bo (a % PP) (b % PP) 4 : Int)]) rfl rfl (fun _ hw => run_mv rfl rfl) ⟨k509, k510⟩ ?_
      simp only [nz1, nz2, nz3]
      refine tk 8 15 (.agg (ws ((a % PP) + MM - (b % PP)))) rfl rfl (fun _ hw => run_ex rfl rfl rfl) ⟨k509, k510⟩ ?_
      simp only [nz1, nz2, nz3]
      refine tk 9 16 (.int .u64 (bo (a % PP) (b % PP) 4 : Int)) rfl rfl (fun _ hw => run_ex rfl rfl rfl) ⟨k509, k510⟩ ?_
      simp only [nz1, nz2, nz3]
      refine one_ready 11 (by kernel_rfl) ?_
      refine opd rfl (wanted_none rfl) (w_store 52 _ _ (w27.heap.size) (ws ((a % PP) + MM - (b % PP))) rfl rfl rfl rfl k512 (by rw [ws_sz]; exact info_w) ((ws_sz _).trans (ws_sz _).symm) (ws_one _) (fun w514 he515 => ?_))
      have k516 := k509.other hne478 he515
      have k517 := k510.other hne480 he515
      have k518 := k511.other hne482 he515
      have k519 := k512.set he515
      have hbel520 := bel_set hbel513 hg484 he515
      refine ⟨⟨k516, k517⟩, ?_⟩
      refine one_ready 12 (by kernel_rfl) ?_
      refine opd rfl (wanted_none rfl) (w_value 6 (.int .u64 (bo (a % PP) (b % PP) 4 : Int)) rfl (run_as rfl rfl) ⟨⟨k516, k517⟩, ?_⟩)
      simp only [nz1, nz2, nz3]
      refine wpAnyH_done (by kernel_rfl) ?_ _
      go_step
      go_step
      go_step
      go_step
      go_step
      refine lv 17 (.int .u64 (bo (a % PP) (b % PP) 4 : Int)) rfl rfl (run_mv rfl rfl) ?_
      simp only [nz1, nz2, nz3]
      refine lv 18 (.bool true) rfl rfl (run_one rfl rfl HC.out) ?_
      simp only [nz1, nz2, nz3]
      go_step
      go_step
      go_step
      go_step
      have k521 := k516.drew
      have k522 := k517.drew
      have k523 := k518.drew
      have k524 := k519.drew
      have hbel525 := hbel520.drew
      refine wp_region_held_drew (S := fun w' => True) (by kernel_rfl) trivial (fun _ => ?_)
      generalize w514.drew = wd526 at *
      refine two_ready 0 1 (by kernel_rfl) ?_ ?_
      · refine opd rfl (wanted_none rfl) (w_value 20 (.agg (ws ((a % PP) + MM - (b % PP)))) rfl (run_row rfl rfl k524 Tryd.underlying52 rfl (by rw [ws_sz]; exact info_w)) ⟨trivial, ?_⟩)
        simp only [nz1, nz2, nz3]
        refine one_ready 1 (by kernel_rfl) ?_
        refine opd rfl (wanted_none rfl) (w_enter 21 (.agg (ws PP)) rfl (run_order rfl) (order_pp _) (fun w527 hb528 => ?_))
        have k529 := k521.call hb528
        have k530 := k522.call hb528
        have k531 := k523.call hb528
        have k532 := k524.call hb528
        have hbel533 := bel_call hbel525 hb528
        refine ⟨trivial, ?_⟩
        simp only [nz1, nz2, nz3]
        refine one_ready 2 (by kernel_rfl) ?_
        refine opd rfl (wanted_none rfl) (w_enter 22 (.tuple #[.agg (ws (((a % PP) + MM - (b % PP)) + PP)), .int .u64 (car ((a % PP) + MM - (b % PP)) PP 4 : Int)]) rfl (run_plus rfl rfl rfl) (plus_any ((a % PP) + MM - (b % PP)) PP _) (fun w534 hb535 => ?_))
        have k536 := k529.call hb535
        have k537 := k530.call hb535
        have k538 := k531.call hb535
        have k539 := k532.call hb535
        have hbel540 := bel_call hbel533 hb535
        refine ⟨trivial, ?_⟩
        simp only [nz1, nz2, nz3]
        refine tk 3 19 (.tuple #[.agg (ws (((a % PP) + MM - (b % PP)) + PP)), .int .u64 (car ((a % PP) + MM - (b % PP)) PP 4 : Int)]) rfl rfl (fun _ hw => run_mv rfl rfl) trivial ?_
        simp only [nz1, nz2, nz3]
        refine tk 4 23 (.agg (ws (((a % PP) + MM - (b % PP)) + PP))) rfl rfl (fun _ hw => run_ex rfl rfl rfl) trivial ?_
        simp only [nz1, nz2, nz3]
        refine tk 5 24 (.int .u64 (car ((a % PP) + MM - (b % PP)) PP 4 : Int)) rfl rfl (fun _ hw => run_ex rfl rfl rfl) trivial ?_
        simp only [nz1, nz2, nz3]
        refine one_ready 6 (by kernel_rfl) ?_
        refine opd rfl (wanted_none rfl) (w_store 52 _ _ (w27.heap.size) (ws (((a % PP) + MM - (b % PP)) + PP)) rfl rfl rfl rfl k539 (by rw [ws_sz]; exact info_w) ((ws_sz _).trans (ws_sz _).symm) (ws_one _) (fun w541 he542 => ?_))
        have k543 := k536.other hne478 he542
        have k544 := k537.other hne480 he542
        have k545 := k538.other hne482 he542
        have k546 := k539.set he542
        have hbel547 := bel_set hbel540 hg484 he542
        refine ⟨trivial, ?_⟩
        refine wpAnyH_done (by kernel_rfl) ?_ _
        go_step
        go_step
        go_step
        go_step
        refine lv 25 (.agg (ws (((a % PP) + MM - (b % PP)) + PP))) rfl rfl (run_row rfl rfl k546 Tryd.underlying52 rfl (by rw [ws_sz]; exact info_w)) ?_
        simp only [nz1, nz2, nz3]
        refine lst (wanted_none rfl) (w_enter 26 (.agg (bs (((a % PP) + MM - (b % PP)) + PP))) rfl (run_store rfl rfl) (store_any (((a % PP) + MM - (b % PP)) + PP) _) (fun w548 hb549 => ?_))
        have k550 := k543.call hb549
        have k551 := k544.call hb549
        have k552 := k545.call hb549
        have k553 := k546.call hb549
        have hbel554 := bel_call hbel547 hb549
        simp only [nz1, nz2, nz3]
        refine lst (wanted_none rfl) (w_store 23 _ _ (w6.heap.size) (bs (((a % PP) + MM - (b % PP)) + PP)) rfl rfl rfl rfl k552 (by rw [bs_sz]; exact info_b) ((bs_sz _).trans (bs_sz _).symm) (bs_one _) (fun w555 he556 => ?_))
        have k557 := k550.other hne16 he556
        have k558 := k551.other hne18 he556
        have k559 := k553.other hne482.symm he556
        have k560 := k552.set he556
        have hbel561 := bel_set hbel554 hg20 he556
        go_step
        go_step
        go_step
        go_wp2
        refine bodyPost_ret (v := .agg (bs (((a % PP) + MM - (b % PP)) + PP))) (results_cell_row rfl _ _ (w6.heap.size) 23 _ (0, 0) _ rfl k560 Tryd.underlying23 rfl (by rw [bs_sz]; exact info_b)) rfl ⟨rfl, hbel561⟩
      · refine opd rfl (wanted_none rfl) (w_enter 21 (.agg (ws PP)) rfl (run_order rfl) (order_pp _) (fun w562 hb563 => ?_))
        have k564 := k521.call hb563
        have k565 := k522.call hb563
        have k566 := k523.call hb563
        have k567 := k524.call hb563
        have hbel568 := bel_call hbel525 hb563
        refine ⟨trivial, ?_⟩
        simp only [nz1, nz2, nz3]
        refine one_ready 0 (by kernel_rfl) ?_
        refine opd rfl (wanted_none rfl) (w_value 20 (.agg (ws ((a % PP) + MM - (b % PP)))) rfl (run_row rfl rfl k567 Tryd.underlying52 rfl (by rw [ws_sz]; exact info_w)) ⟨trivial, ?_⟩)
        simp only [nz1, nz2, nz3]
        refine one_ready 2 (by kernel_rfl) ?_
        refine opd rfl (wanted_none rfl) (w_enter 22 (.tuple #[.agg (ws (((a % PP) + MM - (b % PP)) + PP)), .int .u64 (car ((a % PP) + MM - (b % PP)) PP 4 : Int)]) rfl (run_plus rfl rfl rfl) (plus_any ((a % PP) + MM - (b % PP)) PP _) (fun w569 hb570 => ?_))
        have k571 := k564.call hb570
        have k572 := k565.call hb570
        have k573 := k566.call hb570
        have k574 := k567.call hb570
        have hbel575 := bel_call hbel568 hb570
        refine ⟨trivial, ?_⟩
        simp only [nz1, nz2, nz3]
        refine tk 3 19 (.tuple #[.agg (ws (((a % PP) + MM - (b % PP)) + PP)), .int .u64 (car ((a % PP) + MM - (b % PP)) PP 4 : Int)]) rfl rfl (fun _ hw => run_mv rfl rfl) trivial ?_
        simp only [nz1, nz2, nz3]
        refine tk 4 23 (.agg (ws (((a % PP) + MM - (b % PP)) + PP))) rfl rfl (fun _ hw => run_ex rfl rfl rfl) trivial ?_
        simp only [nz1, nz2, nz3]
        refine tk 5 24 (.int .u64 (car ((a % PP) + MM - (b % PP)) PP 4 : Int)) rfl rfl (fun _ hw => run_ex rfl rfl rfl) trivial ?_
        simp only [nz1, nz2, nz3]
        refine one_ready 6 (by kernel_rfl) ?_
        refine opd rfl (wanted_none rfl) (w_store 52 _ _ (w27.heap.size) (ws (((a % PP) + MM - (b % PP)) + PP)) rfl rfl rfl rfl k574 (by rw [ws_sz]; exact info_w) ((ws_sz _).trans (ws_sz _).symm) (ws_one _) (fun w576 he577 => ?_))
        have k578 := k571.other hne478 he577
        have k579 := k572.other hne480 he577
        have k580 := k573.other hne482 he577
        have k581 := k574.set he577
        have hbel582 := bel_set hbel575 hg484 he577
        refine ⟨trivial, ?_⟩
        refine wpAnyH_done (by kernel_rfl) ?_ _
        go_step
        go_step
        go_step
        go_step
        refine lv 25 (.agg (ws (((a % PP) + MM - (b % PP)) + PP))) rfl rfl (run_row rfl rfl k581 Tryd.underlying52 rfl (by rw [ws_sz]; exact info_w)) ?_
        simp only [nz1, nz2, nz3]
        refine lst (wanted_none rfl) (w_enter 26 (.agg (bs (((a % PP) + MM - (b % PP)) + PP))) rfl (run_store rfl rfl) (store_any (((a % PP) + MM - (b % PP)) + PP) _) (fun w583 hb584 => ?_))
        have k585 := k578.call hb584
        have k586 := k579.call hb584
        have k587 := k580.call hb584
        have k588 := k581.call hb584
        have hbel589 := bel_call hbel582 hb584
        simp only [nz1, nz2, nz3]
        refine lst (wanted_none rfl) (w_store 23 _ _ (w6.heap.size) (bs (((a % PP) + MM - (b % PP)) + PP)) rfl rfl rfl rfl k587 (by rw [bs_sz]; exact info_b) ((bs_sz _).trans (bs_sz _).symm) (bs_one _) (fun w590 he591 => ?_))
        have k592 := k585.other hne16 he591
        have k593 := k586.other hne18 he591
        have k594 := k588.other hne482.symm he591
        have k595 := k587.set he591
        have hbel596 := bel_set hbel589 hg20 he591
        go_step
        go_step
        go_step
        go_wp2
        refine bodyPost_ret (v := .agg (bs (((a % PP) + MM - (b % PP)) + PP))) (results_cell_row rfl _ _ (w6.heap.size) 23 _ (0, 0) _ rfl k595 Tryd.underlying23 rfl (by rw [bs_sz]; exact info_b)) rfl ⟨rfl, hbel596⟩
  · refine opd rfl (wanted_none rfl) (w_alloc (c := ws 0) (T := 52) 5 rfl (run_alW rfl) (fun w597 he598 => ?_))
    have hne600 : w.heap.size ≠ wd26.heap.size := Nat.ne_of_lt k22.lt
    have k599 := k22.alloc he598
    have hne602 : w1.heap.size ≠ wd26.heap.size := Nat.ne_of_lt k23.lt
    have k601 := k23.alloc he598
    have hne604 : w6.heap.size ≠ wd26.heap.size := Nat.ne_of_lt k24.lt
    have k603 := k24.alloc he598
    have k605 := Blk.new he598
    have hg606 : w.heap.size ≤ wd26.heap.size := hbel25.size
    have hbel607 := bel_alloc hbel25 he598
    refine ⟨⟨k599, k601⟩, ?_⟩
    simp only [nz1, nz2, nz3]
    refine one_ready 1 (by kernel_rfl) ?_
    refine opd rfl (wanted_none rfl) (w_enter 9 (.agg (ws a)) rfl (run_load rfl rfl) (load_any a _) (fun w608 hb609 => ?_))
    have k610 := k599.call hb609
    have k611 := k601.call hb609
    have k612 := k603.call hb609
    have k613 := k605.call hb609
    have hbel614 := bel_call hbel607 hb609
    refine ⟨⟨k610, k611⟩, ?_⟩
    simp only [nz1, nz2, nz3]
    refine one_ready 2 (by kernel_rfl) ?_
    refine opd rfl (wanted_none rfl) (w_enter 10 (.agg (ws (a % PP))) rfl (run_rest rfl rfl) (rest_any a HA.out _) (fun w615 hb616 => ?_))
    have k617 := k610.call hb616
    have k618 := k611.call hb616
    have k619 := k612.call hb616
    have k620 := k613.call hb616
    have hbel621 := bel_call hbel614 hb616
    refine ⟨⟨k617, k618⟩, ?_⟩
    simp only [nz1, nz2, nz3]
    refine one_ready 4 (by kernel_rfl) ?_
    refine opd rfl (wanted_none rfl) (w_enter 12 (.agg (ws b)) rfl (run_load rfl rfl) (load_any b _) (fun w622 hb623 => ?_))
    have k624 := k617.call hb623
    have k625 := k618.call hb623
    have k626 := k619.call hb623
    have k627 := k620.call hb623
    have hbel628 := bel_call hbel621 hb623
    refine ⟨⟨k624, k625⟩, ?_⟩
    simp only [nz1, nz2, nz3]
    refine one_ready 5 (by kernel_rfl) ?_
    refine opd rfl (wanted_none rfl) (w_enter 13 (.agg (ws (b % PP))) rfl (run_rest rfl rfl) (rest_any b HB.out _) (fun w629 hb630 => ?_))
    have k631 := k624.call hb630
    have k632 := k625.call hb630
    have k633 := k626.call hb630
    have k634 := k627.call hb630
    have hbel635 := bel_call hbel628 hb630
    refine ⟨⟨k631, k632⟩, ?_⟩
    simp only [nz1, nz2, nz3]
    refine one_ready 6 (by kernel_rfl) ?_
    refine opd rfl (wanted_none rfl) (w_enter 14 (.tuple #[.agg (ws ((a % PP) + MM - (b % PP))), .int .u64 (bo (a % PP) (b % PP) 4 : Int)]) rfl (run_minus rfl rfl rfl) (minus_any (a % PP) (b % PP) _ (Nat.le_of_lt (Nat.lt_trans (Nat.mod_lt _ (by decide)) pp_lt))) (fun w636 hb637 => ?_))
    have k638 := k631.call hb637
    have k639 := k632.call hb637
    have k640 := k633.call hb637
    have k641 := k634.call hb637
    have hbel642 := bel_call hbel635 hb637
    refine ⟨⟨k638, k639⟩, ?_⟩
    simp only [nz1, nz2, nz3]
    refine tk 7 7 (.tuple #[.agg (ws ((a % PP) + MM - (b % PP))), .int .u64 (bo (a % PP) (b % PP) 4 : Int)]) rfl rfl (fun _ hw => run_mv rfl rfl) ⟨k638, k639⟩ ?_
    simp only [nz1, nz2, nz3]
    refine tk 8 15 (.agg (ws ((a % PP) + MM - (b % PP)))) rfl rfl (fun _ hw => run_ex rfl rfl rfl) ⟨k638, k639⟩ ?_
    simp only [nz1, nz2, nz3]
    refine tk 9 16 (.int .u64 (bo (a % PP) (b % PP) 4 : Int)) rfl rfl (fun _ hw => run_ex rfl rfl rfl) ⟨k638, k639⟩ ?_
    simp only [nz1, nz2, nz3]
    refine one_ready 11 (by kernel_rfl) ?_
    refine opd rfl (wanted_none rfl) (w_store 52 _ _ (wd26.heap.size) (ws ((a % PP) + MM - (b % PP))) rfl rfl rfl rfl k641 (by rw [ws_sz]; exact info_w) ((ws_sz _).trans (ws_sz _).symm) (ws_one _) (fun w643 he644 => ?_))
    have k645 := k638.other hne600 he644
    have k646 := k639.other hne602 he644
    have k647 := k640.other hne604 he644
    have k648 := k641.set he644
    have hbel649 := bel_set hbel642 hg606 he644
    refine ⟨⟨k645, k646⟩, ?_⟩
    refine one_ready 12 (by kernel_rfl) ?_
    refine opd rfl (wanted_none rfl) (w_value 6 (.int .u64 (bo (a % PP) (b % PP) 4 : Int)) rfl (run_as rfl rfl) ⟨⟨k645, k646⟩, ?_⟩)
    simp only [nz1, nz2, nz3]
    refine wpAnyH_done (by kernel_rfl) ?_ _
    go_step
    go_step
    go_step
    go_step
    go_step
    refine lv 17 (.int .u64 (bo (a % PP) (b % PP) 4 : Int)) rfl rfl (run_mv rfl rfl) ?_
    simp only [nz1, nz2, nz3]
    refine lv 18 (.bool true) rfl rfl (run_one rfl rfl HC.out) ?_
    simp only [nz1, nz2, nz3]
    go_step
    go_step
    go_step
    go_step
    have k650 := k645.drew
    have k651 := k646.drew
    have k652 := k647.drew
    have k653 := k648.drew
    have hbel654 := hbel649.drew
    refine wp_region_held_drew (S := fun w' => True) (by kernel_rfl) trivial (fun _ => ?_)
    generalize w643.drew = wd655 at *
    refine two_ready 0 1 (by kernel_rfl) ?_ ?_
    · refine opd rfl (wanted_none rfl) (w_value 20 (.agg (ws ((a % PP) + MM - (b % PP)))) rfl (run_row rfl rfl k653 Tryd.underlying52 rfl (by rw [ws_sz]; exact info_w)) ⟨trivial, ?_⟩)
      simp only [nz1, nz2, nz3]
      refine one_ready 1 (by kernel_rfl) ?_
      refine opd rfl (wanted_none rfl) (w_enter 21 (.agg (ws PP)) rfl (run_order rfl) (order_pp _) (fun w656 hb657 => ?_))
      have k658 := k650.call hb657
      have k659 := k651.call hb657
      have k660 := k652.call hb657
      have k661 := k653.call hb657
      have hbel662 := bel_call hbel654 hb657
      refine ⟨trivial, ?_⟩
      simp only [nz1, nz2, nz3]
      refine one_ready 2 (by kernel_rfl) ?_
      refine opd rfl (wanted_none rfl) (w_enter 22 (.tuple #[.agg (ws (((a % PP) + MM - (b % PP)) + PP)), .int .u64 (car ((a % PP) + MM - (b % PP)) PP 4 : Int)]) rfl (run_plus rfl rfl rfl) (plus_any ((a % PP) + MM - (b % PP)) PP _) (fun w663 hb664 => ?_))
      have k665 := k658.call hb664
      have k666 := k659.call hb664
      have k667 := k660.call hb664
      have k668 := k661.call hb664
      have hbel669 := bel_call hbel662 hb664
      refine ⟨trivial, ?_⟩
      simp only [nz1, nz2, nz3]
      refine tk 3 19 (.tuple #[.agg (ws (((a % PP) + MM - (b % PP)) + PP)), .int .u64 (car ((a % PP) + MM - (b % PP)) PP 4 : Int)]) rfl rfl (fun _ hw => run_mv rfl rfl) trivial ?_
      simp only [nz1, nz2, nz3]
      refine tk 4 23 (.agg (ws (((a % PP) + MM - (b % PP)) + PP))) rfl rfl (fun _ hw => run_ex rfl rfl rfl) trivial ?_
      simp only [nz1, nz2, nz3]
      refine tk 5 24 (.int .u64 (car ((a % PP) + MM - (b % PP)) PP 4 : Int)) rfl rfl (fun _ hw => run_ex rfl rfl rfl) trivial ?_
      simp only [nz1, nz2, nz3]
      refine one_ready 6 (by kernel_rfl) ?_
      refine opd rfl (wanted_none rfl) (w_store 52 _ _ (wd26.heap.size) (ws (((a % PP) + MM - (b % PP)) + PP)) rfl rfl rfl rfl k668 (by rw [ws_sz]; exact info_w) ((ws_sz _).trans (ws_sz _).symm) (ws_one _) (fun w670 he671 => ?_))
      have k672 := k665.other hne600 he671
      have k673 := k666.other hne602 he671
      have k674 := k667.other hne604 he671
      have k675 := k668.set he671
      have hbel676 := bel_set hbel669 hg606 he671
      refine ⟨trivial, ?_⟩
      refine wpAnyH_done (by kernel_rfl) ?_ _
      go_step
      go_step
      go_step
      go_step
      refine lv 25 (.agg (ws (((a % PP) + MM - (b % PP)) + PP))) rfl rfl (run_row rfl rfl k675 Tryd.underlying52 rfl (by rw [ws_sz]; exact info_w)) ?_
      simp only [nz1, nz2, nz3]
      refine lst (wanted_none rfl) (w_enter 26 (.agg (bs (((a % PP) + MM - (b % PP)) + PP))) rfl (run_store rfl rfl) (store_any (((a % PP) + MM - (b % PP)) + PP) _) (fun w677 hb678 => ?_))
      have k679 := k672.call hb678
      have k680 := k673.call hb678
      have k681 := k674.call hb678
      have k682 := k675.call hb678
      have hbel683 := bel_call hbel676 hb678
      simp only [nz1, nz2, nz3]
      refine lst (wanted_none rfl) (w_store 23 _ _ (w6.heap.size) (bs (((a % PP) + MM - (b % PP)) + PP)) rfl rfl rfl rfl k681 (by rw [bs_sz]; exact info_b) ((bs_sz _).trans (bs_sz _).symm) (bs_one _) (fun w684 he685 => ?_))
      have k686 := k679.other hne16 he685
      have k687 := k680.other hne18 he685
      have k688 := k682.other hne604.symm he685
      have k689 := k681.set he685
      have hbel690 := bel_set hbel683 hg20 he685
      go_step
      go_step
      go_step
      go_wp2
      refine bodyPost_ret (v := .agg (bs (((a % PP) + MM - (b % PP)) + PP))) (results_cell_row rfl _ _ (w6.heap.size) 23 _ (0, 0) _ rfl k689 Tryd.underlying23 rfl (by rw [bs_sz]; exact info_b)) rfl ⟨rfl, hbel690⟩
    · refine opd rfl (wanted_none rfl) (w_enter 21 (.agg (ws PP)) rfl (run_order rfl) (order_pp _) (fun w691 hb692 => ?_))
      have k693 := k650.call hb692
      have k694 := k651.call hb692
      have k695 := k652.call hb692
      have k696 := k653.call hb692
      have hbel697 := bel_call hbel654 hb692
      refine ⟨trivial, ?_⟩
      simp only [nz1, nz2, nz3]
      refine one_ready 0 (by kernel_rfl) ?_
      refine opd rfl (wanted_none rfl) (w_value 20 (.agg (ws ((a % PP) + MM - (b % PP)))) rfl (run_row rfl rfl k696 Tryd.underlying52 rfl (by rw [ws_sz]; exact info_w)) ⟨trivial, ?_⟩)
      simp only [nz1, nz2, nz3]
      refine one_ready 2 (by kernel_rfl) ?_
      refine opd rfl (wanted_none rfl) (w_enter 22 (.tuple #[.agg (ws (((a % PP) + MM - (b % PP)) + PP)), .int .u64 (car ((a % PP) + MM - (b % PP)) PP 4 : Int)]) rfl (run_plus rfl rfl rfl) (plus_any ((a % PP) + MM - (b % PP)) PP _) (fun w698 hb699 => ?_))
      have k700 := k693.call hb699
      have k701 := k694.call hb699
      have k702 := k695.call hb699
      have k703 := k696.call hb699
      have hbel704 := bel_call hbel697 hb699
      refine ⟨trivial, ?_⟩
      simp only [nz1, nz2, nz3]
      refine tk 3 19 (.tuple #[.agg (ws (((a % PP) + MM - (b % PP)) + PP)), .int .u64 (car ((a % PP) + MM - (b % PP)) PP 4 : Int)]) rfl rfl (fun _ hw => run_mv rfl rfl) trivial ?_
      simp only [nz1, nz2, nz3]
      refine tk 4 23 (.agg (ws (((a % PP) + MM - (b % PP)) + PP))) rfl rfl (fun _ hw => run_ex rfl rfl rfl) trivial ?_
      simp only [nz1, nz2, nz3]
      refine tk 5 24 (.int .u64 (car ((a % PP) + MM - (b % PP)) PP 4 : Int)) rfl rfl (fun _ hw => run_ex rfl rfl rfl) trivial ?_
      simp only [nz1, nz2, nz3]
      refine one_ready 6 (by kernel_rfl) ?_
      refine opd rfl (wanted_none rfl) (w_store 52 _ _ (wd26.heap.size) (ws (((a % PP) + MM - (b % PP)) + PP)) rfl rfl rfl rfl k703 (by rw [ws_sz]; exact info_w) ((ws_sz _).trans (ws_sz _).symm) (ws_one _) (fun w705 he706 => ?_))
      have k707 := k700.other hne600 he706
      have k708 := k701.other hne602 he706
      have k709 := k702.other hne604 he706
      have k710 := k703.set he706
      have hbel711 := bel_set hbel704 hg606 he706
      refine ⟨trivial, ?_⟩
      refine wpAnyH_done (by kernel_rfl) ?_ _
      go_step
      go_step
      go_step
      go_step
      refine lv 25 (.agg (ws (((a % PP) + MM - (b % PP)) + PP))) rfl rfl (run_row rfl rfl k710 Tryd.underlying52 rfl (by rw [ws_sz]; exact info_w)) ?_
      simp only [nz1, nz2, nz3]
      refine lst (wanted_none rfl) (w_enter 26 (.agg (bs (((a % PP) + MM - (b % PP)) + PP))) rfl (run_store rfl rfl) (store_any (((a % PP) + MM - (b % PP)) + PP) _) (fun w712 hb713 => ?_))
      have k714 := k707.call hb713
      have k715 := k708.call hb713
      have k716 := k709.call hb713
      have k717 := k710.call hb713
      have hbel718 := bel_call hbel711 hb713
      simp only [nz1, nz2, nz3]
      refine lst (wanted_none rfl) (w_store 23 _ _ (w6.heap.size) (bs (((a % PP) + MM - (b % PP)) + PP)) rfl rfl rfl rfl k716 (by rw [bs_sz]; exact info_b) ((bs_sz _).trans (bs_sz _).symm) (bs_one _) (fun w719 he720 => ?_))
      have k721 := k714.other hne16 he720
      have k722 := k715.other hne18 he720
      have k723 := k717.other hne604.symm he720
      have k724 := k716.set he720
      have hbel725 := bel_set hbel718 hg20 he720
      go_step
      go_step
      go_step
      go_wp2
      refine bodyPost_ret (v := .agg (bs (((a % PP) + MM - (b % PP)) + PP))) (results_cell_row rfl _ _ (w6.heap.size) 23 _ (0, 0) _ rfl k724 Tryd.underlying23 rfl (by rw [bs_sz]; exact info_b)) rfl ⟨rfl, hbel725⟩

set_option maxHeartbeats 1000000 in
theorem sub_ge (a b : Nat) (ha : a < MM) (hb : b < MM) (hc : decide (bo (a % PP) (b % PP) 4 = 1) = false) (w : World) : Calls Tryd.prog 32 #[.agg (bs a), .agg (bs b)] w fun e w' => e = .returned (.agg (bs ((a % PP) + MM - (b % PP)))) ∧ Below w.heap.size w w' := by
  have HA := Lib.hid ha
  have HB := Lib.hid hb
  clear ha hb
  have HC := Lib.hid hc
  clear hc
  go_enter Tryd.func32, Tryd.ntmps32
  have hbel0 := Below.refl w.heap.size w
  go_step
  go_step
  go_step
  refine lst (wanted_none rfl) (w_alloc (c := bs a) (T := 23) 2 rfl (run_box rfl rfl) (fun w1 he2 => ?_))
  have k3 := Blk.new he2
  have hg4 : w.heap.size ≤ w.heap.size := hbel0.size
  have hbel5 := bel_alloc hbel0 he2
  simp only [nz1, nz2, nz3]
  refine lst (wanted_none rfl) (w_alloc (c := bs b) (T := 23) 3 rfl (run_box rfl rfl) (fun w6 he7 => ?_))
  have hne9 : w.heap.size ≠ w1.heap.size := Nat.ne_of_lt k3.lt
  have k8 := k3.alloc he7
  have k10 := Blk.new he7
  have hg11 : w.heap.size ≤ w1.heap.size := hbel5.size
  have hbel12 := bel_alloc hbel5 he7
  simp only [nz1, nz2, nz3]
  refine lst (wanted_none rfl) (w_alloc (c := bs 0) (T := 23) 4 rfl (run_alN rfl) (fun w13 he14 => ?_))
  have hne16 : w.heap.size ≠ w6.heap.size := Nat.ne_of_lt k8.lt
  have k15 := k8.alloc he14
  have hne18 : w1.heap.size ≠ w6.heap.size := Nat.ne_of_lt k10.lt
  have k17 := k10.alloc he14
  have k19 := Blk.new he14
  have hg20 : w.heap.size ≤ w6.heap.size := hbel12.size
  have hbel21 := bel_alloc hbel12 he14
  simp only [nz1, nz2, nz3]
  go_step
  go_step
  go_step
  go_step
  have k22 := k15.drew
  have k23 := k17.drew
  have k24 := k19.drew
  have hbel25 := hbel21.drew
  refine wp_region_held_drew (S := fun w' => Blk w' (w.heap.size) (bs a) 23 ∧ Blk w' (w1.heap.size) (bs b) 23) (by kernel_rfl) ⟨k22, k23⟩ (fun _ => ?_)
  generalize w13.drew = wd26 at *
  refine tk 0 8 (.agg (bs a)) rfl rfl (fun _ hw => run_row rfl rfl (hw.1) Tryd.underlying23 rfl (by rw [bs_sz]; exact info_b)) ⟨k22, k23⟩ ?_
  simp only [nz1, nz2, nz3]
  refine tk 3 11 (.agg (bs b)) rfl rfl (fun _ hw => run_row rfl rfl (hw.2) Tryd.underlying23 rfl (by rw [bs_sz]; exact info_b)) ⟨k22, k23⟩ ?_
  simp only [nz1, nz2, nz3]
  refine two_ready 1 10 (by kernel_rfl) ?_ ?_
  · refine opd rfl (wanted_none rfl) (w_enter 9 (.agg (ws a)) rfl (run_load rfl rfl) (load_any a _) (fun w27 hb28 => ?_))
    have k29 := k22.call hb28
    have k30 := k23.call hb28
    have k31 := k24.call hb28
    have hbel32 := bel_call hbel25 hb28
    refine ⟨⟨k29, k30⟩, ?_⟩
    simp only [nz1, nz2, nz3]
    refine two_ready 2 10 (by kernel_rfl) ?_ ?_
    · refine opd rfl (wanted_none rfl) (w_enter 10 (.agg (ws (a % PP))) rfl (run_rest rfl rfl) (rest_any a HA.out _) (fun w33 hb34 => ?_))
      have k35 := k29.call hb34
      have k36 := k30.call hb34
      have k37 := k31.call hb34
      have hbel38 := bel_call hbel32 hb34
      refine ⟨⟨k35, k36⟩, ?_⟩
      simp only [nz1, nz2, nz3]
      refine two_ready 4 10 (by kernel_rfl) ?_ ?_
      · refine opd rfl (wanted_none rfl) (w_enter 12 (.agg (ws b)) rfl (run_load rfl rfl) (load_any b _) (fun w39 hb40 => ?_))
        have k41 := k35.call hb40
        have k42 := k36.call hb40
        have k43 := k37.call hb40
        have hbel44 := bel_call hbel38 hb40
        refine ⟨⟨k41, k42⟩, ?_⟩
        simp only [nz1, nz2, nz3]
        refine two_ready 5 10 (by kernel_rfl) ?_ ?_
        · refine opd rfl (wanted_none rfl) (w_enter 13 (.agg (ws (b % PP))) rfl (run_rest rfl rfl) (rest_any b HB.out _) (fun w45 hb46 => ?_))
          have k47 := k41.call hb46
          have k48 := k42.call hb46
          have k49 := k43.call hb46
          have hbel50 := bel_call hbel44 hb46
          refine ⟨⟨k47, k48⟩, ?_⟩
          simp only [nz1, nz2, nz3]
          refine two_ready 6 10 (by kernel_rfl) ?_ ?_
          · refine opd rfl (wanted_none rfl) (w_enter 14 (.tuple #[.agg (ws ((a % PP) + MM - (b % PP))), .int .u64 (bo (a % PP) (b % PP) 4 : Int)]) rfl (run_minus rfl rfl rfl) (minus_any (a % PP) (b % PP) _ (Nat.le_of_lt (Nat.lt_trans (Nat.mod_lt _ (by decide)) pp_lt))) (fun w51 hb52 => ?_))
            have k53 := k47.call hb52
            have k54 := k48.call hb52
            have k55 := k49.call hb52
            have hbel56 := bel_call hbel50 hb52
            refine ⟨⟨k53, k54⟩, ?_⟩
            simp only [nz1, nz2, nz3]
            refine tk 7 7 (.tuple #[.agg (ws ((a % PP) + MM - (b % PP))), .int .u64 (bo (a % PP) (b % PP) 4 : Int)]) rfl rfl (fun _ hw => run_mv rfl rfl) ⟨k53, k54⟩ ?_
            simp only [nz1, nz2, nz3]
            refine tk 8 15 (.agg (ws ((a % PP) + MM - (b % PP)))) rfl rfl (fun _ hw => run_ex rfl rfl rfl) ⟨k53, k54⟩ ?_
            simp only [nz1, nz2, nz3]
            refine tk 9 16 (.int .u64 (bo (a % PP) (b % PP) 4 : Int)) rfl rfl (fun _ hw => run_ex rfl rfl rfl) ⟨k53, k54⟩ ?_
            simp only [nz1, nz2, nz3]
            refine one_ready 10 (by kernel_rfl) ?_
            refine opd rfl (wanted_none rfl) (w_alloc (c := ws 0) (T := 52) 5 rfl (run_alW rfl) (fun w57 he58 => ?_))
            have hne60 : w.heap.size ≠ w51.heap.size := Nat.ne_of_lt k53.lt
            have k59 := k53.alloc he58
            have hne62 : w1.heap.size ≠ w51.heap.size := Nat.ne_of_lt k54.lt
            have k61 := k54.alloc he58
            have hne64 : w6.heap.size ≠ w51.heap.size := Nat.ne_of_lt k55.lt
            have k63 := k55.alloc he58
            have k65 := Blk.new he58
            have hg66 : w.heap.size ≤ w51.heap.size := hbel56.size
            have hbel67 := bel_alloc hbel56 he58
            refine ⟨⟨k59, k61⟩, ?_⟩
            simp only [nz1, nz2, nz3]
            refine one_ready 11 (by kernel_rfl) ?_
            refine opd rfl (wanted_none rfl) (w_store 52 _ _ (w51.heap.size) (ws ((a % PP) + MM - (b % PP))) rfl rfl rfl rfl k65 (by rw [ws_sz]; exact info_w) ((ws_sz _).trans (ws_sz _).symm) (ws_one _) (fun w68 he69 => ?_))
            have k70 := k59.other hne60 he69
            have k71 := k61.other hne62 he69
            have k72 := k63.other hne64 he69
            have k73 := k65.set he69
            have hbel74 := bel_set hbel67 hg66 he69
            refine ⟨⟨k70, k71⟩, ?_⟩
            refine one_ready 12 (by kernel_rfl) ?_
            refine opd rfl (wanted_none rfl) (w_value 6 (.int .u64 (bo (a % PP) (b % PP) 4 : Int)) rfl (run_as rfl rfl) ⟨⟨k70, k71⟩, ?_⟩)
            simp only [nz1, nz2, nz3]
            refine wpAnyH_done (by kernel_rfl) ?_ _
            go_step
            go_step
            go_step
            go_step
            go_step
            refine lv 17 (.int .u64 (bo (a % PP) (b % PP) 4 : Int)) rfl rfl (run_mv rfl rfl) ?_
            simp only [nz1, nz2, nz3]
            refine lv 18 (.bool false) rfl rfl (run_one rfl rfl HC.out) ?_
            simp only [nz1, nz2, nz3]
            go_step
            go_step
            go_step
            go_step
            go_step
            go_step
            go_step
            go_step
            go_step
            refine lv 25 (.agg (ws ((a % PP) + MM - (b % PP)))) rfl rfl (run_row rfl rfl k73 Tryd.underlying52 rfl (by rw [ws_sz]; exact info_w)) ?_
            simp only [nz1, nz2, nz3]
            refine lst (wanted_none rfl) (w_enter 26 (.agg (bs ((a % PP) + MM - (b % PP)))) rfl (run_store rfl rfl) (store_any ((a % PP) + MM - (b % PP)) _) (fun w75 hb76 => ?_))
            have k77 := k70.call hb76
            have k78 := k71.call hb76
            have k79 := k72.call hb76
            have k80 := k73.call hb76
            have hbel81 := bel_call hbel74 hb76
            simp only [nz1, nz2, nz3]
            refine lst (wanted_none rfl) (w_store 23 _ _ (w6.heap.size) (bs ((a % PP) + MM - (b % PP))) rfl rfl rfl rfl k79 (by rw [bs_sz]; exact info_b) ((bs_sz _).trans (bs_sz _).symm) (bs_one _) (fun w82 he83 => ?_))
            have k84 := k77.other hne16 he83
            have k85 := k78.other hne18 he83
            have k86 := k80.other hne64.symm he83
            have k87 := k79.set he83
            have hbel88 := bel_set hbel81 hg20 he83
            go_step
            go_step
            go_step
            go_wp2
            refine bodyPost_ret (v := .agg (bs ((a % PP) + MM - (b % PP)))) (results_cell_row rfl _ _ (w6.heap.size) 23 _ (0, 0) _ rfl k87 Tryd.underlying23 rfl (by rw [bs_sz]; exact info_b)) rfl ⟨rfl, hbel88⟩
          · refine opd rfl (wanted_none rfl) (w_alloc (c := ws 0) (T := 52) 5 rfl (run_alW rfl) (fun w89 he90 => ?_))
            have hne92 : w.heap.size ≠ w45.heap.size := Nat.ne_of_lt k47.lt
            have k91 := k47.alloc he90
            have hne94 : w1.heap.size ≠ w45.heap.size := Nat.ne_of_lt k48.lt
            have k93 := k48.alloc he90
            have hne96 : w6.heap.size ≠ w45.heap.size := Nat.ne_of_lt k49.lt
            have k95 := k49.alloc he90
            have k97 := Blk.new he90
            have hg98 : w.heap.size ≤ w45.heap.size := hbel50.size
            have hbel99 := bel_alloc hbel50 he90
            refine ⟨⟨k91, k93⟩, ?_⟩
            simp only [nz1, nz2, nz3]
            refine one_ready 6 (by kernel_rfl) ?_
            refine opd rfl (wanted_none rfl) (w_enter 14 (.tuple #[.agg (ws ((a % PP) + MM - (b % PP))), .int .u64 (bo (a % PP) (b % PP) 4 : Int)]) rfl (run_minus rfl rfl rfl) (minus_any (a % PP) (b % PP) _ (Nat.le_of_lt (Nat.lt_trans (Nat.mod_lt _ (by decide)) pp_lt))) (fun w100 hb101 => ?_))
            have k102 := k91.call hb101
            have k103 := k93.call hb101
            have k104 := k95.call hb101
            have k105 := k97.call hb101
            have hbel106 := bel_call hbel99 hb101
            refine ⟨⟨k102, k103⟩, ?_⟩
            simp only [nz1, nz2, nz3]
            refine tk 7 7 (.tuple #[.agg (ws ((a % PP) + MM - (b % PP))), .int .u64 (bo (a % PP) (b % PP) 4 : Int)]) rfl rfl (fun _ hw => run_mv rfl rfl) ⟨k102, k103⟩ ?_
            simp only [nz1, nz2, nz3]
            refine tk 8 15 (.agg (ws ((a % PP) + MM - (b % PP)))) rfl rfl (fun _ hw => run_ex rfl rfl rfl) ⟨k102, k103⟩ ?_
            simp only [nz1, nz2, nz3]
            refine tk 9 16 (.int .u64 (bo (a % PP) (b % PP) 4 : Int)) rfl rfl (fun _ hw => run_ex rfl rfl rfl) ⟨k102, k103⟩ ?_
            simp only [nz1, nz2, nz3]
            refine one_ready 11 (by kernel_rfl) ?_
            refine opd rfl (wanted_none rfl) (w_store 52 _ _ (w45.heap.size) (ws ((a % PP) + MM - (b % PP))) rfl rfl rfl rfl k105 (by rw [ws_sz]; exact info_w) ((ws_sz _).trans (ws_sz _).symm) (ws_one _) (fun w107 he108 => ?_))
            have k109 := k102.other hne92 he108
            have k110 := k103.other hne94 he108
            have k111 := k104.other hne96 he108
            have k112 := k105.set he108
            have hbel113 := bel_set hbel106 hg98 he108
            refine ⟨⟨k109, k110⟩, ?_⟩
            refine one_ready 12 (by kernel_rfl) ?_
            refine opd rfl (wanted_none rfl) (w_value 6 (.int .u64 (bo (a % PP) (b % PP) 4 : Int)) rfl (run_as rfl rfl) ⟨⟨k109, k110⟩, ?_⟩)
            simp only [nz1, nz2, nz3]
            refine wpAnyH_done (by kernel_rfl) ?_ _
            go_step
            go_step
            go_step
            go_step
            go_step
            refine lv 17 (.int .u64 (bo (a % PP) (b % PP) 4 : Int)) rfl rfl (run_mv rfl rfl) ?_
            simp only [nz1, nz2, nz3]
            refine lv 18 (.bool false) rfl rfl (run_one rfl rfl HC.out) ?_
            simp only [nz1, nz2, nz3]
            go_step
            go_step
            go_step
            go_step
            go_step
            go_step
            go_step
            go_step
            go_step
            refine lv 25 (.agg (ws ((a % PP) + MM - (b % PP)))) rfl rfl (run_row rfl rfl k112 Tryd.underlying52 rfl (by rw [ws_sz]; exact info_w)) ?_
            simp only [nz1, nz2, nz3]
            refine lst (wanted_none rfl) (w_enter 26 (.agg (bs ((a % PP) + MM - (b % PP)))) rfl (run_store rfl rfl) (store_any ((a % PP) + MM - (b % PP)) _) (fun w114 hb115 => ?_))
            have k116 := k109.call hb115
            have k117 := k110.call hb115
            have k118 := k111.call hb115
            have k119 := k112.call hb115
            have hbel120 := bel_call hbel113 hb115
            simp only [nz1, nz2, nz3]
            refine lst (wanted_none rfl) (w_store 23 _ _ (w6.heap.size) (bs ((a % PP) + MM - (b % PP))) rfl rfl rfl rfl k118 (by rw [bs_sz]; exact info_b) ((bs_sz _).trans (bs_sz _).symm) (bs_one _) (fun w121 he122 => ?_))
            have k123 := k116.other hne16 he122
            have k124 := k117.other hne18 he122
            have k125 := k119.other hne96.symm he122
            have k126 := k118.set he122
            have hbel127 := bel_set hbel120 hg20 he122
            go_step
            go_step
            go_step
            go_wp2
            refine bodyPost_ret (v := .agg (bs ((a % PP) + MM - (b % PP)))) (results_cell_row rfl _ _ (w6.heap.size) 23 _ (0, 0) _ rfl k126 Tryd.underlying23 rfl (by rw [bs_sz]; exact info_b)) rfl ⟨rfl, hbel127⟩
        · refine opd rfl (wanted_none rfl) (w_alloc (c := ws 0) (T := 52) 5 rfl (run_alW rfl) (fun w128 he129 => ?_))
          have hne131 : w.heap.size ≠ w39.heap.size := Nat.ne_of_lt k41.lt
          have k130 := k41.alloc he129
          have hne133 : w1.heap.size ≠ w39.heap.size := Nat.ne_of_lt k42.lt
          have k132 := k42.alloc he129
          have hne135 : w6.heap.size ≠ w39.heap.size := Nat.ne_of_lt k43.lt
          have k134 := k43.alloc he129
          have k136 := Blk.new he129
          have hg137 : w.heap.size ≤ w39.heap.size := hbel44.size
          have hbel138 := bel_alloc hbel44 he129
          refine ⟨⟨k130, k132⟩, ?_⟩
          simp only [nz1, nz2, nz3]
          refine one_ready 5 (by kernel_rfl) ?_
          refine opd rfl (wanted_none rfl) (w_enter 13 (.agg (ws (b % PP))) rfl (run_rest rfl rfl) (rest_any b HB.out _) (fun w139 hb140 => ?_))
          have k141 := k130.call hb140
          have k142 := k132.call hb140
          have k143 := k134.call hb140
          have k144 := k136.call hb140
          have hbel145 := bel_call hbel138 hb140
          refine ⟨⟨k141, k142⟩, ?_⟩
          simp only [nz1, nz2, nz3]
          refine one_ready 6 (by kernel_rfl) ?_
          refine opd rfl (wanted_none rfl) (w_enter 14 (.tuple #[.agg (ws ((a % PP) + MM - (b % PP))), .int .u64 (bo (a % PP) (b % PP) 4 : Int)]) rfl (run_minus rfl rfl rfl) (minus_any (a % PP) (b % PP) _ (Nat.le_of_lt (Nat.lt_trans (Nat.mod_lt _ (by decide)) pp_lt))) (fun w146 hb147 => ?_))
          have k148 := k141.call hb147
          have k149 := k142.call hb147
          have k150 := k143.call hb147
          have k151 := k144.call hb147
          have hbel152 := bel_call hbel145 hb147
          refine ⟨⟨k148, k149⟩, ?_⟩
          simp only [nz1, nz2, nz3]
          refine tk 7 7 (.tuple #[.agg (ws ((a % PP) + MM - (b % PP))), .int .u64 (bo (a % PP) (b % PP) 4 : Int)]) rfl rfl (fun _ hw => run_mv rfl rfl) ⟨k148, k149⟩ ?_
          simp only [nz1, nz2, nz3]
          refine tk 8 15 (.agg (ws ((a % PP) + MM - (b % PP)))) rfl rfl (fun _ hw => run_ex rfl rfl rfl) ⟨k148, k149⟩ ?_
          simp only [nz1, nz2, nz3]
          refine tk 9 16 (.int .u64 (bo (a % PP) (b % PP) 4 : Int)) rfl rfl (fun _ hw => run_ex rfl rfl rfl) ⟨k148, k149⟩ ?_
          simp only [nz1, nz2, nz3]
          refine one_ready 11 (by kernel_rfl) ?_
          refine opd rfl (wanted_none rfl) (w_store 52 _ _ (w39.heap.size) (ws ((a % PP) + MM - (b % PP))) rfl rfl rfl rfl k151 (by rw [ws_sz]; exact info_w) ((ws_sz _).trans (ws_sz _).symm) (ws_one _) (fun w153 he154 => ?_))
          have k155 := k148.other hne131 he154
          have k156 := k149.other hne133 he154
          have k157 := k150.other hne135 he154
          have k158 := k151.set he154
          have hbel159 := bel_set hbel152 hg137 he154
          refine ⟨⟨k155, k156⟩, ?_⟩
          refine one_ready 12 (by kernel_rfl) ?_
          refine opd rfl (wanted_none rfl) (w_value 6 (.int .u64 (bo (a % PP) (b % PP) 4 : Int)) rfl (run_as rfl rfl) ⟨⟨k155, k156⟩, ?_⟩)
          simp only [nz1, nz2, nz3]
          refine wpAnyH_done (by kernel_rfl) ?_ _
          go_step
          go_step
          go_step
          go_step
          go_step
          refine lv 17 (.int .u64 (bo (a % PP) (b % PP) 4 : Int)) rfl rfl (run_mv rfl rfl) ?_
          simp only [nz1, nz2, nz3]
          refine lv 18 (.bool false) rfl rfl (run_one rfl rfl HC.out) ?_
          simp only [nz1, nz2, nz3]
          go_step
          go_step
          go_step
          go_step
          go_step
          go_step
          go_step
          go_step
          go_step
          refine lv 25 (.agg (ws ((a % PP) + MM - (b % PP)))) rfl rfl (run_row rfl rfl k158 Tryd.underlying52 rfl (by rw [ws_sz]; exact info_w)) ?_
          simp only [nz1, nz2, nz3]
          refine lst (wanted_none rfl) (w_enter 26 (.agg (bs ((a % PP) + MM - (b % PP)))) rfl (run_store rfl rfl) (store_any ((a % PP) + MM - (b % PP)) _) (fun w160 hb161 => ?_))
          have k162 := k155.call hb161
          have k163 := k156.call hb161
          have k164 := k157.call hb161
          have k165 := k158.call hb161
          have hbel166 := bel_call hbel159 hb161
          simp only [nz1, nz2, nz3]
          refine lst (wanted_none rfl) (w_store 23 _ _ (w6.heap.size) (bs ((a % PP) + MM - (b % PP))) rfl rfl rfl rfl k164 (by rw [bs_sz]; exact info_b) ((bs_sz _).trans (bs_sz _).symm) (bs_one _) (fun w167 he168 => ?_))
          have k169 := k162.other hne16 he168
          have k170 := k163.other hne18 he168
          have k171 := k165.other hne135.symm he168
          have k172 := k164.set he168
          have hbel173 := bel_set hbel166 hg20 he168
          go_step
          go_step
          go_step
          go_wp2
          refine bodyPost_ret (v := .agg (bs ((a % PP) + MM - (b % PP)))) (results_cell_row rfl _ _ (w6.heap.size) 23 _ (0, 0) _ rfl k172 Tryd.underlying23 rfl (by rw [bs_sz]; exact info_b)) rfl ⟨rfl, hbel173⟩
      · refine opd rfl (wanted_none rfl) (w_alloc (c := ws 0) (T := 52) 5 rfl (run_alW rfl) (fun w174 he175 => ?_))
        have hne177 : w.heap.size ≠ w33.heap.size := Nat.ne_of_lt k35.lt
        have k176 := k35.alloc he175
        have hne179 : w1.heap.size ≠ w33.heap.size := Nat.ne_of_lt k36.lt
        have k178 := k36.alloc he175
        have hne181 : w6.heap.size ≠ w33.heap.size := Nat.ne_of_lt k37.lt
        have k180 := k37.alloc he175
        have k182 := Blk.new he175
        have hg183 : w.heap.size ≤ w33.heap.size := hbel38.size
        have hbel184 := bel_alloc hbel38 he175
        refine ⟨⟨k176, k178⟩, ?_⟩
        simp only [nz1, nz2, nz3]
        refine one_ready 4 (by kernel_rfl) ?_
        refine opd rfl (wanted_none rfl) (w_enter 12 (.agg (ws b)) rfl (run_load rfl rfl) (load_any b _) (fun w185 hb186 => ?_))
        have k187 := k176.call hb186
        have k188 := k178.call hb186
        have k189 := k180.call hb186
        have k190 := k182.call hb186
        have hbel191 := bel_call hbel184 hb186
        refine ⟨⟨k187, k188⟩, ?_⟩
        simp only [nz1, nz2, nz3]
        refine one_ready 5 (by kernel_rfl) ?_
        refine opd rfl (wanted_none rfl) (w_enter 13 (.agg (ws (b % PP))) rfl (run_rest rfl rfl) (rest_any b HB.out _) (fun w192 hb193 => ?_))
        have k194 := k187.call hb193
        have k195 := k188.call hb193
        have k196 := k189.call hb193
        have k197 := k190.call hb193
        have hbel198 := bel_call hbel191 hb193
        refine ⟨⟨k194, k195⟩, ?_⟩
        simp only [nz1, nz2, nz3]
        refine one_ready 6 (by kernel_rfl) ?_
        refine opd rfl (wanted_none rfl) (w_enter 14 (.tuple #[.agg (ws ((a % PP) + MM - (b % PP))), .int .u64 (bo (a % PP) (b % PP) 4 : Int)]) rfl (run_minus rfl rfl rfl) (minus_any (a % PP) (b % PP) _ (Nat.le_of_lt (Nat.lt_trans (Nat.mod_lt _ (by decide)) pp_lt))) (fun w199 hb200 => ?_))
        have k201 := k194.call hb200
        have k202 := k195.call hb200
        have k203 := k196.call hb200
        have k204 := k197.call hb200
        have hbel205 := bel_call hbel198 hb200
        refine ⟨⟨k201, k202⟩, ?_⟩
        simp only [nz1, nz2, nz3]
        refine tk 7 7 (.tuple #[.agg (ws ((a % PP) + MM - (b % PP))), .int .u64 (bo (a % PP) (b % PP) 4 : Int)]) rfl rfl (fun _ hw => run_mv rfl rfl) ⟨k201, k202⟩ ?_
        simp only [nz1, nz2, nz3]
        refine tk 8 15 (.agg (ws ((a % PP) + MM - (b % PP)))) rfl rfl (fun _ hw => run_ex rfl rfl rfl) ⟨k201, k202⟩ ?_
        simp only [nz1, nz2, nz3]
        refine tk 9 16 (.int .u64 (bo (a % PP) (b % PP) 4 : Int)) rfl rfl (fun _ hw => run_ex rfl rfl rfl) ⟨k201, k202⟩ ?_
        simp only [nz1, nz2, nz3]
        refine one_ready 11 (by kernel_rfl) ?_
        refine opd rfl (wanted_none rfl) (w_store 52 _ _ (w33.heap.size) (ws ((a % PP) + MM - (b % PP))) rfl rfl rfl rfl k204 (by rw [ws_sz]; exact info_w) ((ws_sz _).trans (ws_sz _).symm) (ws_one _) (fun w206 he207 => ?_))
        have k208 := k201.other hne177 he207
        have k209 := k202.other hne179 he207
        have k210 := k203.other hne181 he207
        have k211 := k204.set he207
        have hbel212 := bel_set hbel205 hg183 he207
        refine ⟨⟨k208, k209⟩, ?_⟩
        refine one_ready 12 (by kernel_rfl) ?_
        refine opd rfl (wanted_none rfl) (w_value 6 (.int .u64 (bo (a % PP) (b % PP) 4 : Int)) rfl (run_as rfl rfl) ⟨⟨k208, k209⟩, ?_⟩)
        simp only [nz1, nz2, nz3]
        refine wpAnyH_done (by kernel_rfl) ?_ _
        go_step
        go_step
        go_step
        go_step
        go_step
        refine lv 17 (.int .u64 (bo (a % PP) (b % PP) 4 : Int)) rfl rfl (run_mv rfl rfl) ?_
        simp only [nz1, nz2, nz3]
        refine lv 18 (.bool false) rfl rfl (run_one rfl rfl HC.out) ?_
        simp only [nz1, nz2, nz3]
        go_step
        go_step
        go_step
        go_step
        go_step
        go_step
        go_step
        go_step
        go_step
        refine lv 25 (.agg (ws ((a % PP) + MM - (b % PP)))) rfl rfl (run_row rfl rfl k211 Tryd.underlying52 rfl (by rw [ws_sz]; exact info_w)) ?_
        simp only [nz1, nz2, nz3]
        refine lst (wanted_none rfl) (w_enter 26 (.agg (bs ((a % PP) + MM - (b % PP)))) rfl (run_store rfl rfl) (store_any ((a % PP) + MM - (b % PP)) _) (fun w213 hb214 => ?_))
        have k215 := k208.call hb214
        have k216 := k209.call hb214
        have k217 := k210.call hb214
        have k218 := k211.call hb214
        have hbel219 := bel_call hbel212 hb214
        simp only [nz1, nz2, nz3]
        refine lst (wanted_none rfl) (w_store 23 _ _ (w6.heap.size) (bs ((a % PP) + MM - (b % PP))) rfl rfl rfl rfl k217 (by rw [bs_sz]; exact info_b) ((bs_sz _).trans (bs_sz _).symm) (bs_one _) (fun w220 he221 => ?_))
        have k222 := k215.other hne16 he221
        have k223 := k216.other hne18 he221
        have k224 := k218.other hne181.symm he221
        have k225 := k217.set he221
        have hbel226 := bel_set hbel219 hg20 he221
        go_step
        go_step
        go_step
        go_wp2
        refine bodyPost_ret (v := .agg (bs ((a % PP) + MM - (b % PP)))) (results_cell_row rfl _ _ (w6.heap.size) 23 _ (0, 0) _ rfl k225 Tryd.underlying23 rfl (by rw [bs_sz]; exact info_b)) rfl ⟨rfl, hbel226⟩
    · refine opd rfl (wanted_none rfl) (w_alloc (c := ws 0) (T := 52) 5 rfl (run_alW rfl) (fun w227 he228 => ?_))
      have hne230 : w.heap.size ≠ w27.heap.size := Nat.ne_of_lt k29.lt
      have k229 := k29.alloc he228
      have hne232 : w1.heap.size ≠ w27.heap.size := Nat.ne_of_lt k30.lt
      have k231 := k30.alloc he228
      have hne234 : w6.heap.size ≠ w27.heap.size := Nat.ne_of_lt k31.lt
      have k233 := k31.alloc he228
      have k235 := Blk.new he228
      have hg236 : w.heap.size ≤ w27.heap.size := hbel32.size
      have hbel237 := bel_alloc hbel32 he228
      refine ⟨⟨k229, k231⟩, ?_⟩
      simp only [nz1, nz2, nz3]
      refine one_ready 2 (by kernel_rfl) ?_
      refine opd rfl (wanted_none rfl) (w_enter 10 (.agg (ws (a % PP))) rfl (run_rest rfl rfl) (rest_any a HA.out _) (fun w238 hb239 => ?_))
      have k240 := k229.call hb239
      have k241 := k231.call hb239
      have k242 := k233.call hb239
      have k243 := k235.call hb239
      have hbel244 := bel_call hbel237 hb239
      refine ⟨⟨k240, k241⟩, ?_⟩
      simp only [nz1, nz2, nz3]
      refine one_ready 4 (by kernel_rfl) ?_
      refine opd rfl (wanted_none rfl) (w_enter 12 (.agg (ws b)) rfl (run_load rfl rfl) (load_any b _) (fun w245 hb246 => ?_))
      have k247 := k240.call hb246
      have k248 := k241.call hb246
      have k249 := k242.call hb246
      have k250 := k243.call hb246
      have hbel251 := bel_call hbel244 hb246
      refine ⟨⟨k247, k248⟩, ?_⟩
      simp only [nz1, nz2, nz3]
      refine one_ready 5 (by kernel_rfl) ?_
      refine opd rfl (wanted_none rfl) (w_enter 13 (.agg (ws (b % PP))) rfl (run_rest rfl rfl) (rest_any b HB.out _) (fun w252 hb253 => ?_))
      have k254 := k247.call hb253
      have k255 := k248.call hb253
      have k256 := k249.call hb253
      have k257 := k250.call hb253
      have hbel258 := bel_call hbel251 hb253
      refine ⟨⟨k254, k255⟩, ?_⟩
      simp only [nz1, nz2, nz3]
      refine one_ready 6 (by kernel_rfl) ?_
      refine opd rfl (wanted_none rfl) (w_enter 14 (.tuple #[.agg (ws ((a % PP) + MM - (b % PP))), .int .u64 (bo (a % PP) (b % PP) 4 : Int)]) rfl (run_minus rfl rfl rfl) (minus_any (a % PP) (b % PP) _ (Nat.le_of_lt (Nat.lt_trans (Nat.mod_lt _ (by decide)) pp_lt))) (fun w259 hb260 => ?_))
      have k261 := k254.call hb260
      have k262 := k255.call hb260
      have k263 := k256.call hb260
      have k264 := k257.call hb260
      have hbel265 := bel_call hbel258 hb260
      refine ⟨⟨k261, k262⟩, ?_⟩
      simp only [nz1, nz2, nz3]
      refine tk 7 7 (.tuple #[.agg (ws ((a % PP) + MM - (b % PP))), .int .u64 (bo (a % PP) (b % PP) 4 : Int)]) rfl rfl (fun _ hw => run_mv rfl rfl) ⟨k261, k262⟩ ?_
      simp only [nz1, nz2, nz3]
      refine tk 8 15 (.agg (ws ((a % PP) + MM - (b % PP)))) rfl rfl (fun _ hw => run_ex rfl rfl rfl) ⟨k261, k262⟩ ?_
      simp only [nz1, nz2, nz3]
      refine tk 9 16 (.int .u64 (bo (a % PP) (b % PP) 4 : Int)) rfl rfl (fun _ hw => run_ex rfl rfl rfl) ⟨k261, k262⟩ ?_
      simp only [nz1, nz2, nz3]
      refine one_ready 11 (by kernel_rfl) ?_
      refine opd rfl (wanted_none rfl) (w_store 52 _ _ (w27.heap.size) (ws ((a % PP) + MM - (b % PP))) rfl rfl rfl rfl k264 (by rw [ws_sz]; exact info_w) ((ws_sz _).trans (ws_sz _).symm) (ws_one _) (fun w266 he267 => ?_))
      have k268 := k261.other hne230 he267
      have k269 := k262.other hne232 he267
      have k270 := k263.other hne234 he267
      have k271 := k264.set he267
      have hbel272 := bel_set hbel265 hg236 he267
      refine ⟨⟨k268, k269⟩, ?_⟩
      refine one_ready 12 (by kernel_rfl) ?_
      refine opd rfl (wanted_none rfl) (w_value 6 (.int .u64 (bo (a % PP) (b % PP) 4 : Int)) rfl (run_as rfl rfl) ⟨⟨k268, k269⟩, ?_⟩)
      simp only [nz1, nz2, nz3]
      refine wpAnyH_done (by kernel_rfl) ?_ _
      go_step
      go_step
      go_step
      go_step
      go_step
      refine lv 17 (.int .u64 (bo (a % PP) (b % PP) 4 : Int)) rfl rfl (run_mv rfl rfl) ?_
      simp only [nz1, nz2, nz3]
      refine lv 18 (.bool false) rfl rfl (run_one rfl rfl HC.out) ?_
      simp only [nz1, nz2, nz3]
      go_step
      go_step
      go_step
      go_step
      go_step
      go_step
      go_step
      go_step
      go_step
      refine lv 25 (.agg (ws ((a % PP) + MM - (b % PP)))) rfl rfl (run_row rfl rfl k271 Tryd.underlying52 rfl (by rw [ws_sz]; exact info_w)) ?_
      simp only [nz1, nz2, nz3]
      refine lst (wanted_none rfl) (w_enter 26 (.agg (bs ((a % PP) + MM - (b % PP)))) rfl (run_store rfl rfl) (store_any ((a % PP) + MM - (b % PP)) _) (fun w273 hb274 => ?_))
      have k275 := k268.call hb274
      have k276 := k269.call hb274
      have k277 := k270.call hb274
      have k278 := k271.call hb274
      have hbel279 := bel_call hbel272 hb274
      simp only [nz1, nz2, nz3]
      refine lst (wanted_none rfl) (w_store 23 _ _ (w6.heap.size) (bs ((a % PP) + MM - (b % PP))) rfl rfl rfl rfl k277 (by rw [bs_sz]; exact info_b) ((bs_sz _).trans (bs_sz _).symm) (bs_one _) (fun w280 he281 => ?_))
      have k282 := k275.other hne16 he281
      have k283 := k276.other hne18 he281
      have k284 := k278.other hne234.symm he281
      have k285 := k277.set he281
      have hbel286 := bel_set hbel279 hg20 he281
      go_step
      go_step
      go_step
      go_wp2
      refine bodyPost_ret (v := .agg (bs ((a % PP) + MM - (b % PP)))) (results_cell_row rfl _ _ (w6.heap.size) 23 _ (0, 0) _ rfl k285 Tryd.underlying23 rfl (by rw [bs_sz]; exact info_b)) rfl ⟨rfl, hbel286⟩
  · refine opd rfl (wanted_none rfl) (w_alloc (c := ws 0) (T := 52) 5 rfl (run_alW rfl) (fun w287 he288 => ?_))
    have hne290 : w.heap.size ≠ wd26.heap.size := Nat.ne_of_lt k22.lt
    have k289 := k22.alloc he288
    have hne292 : w1.heap.size ≠ wd26.heap.size := Nat.ne_of_lt k23.lt
    have k291 := k23.alloc he288
    have hne294 : w6.heap.size ≠ wd26.heap.size := Nat.ne_of_lt k24.lt
    have k293 := k24.alloc he288
    have k295 := Blk.new he288
    have hg296 : w.heap.size ≤ wd26.heap.size := hbel25.size
    have hbel297 := bel_alloc hbel25 he288
    refine ⟨⟨k289, k291⟩, ?_⟩
    simp only [nz1, nz2, nz3]
    refine one_ready 1 (by kernel_rfl) ?_
    refine opd rfl (wanted_none rfl) (w_enter 9 (.agg (ws a)) rfl (run_load rfl rfl) (load_any a _) (fun w298 hb299 => ?_))
    have k300 := k289.call hb299
    have k301 := k291.call hb299
    have k302 := k293.call hb299
    have k303 := k295.call hb299
    have hbel304 := bel_call hbel297 hb299
    refine ⟨⟨k300, k301⟩, ?_⟩
    simp only [nz1, nz2, nz3]
    refine one_ready 2 (by kernel_rfl) ?_
    refine opd rfl (wanted_none rfl) (w_enter 10 (.agg (ws (a % PP))) rfl (run_rest rfl rfl) (rest_any a HA.out _) (fun w305 hb306 => ?_))
    have k307 := k300.call hb306
    have k308 := k301.call hb306
    have k309 := k302.call hb306
    have k310 := k303.call hb306
    have hbel311 := bel_call hbel304 hb306
    refine ⟨⟨k307, k308⟩, ?_⟩
    simp only [nz1, nz2, nz3]
    refine one_ready 4 (by kernel_rfl) ?_
    refine opd rfl (wanted_none rfl) (w_enter 12 (.agg (ws b)) rfl (run_load rfl rfl) (load_any b _) (fun w312 hb313 => ?_))
    have k314 := k307.call hb313
    have k315 := k308.call hb313
    have k316 := k309.call hb313
    have k317 := k310.call hb313
    have hbel318 := bel_call hbel311 hb313
    refine ⟨⟨k314, k315⟩, ?_⟩
    simp only [nz1, nz2, nz3]
    refine one_ready 5 (by kernel_rfl) ?_
    refine opd rfl (wanted_none rfl) (w_enter 13 (.agg (ws (b % PP))) rfl (run_rest rfl rfl) (rest_any b HB.out _) (fun w319 hb320 => ?_))
    have k321 := k314.call hb320
    have k322 := k315.call hb320
    have k323 := k316.call hb320
    have k324 := k317.call hb320
    have hbel325 := bel_call hbel318 hb320
    refine ⟨⟨k321, k322⟩, ?_⟩
    simp only [nz1, nz2, nz3]
    refine one_ready 6 (by kernel_rfl) ?_
    refine opd rfl (wanted_none rfl) (w_enter 14 (.tuple #[.agg (ws ((a % PP) + MM - (b % PP))), .int .u64 (bo (a % PP) (b % PP) 4 : Int)]) rfl (run_minus rfl rfl rfl) (minus_any (a % PP) (b % PP) _ (Nat.le_of_lt (Nat.lt_trans (Nat.mod_lt _ (by decide)) pp_lt))) (fun w326 hb327 => ?_))
    have k328 := k321.call hb327
    have k329 := k322.call hb327
    have k330 := k323.call hb327
    have k331 := k324.call hb327
    have hbel332 := bel_call hbel325 hb327
    refine ⟨⟨k328, k329⟩, ?_⟩
    simp only [nz1, nz2, nz3]
    refine tk 7 7 (.tuple #[.agg (ws ((a % PP) + MM - (b % PP))), .int .u64 (bo (a % PP) (b % PP) 4 : Int)]) rfl rfl (fun _ hw => run_mv rfl rfl) ⟨k328, k329⟩ ?_
    simp only [nz1, nz2, nz3]
    refine tk 8 15 (.agg (ws ((a % PP) + MM - (b % PP)))) rfl rfl (fun _ hw => run_ex rfl rfl rfl) ⟨k328, k329⟩ ?_
    simp only [nz1, nz2, nz3]
    refine tk 9 16 (.int .u64 (bo (a % PP) (b % PP) 4 : Int)) rfl rfl (fun _ hw => run_ex rfl rfl rfl) ⟨k328, k329⟩ ?_
    simp only [nz1, nz2, nz3]
    refine one_ready 11 (by kernel_rfl) ?_
    refine opd rfl (wanted_none rfl) (w_store 52 _ _ (wd26.heap.size) (ws ((a % PP) + MM - (b % PP))) rfl rfl rfl rfl k331 (by rw [ws_sz]; exact info_w) ((ws_sz _).trans (ws_sz _).symm) (ws_one _) (fun w333 he334 => ?_))
    have k335 := k328.other hne290 he334
    have k336 := k329.other hne292 he334
    have k337 := k330.other hne294 he334
    have k338 := k331.set he334
    have hbel339 := bel_set hbel332 hg296 he334
    refine ⟨⟨k335, k336⟩, ?_⟩
    refine one_ready 12 (by kernel_rfl) ?_
    refine opd rfl (wanted_none rfl) (w_value 6 (.int .u64 (bo (a % PP) (b % PP) 4 : Int)) rfl (run_as rfl rfl) ⟨⟨k335, k336⟩, ?_⟩)
    simp only [nz1, nz2, nz3]
    refine wpAnyH_done (by kernel_rfl) ?_ _
    go_step
    go_step
    go_step
    go_step
    go_step
    refine lv 17 (.int .u64 (bo (a % PP) (b % PP) 4 : Int)) rfl rfl (run_mv rfl rfl) ?_
    simp only [nz1, nz2, nz3]
    refine lv 18 (.bool false) rfl rfl (run_one rfl rfl HC.out) ?_
    simp only [nz1, nz2, nz3]
    go_step
    go_step
    go_step
    go_step
    go_step
    go_step
    go_step
    go_step
    go_step
    refine lv 25 (.agg (ws ((a % PP) + MM - (b % PP)))) rfl rfl (run_row rfl rfl k338 Tryd.underlying52 rfl (by rw [ws_sz]; exact info_w)) ?_
    simp only [nz1, nz2, nz3]
    refine lst (wanted_none rfl) (w_enter 26 (.agg (bs ((a % PP) + MM - (b % PP)))) rfl (run_store rfl rfl) (store_any ((a % PP) + MM - (b % PP)) _) (fun w340 hb341 => ?_))
    have k342 := k335.call hb341
    have k343 := k336.call hb341
    have k344 := k337.call hb341
    have k345 := k338.call hb341
    have hbel346 := bel_call hbel339 hb341
    simp only [nz1, nz2, nz3]
    refine lst (wanted_none rfl) (w_store 23 _ _ (w6.heap.size) (bs ((a % PP) + MM - (b % PP))) rfl rfl rfl rfl k344 (by rw [bs_sz]; exact info_b) ((bs_sz _).trans (bs_sz _).symm) (bs_one _) (fun w347 he348 => ?_))
    have k349 := k342.other hne16 he348
    have k350 := k343.other hne18 he348
    have k351 := k345.other hne294.symm he348
    have k352 := k344.set he348
    have hbel353 := bel_set hbel346 hg20 he348
    go_step
    go_step
    go_step
    go_wp2
    refine bodyPost_ret (v := .agg (bs ((a % PP) + MM - (b % PP)))) (results_cell_row rfl _ _ (w6.heap.size) 23 _ (0, 0) _ rfl k352 Tryd.underlying23 rfl (by rw [bs_sz]; exact info_b)) rfl ⟨rfl, hbel353⟩

theorem sub_any (a b : Nat) (ha : a < MM) (hb : b < MM) (w : World) : Calls Tryd.prog 32 #[.agg (bs a), .agg (bs b)] w fun e w' => e = .returned (.agg (bs ((a % PP + (PP - b % PP)) % PP))) ∧ Below w.heap.size w w' := by
  have h1 : a % PP < PP := Nat.mod_lt _ (by decide)
  have h2 : b % PP < PP := Nat.mod_lt _ (by decide)
  have h3 := bo_top (a % PP) (b % PP) (Nat.lt_trans h1 pp_lt) (Nat.lt_trans h2 pp_lt)
  have h4 := pp_lt
  by_cases h : a % PP < b % PP
  · rw [if_pos h] at h3
    refine (sub_lt a b ha hb (by rw [h3]; rfl) w).mono fun e w' ⟨he, hw⟩ => ⟨?_, hw⟩
    rw [he, bs_low _ (a % PP + (PP - b % PP)) (by omega), Nat.mod_eq_of_lt (by omega : a % PP + (PP - b % PP) < PP)]
  · rw [if_neg h] at h3
    refine (sub_ge a b ha hb (by rw [h3]; rfl) w).mono fun e w' ⟨he, hw⟩ => ⟨?_, hw⟩
    rw [he, bs_low _ (a % PP - b % PP) (by omega)]
    congr 4
    rw [show a % PP + (PP - b % PP) = (a % PP - b % PP) + PP by omega, Nat.add_mod_right, Nat.mod_eq_of_lt (by omega : a % PP - b % PP < PP)]

set_option maxHeartbeats 1000000 in
theorem root_same0 (a : Nat) (ha : a < MM) (h1 : decide (((a % PP) ^ K1 % PP) * ((a % PP) ^ K1 % PP) % PP = (a % PP)) = true) (h3 : decide (((a % PP) ^ K1 % PP) % 2 = 1) = false) (w : World) : Calls Tryd.prog 31 #[.agg (bs a)] w fun e w' => e = .returned (.tuple #[.agg (bs ((a % PP) ^ K1 % PP)), .bool true]) ∧ Below w.heap.size w w' := by
  have HA := Lib.hid ha
  clear ha
  have H1 := Lib.hid h1
  clear h1
  have H3 := Lib.hid h3
  clear h3
  go_enter Tryd.func31, Tryd.ntmps31
  have hbel0 := Below.refl w.heap.size w
  go_step
  go_step
  go_step
  refine lst (wanted_none rfl) (w_alloc (c := bs a) (T := 23) 1 rfl (run_box rfl rfl) (fun w1 he2 => ?_))
  have k3 := Blk.new he2
  have hg4 : w.heap.size ≤ w.heap.size := hbel0.size
  have hbel5 := bel_alloc hbel0 he2
  simp only [nz1, nz2, nz3]
  refine lst (wanted_none rfl) (w_alloc (c := bs 0) (T := 23) 2 rfl (run_alN rfl) (fun w6 he7 => ?_))
  have hne9 : w.heap.size ≠ w1.heap.size := Nat.ne_of_lt k3.lt
  have k8 := k3.alloc he7
  have k10 := Blk.new he7
  have hg11 : w.heap.size ≤ w1.heap.size := hbel5.size
  have hbel12 := bel_alloc hbel5 he7
  simp only [nz1, nz2, nz3]
  refine lv 3 (.bool false) rfl rfl (run_as rfl rfl) ?_
  simp only [nz1, nz2, nz3]
  go_step
  go_step
  go_step
  go_step
  go_step
  refine lv 7 (.agg (bs a)) rfl rfl (run_row rfl rfl k8 Tryd.underlying23 rfl (by rw [bs_sz]; exact info_b)) ?_
  simp only [nz1, nz2, nz3]
  refine lst (wanted_none rfl) (w_enter 8 (.agg (ws a)) rfl (run_load rfl rfl) (load_any a _) (fun w13 hb14 => ?_))
  have k15 := k8.call hb14
  have k16 := k10.call hb14
  have hbel17 := bel_call hbel12 hb14
  simp only [nz1, nz2, nz3]
  refine lst (wanted_none rfl) (w_enter 9 (.agg (ws (a % PP))) rfl (run_rest rfl rfl) (rest_any a HA.out _) (fun w18 hb19 => ?_))
  have k20 := k15.call hb19
  have k21 := k16.call hb19
  have hbel22 := bel_call hbel17 hb19
  simp only [nz1, nz2, nz3]
  refine lst (wanted_none rfl) (w_alloc (c := ws 0) (T := 52) 4 rfl (run_alW rfl) (fun w23 he24 => ?_))
  have hne26 : w.heap.size ≠ w18.heap.size := Nat.ne_of_lt k20.lt
  have k25 := k20.alloc he24
  have hne28 : w1.heap.size ≠ w18.heap.size := Nat.ne_of_lt k21.lt
  have k27 := k21.alloc he24
  have k29 := Blk.new he24
  have hg30 : w.heap.size ≤ w18.heap.size := hbel22.size
  have hbel31 := bel_alloc hbel22 he24
  simp only [nz1, nz2, nz3]
  refine lst (wanted_none rfl) (w_store 52 _ _ (w18.heap.size) (ws (a % PP)) rfl rfl rfl rfl k29 (by rw [ws_sz]; exact info_w) ((ws_sz _).trans (ws_sz _).symm) (ws_one _) (fun w32 he33 => ?_))
  have k34 := k25.other hne26 he33
  have k35 := k27.other hne28 he33
  have k36 := k29.set he33
  have hbel37 := bel_set hbel31 hg30 he33
  go_step
  go_step
  go_step
  go_step
  go_step
  refine lv 10 (.agg (ws (a % PP))) rfl rfl (run_row rfl rfl k36 Tryd.underlying52 rfl (by rw [ws_sz]; exact info_w)) ?_
  simp only [nz1, nz2, nz3]
  refine lv 11 (.agg (ws K1)) rfl rfl (by unfold execOp; go_simp; rfl) ?_
  simp only [nz1, nz2, nz3]
  refine lst (wanted_none rfl) (w_enter 12 (.agg (ws ((a % PP) ^ K1 % PP))) rfl (run_raise rfl rfl rfl) (raise_any (a % PP) K1 (Nat.lt_trans (Nat.mod_lt _ (by decide)) pp_lt) (by decide) _) (fun w38 hb39 => ?_))
  have k40 := k34.call hb39
  have k41 := k35.call hb39
  have k42 := k36.call hb39
  have hbel43 := bel_call hbel37 hb39
  simp only [nz1, nz2, nz3]
  refine lst (wanted_none rfl) (w_alloc (c := ws 0) (T := 52) 5 rfl (run_alW rfl) (fun w44 he45 => ?_))
  have hne47 : w.heap.size ≠ w38.heap.size := Nat.ne_of_lt k40.lt
  have k46 := k40.alloc he45
  have hne49 : w1.heap.size ≠ w38.heap.size := Nat.ne_of_lt k41.lt
  have k48 := k41.alloc he45
  have hne51 : w18.heap.size ≠ w38.heap.size := Nat.ne_of_lt k42.lt
  have k50 := k42.alloc he45
  have k52 := Blk.new he45
  have hg53 : w.heap.size ≤ w38.heap.size := hbel43.size
  have hbel54 := bel_alloc hbel43 he45
  simp only [nz1, nz2, nz3]
  refine lst (wanted_none rfl) (w_store 52 _ _ (w38.heap.size) (ws ((a % PP) ^ K1 % PP)) rfl rfl rfl rfl k52 (by rw [ws_sz]; exact info_w) ((ws_sz _).trans (ws_sz _).symm) (ws_one _) (fun w55 he56 => ?_))
  have k57 := k46.other hne47 he56
  have k58 := k48.other hne49 he56
  have k59 := k50.other hne51 he56
  have k60 := k52.set he56
  have hbel61 := bel_set hbel54 hg53 he56
  go_step
  go_step
  go_step
  go_step
  go_step
  have k62 := k57.drew
  have k63 := k58.drew
  have k64 := k59.drew
  have k65 := k60.drew
  have hbel66 := hbel61.drew
  refine wp_region_held_drew (S := fun w' => Blk w' (w38.heap.size) (ws ((a % PP) ^ K1 % PP)) 52 ∧ Blk w' (w18.heap.size) (ws (a % PP)) 52) (by kernel_rfl) ⟨k65, k64⟩ (fun _ => ?_)
  generalize w55.drew = wd67 at *
  refine tk 0 13 (.agg (ws ((a % PP) ^ K1 % PP))) rfl rfl (fun _ hw => run_row rfl rfl (hw.1) Tryd.underlying52 rfl (by rw [ws_sz]; exact info_w)) ⟨k65, k64⟩ ?_
  simp only [nz1, nz2, nz3]
  refine tk 1 14 (.agg (ws ((a % PP) ^ K1 % PP))) rfl rfl (fun _ hw => run_row rfl rfl (hw.1) Tryd.underlying52 rfl (by rw [ws_sz]; exact info_w)) ⟨k65, k64⟩ ?_
  simp only [nz1, nz2, nz3]
  refine tk 3 16 (.agg (ws (a % PP))) rfl rfl (fun _ hw => run_row rfl rfl (hw.2) Tryd.underlying52 rfl (by rw [ws_sz]; exact info_w)) ⟨k65, k64⟩ ?_
  simp only [nz1, nz2, nz3]
  refine one_ready 2 (by kernel_rfl) ?_
  refine opd rfl (wanted_none rfl) (w_enter 15 (.agg (ws (((a % PP) ^ K1 % PP) * ((a % PP) ^ K1 % PP) % PP))) rfl (run_multiply rfl rfl rfl) (multiply_any ((a % PP) ^ K1 % PP) ((a % PP) ^ K1 % PP) (Nat.lt_trans (Nat.mod_lt _ (by decide)) pp_lt) (Nat.lt_trans (Nat.mod_lt _ (by decide)) pp_lt) _) (fun w68 hb69 => ?_))
  have k70 := k62.call hb69
  have k71 := k63.call hb69
  have k72 := k64.call hb69
  have k73 := k65.call hb69
  have hbel74 := bel_call hbel66 hb69
  refine ⟨⟨k73, k72⟩, ?_⟩
  simp only [nz1, nz2, nz3]
  refine tk 4 17 (.bool false) rfl rfl (fun _ hw => run_neqW (((a % PP) ^ K1 % PP) * ((a % PP) ^ K1 % PP) % PP) (a % PP) (Nat.lt_trans (Nat.mod_lt _ (by decide)) pp_lt) (Nat.lt_trans (Nat.mod_lt _ (by decide)) pp_lt) false H1.out rfl rfl rfl) ⟨k73, k72⟩ ?_
  simp only [nz1, nz2, nz3]
  refine wpAnyH_done (by kernel_rfl) ?_ _
  go_step
  go_step
  go_step
  go_step
  go_step
  go_step
  go_step
  go_step
  have k75 := k70.drew
  have k76 := k71.drew
  have k77 := k72.drew
  have k78 := k73.drew
  have hbel79 := hbel74.drew
  refine wp_region_held_drew (S := fun w' => Blk w' (w38.heap.size) (ws ((a % PP) ^ K1 % PP)) 52 ∧ Blk w' (w18.heap.size) (ws (a % PP)) 52) (by kernel_rfl) ⟨k78, k77⟩ (fun _ => ?_)
  generalize w68.drew = wd80 at *
  refine tk 0 24 (.agg (ws ((a % PP) ^ K1 % PP))) rfl rfl (fun _ hw => run_row rfl rfl (hw.1) Tryd.underlying52 rfl (by rw [ws_sz]; exact info_w)) ⟨k78, k77⟩ ?_
  simp only [nz1, nz2, nz3]
  refine tk 1 25 (.agg (ws ((a % PP) ^ K1 % PP))) rfl rfl (fun _ hw => run_row rfl rfl (hw.1) Tryd.underlying52 rfl (by rw [ws_sz]; exact info_w)) ⟨k78, k77⟩ ?_
  simp only [nz1, nz2, nz3]
  refine tk 3 27 (.agg (ws (a % PP))) rfl rfl (fun _ hw => run_row rfl rfl (hw.2) Tryd.underlying52 rfl (by rw [ws_sz]; exact info_w)) ⟨k78, k77⟩ ?_
  simp only [nz1, nz2, nz3]
  refine one_ready 2 (by kernel_rfl) ?_
  refine opd rfl (wanted_none rfl) (w_enter 26 (.agg (ws (((a % PP) ^ K1 % PP) * ((a % PP) ^ K1 % PP) % PP))) rfl (run_multiply rfl rfl rfl) (multiply_any ((a % PP) ^ K1 % PP) ((a % PP) ^ K1 % PP) (Nat.lt_trans (Nat.mod_lt _ (by decide)) pp_lt) (Nat.lt_trans (Nat.mod_lt _ (by decide)) pp_lt) _) (fun w81 hb82 => ?_))
  have k83 := k75.call hb82
  have k84 := k76.call hb82
  have k85 := k77.call hb82
  have k86 := k78.call hb82
  have hbel87 := bel_call hbel79 hb82
  refine ⟨⟨k86, k85⟩, ?_⟩
  simp only [nz1, nz2, nz3]
  refine tk 4 28 (.bool false) rfl rfl (fun _ hw => run_neqW (((a % PP) ^ K1 % PP) * ((a % PP) ^ K1 % PP) % PP) (a % PP) (Nat.lt_trans (Nat.mod_lt _ (by decide)) pp_lt) (Nat.lt_trans (Nat.mod_lt _ (by decide)) pp_lt) false H1.out rfl rfl rfl) ⟨k86, k85⟩ ?_
  simp only [nz1, nz2, nz3]
  refine wpAnyH_done (by kernel_rfl) ?_ _
  go_step
  go_step
  go_step
  go_step
  go_step
  go_step
  go_step
  go_step
  go_step
  refine lv 30 (.pointer (some ⟨w38.heap.size, 0, none⟩)) rfl rfl (run_ixW0 rfl rfl) ?_
  simp only [nz1, nz2, nz3]
  refine lv 31 (.int .u64 (wd ((a % PP) ^ K1 % PP) 0 : Int)) rfl rfl (run_ld0 k86 rfl rfl) ?_
  simp only [nz1, nz2, nz3]
  refine lv 32 (.int .u64 ((((a % PP) ^ K1 % PP) % 2 : Nat) : Int)) rfl rfl (run_and1 ((a % PP) ^ K1 % PP) rfl rfl) ?_
  simp only [nz1, nz2, nz3]
  refine lv 33 (.bool false) rfl rfl (run_one rfl rfl H3.out) ?_
  simp only [nz1, nz2, nz3]
  go_step
  go_step
  go_step
  go_step
  go_step
  go_step
  go_step
  go_step
  go_step
  refine lv 40 (.agg (ws ((a % PP) ^ K1 % PP))) rfl rfl (run_row rfl rfl k86 Tryd.underlying52 rfl (by rw [ws_sz]; exact info_w)) ?_
  simp only [nz1, nz2, nz3]
  refine lst (wanted_none rfl) (w_enter 41 (.agg (bs ((a % PP) ^ K1 % PP))) rfl (run_store rfl rfl) (store_any ((a % PP) ^ K1 % PP) _) (fun w88 hb89 => ?_))
  have k90 := k83.call hb89
  have k91 := k84.call hb89
  have k92 := k85.call hb89
  have k93 := k86.call hb89
  have hbel94 := bel_call hbel87 hb89
  simp only [nz1, nz2, nz3]
  refine lst (wanted_none rfl) (w_store 23 _ _ (w1.heap.size) (bs ((a % PP) ^ K1 % PP)) rfl rfl rfl rfl k91 (by rw [bs_sz]; exact info_b) ((bs_sz _).trans (bs_sz _).symm) (bs_one _) (fun w95 he96 => ?_))
  have k97 := k90.other hne9 he96
  have k98 := k92.other hne28.symm he96
  have k99 := k93.other hne49.symm he96
  have k100 := k91.set he96
  have hbel101 := bel_set hbel94 hg11 he96
  refine lv 3 (.bool true) rfl rfl (run_as rfl rfl) ?_
  simp only [nz1, nz2, nz3]
  go_step
  go_step
  go_step
  go_wp2
  refine bodyPost_ret (results_cell_tmp rfl _ _ (w1.heap.size) 23 (bs ((a % PP) ^ K1 % PP)) (0, 0) _ (.bool true) rfl rfl k100 Tryd.underlying23 rfl (by rw [bs_sz]; exact info_b)) rfl ⟨rfl, hbel101⟩

set_option maxHeartbeats 1000000 in
theorem root_same1 (a : Nat) (ha : a < MM) (h1 : decide (((a % PP) ^ K1 % PP) * ((a % PP) ^ K1 % PP) % PP = (a % PP)) = true) (h3 : decide (((a % PP) ^ K1 % PP) % 2 = 1) = true) (w : World) : Calls Tryd.prog 31 #[.agg (bs a)] w fun e w' => e = .returned (.tuple #[.agg (bs (PP - ((a % PP) ^ K1 % PP))), .bool true]) ∧ Below w.heap.size w w' := by
  have HA := Lib.hid ha
  clear ha
  have H1 := Lib.hid h1
  clear h1
  have H3 := Lib.hid h3
  clear h3
  go_enter Tryd.func31, Tryd.ntmps31
  have hbel0 := Below.refl w.heap.size w
  go_step
  go_step
  go_step
  refine lst (wanted_none rfl) (w_alloc (c := bs a) (T := 23) 1 rfl (run_box rfl rfl) (fun w1 he2 => ?_))
  have k3 := Blk.new he2
  have hg4 : w.heap.size ≤ w.heap.size := hbel0.size
  have hbel5 := bel_alloc hbel0 he2
  simp only [nz1, nz2, nz3]
  refine lst (wanted_none rfl) (w_alloc (c := bs 0) (T := 23) 2 rfl (run_alN rfl) (fun w6 he7 => ?_))
  have hne9 : w.heap.size ≠ w1.heap.size := Nat.ne_of_lt k3.lt
  have k8 := k3.alloc he7
  have k10 := Blk.new he7
  have hg11 : w.heap.size ≤ w1.heap.size := hbel5.size
  have hbel12 := bel_alloc hbel5 he7
  simp only [nz1, nz2, nz3]
  refine lv 3 (.bool false) rfl rfl (run_as rfl rfl) ?_
  simp only [nz1, nz2, nz3]
  go_step
  go_step
  go_step
  go_step
  go_step
  refine lv 7 (.agg (bs a)) rfl rfl (run_row rfl rfl k8 Tryd.underlying23 rfl (by rw [bs_sz]; exact info_b)) ?_
  simp only [nz1, nz2, nz3]
  refine lst (wanted_none rfl) (w_enter 8 (.agg (ws a)) rfl (run_load rfl rfl) (load_any a _) (fun w13 hb14 => ?_))
  have k15 := k8.call hb14
  have k16 := k10.call hb14
  have hbel17 := bel_call hbel12 hb14
  simp only [nz1, nz2, nz3]
  refine lst (wanted_none rfl) (w_enter 9 (.agg (ws (a % PP))) rfl (run_rest rfl rfl) (rest_any a HA.out _) (fun w18 hb19 => ?_))
  have k20 := k15.call hb19
  have k21 := k16.call hb19
  have hbel22 := bel_call hbel17 hb19
  simp only [nz1, nz2, nz3]
  refine lst (wanted_none rfl) (w_alloc (c := ws 0) (T := 52) 4 rfl (run_alW rfl) (fun w23 he24 => ?_))
  have hne26 : w.heap.size ≠ w18.heap.size := Nat.ne_of_lt k20.lt
  have k25 := k20.alloc he24
  have hne28 : w1.heap.size ≠ w18.heap.size := Nat.ne_of_lt k21.lt
  have k27 := k21.alloc he24
  have k29 := Blk.new he24
  have hg30 : w.heap.size ≤ w18.heap.size := hbel22.size
  have hbel31 := bel_alloc hbel22 he24
  simp only [nz1, nz2, nz3]
  refine lst (wanted_none rfl) (w_store 52 _ _ (w18.heap.size) (ws (a % PP)) rfl rfl rfl rfl k29 (by rw [ws_sz]; exact info_w) ((ws_sz _).trans (ws_sz _).symm) (ws_one _) (fun w32 he33 => ?_))
  have k34 := k25.other hne26 he33
  have k35 := k27.other hne28 he33
  have k36 := k29.set he33
  have hbel37 := bel_set hbel31 hg30 he33
  go_step
  go_step
  go_step
  go_step
  go_step
  refine lv 10 (.agg (ws (a % PP))) rfl rfl (run_row rfl rfl k36 Tryd.underlying52 rfl (by rw [ws_sz]; exact info_w)) ?_
  simp only [nz1, nz2, nz3]
  refine lv 11 (.agg (ws K1)) rfl rfl (by unfold execOp; go_simp; rfl) ?_
  simp only [nz1, nz2, nz3]
  refine lst (wanted_none rfl) (w_enter 12 (.agg (ws ((a % PP) ^ K1 % PP))) rfl (run_raise rfl rfl rfl) (raise_any (a % PP) K1 (Nat.lt_trans (Nat.mod_lt _ (by decide)) pp_lt) (by decide) _) (fun w38 hb39 => ?_))
  have k40 := k34.call hb39
  have k41 := k35.call hb39
  have k42 := k36.call hb39
  have hbel43 := bel_call hbel37 hb39
  simp only [nz1, nz2, nz3]
  refine lst (wanted_none rfl) (w_alloc (c := ws 0) (T := 52) 5 rfl (run_alW rfl) (fun w44 he45 => ?_))
  have hne47 : w.heap.size ≠ w38.heap.size := Nat.ne_of_lt k40.lt
  have k46 := k40.alloc he45
  have hne49 : w1.heap.size ≠ w38.heap.size := Nat.ne_of_lt k41.lt
  have k48 := k41.alloc he45
  have hne51 : w18.heap.size ≠ w38.heap.size := Nat.ne_of_lt k42.lt
  have k50 := k42.alloc he45
  have k52 := Blk.new he45
  have hg53 : w.heap.size ≤ w38.heap.size := hbel43.size
  have hbel54 := bel_alloc hbel43 he45
  simp only [nz1, nz2, nz3]
  refine lst (wanted_none rfl) (w_store 52 _ _ (w38.heap.size) (ws ((a % PP) ^ K1 % PP)) rfl rfl rfl rfl k52 (by rw [ws_sz]; exact info_w) ((ws_sz _).trans (ws_sz _).symm) (ws_one _) (fun w55 he56 => ?_))
  have k57 := k46.other hne47 he56
  have k58 := k48.other hne49 he56
  have k59 := k50.other hne51 he56
  have k60 := k52.set he56
  have hbel61 := bel_set hbel54 hg53 he56
  go_step
  go_step
  go_step
  go_step
  go_step
  have k62 := k57.drew
  have k63 := k58.drew
  have k64 := k59.drew
  have k65 := k60.drew
  have hbel66 := hbel61.drew
  refine wp_region_held_drew (S := fun w' => Blk w' (w38.heap.size) (ws ((a % PP) ^ K1 % PP)) 52 ∧ Blk w' (w18.heap.size) (ws (a % PP)) 52) (by kernel_rfl) ⟨k65, k64⟩ (fun _ => ?_)
  generalize w55.drew = wd67 at *
  refine tk 0 13 (.agg (ws ((a % PP) ^ K1 % PP))) rfl rfl (fun _ hw => run_row rfl rfl (hw.1) Tryd.underlying52 rfl (by rw [ws_sz]; exact info_w)) ⟨k65, k64⟩ ?_
  simp only [nz1, nz2, nz3]
  refine tk 1 14 (.agg (ws ((a % PP) ^ K1 % PP))) rfl rfl (fun _ hw => run_row rfl rfl (hw.1) Tryd.underlying52 rfl (by rw [ws_sz]; exact info_w)) ⟨k65, k64⟩ ?_
  simp only [nz1, nz2, nz3]
  refine tk 3 16 (.agg (ws (a % PP))) rfl rfl (fun _ hw => run_row rfl rfl (hw.2) Tryd.underlying52 rfl (by rw [ws_sz]; exact info_w)) ⟨k65, k64⟩ ?_
  simp only [nz1, nz2, nz3]
  refine one_ready 2 (by kernel_rfl) ?_
  refine opd rfl (wanted_none rfl) (w_enter 15 (.agg (ws (((a % PP) ^ K1 % PP) * ((a % PP) ^ K1 % PP) % PP))) rfl (run_multiply rfl rfl rfl) (multiply_any ((a % PP) ^ K1 % PP) ((a % PP) ^ K1 % PP) (Nat.lt_trans (Nat.mod_lt _ (by decide)) pp_lt) (Nat.lt_trans (Nat.mod_lt _ (by decide)) pp_lt) _) (fun w68 hb69 => ?_))
  have k70 := k62.call hb69
  have k71 := k63.call hb69
  have k72 := k64.call hb69
  have k73 := k65.call hb69
  have hbel74 := bel_call hbel66 hb69
  refine ⟨⟨k73, k72⟩, ?_⟩
  simp only [nz1, nz2, nz3]
  refine tk 4 17 (.bool false) rfl rfl (fun _ hw => run_neqW (((a % PP) ^ K1 % PP) * ((a % PP) ^ K1 % PP) % PP) (a % PP) (Nat.lt_trans (Nat.mod_lt _ (by decide)) pp_lt) (Nat.lt_trans (Nat.mod_lt _ (by decide)) pp_lt) false H1.out rfl rfl rfl) ⟨k73, k72⟩ ?_
  simp only [nz1, nz2, nz3]
  refine wpAnyH_done (by kernel_rfl) ?_ _
  go_step
  go_step
  go_step
  go_step
  go_step
  go_step
  go_step
  go_step
  have k75 := k70.drew
  have k76 := k71.drew
  have k77 := k72.drew
  have k78 := k73.drew
  have hbel79 := hbel74.drew
  refine wp_region_held_drew (S := fun w' => Blk w' (w38.heap.size) (ws ((a % PP) ^ K1 % PP)) 52 ∧ Blk w' (w18.heap.size) (ws (a % PP)) 52) (by kernel_rfl) ⟨k78, k77⟩ (fun _ => ?_)
  generalize w68.drew = wd80 at *
  refine tk 0 24 (.agg (ws ((a % PP) ^ K1 % PP))) rfl rfl (fun _ hw => run_row rfl rfl (hw.1) Tryd.underlying52 rfl (by rw [ws_sz]; exact info_w)) ⟨k78, k77⟩ ?_
  simp only [nz1, nz2, nz3]
  refine tk 1 25 (.agg (ws ((a % PP) ^ K1 % PP))) rfl rfl (fun _ hw => run_row rfl rfl (hw.1) Tryd.underlying52 rfl (by rw [ws_sz]; exact info_w)) ⟨k78, k77⟩ ?_
  simp only [nz1, nz2, nz3]
  refine tk 3 27 (.agg (ws (a % PP))) rfl rfl (fun _ hw => run_row rfl rfl (hw.2) Tryd.underlying52 rfl (by rw [ws_sz]; exact info_w)) ⟨k78, k77⟩ ?_
  simp only [nz1, nz2, nz3]
  refine one_ready 2 (by kernel_rfl) ?_
  refine opd rfl (wanted_none rfl) (w_enter 26 (.agg (ws (((a % PP) ^ K1 % PP) * ((a % PP) ^ K1 % PP) % PP))) rfl (run_multiply rfl rfl rfl) (multiply_any ((a % PP) ^ K1 % PP) ((a % PP) ^ K1 % PP) (Nat.lt_trans (Nat.mod_lt _ (by decide)) pp_lt) (Nat.lt_trans (Nat.mod_lt _ (by decide)) pp_lt) _) (fun w81 hb82 => ?_))
  have k83 := k75.call hb82
  have k84 := k76.call hb82
  have k85 := k77.call hb82
  have k86 := k78.call hb82
  have hbel87 := bel_call hbel79 hb82
  refine ⟨⟨k86, k85⟩, ?_⟩
  simp only [nz1, nz2, nz3]
  refine tk 4 28 (.bool false) rfl rfl (fun _ hw => run_neqW (((a % PP) ^ K1 % PP) * ((a % PP) ^ K1 % PP) % PP) (a % PP) (Nat.lt_trans (Nat.mod_lt _ (by decide)) pp_lt) (Nat.lt_trans (Nat.mod_lt _ (by decide)) pp_lt) false H1.out rfl rfl rfl) ⟨k86, k85⟩ ?_
  simp only [nz1, nz2, nz3]
  refine wpAnyH_done (by kernel_rfl) ?_ _
  go_step
  go_step
  go_step
  go_step
  go_step
  go_step
  go_step
  go_step
  go_step
  refine lv 30 (.pointer (some ⟨w38.heap.size, 0, none⟩)) rfl rfl (run_ixW0 rfl rfl) ?_
  simp only [nz1, nz2, nz3]
  refine lv 31 (.int .u64 (wd ((a % PP) ^ K1 % PP) 0 : Int)) rfl rfl (run_ld0 k86 rfl rfl) ?_
  simp only [nz1, nz2, nz3]
  refine lv 32 (.int .u64 ((((a % PP) ^ K1 % PP) % 2 : Nat) : Int)) rfl rfl (run_and1 ((a % PP) ^ K1 % PP) rfl rfl) ?_
  simp only [nz1, nz2, nz3]
  refine lv 33 (.bool true) rfl rfl (run_one rfl rfl H3.out) ?_
  simp only [nz1, nz2, nz3]
  go_step
  go_step
  go_step
  go_step
  have k88 := k83.drew
  have k89 := k84.drew
  have k90 := k85.drew
  have k91 := k86.drew
  have hbel92 := hbel87.drew
  refine wp_region_held_drew (S := fun w' => True) (by kernel_rfl) trivial (fun _ => ?_)
  generalize w81.drew = wd93 at *
  refine two_ready 0 1 (by kernel_rfl) ?_ ?_
  · refine opd rfl (wanted_none rfl) (w_enter 35 (.agg (ws PP)) rfl (run_order rfl) (order_pp _) (fun w94 hb95 => ?_))
    have k96 := k88.call hb95
    have k97 := k89.call hb95
    have k98 := k90.call hb95
    have k99 := k91.call hb95
    have hbel100 := bel_call hbel92 hb95
    refine ⟨trivial, ?_⟩
    simp only [nz1, nz2, nz3]
    refine one_ready 1 (by kernel_rfl) ?_
    refine opd rfl (wanted_none rfl) (w_value 36 (.agg (ws ((a % PP) ^ K1 % PP))) rfl (run_row rfl rfl k99 Tryd.underlying52 rfl (by rw [ws_sz]; exact info_w)) ⟨trivial, ?_⟩)
    simp only [nz1, nz2, nz3]
    refine one_ready 2 (by kernel_rfl) ?_
    refine opd rfl (wanted_none rfl) (w_enter 37 (.tuple #[.agg (ws (PP - ((a % PP) ^ K1 % PP))), .int .u64 (bo PP ((a % PP) ^ K1 % PP) 4 : Int)]) rfl (run_minus rfl rfl rfl) (minus_ge PP ((a % PP) ^ K1 % PP) ⟨Nat.le_of_lt (Nat.mod_lt _ (by decide)), Nat.le_trans (Nat.le_of_lt (Nat.mod_lt _ (by decide))) (Nat.le_of_lt pp_lt)⟩ _) (fun w101 hb102 => ?_))
    have k103 := k96.call hb102
    have k104 := k97.call hb102
    have k105 := k98.call hb102
    have k106 := k99.call hb102
    have hbel107 := bel_call hbel100 hb102
    refine ⟨trivial, ?_⟩
    simp only [nz1, nz2, nz3]
    refine tk 3 34 (.tuple #[.agg (ws (PP - ((a % PP) ^ K1 % PP))), .int .u64 (bo PP ((a % PP) ^ K1 % PP) 4 : Int)]) rfl rfl (fun _ hw => run_mv rfl rfl) trivial ?_
    simp only [nz1, nz2, nz3]
    refine tk 4 38 (.agg (ws (PP - ((a % PP) ^ K1 % PP)))) rfl rfl (fun _ hw => run_ex rfl rfl rfl) trivial ?_
    simp only [nz1, nz2, nz3]
    refine tk 5 39 (.int .u64 (bo PP ((a % PP) ^ K1 % PP) 4 : Int)) rfl rfl (fun _ hw => run_ex rfl rfl rfl) trivial ?_
    simp only [nz1, nz2, nz3]
    refine one_ready 6 (by kernel_rfl) ?_
    refine opd rfl (wanted_none rfl) (w_store 52 _ _ (w38.heap.size) (ws (PP - ((a % PP) ^ K1 % PP))) rfl rfl rfl rfl k106 (by rw [ws_sz]; exact info_w) ((ws_sz _).trans (ws_sz _).symm) (ws_one _) (fun w108 he109 => ?_))
    have k110 := k103.other hne47 he109
    have k111 := k104.other hne49 he109
    have k112 := k105.other hne51 he109
    have k113 := k106.set he109
    have hbel114 := bel_set hbel107 hg53 he109
    refine ⟨trivial, ?_⟩
    refine wpAnyH_done (by kernel_rfl) ?_ _
    go_step
    go_step
    go_step
    go_step
    refine lv 40 (.agg (ws (PP - ((a % PP) ^ K1 % PP)))) rfl rfl (run_row rfl rfl k113 Tryd.underlying52 rfl (by rw [ws_sz]; exact info_w)) ?_
    simp only [nz1, nz2, nz3]
    refine lst (wanted_none rfl) (w_enter 41 (.agg (bs (PP - ((a % PP) ^ K1 % PP)))) rfl (run_store rfl rfl) (store_any (PP - ((a % PP) ^ K1 % PP)) _) (fun w115 hb116 => ?_))
    have k117 := k110.call hb116
    have k118 := k111.call hb116
    have k119 := k112.call hb116
    have k120 := k113.call hb116
    have hbel121 := bel_call hbel114 hb116
    simp only [nz1, nz2, nz3]
    refine lst (wanted_none rfl) (w_store 23 _ _ (w1.heap.size) (bs (PP - ((a % PP) ^ K1 % PP))) rfl rfl rfl rfl k118 (by rw [bs_sz]; exact info_b) ((bs_sz _).trans (bs_sz _).symm) (bs_one _) (fun w122 he123 => ?_))
    have k124 := k117.other hne9 he123
    have k125 := k119.other hne28.symm he123
    have k126 := k120.other hne49.symm he123
    have k127 := k118.set he123
    have hbel128 := bel_set hbel121 hg11 he123
    refine lv 3 (.bool true) rfl rfl (run_as rfl rfl) ?_
    simp only [nz1, nz2, nz3]
    go_step
    go_step
    go_step
    go_wp2
    refine bodyPost_ret (results_cell_tmp rfl _ _ (w1.heap.size) 23 (bs (PP - ((a % PP) ^ K1 % PP))) (0, 0) _ (.bool true) rfl rfl k127 Tryd.underlying23 rfl (by rw [bs_sz]; exact info_b)) rfl ⟨rfl, hbel128⟩
  · refine opd rfl (wanted_none rfl) (w_value 36 (.agg (ws ((a % PP) ^ K1 % PP))) rfl (run_row rfl rfl k91 Tryd.underlying52 rfl (by rw [ws_sz]; exact info_w)) ⟨trivial, ?_⟩)
    simp only [nz1, nz2, nz3]
    refine one_ready 0 (by kernel_rfl) ?_
    refine opd rfl (wanted_none rfl) (w_enter 35 (.agg (ws PP)) rfl (run_order rfl) (order_pp _) (fun w129 hb130 => ?_))
    have k131 := k88.call hb130
    have k132 := k89.call hb130
    have k133 := k90.call hb130
    have k134 := k91.call hb130
    have hbel135 := bel_call hbel92 hb130
    refine ⟨trivial, ?_⟩
    simp only [nz1, nz2, nz3]
    refine one_ready 2 (by kernel_rfl) ?_
    refine opd rfl (wanted_none rfl) (w_enter 37 (.tuple #[.agg (ws (PP - ((a % PP) ^ K1 % PP))), .int .u64 (bo PP ((a % PP) ^ K1 % PP) 4 : Int)]) rfl (run_minus rfl rfl rfl) (minus_ge PP ((a % PP) ^ K1 % PP) ⟨Nat.le_of_lt (Nat.mod_lt _ (by decide)), Nat.le_trans (Nat.le_of_lt (Nat.mod_lt _ (by decide))) (Nat.le_of_lt pp_lt)⟩ _) (fun w136 hb137 => ?_))
    have k138 := k131.call hb137
    have k139 := k132.call hb137
    have k140 := k133.call hb137
    have k141 := k134.call hb137
    have hbel142 := bel_call hbel135 hb137
    refine ⟨trivial, ?_⟩
    simp only [nz1, nz2, nz3]
    refine tk 3 34 (.tuple #[.agg (ws (PP - ((a % PP) ^ K1 % PP))), .int .u64 (bo PP ((a % PP) ^ K1 % PP) 4 : Int)]) rfl rfl (fun _ hw => run_mv rfl rfl) trivial ?_
    simp only [nz1, nz2, nz3]
    refine tk 4 38 (.agg (ws (PP - ((a % PP) ^ K1 % PP)))) rfl rfl (fun _ hw => run_ex rfl rfl rfl) trivial ?_
    simp only [nz1, nz2, nz3]
    refine tk 5 39 (.int .u64 (bo PP ((a % PP) ^ K1 % PP) 4 : Int)) rfl rfl (fun _ hw => run_ex rfl rfl rfl) trivial ?_
    simp only [nz1, nz2, nz3]
    refine one_ready 6 (by kernel_rfl) ?_
    refine opd rfl (wanted_none rfl) (w_store 52 _ _ (w38.heap.size) (ws (PP - ((a % PP) ^ K1 % PP))) rfl rfl rfl rfl k141 (by rw [ws_sz]; exact info_w) ((ws_sz _).trans (ws_sz _).symm) (ws_one _) (fun w143 he144 => ?_))
    have k145 := k138.other hne47 he144
    have k146 := k139.other hne49 he144
    have k147 := k140.other hne51 he144
    have k148 := k141.set he144
    have hbel149 := bel_set hbel142 hg53 he144
    refine ⟨trivial, ?_⟩
    refine wpAnyH_done (by kernel_rfl) ?_ _
    go_step
    go_step
    go_step
    go_step
    refine lv 40 (.agg (ws (PP - ((a % PP) ^ K1 % PP)))) rfl rfl (run_row rfl rfl k148 Tryd.underlying52 rfl (by rw [ws_sz]; exact info_w)) ?_
    simp only [nz1, nz2, nz3]
    refine lst (wanted_none rfl) (w_enter 41 (.agg (bs (PP - ((a % PP) ^ K1 % PP)))) rfl (run_store rfl rfl) (store_any (PP - ((a % PP) ^ K1 % PP)) _) (fun w150 hb151 => ?_))
    have k152 := k145.call hb151
    have k153 := k146.call hb151
    have k154 := k147.call hb151
    have k155 := k148.call hb151
    have hbel156 := bel_call hbel149 hb151
    simp only [nz1, nz2, nz3]
    refine lst (wanted_none rfl) (w_store 23 _ _ (w1.heap.size) (bs (PP - ((a % PP) ^ K1 % PP))) rfl rfl rfl rfl k153 (by rw [bs_sz]; exact info_b) ((bs_sz _).trans (bs_sz _).symm) (bs_one _) (fun w157 he158 => ?_))
    have k159 := k152.other hne9 he158
    have k160 := k154.other hne28.symm he158
    have k161 := k155.other hne49.symm he158
    have k162 := k153.set he158
    have hbel163 := bel_set hbel156 hg11 he158
    refine lv 3 (.bool true) rfl rfl (run_as rfl rfl) ?_
    simp only [nz1, nz2, nz3]
    go_step
    go_step
    go_step
    go_wp2
    refine bodyPost_ret (results_cell_tmp rfl _ _ (w1.heap.size) 23 (bs (PP - ((a % PP) ^ K1 % PP))) (0, 0) _ (.bool true) rfl rfl k162 Tryd.underlying23 rfl (by rw [bs_sz]; exact info_b)) rfl ⟨rfl, hbel163⟩

set_option maxHeartbeats 1000000 in
theorem root_turn0 (a : Nat) (ha : a < MM) (h1 : decide (((a % PP) ^ K1 % PP) * ((a % PP) ^ K1 % PP) % PP = (a % PP)) = false) (h2 : decide ((((a % PP) ^ K1 % PP) * (2 ^ K2 % PP) % PP) * (((a % PP) ^ K1 % PP) * (2 ^ K2 % PP) % PP) % PP = (a % PP)) = true) (h3 : decide ((((a % PP) ^ K1 % PP) * (2 ^ K2 % PP) % PP) % 2 = 1) = false) (w : World) : Calls Tryd.prog 31 #[.agg (bs a)] w fun e w' => e = .returned (.tuple #[.agg (bs (((a % PP) ^ K1 % PP) * (2 ^ K2 % PP) % PP)), .bool true]) ∧ Below w.heap.size w w' := by
  have HA := Lib.hid ha
  clear ha
  have H1 := Lib.hid h1
  clear h1
  have H2 := Lib.hid h2
  clear h2
  have H3 := Lib.hid h3
  clear h3
  go_enter Tryd.func31, Tryd.ntmps31
  have hbel0 := Below.refl w.heap.size w
  go_step
  go_step
  go_step
  refine lst (wanted_none rfl) (w_alloc (c := bs a) (T := 23) 1 rfl (run_box rfl rfl) (fun w1 he2 => ?_))
  have k3 := Blk.new he2
  have hg4 : w.heap.size ≤ w.heap.size := hbel0.size
  have hbel5 := bel_alloc hbel0 he2
  simp only [nz1, nz2, nz3]
  refine lst (wanted_none rfl) (w_alloc (c := bs 0) (T := 23) 2 rfl (run_alN rfl) (fun w6 he7 => ?_))
  have hne9 : w.heap.size ≠ w1.heap.size := Nat.ne_of_lt k3.lt
  have k8 := k3.alloc he7
  have k10 := Blk.new he7
  have hg11 : w.heap.size ≤ w1.heap.size := hbel5.size
  have hbel12 := bel_alloc hbel5 he7
  simp only [nz1, nz2, nz3]
  refine lv 3 (.bool false) rfl rfl (run_as rfl rfl) ?_
  simp only [nz1, nz2, nz3]
  go_step
  go_step
  go_step
  go_step
  go_step
  refine lv 7 (.agg (bs a)) rfl rfl (run_row rfl rfl k8 Tryd.underlying23 rfl (by rw [bs_sz]; exact info_b)) ?_
  simp only [nz1, nz2, nz3]
  refine lst (wanted_none rfl) (w_enter 8 (.agg (ws a)) rfl (run_load rfl rfl) (load_any a _) (fun w13 hb14 => ?_))
  have k15 := k8.call hb14
  have k16 := k10.call hb14
  have hbel17 := bel_call hbel12 hb14
  simp only [nz1, nz2, nz3]
  refine lst (wanted_none rfl) (w_enter 9 (.agg (ws (a % PP))) rfl (run_rest rfl rfl) (rest_any a HA.out _) (fun w18 hb19 => ?_))
  have k20 := k15.call hb19
  have k21 := k16.call hb19
  have hbel22 := bel_call hbel17 hb19
  simp only [nz1, nz2, nz3]
  refine lst (wanted_none rfl) (w_alloc (c := ws 0) (T := 52) 4 rfl (run_alW rfl) (fun w23 he24 => ?_))
  have hne26 : w.heap.size ≠ w18.heap.size := Nat.ne_of_lt k20.lt
  have k25 := k20.alloc he24
  have hne28 : w1.heap.size ≠ w18.heap.size := Nat.ne_of_lt k21.lt
  have k27 := k21.alloc he24
  have k29 := Blk.new he24
  have hg30 : w.heap.size ≤ w18.heap.size := hbel22.size
  have hbel31 := bel_alloc hbel22 he24
  simp only [nz1, nz2, nz3]
  refine lst (wanted_none rfl) (w_store 52 _ _ (w18.heap.size) (ws (a % PP)) rfl rfl rfl rfl k29 (by rw [ws_sz]; exact info_w) ((ws_sz _).trans (ws_sz _).symm) (ws_one _) (fun w32 he33 => ?_))
  have k34 := k25.other hne26 he33
  have k35 := k27.other hne28 he33
  have k36 := k29.set he33
  have hbel37 := bel_set hbel31 hg30 he33
  go_step
  go_step
  go_step
  go_step
  go_step
  refine lv 10 (.agg (ws (a % PP))) rfl rfl (run_row rfl rfl k36 Tryd.underlying52 rfl (by rw [ws_sz]; exact info_w)) ?_
  simp only [nz1, nz2, nz3]
  refine lv 11 (.agg (ws K1)) rfl rfl (by unfold execOp; go_simp; rfl) ?_
  simp only [nz1, nz2, nz3]
  refine lst (wanted_none rfl) (w_enter 12 (.agg (ws ((a % PP) ^ K1 % PP))) rfl (run_raise rfl rfl rfl) (raise_any (a % PP) K1 (Nat.lt_trans (Nat.mod_lt _ (by decide)) pp_lt) (by decide) _) (fun w38 hb39 => ?_))
  have k40 := k34.call hb39
  have k41 := k35.call hb39
  have k42 := k36.call hb39
  have hbel43 := bel_call hbel37 hb39
  simp only [nz1, nz2, nz3]
  refine lst (wanted_none rfl) (w_alloc (c := ws 0) (T := 52) 5 rfl (run_alW rfl) (fun w44 he45 => ?_))
  have hne47 : w.heap.size ≠ w38.heap.size := Nat.ne_of_lt k40.lt
  have k46 := k40.alloc he45
  have hne49 : w1.heap.size ≠ w38.heap.size := Nat.ne_of_lt k41.lt
  have k48 := k41.alloc he45
  have hne51 : w18.heap.size ≠ w38.heap.size := Nat.ne_of_lt k42.lt
  have k50 := k42.alloc he45
  have k52 := Blk.new he45
  have hg53 : w.heap.size ≤ w38.heap.size := hbel43.size
  have hbel54 := bel_alloc hbel43 he45
  simp only [nz1, nz2, nz3]
  refine lst (wanted_none rfl) (w_store 52 _ _ (w38.heap.size) (ws ((a % PP) ^ K1 % PP)) rfl rfl rfl rfl k52 (by rw [ws_sz]; exact info_w) ((ws_sz _).trans (ws_sz _).symm) (ws_one _) (fun w55 he56 => ?_))
  have k57 := k46.other hne47 he56
  have k58 := k48.other hne49 he56
  have k59 := k50.other hne51 he56
  have k60 := k52.set he56
  have hbel61 := bel_set hbel54 hg53 he56
  go_step
  go_step
  go_step
  go_step
  go_step
  have k62 := k57.drew
  have k63 := k58.drew
  have k64 := k59.drew
  have k65 := k60.drew
  have hbel66 := hbel61.drew
  refine wp_region_held_drew (S := fun w' => Blk w' (w38.heap.size) (ws ((a % PP) ^ K1 % PP)) 52 ∧ Blk w' (w18.heap.size) (ws (a % PP)) 52) (by kernel_rfl) ⟨k65, k64⟩ (fun _ => ?_)
  generalize w55.drew = wd67 at *
  refine tk 0 13 (.agg (ws ((a % PP) ^ K1 % PP))) rfl rfl (fun _ hw => run_row rfl rfl (hw.1) Tryd.underlying52 rfl (by rw [ws_sz]; exact info_w)) ⟨k65, k64⟩ ?_
  simp only [nz1, nz2, nz3]
  refine tk 1 14 (.agg (ws ((a % PP) ^ K1 % PP))) rfl rfl (fun _ hw => run_row rfl rfl (hw.1) Tryd.underlying52 rfl (by rw [ws_sz]; exact info_w)) ⟨k65, k64⟩ ?_
  simp only [nz1, nz2, nz3]
  refine tk 3 16 (.agg (ws (a % PP))) rfl rfl (fun _ hw => run_row rfl rfl (hw.2) Tryd.underlying52 rfl (by rw [ws_sz]; exact info_w)) ⟨k65, k64⟩ ?_
  simp only [nz1, nz2, nz3]
  refine one_ready 2 (by kernel_rfl) ?_
  refine opd rfl (wanted_none rfl) (w_enter 15 (.agg (ws (((a % PP) ^ K1 % PP) * ((a % PP) ^ K1 % PP) % PP))) rfl (run_multiply rfl rfl rfl) (multiply_any ((a % PP) ^ K1 % PP) ((a % PP) ^ K1 % PP) (Nat.lt_trans (Nat.mod_lt _ (by decide)) pp_lt) (Nat.lt_trans (Nat.mod_lt _ (by decide)) pp_lt) _) (fun w68 hb69 => ?_))
  have k70 := k62.call hb69
  have k71 := k63.call hb69
  have k72 := k64.call hb69
  have k73 := k65.call hb69
  have hbel74 := bel_call hbel66 hb69
  refine ⟨⟨k73, k72⟩, ?_⟩
  simp only [nz1, nz2, nz3]
  refine tk 4 17 (.bool true) rfl rfl (fun _ hw => run_neqW (((a % PP) ^ K1 % PP) * ((a % PP) ^ K1 % PP) % PP) (a % PP) (Nat.lt_trans (Nat.mod_lt _ (by decide)) pp_lt) (Nat.lt_trans (Nat.mod_lt _ (by decide)) pp_lt) true H1.out rfl rfl rfl) ⟨k73, k72⟩ ?_
  simp only [nz1, nz2, nz3]
  refine wpAnyH_done (by kernel_rfl) ?_ _
  go_step
  go_step
  go_step
  go_step
  go_step
  refine lv 18 (.agg (ws 2)) rfl rfl (by unfold execOp; go_simp; rfl) ?_
  simp only [nz1, nz2, nz3]
  refine lv 19 (.agg (ws K2)) rfl rfl (by unfold execOp; go_simp; rfl) ?_
  simp only [nz1, nz2, nz3]
  refine lst (wanted_none rfl) (w_enter 20 (.agg (ws (2 ^ K2 % PP))) rfl (run_raise rfl rfl rfl) (raise_any 2 K2 (by decide) (by decide) _) (fun w75 hb76 => ?_))
  have k77 := k70.call hb76
  have k78 := k71.call hb76
  have k79 := k72.call hb76
  have k80 := k73.call hb76
  have hbel81 := bel_call hbel74 hb76
  simp only [nz1, nz2, nz3]
  refine lst (wanted_none rfl) (w_alloc (c := ws 0) (T := 52) 6 rfl (run_alW rfl) (fun w82 he83 => ?_))
  have hne85 : w.heap.size ≠ w75.heap.size := Nat.ne_of_lt k77.lt
  have k84 := k77.alloc he83
  have hne87 : w1.heap.size ≠ w75.heap.size := Nat.ne_of_lt k78.lt
  have k86 := k78.alloc he83
  have hne89 : w18.heap.size ≠ w75.heap.size := Nat.ne_of_lt k79.lt
  have k88 := k79.alloc he83
  have hne91 : w38.heap.size ≠ w75.heap.size := Nat.ne_of_lt k80.lt
  have k90 := k80.alloc he83
  have k92 := Blk.new he83
  have hg93 : w.heap.size ≤ w75.heap.size := hbel81.size
  have hbel94 := bel_alloc hbel81 he83
  simp only [nz1, nz2, nz3]
  refine lst (wanted_none rfl) (w_store 52 _ _ (w75.heap.size) (ws (2 ^ K2 % PP)) rfl rfl rfl rfl k92 (by rw [ws_sz]; exact info_w) ((ws_sz _).trans (ws_sz _).symm) (ws_one _) (fun w95 he96 => ?_))
  have k97 := k84.other hne85 he96
  have k98 := k86.other hne87 he96
  have k99 := k88.other hne89 he96
  have k100 := k90.other hne91 he96
  have k101 := k92.set he96
  have hbel102 := bel_set hbel94 hg93 he96
  go_step
  go_step
  go_step
  go_step
  refine lv 21 (.agg (ws ((a % PP) ^ K1 % PP))) rfl rfl (run_row rfl rfl k100 Tryd.underlying52 rfl (by rw [ws_sz]; exact info_w)) ?_
  simp only [nz1, nz2, nz3]
  refine lv 22 (.agg (ws (2 ^ K2 % PP))) rfl rfl (run_row rfl rfl k101 Tryd.underlying52 rfl (by rw [ws_sz]; exact info_w)) ?_
  simp only [nz1, nz2, nz3]
  refine lst (wanted_none rfl) (w_enter 23 (.agg (ws (((a % PP) ^ K1 % PP) * (2 ^ K2 % PP) % PP))) rfl (run_multiply rfl rfl rfl) (multiply_any ((a % PP) ^ K1 % PP) (2 ^ K2 % PP) (Nat.lt_trans (Nat.mod_lt _ (by decide)) pp_lt) (Nat.lt_trans (Nat.mod_lt _ (by decide)) pp_lt) _) (fun w103 hb104 => ?_))
  have k105 := k97.call hb104
  have k106 := k98.call hb104
  have k107 := k99.call hb104
  have k108 := k100.call hb104
  have k109 := k101.call hb104
  have hbel110 := bel_call hbel102 hb104
  simp only [nz1, nz2, nz3]
  refine lst (wanted_none rfl) (w_store 52 _ _ (w38.heap.size) (ws (((a % PP) ^ K1 % PP) * (2 ^ K2 % PP) % PP)) rfl rfl rfl rfl k108 (by rw [ws_sz]; exact info_w) ((ws_sz _).trans (ws_sz _).symm) (ws_one _) (fun w111 he112 => ?_))
  have k113 := k105.other hne47 he112
  have k114 := k106.other hne49 he112
  have k115 := k107.other hne51 he112
  have k116 := k109.other hne91.symm he112
  have k117 := k108.set he112
  have hbel118 := bel_set hbel110 hg53 he112
  go_step
  go_step
  go_step
  go_step
  go_step
  have k119 := k113.drew
  have k120 := k114.drew
  have k121 := k115.drew
  have k122 := k117.drew
  have k123 := k116.drew
  have hbel124 := hbel118.drew
  refine wp_region_held_drew (S := fun w' => Blk w' (w38.heap.size) (ws (((a % PP) ^ K1 % PP) * (2 ^ K2 % PP) % PP)) 52 ∧ Blk w' (w18.heap.size) (ws (a % PP)) 52) (by kernel_rfl) ⟨k122, k121⟩ (fun _ => ?_)
  generalize w111.drew = wd125 at *
  refine tk 0 24 (.agg (ws (((a % PP) ^ K1 % PP) * (2 ^ K2 % PP) % PP))) rfl rfl (fun _ hw => run_row rfl rfl (hw.1) Tryd.underlying52 rfl (by rw [ws_sz]; exact info_w)) ⟨k122, k121⟩ ?_
  simp only [nz1, nz2, nz3]
  refine tk 1 25 (.agg (ws (((a % PP) ^ K1 % PP) * (2 ^ K2 % PP) % PP))) rfl rfl (fun _ hw => run_row rfl rfl (hw.1) Tryd.underlying52 rfl (by rw [ws_sz]; exact info_w)) ⟨k122, k121⟩ ?_
  simp only [nz1, nz2, nz3]
  refine tk 3 27 (.agg (ws (a % PP))) rfl rfl (fun _ hw => run_row rfl rfl (hw.2) Tryd.underlying52 rfl (by rw [ws_sz]; exact info_w)) ⟨k122, k121⟩ ?_
  simp only [nz1, nz2, nz3]
  refine one_ready 2 (by kernel_rfl) ?_
  refine opd rfl (wanted_none rfl) (w_enter 26 (.agg (ws ((((a % PP) ^ K1 % PP) * (2 ^ K2 % PP) % PP) * (((a % PP) ^ K1 % PP) * (2 ^ K2 % PP) % PP) % PP))) rfl (run_multiply rfl rfl rfl) (multiply_any (((a % PP) ^ K1 % PP) * (2 ^ K2 % PP) % PP) (((a % PP) ^ K1 % PP) * (2 ^ K2 % PP) % PP) (Nat.lt_trans (Nat.mod_lt _ (by decide)) pp_lt) (Nat.lt_trans (Nat.mod_lt _ (by decide)) pp_lt) _) (fun w126 hb127 => ?_))
  have k128 := k119.call hb127
  have k129 := k120.call hb127
  have k130 := k121.call hb127
  have k131 := k122.call hb127
  have k132 := k123.call hb127
  have hbel133 := bel_call hbel124 hb127
  refine ⟨⟨k131, k130⟩, ?_⟩
  simp only [nz1, nz2, nz3]
  refine tk 4 28 (.bool false) rfl rfl (fun _ hw => run_neqW ((((a % PP) ^ K1 % PP) * (2 ^ K2 % PP) % PP) * (((a % PP) ^ K1 % PP) * (2 ^ K2 % PP) % PP) % PP) (a % PP) (Nat.lt_trans (Nat.mod_lt _ (by decide)) pp_lt) (Nat.lt_trans (Nat.mod_lt _ (by decide)) pp_lt) false H2.out rfl rfl rfl) ⟨k131, k130⟩ ?_
  simp only [nz1, nz2, nz3]
  refine wpAnyH_done (by kernel_rfl) ?_ _
  go_step
  go_step
  go_step
  go_step
  go_step
  go_step
  go_step
  go_step
  go_step
  refine lv 30 (.pointer (some ⟨w38.heap.size, 0, none⟩)) rfl rfl (run_ixW0 rfl rfl) ?_
  simp only [nz1, nz2, nz3]
  refine lv 31 (.int .u64 (wd (((a % PP) ^ K1 % PP) * (2 ^ K2 % PP) % PP) 0 : Int)) rfl rfl (run_ld0 k131 rfl rfl) ?_
  simp only [nz1, nz2, nz3]
  refine lv 32 (.int .u64 (((((a % PP) ^ K1 % PP) * (2 ^ K2 % PP) % PP) % 2 : Nat) : Int)) rfl rfl (run_and1 (((a % PP) ^ K1 % PP) * (2 ^ K2 % PP) % PP) rfl rfl) ?_
  simp only [nz1, nz2, nz3]
  refine lv 33 (.bool false) rfl rfl (run_one rfl rfl H3.out) ?_
  simp only [nz1, nz2, nz3]
  go_step
  go_step
  go_step
  go_step
  go_step
  go_step
  go_step
  go_step
  go_step
  refine lv 40 (.agg (ws (((a % PP) ^ K1 % PP) * (2 ^ K2 % PP) % PP))) rfl rfl (run_row rfl rfl k131 Tryd.underlying52 rfl (by rw [ws_sz]; exact info_w)) ?_
  simp only [nz1, nz2, nz3]
  refine lst (wanted_none rfl) (w_enter 41 (.agg (bs (((a % PP) ^ K1 % PP) * (2 ^ K2 % PP) % PP))) rfl (run_store rfl rfl) (store_any (((a % PP) ^ K1 % PP) * (2 ^ K2 % PP) % PP) _) (fun w134 hb135 => ?_))
  have k136 := k128.call hb135
  have k137 := k129.call hb135
  have k138 := k130.call hb135
  have k139 := k131.call hb135
  have k140 := k132.call hb135
  have hbel141 := bel_call hbel133 hb135
  simp only [nz1, nz2, nz3]
  refine lst (wanted_none rfl) (w_store 23 _ _ (w1.heap.size) (bs (((a % PP) ^ K1 % PP) * (2 ^ K2 % PP) % PP)) rfl rfl rfl rfl k137 (by rw [bs_sz]; exact info_b) ((bs_sz _).trans (bs_sz _).symm) (bs_one _) (fun w142 he143 => ?_))
  have k144 := k136.other hne9 he143
  have k145 := k138.other hne28.symm he143
  have k146 := k139.other hne49.symm he143
  have k147 := k140.other hne87.symm he143
  have k148 := k137.set he143
  have hbel149 := bel_set hbel141 hg11 he143
  refine lv 3 (.bool true) rfl rfl (run_as rfl rfl) ?_
  simp only [nz1, nz2, nz3]
  go_step
  go_step
  go_step
  go_wp2
  refine bodyPost_ret (results_cell_tmp rfl _ _ (w1.heap.size) 23 (bs (((a % PP) ^ K1 % PP) * (2 ^ K2 % PP) % PP)) (0, 0) _ (.bool true) rfl rfl k148 Tryd.underlying23 rfl (by rw [bs_sz]; exact info_b)) rfl ⟨rfl, hbel149⟩

set_option maxHeartbeats 1000000 in
theorem root_turn1 (a : Nat) (ha : a < MM) (h1 : decide (((a % PP) ^ K1 % PP) * ((a % PP) ^ K1 % PP) % PP = (a % PP)) = false) (h2 : decide ((((a % PP) ^ K1 % PP) * (2 ^ K2 % PP) % PP) * (((a % PP) ^ K1 % PP) * (2 ^ K2 % PP) % PP) % PP = (a % PP)) = true) (h3 : decide ((((a % PP) ^ K1 % PP) * (2 ^ K2 % PP) % PP) % 2 = 1) = true) (w : World) : Calls Tryd.prog 31 #[.agg (bs a)] w fun e w' => e = .returned (.tuple #[.agg (bs (PP - (((a % PP) ^ K1 % PP) * (2 ^ K2 % PP) % PP))), .bool true]) ∧ Below w.heap.size w w' := by
  have HA := Lib.hid ha
  clear ha
  have H1 := Lib.hid h1
  clear h1
  have H2 := Lib.hid h2
  clear h2
  have H3 := Lib.hid h3
  clear h3
  go_enter Tryd.func31, Tryd.ntmps31
  have hbel0 := Below.refl w.heap.size w
  go_step
  go_step
  go_step
  refine lst (wanted_none rfl) (w_alloc (c := bs a) (T := 23) 1 rfl (run_box rfl rfl) (fun w1 he2 => ?_))
  have k3 := Blk.new he2
  have hg4 : w.heap.size ≤ w.heap.size := hbel0.size
  have hbel5 := bel_alloc hbel0 he2
  simp only [nz1, nz2, nz3]
  refine lst (wanted_none rfl) (w_alloc (c := bs 0) (T := 23) 2 rfl (run_alN rfl) (fun w6 he7 => ?_))
  have hne9 : w.heap.size ≠ w1.heap.size := Nat.ne_of_lt k3.lt
  have k8 := k3.alloc he7
  have k10 := Blk.new he7
  have hg11 : w.heap.size ≤ w1.heap.size := hbel5.size
  have hbel12 := bel_alloc hbel5 he7
  simp only [nz1, nz2, nz3]
  refine lv 3 (.bool false) rfl rfl (run_as rfl rfl) ?_
  simp only [nz1, nz2, nz3]
  go_step
  go_step
  go_step
  go_step
  go_step
  refine lv 7 (.agg (bs a)) rfl rfl (run_row rfl rfl k8 Tryd.underlying23 rfl (by rw [bs_sz]; exact info_b)) ?_
  simp only [nz1, nz2, nz3]
  refine lst (wanted_none rfl) (w_enter 8 (.agg (ws a)) rfl (run_load rfl rfl) (load_any a _) (fun w13 hb14 => ?_))
  have k15 := k8.call hb14
  have k16 := k10.call hb14
  have hbel17 := bel_call hbel12 hb14
  simp only [nz1, nz2, nz3]
  refine lst (wanted_none rfl) (w_enter 9 (.agg (ws (a % PP))) rfl (run_rest rfl rfl) (rest_any a HA.out _) (fun w18 hb19 => ?_))
  have k20 := k15.call hb19
  have k21 := k16.call hb19
  have hbel22 := bel_call hbel17 hb19
  simp only [nz1, nz2, nz3]
  refine lst (wanted_none rfl) (w_alloc (c := ws 0) (T := 52) 4 rfl (run_alW rfl) (fun w23 he24 => ?_))
  have hne26 : w.heap.size ≠ w18.heap.size := Nat.ne_of_lt k20.lt
  have k25 := k20.alloc he24
  have hne28 : w1.heap.size ≠ w18.heap.size := Nat.ne_of_lt k21.lt
  have k27 := k21.alloc he24
  have k29 := Blk.new he24
  have hg30 : w.heap.size ≤ w18.heap.size := hbel22.size
  have hbel31 := bel_alloc hbel22 he24
  simp only [nz1, nz2, nz3]
  refine lst (wanted_none rfl) (w_store 52 _ _ (w18.heap.size) (ws (a % PP)) rfl rfl rfl rfl k29 (by rw [ws_sz]; exact info_w) ((ws_sz _).trans (ws_sz _).symm) (ws_one _) (fun w32 he33 => ?_))
  have k34 := k25.other hne26 he33
  have k35 := k27.other hne28 he33
  have k36 := k29.set he33
  have hbel37 := bel_set hbel31 hg30 he33
  go_step
  go_step
  go_step
  go_step
  go_step
  refine lv 10 (.agg (ws (a % PP))) rfl rfl (run_row rfl rfl k36 Tryd.underlying52 rfl (by rw [ws_sz]; exact info_w)) ?_
  simp only [nz1, nz2, nz3]
  refine lv 11 (.agg (ws K1)) rfl rfl (by unfold execOp; go_simp; rfl) ?_
  simp only [nz1, nz2, nz3]
  refine lst (wanted_none rfl) (w_enter 12 (.agg (ws ((a % PP) ^ K1 % PP))) rfl (run_raise rfl rfl rfl) (raise_any (a % PP) K1 (Nat.lt_trans (Nat.mod_lt _ (by decide)) pp_lt) (by decide) _) (fun w38 hb39 => ?_))
  have k40 := k34.call hb39
  have k41 := k35.call hb39
  have k42 := k36.call hb39
  have hbel43 := bel_call hbel37 hb39
  simp only [nz1, nz2, nz3]
  refine lst (wanted_none rfl) (w_alloc (c := ws 0) (T := 52) 5 rfl (run_alW rfl) (fun w44 he45 => ?_))
  have hne47 : w.heap.size ≠ w38.heap.size := Nat.ne_of_lt k40.lt
  have k46 := k40.alloc he45
  have hne49 : w1.heap.size ≠ w38.heap.size := Nat.ne_of_lt k41.lt
  have k48 := k41.alloc he45
  have hne51 : w18.heap.size ≠ w38.heap.size := Nat.ne_of_lt k42.lt
  have k50 := k42.alloc he45
  have k52 := Blk.new he45
  have hg53 : w.heap.size ≤ w38.heap.size := hbel43.size
  have hbel54 := bel_alloc hbel43 he45
  simp only [nz1, nz2, nz3]
  refine lst (wanted_none rfl) (w_store 52 _ _ (w38.heap.size) (ws ((a % PP) ^ K1 % PP)) rfl rfl rfl rfl k52 (by rw [ws_sz]; exact info_w) ((ws_sz _).trans (ws_sz _).symm) (ws_one _) (fun w55 he56 => ?_))
  have k57 := k46.other hne47 he56
  have k58 := k48.other hne49 he56
  have k59 := k50.other hne51 he56
  have k60 := k52.set he56
  have hbel61 := bel_set hbel54 hg53 he56
  go_step
  go_step
  go_step
  go_step
  go_step
  have k62 := k57.drew
  have k63 := k58.drew
  have k64 := k59.drew
  have k65 := k60.drew
  have hbel66 := hbel61.drew
  refine wp_region_held_drew (S := fun w' => Blk w' (w38.heap.size) (ws ((a % PP) ^ K1 % PP)) 52 ∧ Blk w' (w18.heap.size) (ws (a % PP)) 52) (by kernel_rfl) ⟨k65, k64⟩ (fun _ => ?_)
  generalize w55.drew = wd67 at *
  refine tk 0 13 (.agg (ws ((a % PP) ^ K1 % PP))) rfl rfl (fun _ hw => run_row rfl rfl (hw.1) Tryd.underlying52 rfl (by rw [ws_sz]; exact info_w)) ⟨k65, k64⟩ ?_
  simp only [nz1, nz2, nz3]
  refine tk 1 14 (.agg (ws ((a % PP) ^ K1 % PP))) rfl rfl (fun _ hw => run_row rfl rfl (hw.1) Tryd.underlying52 rfl (by rw [ws_sz]; exact info_w)) ⟨k65, k64⟩ ?_
  simp only [nz1, nz2, nz3]
  refine tk 3 16 (.agg (ws (a % PP))) rfl rfl (fun _ hw => run_row rfl rfl (hw.2) Tryd.underlying52 rfl (by rw [ws_sz]; exact info_w)) ⟨k65, k64⟩ ?_
  simp only [nz1, nz2, nz3]
  refine one_ready 2 (by kernel_rfl) ?_
  refine opd rfl (wanted_none rfl) (w_enter 15 (.agg (ws (((a % PP) ^ K1 % PP) * ((a % PP) ^ K1 % PP) % PP))) rfl (run_multiply rfl rfl rfl) (multiply_any ((a % PP) ^ K1 % PP) ((a % PP) ^ K1 % PP) (Nat.lt_trans (Nat.mod_lt _ (by decide)) pp_lt) (Nat.lt_trans (Nat.mod_lt _ (by decide)) pp_lt) _) (fun w68 hb69 => ?_))
  have k70 := k62.call hb69
  have k71 := k63.call hb69
  have k72 := k64.call hb69
  have k73 := k65.call hb69
  have hbel74 := bel_call hbel66 hb69
  refine ⟨⟨k73, k72⟩, ?_⟩
  simp only [nz1, nz2, nz3]
  refine tk 4 17 (.bool true) rfl rfl (fun _ hw => run_neqW (((a % PP) ^ K1 % PP) * ((a % PP) ^ K1 % PP) % PP) (a % PP) (Nat.lt_trans (Nat.mod_lt _ (by decide)) pp_lt) (Nat.lt_trans (Nat.mod_lt _ (by decide)) pp_lt) true H1.out rfl rfl rfl) ⟨k73, k72⟩ ?_
  simp only [nz1, nz2, nz3]
  refine wpAnyH_done (by kernel_rfl) ?_ _
  go_step
  go_step
  go_step
  go_step
  go_step
  refine lv 18 (.agg (ws 2)) rfl rfl (by unfold execOp; go_simp; rfl) ?_
  simp only [nz1, nz2, nz3]
  refine lv 19 (.agg (ws K2)) rfl rfl (by unfold execOp; go_simp; rfl) ?_
  simp only [nz1, nz2, nz3]
  refine lst (wanted_none rfl) (w_enter 20 (.agg (ws (2 ^ K2 % PP))) rfl (run_raise rfl rfl rfl) (raise_any 2 K2 (by decide) (by decide) _) (fun w75 hb76 => ?_))
  have k77 := k70.call hb76
  have k78 := k71.call hb76
  have k79 := k72.call hb76
  have k80 := k73.call hb76
  have hbel81 := bel_call hbel74 hb76
  simp only [nz1, nz2, nz3]
  refine lst (wanted_none rfl) (w_alloc (c := ws 0) (T := 52) 6 rfl (run_alW rfl) (fun w82 he83 => ?_))
  have hne85 : w.heap.size ≠ w75.heap.size := Nat.ne_of_lt k77.lt
  have k84 := k77.alloc he83
  have hne87 : w1.heap.size ≠ w75.heap.size := Nat.ne_of_lt k78.lt
  have k86 := k78.alloc he83
  have hne89 : w18.heap.size ≠ w75.heap.size := Nat.ne_of_lt k79.lt
  have k88 := k79.alloc he83
  have hne91 : w38.heap.size ≠ w75.heap.size := Nat.ne_of_lt k80.lt
  have k90 := k80.alloc he83
  have k92 := Blk.new he83
  have hg93 : w.heap.size ≤ w75.heap.size := hbel81.size
  have hbel94 := bel_alloc hbel81 he83
  simp only [nz1, nz2, nz3]
  refine lst (wanted_none rfl) (w_store 52 _ _ (w75.heap.size) (ws (2 ^ K2 % PP)) rfl rfl rfl rfl k92 (by rw [ws_sz]; exact info_w) ((ws_sz _).trans (ws_sz _).symm) (ws_one _) (fun w95 he96 => ?_))
  have k97 := k84.other hne85 he96
  have k98 := k86.other hne87 he96
  have k99 := k88.other hne89 he96
  have k100 := k90.other hne91 he96
  have k101 := k92.set he96
  have hbel102 := bel_set hbel94 hg93 he96
  go_step
  go_step
  go_step
  go_step
  refine lv 21 (.agg (ws ((a % PP) ^ K1 % PP))) rfl rfl (run_row rfl rfl k100 Tryd.underlying52 rfl (by rw [ws_sz]; exact info_w)) ?_
  simp only [nz1, nz2, nz3]
  refine lv 22 (.agg (ws (2 ^ K2 % PP))) rfl rfl (run_row rfl rfl k101 Tryd.underlying52 rfl (by rw [ws_sz]; exact info_w)) ?_
  simp only [nz1, nz2, nz3]
  refine lst (wanted_none rfl) (w_enter 23 (.agg (ws (((a % PP) ^ K1 % PP) * (2 ^ K2 % PP) % PP))) rfl (run_multiply rfl rfl rfl) (multiply_any ((a % PP) ^ K1 % PP) (2 ^ K2 % PP) (Nat.lt_trans (Nat.mod_lt _ (by decide)) pp_lt) (Nat.lt_trans (Nat.mod_lt _ (by decide)) pp_lt) _) (fun w103 hb104 => ?_))
  have k105 := k97.call hb104
  have k106 := k98.call hb104
  have k107 := k99.call hb104
  have k108 := k100.call hb104
  have k109 := k101.call hb104
  have hbel110 := bel_call hbel102 hb104
  simp only [nz1, nz2, nz3]
  refine lst (wanted_none rfl) (w_store 52 _ _ (w38.heap.size) (ws (((a % PP) ^ K1 % PP) * (2 ^ K2 % PP) % PP)) rfl rfl rfl rfl k108 (by rw [ws_sz]; exact info_w) ((ws_sz _).trans (ws_sz _).symm) (ws_one _) (fun w111 he112 => ?_))
  have k113 := k105.other hne47 he112
  have k114 := k106.other hne49 he112
  have k115 := k107.other hne51 he112
  have k116 := k109.other hne91.symm he112
  have k117 := k108.set he112
  have hbel118 := bel_set hbel110 hg53 he112
  go_step
  go_step
  go_step
  go_step
  go_step
  have k119 := k113.drew
  have k120 := k114.drew
  have k121 := k115.drew
  have k122 := k117.drew
  have k123 := k116.drew
  have hbel124 := hbel118.drew
  refine wp_region_held_drew (S := fun w' => Blk w' (w38.heap.size) (ws (((a % PP) ^ K1 % PP) * (2 ^ K2 % PP) % PP)) 52 ∧ Blk w' (w18.heap.size) (ws (a % PP)) 52) (by kernel_rfl) ⟨k122, k121⟩ (fun _ => ?_)
  generalize w111.drew = wd125 at *
  refine tk 0 24 (.agg (ws (((a % PP) ^ K1 % PP) * (2 ^ K2 % PP) % PP))) rfl rfl (fun _ hw => run_row rfl rfl (hw.1) Tryd.underlying52 rfl (by rw [ws_sz]; exact info_w)) ⟨k122, k121⟩ ?_
  simp only [nz1, nz2, nz3]
  refine tk 1 25 (.agg (ws (((a % PP) ^ K1 % PP) * (2 ^ K2 % PP) % PP))) rfl rfl (fun _ hw => run_row rfl rfl (hw.1) Tryd.underlying52 rfl (by rw [ws_sz]; exact info_w)) ⟨k122, k121⟩ ?_
  simp only [nz1, nz2, nz3]
  refine tk 3 27 (.agg (ws (a % PP))) rfl rfl (fun _ hw => run_row rfl rfl (hw.2) Tryd.underlying52 rfl (by rw [ws_sz]; exact info_w)) ⟨k122, k121⟩ ?_
  simp only [nz1, nz2, nz3]
  refine one_ready 2 (by kernel_rfl) ?_
  refine opd rfl (wanted_none rfl) (w_enter 26 (.agg (ws ((((a % PP) ^ K1 % PP) * (2 ^ K2 % PP) % PP) * (((a % PP) ^ K1 % PP) * (2 ^ K2 % PP) % PP) % PP))) rfl (run_multiply rfl rfl rfl) (multiply_any (((a % PP) ^ K1 % PP) * (2 ^ K2 % PP) % PP) (((a % PP) ^ K1 % PP) * (2 ^ K2 % PP) % PP) (Nat.lt_trans (Nat.mod_lt _ (by decide)) pp_lt) (Nat.lt_trans (Nat.mod_lt _ (by decide)) pp_lt) _) (fun w126 hb127 => ?_))
  have k128 := k119.call hb127
  have k129 := k120.call hb127
  have k130 := k121.call hb127
  have k131 := k122.call hb127
  have k132 := k123.call hb127
  have hbel133 := bel_call hbel124 hb127
  refine ⟨⟨k131, k130⟩, ?_⟩
  simp only [nz1, nz2, nz3]
  refine tk 4 28 (.bool false) rfl rfl (fun _ hw => run_neqW ((((a % PP) ^ K1 % PP) * (2 ^ K2 % PP) % PP) * (((a % PP) ^ K1 % PP) * (2 ^ K2 % PP) % PP) % PP) (a % PP) (Nat.lt_trans (Nat.mod_lt _ (by decide)) pp_lt) (Nat.lt_trans (Nat.mod_lt _ (by decide)) pp_lt) false H2.out rfl rfl rfl) ⟨k131, k130⟩ ?_
  simp only [nz1, nz2, nz3]
  refine wpAnyH_done (by kernel_rfl) ?_ _
  go_step
  go_step
  go_step
  go_step
  go_step
  go_step
  go_step
  go_step
  go_step
  refine lv 30 (.pointer (some ⟨w38.heap.size, 0, none⟩)) rfl rfl (run_ixW0 rfl rfl) ?_
  simp only [nz1, nz2, nz3]
  refine lv 31 (.int .u64 (wd (((a % PP) ^ K1 % PP) * (2 ^ K2 % PP) % PP) 0 : Int)) rfl rfl (run_ld0 k131 rfl rfl) ?_
  simp only [nz1, nz2, nz3]
  refine lv 32 (.int .u64 (((((a % PP) ^ K1 % PP) * (2 ^ K2 % PP) % PP) % 2 : Nat) : Int)) rfl rfl (run_and1 (((a % PP) ^ K1 % PP) * (2 ^ K2 % PP) % PP) rfl rfl) ?_
  simp only [nz1, nz2, nz3]
  refine lv 33 (.bool true) rfl rfl (run_one rfl rfl H3.out) ?_
  simp only [nz1, nz2, nz3]
  go_step
  go_step
  go_step
  go_step
  have k134 := k128.drew
  have k135 := k129.drew
  have k136 := k130.drew
  have k137 := k131.drew
  have k138 := k132.drew
  have hbel139 := hbel133.drew
  refine wp_region_held_drew (S := fun w' => True) (by kernel_rfl) trivial (fun _ => ?_)
  generalize w126.drew = wd140 at *
  refine two_ready 0 1 (by kernel_rfl) ?_ ?_
  · refine opd rfl (wanted_none rfl) (w_enter 35 (.agg (ws PP)) rfl (run_order rfl) (order_pp _) (fun w141 hb142 => ?_))
    have k143 := k134.call hb142
    have k144 := k135.call hb142
    have k145 := k136.call hb142
    have k146 := k137.call hb142
    have k147 := k138.call hb142
    have hbel148 := bel_call hbel139 hb142
    refine ⟨trivial, ?_⟩
    simp only [nz1, nz2, nz3]
    refine one_ready 1 (by kernel_rfl) ?_
    refine opd rfl (wanted_none rfl) (w_value 36 (.agg (ws (((a % PP) ^ K1 % PP) * (2 ^ K2 % PP) % PP))) rfl (run_row rfl rfl k146 Tryd.underlying52 rfl (by rw [ws_sz]; exact info_w)) ⟨trivial, ?_⟩)
    simp only [nz1, nz2, nz3]
    refine one_ready 2 (by kernel_rfl) ?_
    refine opd rfl (wanted_none rfl) (w_enter 37 (.tuple #[.agg (ws (PP - (((a % PP) ^ K1 % PP) * (2 ^ K2 % PP) % PP))), .int .u64 (bo PP (((a % PP) ^ K1 % PP) * (2 ^ K2 % PP) % PP) 4 : Int)]) rfl (run_minus rfl rfl rfl) (minus_ge PP (((a % PP) ^ K1 % PP) * (2 ^ K2 % PP) % PP) ⟨Nat.le_of_lt (Nat.mod_lt _ (by decide)), Nat.le_trans (Nat.le_of_lt (Nat.mod_lt _ (by decide))) (Nat.le_of_lt pp_lt)⟩ _) (fun w149 hb150 => ?_))
    have k151 := k143.call hb150
    have k152 := k144.call hb150
    have k153 := k145.call hb150
    have k154 := k146.call hb150
    have k155 := k147.call hb150
    have hbel156 := bel_call hbel148 hb150
    refine ⟨trivial, ?_⟩
    simp only [nz1, nz2, nz3]
    refine tk 3 34 (.tuple #[.agg (ws (PP - (((a % PP) ^ K1 % PP) * (2 ^ K2 % PP) % PP))), .int .u64 (bo PP (((a % PP) ^ K1 % PP) * (2 ^ K2 % PP) % PP) 4 : Int)]) rfl rfl (fun _ hw => run_mv rfl rfl) trivial ?_
    simp only [nz1, nz2, nz3]
    refine tk 4 38 (.agg (ws (PP - (((a % PP) ^ K1 % PP) * (2 ^ K2 % PP) % PP)))) rfl rfl (fun _ hw => run_ex rfl rfl rfl) trivial ?_
    simp only [nz1, nz2, nz3]
    refine tk 5 39 (.int .u64 (bo PP (((a % PP) ^ K1 % PP) * (2 ^ K2 % PP) % PP) 4 : Int)) rfl rfl (fun _ hw => run_ex rfl rfl rfl) trivial ?_
    simp only [nz1, nz2, nz3]
    refine one_ready 6 (by kernel_rfl) ?_
    refine opd rfl (wanted_none rfl) (w_store 52 _ _ (w38.heap.size) (ws (PP - (((a % PP) ^ K1 % PP) * (2 ^ K2 % PP) % PP))) rfl rfl rfl rfl k154 (by rw [ws_sz]; exact info_w) ((ws_sz _).trans (ws_sz _).symm) (ws_one _) (fun w157 he158 => ?_))
    have k159 := k151.other hne47 he158
    have k160 := k152.other hne49 he158
    have k161 := k153.other hne51 he158
    have k162 := k155.other hne91.symm he158
    have k163 := k154.set he158
    have hbel164 := bel_set hbel156 hg53 he158
    refine ⟨trivial, ?_⟩
    refine wpAnyH_done (by kernel_rfl) ?_ _
    go_step
    go_step
    go_step
    go_step
    refine lv 40 (.agg (ws (PP - (((a % PP) ^ K1 % PP) * (2 ^ K2 % PP) % PP)))) rfl rfl (run_row rfl rfl k163 Tryd.underlying52 rfl (by rw [ws_sz]; exact info_w)) ?_
    simp only [nz1, nz2, nz3]
    refine lst (wanted_none rfl) (w_enter 41 (.agg (bs (PP - (((a % PP) ^ K1 % PP) * (2 ^ K2 % PP) % PP)))) rfl (run_store rfl rfl) (store_any (PP - (((a % PP) ^ K1 % PP) * (2 ^ K2 % PP) % PP)) _) (fun w165 hb166 => ?_))
    have k167 := k159.call hb166
    have k168 := k160.call hb166
    have k169 := k161.call hb166
    have k170 := k163.call hb166
    have k171 := k162.call hb166
    have hbel172 := bel_call hbel164 hb166
    simp only [nz1, nz2, nz3]
    refine lst (wanted_none rfl) (w_store 23 _ _ (w1.heap.size) (bs (PP - (((a % PP) ^ K1 % PP) * (2 ^ K2 % PP) % PP))) rfl rfl rfl rfl k168 (by rw [bs_sz]; exact info_b) ((bs_sz _).trans (bs_sz _).symm) (bs_one _) (fun w173 he174 => ?_))
    have k175 := k167.other hne9 he174
    have k176 := k169.other hne28.symm he174
    have k177 := k170.other hne49.symm he174
    have k178 := k171.other hne87.symm he174
    have k179 := k168.set he174
    have hbel180 := bel_set hbel172 hg11 he174
    refine lv 3 (.bool true) rfl rfl (run_as rfl rfl) ?_
    simp only [nz1, nz2, nz3]
    go_step
    go_step
    go_step
    go_wp2
    refine bodyPost_ret (results_cell_tmp rfl _ _ (w1.heap.size) 23 (bs (PP - (((a % PP) ^ K1 % PP) * (2 ^ K2 % PP) % PP))) (0, 0) _ (.bool true) rfl rfl k179 Tryd.underlying23 rfl (by rw [bs_sz]; exact info_b)) rfl ⟨rfl, hbel180⟩
  · refine opd rfl (wanted_none rfl) (w_value 36 (.agg (ws (((a % PP) ^ K1 % PP) * (2 ^ K2 % PP) % PP))) rfl (run_row rfl rfl k137 Tryd.underlying52 rfl (by rw [ws_sz]; exact info_w)) ⟨trivial, ?_⟩)
    simp only [nz1, nz2, nz3]
    refine one_ready 0 (by kernel_rfl) ?_
    refine opd rfl (wanted_none rfl) (w_enter 35 (.agg (ws PP)) rfl (run_order rfl) (order_pp _) (fun w181 hb182 => ?_))
    have k183 := k134.call hb182
    have k184 := k135.call hb182
    have k185 := k136.call hb182
    have k186 := k137.call hb182
    have k187 := k138.call hb182
    have hbel188 := bel_call hbel139 hb182
    refine ⟨trivial, ?_⟩
    simp only [nz1, nz2, nz3]
    refine one_ready 2 (by kernel_rfl) ?_
    refine opd rfl (wanted_none rfl) (w_enter 37 (.tuple #[.agg (ws (PP - (((a % PP) ^ K1 % PP) * (2 ^ K2 % PP) % PP))), .int .u64 (bo PP (((a % PP) ^ K1 % PP) * (2 ^ K2 % PP) % PP) 4 : Int)]) rfl (run_minus rfl rfl rfl) (minus_ge PP (((a % PP) ^ K1 % PP) * (2 ^ K2 % PP) % PP) ⟨Nat.le_of_lt (Nat.mod_lt _ (by decide)), Nat.le_trans (Nat.le_of_lt (Nat.mod_lt _ (by decide))) (Nat.le_of_lt pp_lt)⟩ _) (fun w189 hb190 => ?_))
    have k191 := k183.call hb190
    have k192 := k184.call hb190
    have k193 := k185.call hb190
    have k194 := k186.call hb190
    have k195 := k187.call hb190
    have hbel196 := bel_call hbel188 hb190
    refine ⟨trivial, ?_⟩
    simp only [nz1, nz2, nz3]
    refine tk 3 34 (.tuple #[.agg (ws (PP - (((a % PP) ^ K1 % PP) * (2 ^ K2 % PP) % PP))), .int .u64 (bo PP (((a % PP) ^ K1 % PP) * (2 ^ K2 % PP) % PP) 4 : Int)]) rfl rfl (fun _ hw => run_mv rfl rfl) trivial ?_
    simp only [nz1, nz2, nz3]
    refine tk 4 38 (.agg (ws (PP - (((a % PP) ^ K1 % PP) * (2 ^ K2 % PP) % PP)))) rfl rfl (fun _ hw => run_ex rfl rfl rfl) trivial ?_
    simp only [nz1, nz2, nz3]
    refine tk 5 39 (.int .u64 (bo PP (((a % PP) ^ K1 % PP) * (2 ^ K2 % PP) % PP) 4 : Int)) rfl rfl (fun _ hw => run_ex rfl rfl rfl) trivial ?_
    simp only [nz1, nz2, nz3]
    refine one_ready 6 (by kernel_rfl) ?_
    refine opd rfl (wanted_none rfl) (w_store 52 _ _ (w38.heap.size) (ws (PP - (((a % PP) ^ K1 % PP) * (2 ^ K2 % PP) % PP))) rfl rfl rfl rfl k194 (by rw [ws_sz]; exact info_w) ((ws_sz _).trans (ws_sz _).symm) (ws_one _) (fun w197 he198 => ?_))
    have k199 := k191.other hne47 he198
    have k200 := k192.other hne49 he198
    have k201 := k193.other hne51 he198
    have k202 := k195.other hne91.symm he198
    have k203 := k194.set he198
    have hbel204 := bel_set hbel196 hg53 he198
    refine ⟨trivial, ?_⟩
    refine wpAnyH_done (by kernel_rfl) ?_ _
    go_step
    go_step
    go_step
    go_step
    refine lv 40 (.agg (ws (PP - (((a % PP) ^ K1 % PP) * (2 ^ K2 % PP) % PP)))) rfl rfl (run_row rfl rfl k203 Tryd.underlying52 rfl (by rw [ws_sz]; exact info_w)) ?_
    simp only [nz1, nz2, nz3]
    refine lst (wanted_none rfl) (w_enter 41 (.agg (bs (PP - (((a % PP) ^ K1 % PP) * (2 ^ K2 % PP) % PP)))) rfl (run_store rfl rfl) (store_any (PP - (((a % PP) ^ K1 % PP) * (2 ^ K2 % PP) % PP)) _) (fun w205 hb206 => ?_))
    have k207 := k199.call hb206
    have k208 := k200.call hb206
    have k209 := k201.call hb206
    have k210 := k203.call hb206
    have k211 := k202.call hb206
    have hbel212 := bel_call hbel204 hb206
    simp only [nz1, nz2, nz3]
    refine lst (wanted_none rfl) (w_store 23 _ _ (w1.heap.size) (bs (PP - (((a % PP) ^ K1 % PP) * (2 ^ K2 % PP) % PP))) rfl rfl rfl rfl k208 (by rw [bs_sz]; exact info_b) ((bs_sz _).trans (bs_sz _).symm) (bs_one _) (fun w213 he214 => ?_))
    have k215 := k207.other hne9 he214
    have k216 := k209.other hne28.symm he214
    have k217 := k210.other hne49.symm he214
    have k218 := k211.other hne87.symm he214
    have k219 := k208.set he214
    have hbel220 := bel_set hbel212 hg11 he214
    refine lv 3 (.bool true) rfl rfl (run_as rfl rfl) ?_
    simp only [nz1, nz2, nz3]
    go_step
    go_step
    go_step
    go_wp2
    refine bodyPost_ret (results_cell_tmp rfl _ _ (w1.heap.size) 23 (bs (PP - (((a % PP) ^ K1 % PP) * (2 ^ K2 % PP) % PP))) (0, 0) _ (.bool true) rfl rfl k219 Tryd.underlying23 rfl (by rw [bs_sz]; exact info_b)) rfl ⟨rfl, hbel220⟩

set_option maxHeartbeats 1000000 in
theorem root_none (a : Nat) (ha : a < MM) (h1 : decide (((a % PP) ^ K1 % PP) * ((a % PP) ^ K1 % PP) % PP = (a % PP)) = false) (h2 : decide ((((a % PP) ^ K1 % PP) * (2 ^ K2 % PP) % PP) * (((a % PP) ^ K1 % PP) * (2 ^ K2 % PP) % PP) % PP = (a % PP)) = false) (w : World) : Calls Tryd.prog 31 #[.agg (bs a)] w fun e w' => e = .returned (.tuple #[.agg (bs 0), .bool false]) ∧ Below w.heap.size w w' := by
  have HA := Lib.hid ha
  clear ha
  have H1 := Lib.hid h1
  clear h1
  have H2 := Lib.hid h2
  clear h2
  go_enter Tryd.func31, Tryd.ntmps31
  have hbel0 := Below.refl w.heap.size w
  go_step
  go_step
  go_step
  refine lst (wanted_none rfl) (w_alloc (c := bs a) (T := 23) 1 rfl (run_box rfl rfl) (fun w1 he2 => ?_))
  have k3 := Blk.new he2
  have hg4 : w.heap.size ≤ w.heap.size := hbel0.size
  have hbel5 := bel_alloc hbel0 he2
  simp only [nz1, nz2, nz3]
  refine lst (wanted_none rfl) (w_alloc (c := bs 0) (T := 23) 2 rfl (run_alN rfl) (fun w6 he7 => ?_))
  have hne9 : w.heap.size ≠ w1.heap.size := Nat.ne_of_lt k3.lt
  have k8 := k3.alloc he7
  have k10 := Blk.new he7
  have hg11 : w.heap.size ≤ w1.heap.size := hbel5.size
  have hbel12 := bel_alloc hbel5 he7
  simp only [nz1, nz2, nz3]
  refine lv 3 (.bool false) rfl rfl (run_as rfl rfl) ?_
  simp only [nz1, nz2, nz3]
  go_step
  go_step
  go_step
  go_step
  go_step
  refine lv 7 (.agg (bs a)) rfl rfl (run_row rfl rfl k8 Tryd.underlying23 rfl (by rw [bs_sz]; exact info_b)) ?_
  simp only [nz1, nz2, nz3]
  refine lst (wanted_none rfl) (w_enter 8 (.agg (ws a)) rfl (run_load rfl rfl) (load_any a _) (fun w13 hb14 => ?_))
  have k15 := k8.call hb14
  have k16 := k10.call hb14
  have hbel17 := bel_call hbel12 hb14
  simp only [nz1, nz2, nz3]
  refine lst (wanted_none rfl) (w_enter 9 (.agg (ws (a % PP))) rfl (run_rest rfl rfl) (rest_any a HA.out _) (fun w18 hb19 => ?_))
  have k20 := k15.call hb19
  have k21 := k16.call hb19
  have hbel22 := bel_call hbel17 hb19
  simp only [nz1, nz2, nz3]
  refine lst (wanted_none rfl) (w_alloc (c := ws 0) (T := 52) 4 rfl (run_alW rfl) (fun w23 he24 => ?_))
  have hne26 : w.heap.size ≠ w18.heap.size := Nat.ne_of_lt k20.lt
  have k25 := k20.alloc he24
  have hne28 : w1.heap.size ≠ w18.heap.size := Nat.ne_of_lt k21.lt
  have k27 := k21.alloc he24
  have k29 := Blk.new he24
  have hg30 : w.heap.size ≤ w18.heap.size := hbel22.size
  have hbel31 := bel_alloc hbel22 he24
  simp only [nz1, nz2, nz3]
  refine lst (wanted_none rfl) (w_store 52 _ _ (w18.heap.size) (ws (a % PP)) rfl rfl rfl rfl k29 (by rw [ws_sz]; exact info_w) ((ws_sz _).trans (ws_sz _).symm) (ws_one _) (fun w32 he33 => ?_))
  have k34 := k25.other hne26 he33
  have k35 := k27.other hne28 he33
  have k36 := k29.set he33
  have hbel37 := bel_set hbel31 hg30 he33
  go_step
  go_step
  go_step
  go_step
  go_step
  refine lv 10 (.agg (ws (a % PP))) rfl rfl (run_row rfl rfl k36 Tryd.underlying52 rfl (by rw [ws_sz]; exact info_w)) ?_
  simp only [nz1, nz2, nz3]
  refine lv 11 (.agg (ws K1)) rfl rfl (by unfold execOp; go_simp; rfl) ?_
  simp only [nz1, nz2, nz3]
  refine lst (wanted_none rfl) (w_enter 12 (.agg (ws ((a % PP) ^ K1 % PP))) rfl (run_raise rfl rfl rfl) (raise_any (a % PP) K1 (Nat.lt_trans (Nat.mod_lt _ (by decide)) pp_lt) (by decide) _) (fun w38 hb39 => ?_))
  have k40 := k34.call hb39
  have k41 := k35.call hb39
  have k42 := k36.call hb39
  have hbel43 := bel_call hbel37 hb39
  simp only [nz1, nz2, nz3]
  refine lst (wanted_none rfl) (w_alloc (c := ws 0) (T := 52) 5 rfl (run_alW rfl) (fun w44 he45 => ?_))
  have hne47 : w.heap.size ≠ w38.heap.size := Nat.ne_of_lt k40.lt
  have k46 := k40.alloc he45
  have hne49 : w1.heap.size ≠ w38.heap.size := Nat.ne_of_lt k41.lt
  have k48 := k41.alloc he45
  have hne51 : w18.heap.size ≠ w38.heap.size := Nat.ne_of_lt k42.lt
  have k50 := k42.alloc he45
  have k52 := Blk.new he45
  have hg53 : w.heap.size ≤ w38.heap.size := hbel43.size
  have hbel54 := bel_alloc hbel43 he45
  simp only [nz1, nz2, nz3]
  refine lst (wanted_none rfl) (w_store 52 _ _ (w38.heap.size) (ws ((a % PP) ^ K1 % PP)) rfl rfl rfl rfl k52 (by rw [ws_sz]; exact info_w) ((ws_sz _).trans (ws_sz _).symm) (ws_one _) (fun w55 he56 => ?_))
  have k57 := k46.other hne47 he56
  have k58 := k48.other hne49 he56
  have k59 := k50.other hne51 he56
  have k60 := k52.set he56
  have hbel61 := bel_set hbel54 hg53 he56
  go_step
  go_step
  go_step
  go_step
  go_step
  have k62 := k57.drew
  have k63 := k58.drew
  have k64 := k59.drew
  have k65 := k60.drew
  have hbel66 := hbel61.drew
  refine wp_region_held_drew (S := fun w' => Blk w' (w38.heap.size) (ws ((a % PP) ^ K1 % PP)) 52 ∧ Blk w' (w18.heap.size) (ws (a % PP)) 52) (by kernel_rfl) ⟨k65, k64⟩ (fun _ => ?_)
  generalize w55.drew = wd67 at *
  refine tk 0 13 (.agg (ws ((a % PP) ^ K1 % PP))) rfl rfl (fun _ hw => run_row rfl rfl (hw.1) Tryd.underlying52 rfl (by rw [ws_sz]; exact info_w)) ⟨k65, k64⟩ ?_
  simp only [nz1, nz2, nz3]
  refine tk 1 14 (.agg (ws ((a % PP) ^ K1 % PP))) rfl rfl (fun _ hw => run_row rfl rfl (hw.1) Tryd.underlying52 rfl (by rw [ws_sz]; exact info_w)) ⟨k65, k64⟩ ?_
  simp only [nz1, nz2, nz3]
  refine tk 3 16 (.agg (ws (a % PP))) rfl rfl (fun _ hw => run_row rfl rfl (hw.2) Tryd.underlying52 rfl (by rw [ws_sz]; exact info_w)) ⟨k65, k64⟩ ?_
  simp only [nz1, nz2, nz3]
  refine one_ready 2 (by kernel_rfl) ?_
  refine opd rfl (wanted_none rfl) (w_enter 15 (.agg (ws (((a % PP) ^ K1 % PP) * ((a % PP) ^ K1 % PP) % PP))) rfl (run_multiply rfl rfl rfl) (multiply_any ((a % PP) ^ K1 % PP) ((a % PP) ^ K1 % PP) (Nat.lt_trans (Nat.mod_lt _ (by decide)) pp_lt) (Nat.lt_trans (Nat.mod_lt _ (by decide)) pp_lt) _) (fun w68 hb69 => ?_))
  have k70 := k62.call hb69
  have k71 := k63.call hb69
  have k72 := k64.call hb69
  have k73 := k65.call hb69
  have hbel74 := bel_call hbel66 hb69
  refine ⟨⟨k73, k72⟩, ?_⟩
  simp only [nz1, nz2, nz3]
  refine tk 4 17 (.bool true) rfl rfl (fun _ hw => run_neqW (((a % PP) ^ K1 % PP) * ((a % PP) ^ K1 % PP) % PP) (a % PP) (Nat.lt_trans (Nat.mod_lt _ (by decide)) pp_lt) (Nat.lt_trans (Nat.mod_lt _ (by decide)) pp_lt) true H1.out rfl rfl rfl) ⟨k73, k72⟩ ?_
  simp only [nz1, nz2, nz3]
  refine wpAnyH_done (by kernel_rfl) ?_ _
  go_step
  go_step
  go_step
  go_step
  go_step
  refine lv 18 (.agg (ws 2)) rfl rfl (by unfold execOp; go_simp; rfl) ?_
  simp only [nz1, nz2, nz3]
  refine lv 19 (.agg (ws K2)) rfl rfl (by unfold execOp; go_simp; rfl) ?_
  simp only [nz1, nz2, nz3]
  refine lst (wanted_none rfl) (w_enter 20 (.agg (ws (2 ^ K2 % PP))) rfl (run_raise rfl rfl rfl) (raise_any 2 K2 (by decide) (by decide) _) (fun w75 hb76 => ?_))
  have k77 := k70.call hb76
  have k78 := k71.call hb76
  have k79 := k72.call hb76
  have k80 := k73.call hb76
  have hbel81 := bel_call hbel74 hb76
  simp only [nz1, nz2, nz3]
  refine lst (wanted_none rfl) (w_alloc (c := ws 0) (T := 52) 6 rfl (run_alW rfl) (fun w82 he83 => ?_))
  have hne85 : w.heap.size ≠ w75.heap.size := Nat.ne_of_lt k77.lt
  have k84 := k77.alloc he83
  have hne87 : w1.heap.size ≠ w75.heap.size := Nat.ne_of_lt k78.lt
  have k86 := k78.alloc he83
  have hne89 : w18.heap.size ≠ w75.heap.size := Nat.ne_of_lt k79.lt
  have k88 := k79.alloc he83
  have hne91 : w38.heap.size ≠ w75.heap.size := Nat.ne_of_lt k80.lt
  have k90 := k80.alloc he83
  have k92 := Blk.new he83
  have hg93 : w.heap.size ≤ w75.heap.size := hbel81.size
  have hbel94 := bel_alloc hbel81 he83
  simp only [nz1, nz2, nz3]
  refine lst (wanted_none rfl) (w_store 52 _ _ (w75.heap.size) (ws (2 ^ K2 % PP)) rfl rfl rfl rfl k92 (by rw [ws_sz]; exact info_w) ((ws_sz _).trans (ws_sz _).symm) (ws_one _) (fun w95 he96 => ?_))
  have k97 := k84.other hne85 he96
  have k98 := k86.other hne87 he96
  have k99 := k88.other hne89 he96
  have k100 := k90.other hne91 he96
  have k101 := k92.set he96
  have hbel102 := bel_set hbel94 hg93 he96
  go_step
  go_step
  go_step
  go_step
  refine lv 21 (.agg (ws ((a % PP) ^ K1 % PP))) rfl rfl (run_row rfl rfl k100 Tryd.underlying52 rfl (by rw [ws_sz]; exact info_w)) ?_
  simp only [nz1, nz2, nz3]
  refine lv 22 (.agg (ws (2 ^ K2 % PP))) rfl rfl (run_row rfl rfl k101 Tryd.underlying52 rfl (by rw [ws_sz]; exact info_w)) ?_
  simp only [nz1, nz2, nz3]
  refine lst (wanted_none rfl) (w_enter 23 (.agg (ws (((a % PP) ^ K1 % PP) * (2 ^ K2 % PP) % PP))) rfl (run_multiply rfl rfl rfl) (multiply_any ((a % PP) ^ K1 % PP) (2 ^ K2 % PP) (Nat.lt_trans (Nat.mod_lt _ (by decide)) pp_lt) (Nat.lt_trans (Nat.mod_lt _ (by decide)) pp_lt) _) (fun w103 hb104 => ?_))
  have k105 := k97.call hb104
  have k106 := k98.call hb104
  have k107 := k99.call hb104
  have k108 := k100.call hb104
  have k109 := k101.call hb104
  have hbel110 := bel_call hbel102 hb104
  simp only [nz1, nz2, nz3]
  refine lst (wanted_none rfl) (w_store 52 _ _ (w38.heap.size) (ws (((a % PP) ^ K1 % PP) * (2 ^ K2 % PP) % PP)) rfl rfl rfl rfl k108 (by rw [ws_sz]; exact info_w) ((ws_sz _).trans (ws_sz _).symm) (ws_one _) (fun w111 he112 => ?_))
  have k113 := k105.other hne47 he112
  have k114 := k106.other hne49 he112
  have k115 := k107.other hne51 he112
  have k116 := k109.other hne91.symm he112
  have k117 := k108.set he112
  have hbel118 := bel_set hbel110 hg53 he112
  go_step
  go_step
  go_step
  go_step
  go_step
  have k119 := k113.drew
  have k120 := k114.drew
  have k121 := k115.drew
  have k122 := k117.drew
  have k123 := k116.drew
  have hbel124 := hbel118.drew
  refine wp_region_held_drew (S := fun w' => Blk w' (w38.heap.size) (ws (((a % PP) ^ K1 % PP) * (2 ^ K2 % PP) % PP)) 52 ∧ Blk w' (w18.heap.size) (ws (a % PP)) 52) (by kernel_rfl) ⟨k122, k121⟩ (fun _ => ?_)
  generalize w111.drew = wd125 at *
  refine tk 0 24 (.agg (ws (((a % PP) ^ K1 % PP) * (2 ^ K2 % PP) % PP))) rfl rfl (fun _ hw => run_row rfl rfl (hw.1) Tryd.underlying52 rfl (by rw [ws_sz]; exact info_w)) ⟨k122, k121⟩ ?_
  simp only [nz1, nz2, nz3]
  refine tk 1 25 (.agg (ws (((a % PP) ^ K1 % PP) * (2 ^ K2 % PP) % PP))) rfl rfl (fun _ hw => run_row rfl rfl (hw.1) Tryd.underlying52 rfl (by rw [ws_sz]; exact info_w)) ⟨k122, k121⟩ ?_
  simp only [nz1, nz2, nz3]
  refine tk 3 27 (.agg (ws (a % PP))) rfl rfl (fun _ hw => run_row rfl rfl (hw.2) Tryd.underlying52 rfl (by rw [ws_sz]; exact info_w)) ⟨k122, k121⟩ ?_
  simp only [nz1, nz2, nz3]
  refine one_ready 2 (by kernel_rfl) ?_
  refine opd rfl (wanted_none rfl) (w_enter 26 (.agg (ws ((((a % PP) ^ K1 % PP) * (2 ^ K2 % PP) % PP) * (((a % PP) ^ K1 % PP) * (2 ^ K2 % PP) % PP) % PP))) rfl (run_multiply rfl rfl rfl) (multiply_any (((a % PP) ^ K1 % PP) * (2 ^ K2 % PP) % PP) (((a % PP) ^ K1 % PP) * (2 ^ K2 % PP) % PP) (Nat.lt_trans (Nat.mod_lt _ (by decide)) pp_lt) (Nat.lt_trans (Nat.mod_lt _ (by decide)) pp_lt) _) (fun w126 hb127 => ?_))
  have k128 := k119.call hb127
  have k129 := k120.call hb127
  have k130 := k121.call hb127
  have k131 := k122.call hb127
  have k132 := k123.call hb127
  have hbel133 := bel_call hbel124 hb127
  refine ⟨⟨k131, k130⟩, ?_⟩
  simp only [nz1, nz2, nz3]
  refine tk 4 28 (.bool true) rfl rfl (fun _ hw => run_neqW ((((a % PP) ^ K1 % PP) * (2 ^ K2 % PP) % PP) * (((a % PP) ^ K1 % PP) * (2 ^ K2 % PP) % PP) % PP) (a % PP) (Nat.lt_trans (Nat.mod_lt _ (by decide)) pp_lt) (Nat.lt_trans (Nat.mod_lt _ (by decide)) pp_lt) true H2.out rfl rfl rfl) ⟨k131, k130⟩ ?_
  simp only [nz1, nz2, nz3]
  refine wpAnyH_done (by kernel_rfl) ?_ _
  go_step
  go_step
  go_step
  go_step
  go_step
  refine lv 29 (.agg (bs 0)) rfl rfl (by unfold execOp; go_simp; rfl) ?_
  simp only [nz1, nz2, nz3]
  refine lst (wanted_none rfl) (w_store 23 _ _ (w1.heap.size) (bs 0) rfl rfl rfl rfl k129 (by rw [bs_sz]; exact info_b) ((bs_sz _).trans (bs_sz _).symm) (bs_one _) (fun w134 he135 => ?_))
  have k136 := k128.other hne9 he135
  have k137 := k130.other hne28.symm he135
  have k138 := k131.other hne49.symm he135
  have k139 := k132.other hne87.symm he135
  have k140 := k129.set he135
  have hbel141 := bel_set hbel133 hg11 he135
  refine lv 3 (.bool false) rfl rfl (run_as rfl rfl) ?_
  simp only [nz1, nz2, nz3]
  go_step
  go_step
  go_step
  go_wp2
  refine bodyPost_ret (results_cell_tmp rfl _ _ (w1.heap.size) 23 (bs 0) (0, 0) _ (.bool false) rfl rfl k140 Tryd.underlying23 rfl (by rw [bs_sz]; exact info_b)) rfl ⟨rfl, hbel141⟩

def rt1 (s : Nat) : Nat := s ^ K1 % PP
def rt2 (s : Nat) : Nat := rt1 s * (2 ^ K2 % PP) % PP
def rootR (s : Nat) : Nat := if rt1 s * rt1 s % PP = s then rt1 s else rt2 s
def rootOk (s : Nat) : Bool := decide (rootR s * rootR s % PP = s)
def rootV (s : Nat) : Nat := if rootOk s = true then (if rootR s % 2 = 1 then PP - rootR s else rootR s) else 0
theorem root_any (a : Nat) (ha : a < MM) (w : World) : Calls Tryd.prog 31 #[.agg (bs a)] w fun e w' => e = .returned (.tuple #[.agg (bs (rootV (a % PP))), .bool (rootOk (a % PP))]) ∧ Below w.heap.size w w' := by
  unfold rootV rootOk rootR
  by_cases h1 : rt1 (a % PP) * rt1 (a % PP) % PP = a % PP
  · rw [if_pos h1]
    rw [decide_eq_true h1, if_pos rfl]
    by_cases h3 : rt1 (a % PP) % 2 = 1
    · rw [if_pos h3]; exact root_same1 a ha (decide_eq_true h1) (decide_eq_true h3) w
    · rw [if_neg h3]; exact root_same0 a ha (decide_eq_true h1) (decide_eq_false h3) w
  · rw [if_neg h1]
    by_cases h2 : rt2 (a % PP) * rt2 (a % PP) % PP = a % PP
    · rw [decide_eq_true h2, if_pos rfl]
      by_cases h3 : rt2 (a % PP) % 2 = 1
      · rw [if_pos h3]; exact root_turn1 a ha (decide_eq_false h1) (decide_eq_true h2) (decide_eq_true h3) w
      · rw [if_neg h3]; exact root_turn0 a ha (decide_eq_false h1) (decide_eq_true h2) (decide_eq_false h3) w
    · rw [decide_eq_false h2, if_neg (by decide)]
      exact root_none a ha (decide_eq_false h1) (decide_eq_false h2) w
end Go.Proofs.YtfpphinnngblgaaDoor.Fld
