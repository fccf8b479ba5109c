/- Layer 3, the document's answers: roots. -/
import Derived.Test.YtfpphinnngblgaaDoorPtR
namespace Go.Proofs.YtfpphinnngblgaaDoor.Fld
open Go.RowKit
open Go.Proofs.YtfpphinnngblgaaDoor.Num (up)
open Go.Proofs.YtfpphinnngblgaaDoor.Arr Go.Proofs.YtfpphinnngblgaaDoor.Sym

set_option maxHeartbeats 1000000 in
theorem rroot_same0 (a : Nat) (ha : a < MM) (h1 : decide ((a ^ K1 % PP) * (a ^ K1 % PP) % PP = (a % PP)) = true) (h3 : decide ((a ^ K1 % PP) % 2 = 1) = false) (w : World) : Calls Tryd.prog 40 #[.agg (bs a)] w fun e w' => e = .returned (.tuple #[.agg (bs (a ^ K1 % PP)), .bool true]) ∧ Below w.heap.size w w' := by
  have HA := Lib.hid ha
  clear ha
  have H1 := Lib.hid h1
  clear h1
  have H3 := Lib.hid h3
  clear h3
  go_enter Tryd.func40, Tryd.ntmps40
  have hbel0 := Below.refl w.heap.size w
  go_step
  go_step
  go_step
  refine lst (wanted_none rfl) (w_alloc (c := bs a) (T := 23) 1 rfl (run_box rfl rfl) (fun w1 he2 => ?_))
  have k3 := Blk.new he2
  have hg4 : w.heap.size ≤ w.heap.size := hbel0.size
  have hbel5 := bel_alloc hbel0 he2
  simp only [nz1, nz2, nz3]
  refine lst (wanted_none rfl) (w_alloc (c := bs 0) (T := 23) 2 rfl (run_alN rfl) (fun w6 he7 => ?_))
  have hne9 : w.heap.size ≠ w1.heap.size := Nat.ne_of_lt k3.lt
  have k8 := k3.alloc he7
  have k10 := Blk.new he7
  have hg11 : w.heap.size ≤ w1.heap.size := hbel5.size
  have hbel12 := bel_alloc hbel5 he7
  simp only [nz1, nz2, nz3]
  refine lv 3 (.bool false) rfl rfl (run_as rfl rfl) ?_
  simp only [nz1, nz2, nz3]
  go_step
  go_step
  go_step
  go_step
  go_step
  refine lst (wanted_none rfl) (w_enter 7 (.agg (bs PP)) rfl (run_rorder rfl) (rorder_any _) (fun w13 hb14 => ?_))
  have k15 := k8.call hb14
  have k16 := k10.call hb14
  have hbel17 := bel_call hbel12 hb14
  simp only [nz1, nz2, nz3]
  refine lst (wanted_none rfl) (w_alloc (c := bs 0) (T := 23) 4 rfl (run_alN rfl) (fun w18 he19 => ?_))
  have hne21 : w.heap.size ≠ w13.heap.size := Nat.ne_of_lt k15.lt
  have k20 := k15.alloc he19
  have hne23 : w1.heap.size ≠ w13.heap.size := Nat.ne_of_lt k16.lt
  have k22 := k16.alloc he19
  have k24 := Blk.new he19
  have hg25 : w.heap.size ≤ w13.heap.size := hbel17.size
  have hbel26 := bel_alloc hbel17 he19
  simp only [nz1, nz2, nz3]
  refine lst (wanted_none rfl) (w_store 23 _ _ (w13.heap.size) (bs PP) rfl rfl rfl rfl k24 (by rw [bs_sz]; exact info_b) ((bs_sz _).trans (bs_sz _).symm) (bs_one _) (fun w27 he28 => ?_))
  have k29 := k20.other hne21 he28
  have k30 := k22.other hne23 he28
  have k31 := k24.set he28
  have hbel32 := bel_set hbel26 hg25 he28
  go_step
  go_step
  go_step
  go_step
  go_step
  refine lv 8 (.pointer (some ⟨w13.heap.size, 0, none⟩)) rfl rfl (run_ix 4 0 (w13.heap.size) rfl rfl (by decide)) ?_
  simp only [nz1, nz2, nz3]
  refine lst (wanted_none rfl) (w_put (w13.heap.size) 0 (.int .u8 254) rfl k31 put_a (run_put (bt PP) 0 (w13.heap.size) k31 (by decide) rfl rfl) (fun w33 he34 => ?_))
  have k35 := k29.other hne21 he34
  have k36 := k30.other hne23 he34
  have k37 := k31.set he34
  have hbel38 := bel_set hbel32 hg25 he34
  go_step
  go_step
  go_step
  go_step
  go_step
  refine lv 9 (.pointer (some ⟨w13.heap.size, 31, none⟩)) rfl rfl (run_ix 4 31 (w13.heap.size) rfl rfl (by decide)) ?_
  simp only [nz1, nz2, nz3]
  refine lst (wanted_none rfl) (w_put (w13.heap.size) 31 (.int .u8 15) rfl k37 put_b (run_put (bt K1a) 31 (w13.heap.size) k37 (by decide) rfl rfl) (fun w39 he40 => ?_))
  have k41 := k35.other hne21 he40
  have k42 := k36.other hne23 he40
  have k43 := k37.set he40
  have hbel44 := bel_set hbel38 hg25 he40
  go_step
  go_step
  go_step
  go_step
  go_step
  refine lv 10 (.agg (bs a)) rfl rfl (run_row rfl rfl k41 Tryd.underlying23 rfl (by rw [bs_sz]; exact info_b)) ?_
  simp only [nz1, nz2, nz3]
  refine lv 11 (.agg (bs K1)) rfl rfl (run_row rfl rfl k43 Tryd.underlying23 rfl (by rw [bs_sz]; exact info_b)) ?_
  simp only [nz1, nz2, nz3]
  refine lst (wanted_none rfl) (w_enter 12 (.agg (bs (a ^ K1 % PP))) rfl (run_rPower rfl rfl rfl) (rpower_any a K1 HA.out (by decide) _) (fun w45 hb46 => ?_))
  have k47 := k41.call hb46
  have k48 := k42.call hb46
  have k49 := k43.call hb46
  have hbel50 := bel_call hbel44 hb46
  simp only [nz1, nz2, nz3]
  refine lst (wanted_none rfl) (w_alloc (c := bs 0) (T := 23) 5 rfl (run_alN rfl) (fun w51 he52 => ?_))
  have hne54 : w.heap.size ≠ w45.heap.size := Nat.ne_of_lt k47.lt
  have k53 := k47.alloc he52
  have hne56 : w1.heap.size ≠ w45.heap.size := Nat.ne_of_lt k48.lt
  have k55 := k48.alloc he52
  have hne58 : w13.heap.size ≠ w45.heap.size := Nat.ne_of_lt k49.lt
  have k57 := k49.alloc he52
  have k59 := Blk.new he52
  have hg60 : w.heap.size ≤ w45.heap.size := hbel50.size
  have hbel61 := bel_alloc hbel50 he52
  simp only [nz1, nz2, nz3]
  refine lst (wanted_none rfl) (w_store 23 _ _ (w45.heap.size) (bs (a ^ K1 % PP)) rfl rfl rfl rfl k59 (by rw [bs_sz]; exact info_b) ((bs_sz _).trans (bs_sz _).symm) (bs_one _) (fun w62 he63 => ?_))
  have k64 := k53.other hne54 he63
  have k65 := k55.other hne56 he63
  have k66 := k57.other hne58 he63
  have k67 := k59.set he63
  have hbel68 := bel_set hbel61 hg60 he63
  go_step
  go_step
  go_step
  go_step
  go_step
  have k69 := k64.drew
  have k70 := k65.drew
  have k71 := k66.drew
  have k72 := k67.drew
  have hbel73 := hbel68.drew
  refine wp_region_held_drew (S := fun w' => Blk w' (w45.heap.size) (bs (a ^ K1 % PP)) 23 ∧ Blk w' (w.heap.size) (bs a) 23) (by kernel_rfl) ⟨k72, k69⟩ (fun _ => ?_)
  generalize w62.drew = wd74 at *
  refine tk 0 13 (.agg (bs (a ^ K1 % PP))) rfl rfl (fun _ hw => run_row rfl rfl (hw.1) Tryd.underlying23 rfl (by rw [bs_sz]; exact info_b)) ⟨k72, k69⟩ ?_
  simp only [nz1, nz2, nz3]
  refine tk 1 14 (.agg (bs (a ^ K1 % PP))) rfl rfl (fun _ hw => run_row rfl rfl (hw.1) Tryd.underlying23 rfl (by rw [bs_sz]; exact info_b)) ⟨k72, k69⟩ ?_
  simp only [nz1, nz2, nz3]
  refine tk 3 16 (.agg (bs a)) rfl rfl (fun _ hw => run_row rfl rfl (hw.2) Tryd.underlying23 rfl (by rw [bs_sz]; exact info_b)) ⟨k72, k69⟩ ?_
  simp only [nz1, nz2, nz3]
  refine one_ready 2 (by kernel_rfl) ?_
  refine opd rfl (wanted_none rfl) (w_enter 15 (.agg (bs ((a ^ K1 % PP) * (a ^ K1 % PP) % PP))) rfl (run_rMul rfl rfl rfl) (rmul_any (a ^ K1 % PP) (a ^ K1 % PP) (Nat.lt_trans (Nat.mod_lt _ (by decide)) pp_lt) (Nat.lt_trans (Nat.mod_lt _ (by decide)) pp_lt) _) (fun w75 hb76 => ?_))
  have k77 := k69.call hb76
  have k78 := k70.call hb76
  have k79 := k71.call hb76
  have k80 := k72.call hb76
  have hbel81 := bel_call hbel73 hb76
  refine ⟨⟨k80, k77⟩, ?_⟩
  simp only [nz1, nz2, nz3]
  refine one_ready 4 (by kernel_rfl) ?_
  refine opd rfl (wanted_none rfl) (w_enter 17 (.agg (bs (a % PP))) rfl (run_rReduce rfl rfl) (rreduce_any a HA.out _) (fun w82 hb83 => ?_))
  have k84 := k77.call hb83
  have k85 := k78.call hb83
  have k86 := k79.call hb83
  have k87 := k80.call hb83
  have hbel88 := bel_call hbel81 hb83
  refine ⟨⟨k87, k84⟩, ?_⟩
  simp only [nz1, nz2, nz3]
  refine tk 5 18 (.bool false) rfl rfl (fun _ hw => run_neqN ((a ^ K1 % PP) * (a ^ K1 % PP) % PP) (a % PP) (Nat.lt_trans (Nat.mod_lt _ (by decide)) pp_lt) (Nat.lt_trans (Nat.mod_lt _ (by decide)) pp_lt) false H1.out rfl rfl rfl) ⟨k87, k84⟩ ?_
  simp only [nz1, nz2, nz3]
  refine wpAnyH_done (by kernel_rfl) ?_ _
  go_step
  go_step
  go_step
  go_step
  go_step
  go_step
  go_step
  go_step
  have k89 := k84.drew
  have k90 := k85.drew
  have k91 := k86.drew
  have k92 := k87.drew
  have hbel93 := hbel88.drew
  refine wp_region_held_drew (S := fun w' => Blk w' (w45.heap.size) (bs (a ^ K1 % PP)) 23 ∧ Blk w' (w.heap.size) (bs a) 23) (by kernel_rfl) ⟨k92, k89⟩ (fun _ => ?_)
  generalize w82.drew = wd94 at *
  refine tk 0 27 (.agg (bs (a ^ K1 % PP))) rfl rfl (fun _ hw => run_row rfl rfl (hw.1) Tryd.underlying23 rfl (by rw [bs_sz]; exact info_b)) ⟨k92, k89⟩ ?_
  simp only [nz1, nz2, nz3]
  refine tk 1 28 (.agg (bs (a ^ K1 % PP))) rfl rfl (fun _ hw => run_row rfl rfl (hw.1) Tryd.underlying23 rfl (by rw [bs_sz]; exact info_b)) ⟨k92, k89⟩ ?_
  simp only [nz1, nz2, nz3]
  refine tk 3 30 (.agg (bs a)) rfl rfl (fun _ hw => run_row rfl rfl (hw.2) Tryd.underlying23 rfl (by rw [bs_sz]; exact info_b)) ⟨k92, k89⟩ ?_
  simp only [nz1, nz2, nz3]
  refine one_ready 2 (by kernel_rfl) ?_
  refine opd rfl (wanted_none rfl) (w_enter 29 (.agg (bs ((a ^ K1 % PP) * (a ^ K1 % PP) % PP))) rfl (run_rMul rfl rfl rfl) (rmul_any (a ^ K1 % PP) (a ^ K1 % PP) (Nat.lt_trans (Nat.mod_lt _ (by decide)) pp_lt) (Nat.lt_trans (Nat.mod_lt _ (by decide)) pp_lt) _) (fun w95 hb96 => ?_))
  have k97 := k89.call hb96
  have k98 := k90.call hb96
  have k99 := k91.call hb96
  have k100 := k92.call hb96
  have hbel101 := bel_call hbel93 hb96
  refine ⟨⟨k100, k97⟩, ?_⟩
  simp only [nz1, nz2, nz3]
  refine one_ready 4 (by kernel_rfl) ?_
  refine opd rfl (wanted_none rfl) (w_enter 31 (.agg (bs (a % PP))) rfl (run_rReduce rfl rfl) (rreduce_any a HA.out _) (fun w102 hb103 => ?_))
  have k104 := k97.call hb103
  have k105 := k98.call hb103
  have k106 := k99.call hb103
  have k107 := k100.call hb103
  have hbel108 := bel_call hbel101 hb103
  refine ⟨⟨k107, k104⟩, ?_⟩
  simp only [nz1, nz2, nz3]
  refine tk 5 32 (.bool false) rfl rfl (fun _ hw => run_neqN ((a ^ K1 % PP) * (a ^ K1 % PP) % PP) (a % PP) (Nat.lt_trans (Nat.mod_lt _ (by decide)) pp_lt) (Nat.lt_trans (Nat.mod_lt _ (by decide)) pp_lt) false H1.out rfl rfl rfl) ⟨k107, k104⟩ ?_
  simp only [nz1, nz2, nz3]
  refine wpAnyH_done (by kernel_rfl) ?_ _
  go_step
  go_step
  go_step
  go_step
  go_step
  go_step
  go_step
  go_step
  go_step
  refine lv 34 (.pointer (some ⟨w45.heap.size, 0, none⟩)) rfl rfl (run_ix 5 0 (w45.heap.size) rfl rfl (by decide)) ?_
  simp only [nz1, nz2, nz3]
  refine lv 35 (.int .u8 (bt (a ^ K1 % PP) 0 : Int)) rfl rfl (run_ld8v (bt (a ^ K1 % PP)) 0 (w45.heap.size) (show Row _ _ 32 23 .u8 (bt (a ^ K1 % PP)) from k107) rfl rfl (by decide)) ?_
  simp only [nz1, nz2, nz3]
  refine lv 36 (.int .u8 (((a ^ K1 % PP) % 2 : Nat) : Int)) rfl rfl (run_rem2 (a ^ K1 % PP) rfl rfl) ?_
  simp only [nz1, nz2, nz3]
  refine lv 37 (.bool false) rfl rfl (run_one8 (b := (a ^ K1 % PP) % 2) rfl rfl H3.out) ?_
  simp only [nz1, nz2, nz3]
  go_step
  go_step
  go_step
  go_step
  go_step
  go_step
  go_step
  go_step
  go_step
  refine lv 40 (.agg (bs (a ^ K1 % PP))) rfl rfl (run_row rfl rfl k107 Tryd.underlying23 rfl (by rw [bs_sz]; exact info_b)) ?_
  simp only [nz1, nz2, nz3]
  refine lst (wanted_none rfl) (w_store 23 _ _ (w1.heap.size) (bs (a ^ K1 % PP)) rfl rfl rfl rfl k105 (by rw [bs_sz]; exact info_b) ((bs_sz _).trans (bs_sz _).symm) (bs_one _) (fun w109 he110 => ?_))
  have k111 := k104.other hne9 he110
  have k112 := k106.other hne23.symm he110
  have k113 := k107.other hne56.symm he110
  have k114 := k105.set he110
  have hbel115 := bel_set hbel108 hg11 he110
  refine lv 3 (.bool true) rfl rfl (run_as rfl rfl) ?_
  simp only [nz1, nz2, nz3]
  go_step
  go_step
  go_step
  go_wp2
  refine bodyPost_ret (results_cell_tmp rfl _ _ (w1.heap.size) 23 (bs (a ^ K1 % PP)) (0, 0) _ (.bool true) rfl rfl k114 Tryd.underlying23 rfl (by rw [bs_sz]; exact info_b)) rfl ⟨rfl, hbel115⟩

set_option maxHeartbeats 1000000 in
theorem rroot_same1 (a : Nat) (ha : a < MM) (h1 : decide ((a ^ K1 % PP) * (a ^ K1 % PP) % PP = (a % PP)) = true) (h3 : decide ((a ^ K1 % PP) % 2 = 1) = true) (w : World) : Calls Tryd.prog 40 #[.agg (bs a)] w fun e w' => e = .returned (.tuple #[.agg (bs ((PP - ((a ^ K1 % PP) % PP)) % PP)), .bool true]) ∧ Below w.heap.size w w' := by
  have HA := Lib.hid ha
  clear ha
  have H1 := Lib.hid h1
  clear h1
  have H3 := Lib.hid h3
  clear h3
  go_enter Tryd.func40, Tryd.ntmps40
  have hbel0 := Below.refl w.heap.size w
  go_step
  go_step
  go_step
  refine lst (wanted_none rfl) (w_alloc (c := bs a) (T := 23) 1 rfl (run_box rfl rfl) (fun w1 he2 => ?_))
  have k3 := Blk.new he2
  have hg4 : w.heap.size ≤ w.heap.size := hbel0.size
  have hbel5 := bel_alloc hbel0 he2
  simp only [nz1, nz2, nz3]
  refine lst (wanted_none rfl) (w_alloc (c := bs 0) (T := 23) 2 rfl (run_alN rfl) (fun w6 he7 => ?_))
  have hne9 : w.heap.size ≠ w1.heap.size := Nat.ne_of_lt k3.lt
  have k8 := k3.alloc he7
  have k10 := Blk.new he7
  have hg11 : w.heap.size ≤ w1.heap.size := hbel5.size
  have hbel12 := bel_alloc hbel5 he7
  simp only [nz1, nz2, nz3]
  refine lv 3 (.bool false) rfl rfl (run_as rfl rfl) ?_
  simp only [nz1, nz2, nz3]
  go_step
  go_step
  go_step
  go_step
  go_step
  refine lst (wanted_none rfl) (w_enter 7 (.agg (bs PP)) rfl (run_rorder rfl) (rorder_any _) (fun w13 hb14 => ?_))
  have k15 := k8.call hb14
  have k16 := k10.call hb14
  have hbel17 := bel_call hbel12 hb14
  simp only [nz1, nz2, nz3]
  refine lst (wanted_none rfl) (w_alloc (c := bs 0) (T := 23) 4 rfl (run_alN rfl) (fun w18 he19 => ?_))
  have hne21 : w.heap.size ≠ w13.heap.size := Nat.ne_of_lt k15.lt
  have k20 := k15.alloc he19
  have hne23 : w1.heap.size ≠ w13.heap.size := Nat.ne_of_lt k16.lt
  have k22 := k16.alloc he19
  have k24 := Blk.new he19
  have hg25 : w.heap.size ≤ w13.heap.size := hbel17.size
  have hbel26 := bel_alloc hbel17 he19
  simp only [nz1, nz2, nz3]
  refine lst (wanted_none rfl) (w_store 23 _ _ (w13.heap.size) (bs PP) rfl rfl rfl rfl k24 (by rw [bs_sz]; exact info_b) ((bs_sz _).trans (bs_sz _).symm) (bs_one _) (fun w27 he28 => ?_))
  have k29 := k20.other hne21 he28
  have k30 := k22.other hne23 he28
  have k31 := k24.set he28
  have hbel32 := bel_set hbel26 hg25 he28
  go_step
  go_step
  go_step
  go_step
  go_step
  refine lv 8 (.pointer (some ⟨w13.heap.size, 0, none⟩)) rfl rfl (run_ix 4 0 (w13.heap.size) rfl rfl (by decide)) ?_
  simp only [nz1, nz2, nz3]
  refine lst (wanted_none rfl) (w_put (w13.heap.size) 0 (.int .u8 254) rfl k31 put_a (run_put (bt PP) 0 (w13.heap.size) k31 (by decide) rfl rfl) (fun w33 he34 => ?_))
  have k35 := k29.other hne21 he34
  have k36 := k30.other hne23 he34
  have k37 := k31.set he34
  have hbel38 := bel_set hbel32 hg25 he34
  go_step
  go_step
  go_step
  go_step
  go_step
  refine lv 9 (.pointer (some ⟨w13.heap.size, 31, none⟩)) rfl rfl (run_ix 4 31 (w13.heap.size) rfl rfl (by decide)) ?_
  simp only [nz1, nz2, nz3]
  refine lst (wanted_none rfl) (w_put (w13.heap.size) 31 (.int .u8 15) rfl k37 put_b (run_put (bt K1a) 31 (w13.heap.size) k37 (by decide) rfl rfl) (fun w39 he40 => ?_))
  have k41 := k35.other hne21 he40
  have k42 := k36.other hne23 he40
  have k43 := k37.set he40
  have hbel44 := bel_set hbel38 hg25 he40
  go_step
  go_step
  go_step
  go_step
  go_step
  refine lv 10 (.agg (bs a)) rfl rfl (run_row rfl rfl k41 Tryd.underlying23 rfl (by rw [bs_sz]; exact info_b)) ?_
  simp only [nz1, nz2, nz3]
  refine lv 11 (.agg (bs K1)) rfl rfl (run_row rfl rfl k43 Tryd.underlying23 rfl (by rw [bs_sz]; exact info_b)) ?_
  simp only [nz1, nz2, nz3]
  refine lst (wanted_none rfl) (w_enter 12 (.agg (bs (a ^ K1 % PP))) rfl (run_rPower rfl rfl rfl) (rpower_any a K1 HA.out (by decide) _) (fun w45 hb46 => ?_))
  have k47 := k41.call hb46
  have k48 := k42.call hb46
  have k49 := k43.call hb46
  have hbel50 := bel_call hbel44 hb46
  simp only [nz1, nz2, nz3]
  refine lst (wanted_none rfl) (w_alloc (c := bs 0) (T := 23) 5 rfl (run_alN rfl) (fun w51 he52 => ?_))
  have hne54 : w.heap.size ≠ w45.heap.size := Nat.ne_of_lt k47.lt
  have k53 := k47.alloc he52
  have hne56 : w1.heap.size ≠ w45.heap.size := Nat.ne_of_lt k48.lt
  have k55 := k48.alloc he52
  have hne58 : w13.heap.size ≠ w45.heap.size := Nat.ne_of_lt k49.lt
  have k57 := k49.alloc he52
  have k59 := Blk.new he52
  have hg60 : w.heap.size ≤ w45.heap.size := hbel50.size
  have hbel61 := bel_alloc hbel50 he52
  simp only [nz1, nz2, nz3]
  refine lst (wanted_none rfl) (w_store 23 _ _ (w45.heap.size) (bs (a ^ K1 % PP)) rfl rfl rfl rfl k59 (by rw [bs_sz]; exact info_b) ((bs_sz _).trans (bs_sz _).symm) (bs_one _) (fun w62 he63 => ?_))
  have k64 := k53.other hne54 he63
  have k65 := k55.other hne56 he63
  have k66 := k57.other hne58 he63
  have k67 := k59.set he63
  have hbel68 := bel_set hbel61 hg60 he63
  go_step
  go_step
  go_step
  go_step
  go_step
  have k69 := k64.drew
  have k70 := k65.drew
  have k71 := k66.drew
  have k72 := k67.drew
  have hbel73 := hbel68.drew
  refine wp_region_held_drew (S := fun w' => Blk w' (w45.heap.size) (bs (a ^ K1 % PP)) 23 ∧ Blk w' (w.heap.size) (bs a) 23) (by kernel_rfl) ⟨k72, k69⟩ (fun _ => ?_)
  generalize w62.drew = wd74 at *
  refine tk 0 13 (.agg (bs (a ^ K1 % PP))) rfl rfl (fun _ hw => run_row rfl rfl (hw.1) Tryd.underlying23 rfl (by rw [bs_sz]; exact info_b)) ⟨k72, k69⟩ ?_
  simp only [nz1, nz2, nz3]
  refine tk 1 14 (.agg (bs (a ^ K1 % PP))) rfl rfl (fun _ hw => run_row rfl rfl (hw.1) Tryd.underlying23 rfl (by rw [bs_sz]; exact info_b)) ⟨k72, k69⟩ ?_
  simp only [nz1, nz2, nz3]
  refine tk 3 16 (.agg (bs a)) rfl rfl (fun _ hw => run_row rfl rfl (hw.2) Tryd.underlying23 rfl (by rw [bs_sz]; exact info_b)) ⟨k72, k69⟩ ?_
  simp only [nz1, nz2, nz3]
  refine one_ready 2 (by kernel_rfl) ?_
  refine opd rfl (wanted_none rfl) (w_enter 15 (.agg (bs ((a ^ K1 % PP) * (a ^ K1 % PP) % PP))) rfl (run_rMul rfl rfl rfl) (rmul_any (a ^ K1 % PP) (a ^ K1 % PP) (Nat.lt_trans (Nat.mod_lt _ (by decide)) pp_lt) (Nat.lt_trans (Nat.mod_lt _ (by decide)) pp_lt) _) (fun w75 hb76 => ?_))
  have k77 := k69.call hb76
  have k78 := k70.call hb76
  have k79 := k71.call hb76
  have k80 := k72.call hb76
  have hbel81 := bel_call hbel73 hb76
  refine ⟨⟨k80, k77⟩, ?_⟩
  simp only [nz1, nz2, nz3]
  refine one_ready 4 (by kernel_rfl) ?_
  refine opd rfl (wanted_none rfl) (w_enter 17 (.agg (bs (a % PP))) rfl (run_rReduce rfl rfl) (rreduce_any a HA.out _) (fun w82 hb83 => ?_))
  have k84 := k77.call hb83
  have k85 := k78.call hb83
  have k86 := k79.call hb83
  have k87 := k80.call hb83
  have hbel88 := bel_call hbel81 hb83
  refine ⟨⟨k87, k84⟩, ?_⟩
  simp only [nz1, nz2, nz3]
  refine tk 5 18 (.bool false) rfl rfl (fun _ hw => run_neqN ((a ^ K1 % PP) * (a ^ K1 % PP) % PP) (a % PP) (Nat.lt_trans (Nat.mod_lt _ (by decide)) pp_lt) (Nat.lt_trans (Nat.mod_lt _ (by decide)) pp_lt) false H1.out rfl rfl rfl) ⟨k87, k84⟩ ?_
  simp only [nz1, nz2, nz3]
  refine wpAnyH_done (by kernel_rfl) ?_ _
  go_step
  go_step
  go_step
  go_step
  go_step
  go_step
  go_step
  go_step
  have k89 := k84.drew
  have k90 := k85.drew
  have k91 := k86.drew
  have k92 := k87.drew
  have hbel93 := hbel88.drew
  refine wp_region_held_drew (S := fun w' => Blk w' (w45.heap.size) (bs (a ^ K1 % PP)) 23 ∧ Blk w' (w.heap.size) (bs a) 23) (by kernel_rfl) ⟨k92, k89⟩ (fun _ => ?_)
  generalize w82.drew = wd94 at *
  refine tk 0 27 (.agg (bs (a ^ K1 % PP))) rfl rfl (fun _ hw => run_row rfl rfl (hw.1) Tryd.underlying23 rfl (by rw [bs_sz]; exact info_b)) ⟨k92, k89⟩ ?_
  simp only [nz1, nz2, nz3]
  refine tk 1 28 (.agg (bs (a ^ K1 % PP))) rfl rfl (fun _ hw => run_row rfl rfl (hw.1) Tryd.underlying23 rfl (by rw [bs_sz]; exact info_b)) ⟨k92, k89⟩ ?_
  simp only [nz1, nz2, nz3]
  refine tk 3 30 (.agg (bs a)) rfl rfl (fun _ hw => run_row rfl rfl (hw.2) Tryd.underlying23 rfl (by rw [bs_sz]; exact info_b)) ⟨k92, k89⟩ ?_
  simp only [nz1, nz2, nz3]
  refine one_ready 2 (by kernel_rfl) ?_
  refine opd rfl (wanted_none rfl) (w_enter 29 (.agg (bs ((a ^ K1 % PP) * (a ^ K1 % PP) % PP))) rfl (run_rMul rfl rfl rfl) (rmul_any (a ^ K1 % PP) (a ^ K1 % PP) (Nat.lt_trans (Nat.mod_lt _ (by decide)) pp_lt) (Nat.lt_trans (Nat.mod_lt _ (by decide)) pp_lt) _) (fun w95 hb96 => ?_))
  have k97 := k89.call hb96
  have k98 := k90.call hb96
  have k99 := k91.call hb96
  have k100 := k92.call hb96
  have hbel101 := bel_call hbel93 hb96
  refine ⟨⟨k100, k97⟩, ?_⟩
  simp only [nz1, nz2, nz3]
  refine one_ready 4 (by kernel_rfl) ?_
  refine opd rfl (wanted_none rfl) (w_enter 31 (.agg (bs (a % PP))) rfl (run_rReduce rfl rfl) (rreduce_any a HA.out _) (fun w102 hb103 => ?_))
  have k104 := k97.call hb103
  have k105 := k98.call hb103
  have k106 := k99.call hb103
  have k107 := k100.call hb103
  have hbel108 := bel_call hbel101 hb103
  refine ⟨⟨k107, k104⟩, ?_⟩
  simp only [nz1, nz2, nz3]
  refine tk 5 32 (.bool false) rfl rfl (fun _ hw => run_neqN ((a ^ K1 % PP) * (a ^ K1 % PP) % PP) (a % PP) (Nat.lt_trans (Nat.mod_lt _ (by decide)) pp_lt) (Nat.lt_trans (Nat.mod_lt _ (by decide)) pp_lt) false H1.out rfl rfl rfl) ⟨k107, k104⟩ ?_
  simp only [nz1, nz2, nz3]
  refine wpAnyH_done (by kernel_rfl) ?_ _
  go_step
  go_step
  go_step
  go_step
  go_step
  go_step
  go_step
  go_step
  go_step
  refine lv 34 (.pointer (some ⟨w45.heap.size, 0, none⟩)) rfl rfl (run_ix 5 0 (w45.heap.size) rfl rfl (by decide)) ?_
  simp only [nz1, nz2, nz3]
  refine lv 35 (.int .u8 (bt (a ^ K1 % PP) 0 : Int)) rfl rfl (run_ld8v (bt (a ^ K1 % PP)) 0 (w45.heap.size) (show Row _ _ 32 23 .u8 (bt (a ^ K1 % PP)) from k107) rfl rfl (by decide)) ?_
  simp only [nz1, nz2, nz3]
  refine lv 36 (.int .u8 (((a ^ K1 % PP) % 2 : Nat) : Int)) rfl rfl (run_rem2 (a ^ K1 % PP) rfl rfl) ?_
  simp only [nz1, nz2, nz3]
  refine lv 37 (.bool true) rfl rfl (run_one8 (b := (a ^ K1 % PP) % 2) rfl rfl H3.out) ?_
  simp only [nz1, nz2, nz3]
  go_step
  go_step
  go_step
  go_step
  go_step
  refine lv 38 (.agg (bs (a ^ K1 % PP))) rfl rfl (run_row rfl rfl k107 Tryd.underlying23 rfl (by rw [bs_sz]; exact info_b)) ?_
  simp only [nz1, nz2, nz3]
  refine lst (wanted_none rfl) (w_enter 39 (.agg (bs ((PP - ((a ^ K1 % PP) % PP)) % PP))) rfl (run_rNeg rfl rfl) (rneg_any (a ^ K1 % PP) (Nat.lt_trans (Nat.mod_lt _ (by decide)) pp_lt) _) (fun w109 hb110 => ?_))
  have k111 := k104.call hb110
  have k112 := k105.call hb110
  have k113 := k106.call hb110
  have k114 := k107.call hb110
  have hbel115 := bel_call hbel108 hb110
  simp only [nz1, nz2, nz3]
  refine lst (wanted_none rfl) (w_store 23 _ _ (w45.heap.size) (bs ((PP - ((a ^ K1 % PP) % PP)) % PP)) rfl rfl rfl rfl k114 (by rw [bs_sz]; exact info_b) ((bs_sz _).trans (bs_sz _).symm) (bs_one _) (fun w116 he117 => ?_))
  have k118 := k111.other hne54 he117
  have k119 := k112.other hne56 he117
  have k120 := k113.other hne58 he117
  have k121 := k114.set he117
  have hbel122 := bel_set hbel115 hg60 he117
  go_step
  go_step
  go_step
  go_step
  go_step
  refine lv 40 (.agg (bs ((PP - ((a ^ K1 % PP) % PP)) % PP))) rfl rfl (run_row rfl rfl k121 Tryd.underlying23 rfl (by rw [bs_sz]; exact info_b)) ?_
  simp only [nz1, nz2, nz3]
  refine lst (wanted_none rfl) (w_store 23 _ _ (w1.heap.size) (bs ((PP - ((a ^ K1 % PP) % PP)) % PP)) rfl rfl rfl rfl k119 (by rw [bs_sz]; exact info_b) ((bs_sz _).trans (bs_sz _).symm) (bs_one _) (fun w123 he124 => ?_))
  have k125 := k118.other hne9 he124
  have k126 := k120.other hne23.symm he124
  have k127 := k121.other hne56.symm he124
  have k128 := k119.set he124
  have hbel129 := bel_set hbel122 hg11 he124
  refine lv 3 (.bool true) rfl rfl (run_as rfl rfl) ?_
  simp only [nz1, nz2, nz3]
  go_step
  go_step
  go_step
  go_wp2
  refine bodyPost_ret (results_cell_tmp rfl _ _ (w1.heap.size) 23 (bs ((PP - ((a ^ K1 % PP) % PP)) % PP)) (0, 0) _ (.bool true) rfl rfl k128 Tryd.underlying23 rfl (by rw [bs_sz]; exact info_b)) rfl ⟨rfl, hbel129⟩

set_option maxHeartbeats 1000000 in
theorem rroot_turn0 (a : Nat) (ha : a < MM) (h1 : decide ((a ^ K1 % PP) * (a ^ K1 % PP) % PP = (a % PP)) = false) (h2 : decide (((a ^ K1 % PP) * (2 ^ K2 % PP) % PP) * ((a ^ K1 % PP) * (2 ^ K2 % PP) % PP) % PP = (a % PP)) = true) (h3 : decide (((a ^ K1 % PP) * (2 ^ K2 % PP) % PP) % 2 = 1) = false) (w : World) : Calls Tryd.prog 40 #[.agg (bs a)] w fun e w' => e = .returned (.tuple #[.agg (bs ((a ^ K1 % PP) * (2 ^ K2 % PP) % PP)), .bool true]) ∧ Below w.heap.size w w' := by
  have HA := Lib.hid ha
  clear ha
  have H1 := Lib.hid h1
  clear h1
  have H2 := Lib.hid h2
  clear h2
  have H3 := Lib.hid h3
  clear h3
  go_enter Tryd.func40, Tryd.ntmps40
  have hbel0 := Below.refl w.heap.size w
  go_step
  go_step
  go_step
  refine lst (wanted_none rfl) (w_alloc (c := bs a) (T := 23) 1 rfl (run_box rfl rfl) (fun w1 he2 => ?_))
  have k3 := Blk.new he2
  have hg4 : w.heap.size ≤ w.heap.size := hbel0.size
  have hbel5 := bel_alloc hbel0 he2
  simp only [nz1, nz2, nz3]
  refine lst (wanted_none rfl) (w_alloc (c := bs 0) (T := 23) 2 rfl (run_alN rfl) (fun w6 he7 => ?_))
  have hne9 : w.heap.size ≠ w1.heap.size := Nat.ne_of_lt k3.lt
  have k8 := k3.alloc he7
  have k10 := Blk.new he7
  have hg11 : w.heap.size ≤ w1.heap.size := hbel5.size
  have hbel12 := bel_alloc hbel5 he7
  simp only [nz1, nz2, nz3]
  refine lv 3 (.bool false) rfl rfl (run_as rfl rfl) ?_
  simp only [nz1, nz2, nz3]
  go_step
  go_step
  go_step
  go_step
  go_step
  refine lst (wanted_none rfl) (w_enter 7 (.agg (bs PP)) rfl (run_rorder rfl) (rorder_any _) (fun w13 hb14 => ?_))
  have k15 := k8.call hb14
  have k16 := k10.call hb14
  have hbel17 := bel_call hbel12 hb14
  simp only [nz1, nz2, nz3]
  refine lst (wanted_none rfl) (w_alloc (c := bs 0) (T := 23) 4 rfl (run_alN rfl) (fun w18 he19 => ?_))
  have hne21 : w.heap.size ≠ w13.heap.size := Nat.ne_of_lt k15.lt
  have k20 := k15.alloc he19
  have hne23 : w1.heap.size ≠ w13.heap.size := Nat.ne_of_lt k16.lt
  have k22 := k16.alloc he19
  have k24 := Blk.new he19
  have hg25 : w.heap.size ≤ w13.heap.size := hbel17.size
  have hbel26 := bel_alloc hbel17 he19
  simp only [nz1, nz2, nz3]
  refine lst (wanted_none rfl) (w_store 23 _ _ (w13.heap.size) (bs PP) rfl rfl rfl rfl k24 (by rw [bs_sz]; exact info_b) ((bs_sz _).trans (bs_sz _).symm) (bs_one _) (fun w27 he28 => ?_))
  have k29 := k20.other hne21 he28
  have k30 := k22.other hne23 he28
  have k31 := k24.set he28
  have hbel32 := bel_set hbel26 hg25 he28
  go_step
  go_step
  go_step
  go_step
  go_step
  refine lv 8 (.pointer (some ⟨w13.heap.size, 0, none⟩)) rfl rfl (run_ix 4 0 (w13.heap.size) rfl rfl (by decide)) ?_
  simp only [nz1, nz2, nz3]
  refine lst (wanted_none rfl) (w_put (w13.heap.size) 0 (.int .u8 254) rfl k31 put_a (run_put (bt PP) 0 (w13.heap.size) k31 (by decide) rfl rfl) (fun w33 he34 => ?_))
  have k35 := k29.other hne21 he34
  have k36 := k30.other hne23 he34
  have k37 := k31.set he34
  have hbel38 := bel_set hbel32 hg25 he34
  go_step
  go_step
  go_step
  go_step
  go_step
  refine lv 9 (.pointer (some ⟨w13.heap.size, 31, none⟩)) rfl rfl (run_ix 4 31 (w13.heap.size) rfl rfl (by decide)) ?_
  simp only [nz1, nz2, nz3]
  refine lst (wanted_none rfl) (w_put (w13.heap.size) 31 (.int .u8 15) rfl k37 put_b (run_put (bt K1a) 31 (w13.heap.size) k37 (by decide) rfl rfl) (fun w39 he40 => ?_))
  have k41 := k35.other hne21 he40
  have k42 := k36.other hne23 he40
  have k43 := k37.set he40
  have hbel44 := bel_set hbel38 hg25 he40
  go_step
  go_step
  go_step
  go_step
  go_step
  refine lv 10 (.agg (bs a)) rfl rfl (run_row rfl rfl k41 Tryd.underlying23 rfl (by rw [bs_sz]; exact info_b)) ?_
  simp only [nz1, nz2, nz3]
  refine lv 11 (.agg (bs K1)) rfl rfl (run_row rfl rfl k43 Tryd.underlying23 rfl (by rw [bs_sz]; exact info_b)) ?_
  simp only [nz1, nz2, nz3]
  refine lst (wanted_none rfl) (w_enter 12 (.agg (bs (a ^ K1 % PP))) rfl (run_rPower rfl rfl rfl) (rpower_any a K1 HA.out (by decide) _) (fun w45 hb46 => ?_))
  have k47 := k41.call hb46
  have k48 := k42.call hb46
  have k49 := k43.call hb46
  have hbel50 := bel_call hbel44 hb46
  simp only [nz1, nz2, nz3]
  refine lst (wanted_none rfl) (w_alloc (c := bs 0) (T := 23) 5 rfl (run_alN rfl) (fun w51 he52 => ?_))
  have hne54 : w.heap.size ≠ w45.heap.size := Nat.ne_of_lt k47.lt
  have k53 := k47.alloc he52
  have hne56 : w1.heap.size ≠ w45.heap.size := Nat.ne_of_lt k48.lt
  have k55 := k48.alloc he52
  have hne58 : w13.heap.size ≠ w45.heap.size := Nat.ne_of_lt k49.lt
  have k57 := k49.alloc he52
  have k59 := Blk.new he52
  have hg60 : w.heap.size ≤ w45.heap.size := hbel50.size
  have hbel61 := bel_alloc hbel50 he52
  simp only [nz1, nz2, nz3]
  refine lst (wanted_none rfl) (w_store 23 _ _ (w45.heap.size) (bs (a ^ K1 % PP)) rfl rfl rfl rfl k59 (by rw [bs_sz]; exact info_b) ((bs_sz _).trans (bs_sz _).symm) (bs_one _) (fun w62 he63 => ?_))
  have k64 := k53.other hne54 he63
  have k65 := k55.other hne56 he63
  have k66 := k57.other hne58 he63
  have k67 := k59.set he63
  have hbel68 := bel_set hbel61 hg60 he63
  go_step
  go_step
  go_step
  go_step
  go_step
  have k69 := k64.drew
  have k70 := k65.drew
  have k71 := k66.drew
  have k72 := k67.drew
  have hbel73 := hbel68.drew
  refine wp_region_held_drew (S := fun w' => Blk w' (w45.heap.size) (bs (a ^ K1 % PP)) 23 ∧ Blk w' (w.heap.size) (bs a) 23) (by kernel_rfl) ⟨k72, k69⟩ (fun _ => ?_)
  generalize w62.drew = wd74 at *
  refine tk 0 13 (.agg (bs (a ^ K1 % PP))) rfl rfl (fun _ hw => run_row rfl rfl (hw.1) Tryd.underlying23 rfl (by rw [bs_sz]; exact info_b)) ⟨k72, k69⟩ ?_
  simp only [nz1, nz2, nz3]
  refine tk 1 14 (.agg (bs (a ^ K1 % PP))) rfl rfl (fun _ hw => run_row rfl rfl (hw.1) Tryd.underlying23 rfl (by rw [bs_sz]; exact info_b)) ⟨k72, k69⟩ ?_
  simp only [nz1, nz2, nz3]
  refine tk 3 16 (.agg (bs a)) rfl rfl (fun _ hw => run_row rfl rfl (hw.2) Tryd.underlying23 rfl (by rw [bs_sz]; exact info_b)) ⟨k72, k69⟩ ?_
  simp only [nz1, nz2, nz3]
  refine one_ready 2 (by kernel_rfl) ?_
  refine opd rfl (wanted_none rfl) (w_enter 15 (.agg (bs ((a ^ K1 % PP) * (a ^ K1 % PP) % PP))) rfl (run_rMul rfl rfl rfl) (rmul_any (a ^ K1 % PP) (a ^ K1 % PP) (Nat.lt_trans (Nat.mod_lt _ (by decide)) pp_lt) (Nat.lt_trans (Nat.mod_lt _ (by decide)) pp_lt) _) (fun w75 hb76 => ?_))
  have k77 := k69.call hb76
  have k78 := k70.call hb76
  have k79 := k71.call hb76
  have k80 := k72.call hb76
  have hbel81 := bel_call hbel73 hb76
  refine ⟨⟨k80, k77⟩, ?_⟩
  simp only [nz1, nz2, nz3]
  refine one_ready 4 (by kernel_rfl) ?_
  refine opd rfl (wanted_none rfl) (w_enter 17 (.agg (bs (a % PP))) rfl (run_rReduce rfl rfl) (rreduce_any a HA.out _) (fun w82 hb83 => ?_))
  have k84 := k77.call hb83
  have k85 := k78.call hb83
  have k86 := k79.call hb83
  have k87 := k80.call hb83
  have hbel88 := bel_call hbel81 hb83
  refine ⟨⟨k87, k84⟩, ?_⟩
  simp only [nz1, nz2, nz3]
  refine tk 5 18 (.bool true) rfl rfl (fun _ hw => run_neqN ((a ^ K1 % PP) * (a ^ K1 % PP) % PP) (a % PP) (Nat.lt_trans (Nat.mod_lt _ (by decide)) pp_lt) (Nat.lt_trans (Nat.mod_lt _ (by decide)) pp_lt) true H1.out rfl rfl rfl) ⟨k87, k84⟩ ?_
  simp only [nz1, nz2, nz3]
  refine wpAnyH_done (by kernel_rfl) ?_ _
  go_step
  go_step
  go_step
  go_step
  go_step
  refine lst (wanted_none rfl) (w_enter 19 (.agg (bs PP)) rfl (run_rorder rfl) (rorder_any _) (fun w89 hb90 => ?_))
  have k91 := k84.call hb90
  have k92 := k85.call hb90
  have k93 := k86.call hb90
  have k94 := k87.call hb90
  have hbel95 := bel_call hbel88 hb90
  simp only [nz1, nz2, nz3]
  refine lst (wanted_none rfl) (w_alloc (c := bs 0) (T := 23) 6 rfl (run_alN rfl) (fun w96 he97 => ?_))
  have hne99 : w.heap.size ≠ w89.heap.size := Nat.ne_of_lt k91.lt
  have k98 := k91.alloc he97
  have hne101 : w1.heap.size ≠ w89.heap.size := Nat.ne_of_lt k92.lt
  have k100 := k92.alloc he97
  have hne103 : w13.heap.size ≠ w89.heap.size := Nat.ne_of_lt k93.lt
  have k102 := k93.alloc he97
  have hne105 : w45.heap.size ≠ w89.heap.size := Nat.ne_of_lt k94.lt
  have k104 := k94.alloc he97
  have k106 := Blk.new he97
  have hg107 : w.heap.size ≤ w89.heap.size := hbel95.size
  have hbel108 := bel_alloc hbel95 he97
  simp only [nz1, nz2, nz3]
  refine lst (wanted_none rfl) (w_store 23 _ _ (w89.heap.size) (bs PP) rfl rfl rfl rfl k106 (by rw [bs_sz]; exact info_b) ((bs_sz _).trans (bs_sz _).symm) (bs_one _) (fun w109 he110 => ?_))
  have k111 := k98.other hne99 he110
  have k112 := k100.other hne101 he110
  have k113 := k102.other hne103 he110
  have k114 := k104.other hne105 he110
  have k115 := k106.set he110
  have hbel116 := bel_set hbel108 hg107 he110
  go_step
  go_step
  go_step
  go_step
  go_step
  refine lv 20 (.pointer (some ⟨w89.heap.size, 0, none⟩)) rfl rfl (run_ix 6 0 (w89.heap.size) rfl rfl (by decide)) ?_
  simp only [nz1, nz2, nz3]
  refine lst (wanted_none rfl) (w_put (w89.heap.size) 0 (.int .u8 251) rfl k115 put_c (run_put (bt PP) 0 (w89.heap.size) k115 (by decide) rfl rfl) (fun w117 he118 => ?_))
  have k119 := k111.other hne99 he118
  have k120 := k112.other hne101 he118
  have k121 := k113.other hne103 he118
  have k122 := k114.other hne105 he118
  have k123 := k115.set he118
  have hbel124 := bel_set hbel116 hg107 he118
  go_step
  go_step
  go_step
  go_step
  go_step
  refine lv 21 (.pointer (some ⟨w89.heap.size, 31, none⟩)) rfl rfl (run_ix 6 31 (w89.heap.size) rfl rfl (by decide)) ?_
  simp only [nz1, nz2, nz3]
  refine lst (wanted_none rfl) (w_put (w89.heap.size) 31 (.int .u8 31) rfl k123 put_d (run_put (bt K2a) 31 (w89.heap.size) k123 (by decide) rfl rfl) (fun w125 he126 => ?_))
  have k127 := k119.other hne99 he126
  have k128 := k120.other hne101 he126
  have k129 := k121.other hne103 he126
  have k130 := k122.other hne105 he126
  have k131 := k123.set he126
  have hbel132 := bel_set hbel124 hg107 he126
  go_step
  go_step
  go_step
  have k133 := k127.drew
  have k134 := k128.drew
  have k135 := k129.drew
  have k136 := k130.drew
  have k137 := k131.drew
  have hbel138 := hbel132.drew
  refine wp_region_held_drew (S := fun w' => Blk w' (w89.heap.size) (bs K2) 23) (by kernel_rfl) k137 (fun _ => ?_)
  generalize w125.drew = wd139 at *
  refine tk 1 23 (.agg (bs 2)) rfl rfl (fun _ hw => by unfold execOp; go_simp; rfl) k137 ?_
  simp only [nz1, nz2, nz3]
  refine tk 2 24 (.agg (bs K2)) rfl rfl (fun _ hw => run_row rfl rfl hw Tryd.underlying23 rfl (by rw [bs_sz]; exact info_b)) k137 ?_
  simp only [nz1, nz2, nz3]
  refine two_ready 0 3 (by kernel_rfl) ?_ ?_
  · refine opd rfl (wanted_none rfl) (w_value 22 (.agg (bs (a ^ K1 % PP))) rfl (run_row rfl rfl k136 Tryd.underlying23 rfl (by rw [bs_sz]; exact info_b)) ⟨k137, ?_⟩)
    simp only [nz1, nz2, nz3]
    refine one_ready 3 (by kernel_rfl) ?_
    refine opd rfl (wanted_none rfl) (w_enter 25 (.agg (bs (2 ^ K2 % PP))) rfl (run_rPower rfl rfl rfl) (rpower_any 2 K2 (by decide) (by decide) _) (fun w140 hb141 => ?_))
    have k142 := k133.call hb141
    have k143 := k134.call hb141
    have k144 := k135.call hb141
    have k145 := k136.call hb141
    have k146 := k137.call hb141
    have hbel147 := bel_call hbel138 hb141
    refine ⟨k146, ?_⟩
    simp only [nz1, nz2, nz3]
    refine one_ready 4 (by kernel_rfl) ?_
    refine opd rfl (wanted_none rfl) (w_enter 26 (.agg (bs ((a ^ K1 % PP) * (2 ^ K2 % PP) % PP))) rfl (run_rMul rfl rfl rfl) (rmul_any (a ^ K1 % PP) (2 ^ K2 % PP) (Nat.lt_trans (Nat.mod_lt _ (by decide)) pp_lt) (Nat.lt_trans (Nat.mod_lt _ (by decide)) pp_lt) _) (fun w148 hb149 => ?_))
    have k150 := k142.call hb149
    have k151 := k143.call hb149
    have k152 := k144.call hb149
    have k153 := k145.call hb149
    have k154 := k146.call hb149
    have hbel155 := bel_call hbel147 hb149
    refine ⟨k154, ?_⟩
    simp only [nz1, nz2, nz3]
    refine one_ready 5 (by kernel_rfl) ?_
    refine opd rfl (wanted_none rfl) (w_store 23 _ _ (w45.heap.size) (bs ((a ^ K1 % PP) * (2 ^ K2 % PP) % PP)) rfl rfl rfl rfl k153 (by rw [bs_sz]; exact info_b) ((bs_sz _).trans (bs_sz _).symm) (bs_one _) (fun w156 he157 => ?_))
    have k158 := k150.other hne54 he157
    have k159 := k151.other hne56 he157
    have k160 := k152.other hne58 he157
    have k161 := k154.other hne105.symm he157
    have k162 := k153.set he157
    have hbel163 := bel_set hbel155 hg60 he157
    refine ⟨k161, ?_⟩
    refine wpAnyH_done (by kernel_rfl) ?_ _
    go_step
    go_step
    go_step
    go_step
    have k164 := k158.drew
    have k165 := k159.drew
    have k166 := k160.drew
    have k167 := k162.drew
    have k168 := k161.drew
    have hbel169 := hbel163.drew
    refine wp_region_held_drew (S := fun w' => Blk w' (w45.heap.size) (bs ((a ^ K1 % PP) * (2 ^ K2 % PP) % PP)) 23 ∧ Blk w' (w.heap.size) (bs a) 23) (by kernel_rfl) ⟨k167, k164⟩ (fun _ => ?_)
    generalize w156.drew = wd170 at *
    refine tk 0 27 (.agg (bs ((a ^ K1 % PP) * (2 ^ K2 % PP) % PP))) rfl rfl (fun _ hw => run_row rfl rfl (hw.1) Tryd.underlying23 rfl (by rw [bs_sz]; exact info_b)) ⟨k167, k164⟩ ?_
    simp only [nz1, nz2, nz3]
    refine tk 1 28 (.agg (bs ((a ^ K1 % PP) * (2 ^ K2 % PP) % PP))) rfl rfl (fun _ hw => run_row rfl rfl (hw.1) Tryd.underlying23 rfl (by rw [bs_sz]; exact info_b)) ⟨k167, k164⟩ ?_
    simp only [nz1, nz2, nz3]
    refine tk 3 30 (.agg (bs a)) rfl rfl (fun _ hw => run_row rfl rfl (hw.2) Tryd.underlying23 rfl (by rw [bs_sz]; exact info_b)) ⟨k167, k164⟩ ?_
    simp only [nz1, nz2, nz3]
    refine one_ready 2 (by kernel_rfl) ?_
    refine opd rfl (wanted_none rfl) (w_enter 29 (.agg (bs (((a ^ K1 % PP) * (2 ^ K2 % PP) % PP) * ((a ^ K1 % PP) * (2 ^ K2 % PP) % PP) % PP))) rfl (run_rMul rfl rfl rfl) (rmul_any ((a ^ K1 % PP) * (2 ^ K2 % PP) % PP) ((a ^ K1 % PP) * (2 ^ K2 % PP) % PP) (Nat.lt_trans (Nat.mod_lt _ (by decide)) pp_lt) (Nat.lt_trans (Nat.mod_lt _ (by decide)) pp_lt) _) (fun w171 hb172 => ?_))
    have k173 := k164.call hb172
    have k174 := k165.call hb172
    have k175 := k166.call hb172
    have k176 := k167.call hb172
    have k177 := k168.call hb172
    have hbel178 := bel_call hbel169 hb172
    refine ⟨⟨k176, k173⟩, ?_⟩
    simp only [nz1, nz2, nz3]
    refine one_ready 4 (by kernel_rfl) ?_
    refine opd rfl (wanted_none rfl) (w_enter 31 (.agg (bs (a % PP))) rfl (run_rReduce rfl rfl) (rreduce_any a HA.out _) (fun w179 hb180 => ?_))
    have k181 := k173.call hb180
    have k182 := k174.call hb180
    have k183 := k175.call hb180
    have k184 := k176.call hb180
    have k185 := k177.call hb180
    have hbel186 := bel_call hbel178 hb180
    refine ⟨⟨k184, k181⟩, ?_⟩
    simp only [nz1, nz2, nz3]
    refine tk 5 32 (.bool false) rfl rfl (fun _ hw => run_neqN (((a ^ K1 % PP) * (2 ^ K2 % PP) % PP) * ((a ^ K1 % PP) * (2 ^ K2 % PP) % PP) % PP) (a % PP) (Nat.lt_trans (Nat.mod_lt _ (by decide)) pp_lt) (Nat.lt_trans (Nat.mod_lt _ (by decide)) pp_lt) false H2.out rfl rfl rfl) ⟨k184, k181⟩ ?_
    simp only [nz1, nz2, nz3]
    refine wpAnyH_done (by kernel_rfl) ?_ _
    go_step
    go_step
    go_step
    go_step
    go_step
    go_step
    go_step
    go_step
    go_step
    refine lv 34 (.pointer (some ⟨w45.heap.size, 0, none⟩)) rfl rfl (run_ix 5 0 (w45.heap.size) rfl rfl (by decide)) ?_
    simp only [nz1, nz2, nz3]
    refine lv 35 (.int .u8 (bt ((a ^ K1 % PP) * (2 ^ K2 % PP) % PP) 0 : Int)) rfl rfl (run_ld8v (bt ((a ^ K1 % PP) * (2 ^ K2 % PP) % PP)) 0 (w45.heap.size) (show Row _ _ 32 23 .u8 (bt ((a ^ K1 % PP) * (2 ^ K2 % PP) % PP)) from k184) rfl rfl (by decide)) ?_
    simp only [nz1, nz2, nz3]
    refine lv 36 (.int .u8 ((((a ^ K1 % PP) * (2 ^ K2 % PP) % PP) % 2 : Nat) : Int)) rfl rfl (run_rem2 ((a ^ K1 % PP) * (2 ^ K2 % PP) % PP) rfl rfl) ?_
    simp only [nz1, nz2, nz3]
    refine lv 37 (.bool false) rfl rfl (run_one8 (b := ((a ^ K1 % PP) * (2 ^ K2 % PP) % PP) % 2) rfl rfl H3.out) ?_
    simp only [nz1, nz2, nz3]
    go_step
    go_step
    go_step
    go_step
    go_step
    go_step
    go_step
    go_step
    go_step
    refine lv 40 (.agg (bs ((a ^ K1 % PP) * (2 ^ K2 % PP) % PP))) rfl rfl (run_row rfl rfl k184 Tryd.underlying23 rfl (by rw [bs_sz]; exact info_b)) ?_
    simp only [nz1, nz2, nz3]
    refine lst (wanted_none rfl) (w_store 23 _ _ (w1.heap.size) (bs ((a ^ K1 % PP) * (2 ^ K2 % PP) % PP)) rfl rfl rfl rfl k182 (by rw [bs_sz]; exact info_b) ((bs_sz _).trans (bs_sz _).symm) (bs_one _) (fun w187 he188 => ?_))
    have k189 := k181.other hne9 he188
    have k190 := k183.other hne23.symm he188
    have k191 := k184.other hne56.symm he188
    have k192 := k185.other hne101.symm he188
    have k193 := k182.set he188
    have hbel194 := bel_set hbel186 hg11 he188
    refine lv 3 (.bool true) rfl rfl (run_as rfl rfl) ?_
    simp only [nz1, nz2, nz3]
    go_step
    go_step
    go_step
    go_wp2
    refine bodyPost_ret (results_cell_tmp rfl _ _ (w1.heap.size) 23 (bs ((a ^ K1 % PP) * (2 ^ K2 % PP) % PP)) (0, 0) _ (.bool true) rfl rfl k193 Tryd.underlying23 rfl (by rw [bs_sz]; exact info_b)) rfl ⟨rfl, hbel194⟩
  · refine opd rfl (wanted_none rfl) (w_enter 25 (.agg (bs (2 ^ K2 % PP))) rfl (run_rPower rfl rfl rfl) (rpower_any 2 K2 (by decide) (by decide) _) (fun w195 hb196 => ?_))
    have k197 := k133.call hb196
    have k198 := k134.call hb196
    have k199 := k135.call hb196
    have k200 := k136.call hb196
    have k201 := k137.call hb196
    have hbel202 := bel_call hbel138 hb196
    refine ⟨k201, ?_⟩
    simp only [nz1, nz2, nz3]
    refine one_ready 0 (by kernel_rfl) ?_
    refine opd rfl (wanted_none rfl) (w_value 22 (.agg (bs (a ^ K1 % PP))) rfl (run_row rfl rfl k200 Tryd.underlying23 rfl (by rw [bs_sz]; exact info_b)) ⟨k201, ?_⟩)
    simp only [nz1, nz2, nz3]
    refine one_ready 4 (by kernel_rfl) ?_
    refine opd rfl (wanted_none rfl) (w_enter 26 (.agg (bs ((a ^ K1 % PP) * (2 ^ K2 % PP) % PP))) rfl (run_rMul rfl rfl rfl) (rmul_any (a ^ K1 % PP) (2 ^ K2 % PP) (Nat.lt_trans (Nat.mod_lt _ (by decide)) pp_lt) (Nat.lt_trans (Nat.mod_lt _ (by decide)) pp_lt) _) (fun w203 hb204 => ?_))
    have k205 := k197.call hb204
    have k206 := k198.call hb204
    have k207 := k199.call hb204
    have k208 := k200.call hb204
    have k209 := k201.call hb204
    have hbel210 := bel_call hbel202 hb204
    refine ⟨k209, ?_⟩
    simp only [nz1, nz2, nz3]
    refine one_ready 5 (by kernel_rfl) ?_
    refine opd rfl (wanted_none rfl) (w_store 23 _ _ (w45.heap.size) (bs ((a ^ K1 % PP) * (2 ^ K2 % PP) % PP)) rfl rfl rfl rfl k208 (by rw [bs_sz]; exact info_b) ((bs_sz _).trans (bs_sz _).symm) (bs_one _) (fun w211 he212 => ?_))
    have k213 := k205.other hne54 he212
    have k214 := k206.other hne56 he212
    have k215 := k207.other hne58 he212
    have k216 := k209.other hne105.symm he212
    have k217 := k208.set he212
    have hbel218 := bel_set hbel210 hg60 he212
    refine ⟨k216, ?_⟩
    refine wpAnyH_done (by kernel_rfl) ?_ _
    go_step
    go_step
    go_step
    go_step
    have k219 := k213.drew
    have k220 := k214.drew
    have k221 := k215.drew
    have k222 := k217.drew
    have k223 := k216.drew
    have hbel224 := hbel218.drew
    refine wp_region_held_drew (S := fun w' => Blk w' (w45.heap.size) (bs ((a ^ K1 % PP) * (2 ^ K2 % PP) % PP)) 23 ∧ Blk w' (w.heap.size) (bs a) 23) (by kernel_rfl) ⟨k222, k219⟩ (fun _ => ?_)
    generalize w211.drew = wd225 at *
    refine tk 0 27 (.agg (bs ((a ^ K1 % PP) * (2 ^ K2 % PP) % PP))) rfl rfl (fun _ hw => run_row rfl rfl (hw.1) Tryd.underlying23 rfl (by rw [bs_sz]; exact info_b)) ⟨k222, k219⟩ ?_
    simp only [nz1, nz2, nz3]
    refine tk 1 28 (.agg (bs ((a ^ K1 % PP) * (2 ^ K2 % PP) % PP))) rfl rfl (fun _ hw => run_row rfl rfl (hw.1) Tryd.underlying23 rfl (by rw [bs_sz]; exact info_b)) ⟨k222, k219⟩ ?_
    simp only [nz1, nz2, nz3]
    refine tk 3 30 (.agg (bs a)) rfl rfl (fun _ hw => run_row rfl rfl (hw.2) Tryd.underlying23 rfl (by rw [bs_sz]; exact info_b)) ⟨k222, k219⟩ ?_
    simp only [nz1, nz2, nz3]
    refine one_ready 2 (by kernel_rfl) ?_
    refine opd rfl (wanted_none rfl) (w_enter 29 (.agg (bs (((a ^ K1 % PP) * (2 ^ K2 % PP) % PP) * ((a ^ K1 % PP) * (2 ^ K2 % PP) % PP) % PP))) rfl (run_rMul rfl rfl rfl) (rmul_any ((a ^ K1 % PP) * (2 ^ K2 % PP) % PP) ((a ^ K1 % PP) * (2 ^ K2 % PP) % PP) (Nat.lt_trans (Nat.mod_lt _ (by decide)) pp_lt) (Nat.lt_trans (Nat.mod_lt _ (by decide)) pp_lt) _) (fun w226 hb227 => ?_))
    have k228 := k219.call hb227
    have k229 := k220.call hb227
    have k230 := k221.call hb227
    have k231 := k222.call hb227
    have k232 := k223.call hb227
    have hbel233 := bel_call hbel224 hb227
    refine ⟨⟨k231, k228⟩, ?_⟩
    simp only [nz1, nz2, nz3]
    refine one_ready 4 (by kernel_rfl) ?_
    refine opd rfl (wanted_none rfl) (w_enter 31 (.agg (bs (a % PP))) rfl (run_rReduce rfl rfl) (rreduce_any a HA.out _) (fun w234 hb235 => ?_))
    have k236 := k228.call hb235
    have k237 := k229.call hb235
    have k238 := k230.call hb235
    have k239 := k231.call hb235
    have k240 := k232.call hb235
    have hbel241 := bel_call hbel233 hb235
    refine ⟨⟨k239, k236⟩, ?_⟩
    simp only [nz1, nz2, nz3]
    refine tk 5 32 (.bool false) rfl rfl (fun _ hw => run_neqN (((a ^ K1 % PP) * (2 ^ K2 % PP) % PP) * ((a ^ K1 % PP) * (2 ^ K2 % PP) % PP) % PP) (a % PP) (Nat.lt_trans (Nat.mod_lt _ (by decide)) pp_lt) (Nat.lt_trans (Nat.mod_lt _ (by decide)) pp_lt) false H2.out rfl rfl rfl) ⟨k239, k236⟩ ?_
    simp only [nz1, nz2, nz3]
    refine wpAnyH_done (by kernel_rfl) ?_ _
    go_step
    go_step
    go_step
    go_step
    go_step
    go_step
    go_step
    go_step
    go_step
    refine lv 34 (.pointer (some ⟨w45.heap.size, 0, none⟩)) rfl rfl (run_ix 5 0 (w45.heap.size) rfl rfl (by decide)) ?_
    simp only [nz1, nz2, nz3]
    refine lv 35 (.int .u8 (bt ((a ^ K1 % PP) * (2 ^ K2 % PP) % PP) 0 : Int)) rfl rfl (run_ld8v (bt ((a ^ K1 % PP) * (2 ^ K2 % PP) % PP)) 0 (w45.heap.size) (show Row _ _ 32 23 .u8 (bt ((a ^ K1 % PP) * (2 ^ K2 % PP) % PP)) from k239) rfl rfl (by decide)) ?_
    simp only [nz1, nz2, nz3]
    refine lv 36 (.int .u8 ((((a ^ K1 % PP) * (2 ^ K2 % PP) % PP) % 2 : Nat) : Int)) rfl rfl (run_rem2 ((a ^ K1 % PP) * (2 ^ K2 % PP) % PP) rfl rfl) ?_
    simp only [nz1, nz2, nz3]
    refine lv 37 (.bool false) rfl rfl (run_one8 (b := ((a ^ K1 % PP) * (2 ^ K2 % PP) % PP) % 2) rfl rfl H3.out) ?_
    simp only [nz1, nz2, nz3]
    go_step
    go_step
    go_step
    go_step
    go_step
    go_step
    go_step
    go_step
    go_step
    refine lv 40 (.agg (bs ((a ^ K1 % PP) * (2 ^ K2 % PP) % PP))) rfl rfl (run_row rfl rfl k239 Tryd.underlying23 rfl (by rw [bs_sz]; exact info_b)) ?_
    simp only [nz1, nz2, nz3]
    refine lst (wanted_none rfl) (w_store 23 _ _ (w1.heap.size) (bs ((a ^ K1 % PP) * (2 ^ K2 % PP) % PP)) rfl rfl rfl rfl k237 (by rw [bs_sz]; exact info_b) ((bs_sz _).trans (bs_sz _).symm) (bs_one _) (fun w242 he243 => ?_))
    have k244 := k236.other hne9 he243
    have k245 := k238.other hne23.symm he243
    have k246 := k239.other hne56.symm he243
    have k247 := k240.other hne101.symm he243
    have k248 := k237.set he243
    have hbel249 := bel_set hbel241 hg11 he243
    refine lv 3 (.bool true) rfl rfl (run_as rfl rfl) ?_
    simp only [nz1, nz2, nz3]
    go_step
    go_step
    go_step
    go_wp2
    refine bodyPost_ret (results_cell_tmp rfl _ _ (w1.heap.size) 23 (bs ((a ^ K1 % PP) * (2 ^ K2 % PP) % PP)) (0, 0) _ (.bool true) rfl rfl k248 Tryd.underlying23 rfl (by rw [bs_sz]; exact info_b)) rfl ⟨rfl, hbel249⟩

set_option maxHeartbeats 1000000 in
theorem rroot_turn1 (a : Nat) (ha : a < MM) (h1 : decide ((a ^ K1 % PP) * (a ^ K1 % PP) % PP = (a % PP)) = false) (h2 : decide (((a ^ K1 % PP) * (2 ^ K2 % PP) % PP) * ((a ^ K1 % PP) * (2 ^ K2 % PP) % PP) % PP = (a % PP)) = true) (h3 : decide (((a ^ K1 % PP) * (2 ^ K2 % PP) % PP) % 2 = 1) = true) (w : World) : Calls Tryd.prog 40 #[.agg (bs a)] w fun e w' => e = .returned (.tuple #[.agg (bs ((PP - (((a ^ K1 % PP) * (2 ^ K2 % PP) % PP) % PP)) % PP)), .bool true]) ∧ Below w.heap.size w w' := by
  have HA := Lib.hid ha
  clear ha
  have H1 := Lib.hid h1
  clear h1
  have H2 := Lib.hid h2
  clear h2
  have H3 := Lib.hid h3
  clear h3
  go_enter Tryd.func40, Tryd.ntmps40
  have hbel0 := Below.refl w.heap.size w
  go_step
  go_step
  go_step
  refine lst (wanted_none rfl) (w_alloc (c := bs a) (T := 23) 1 rfl (run_box rfl rfl) (fun w1 he2 => ?_))
  have k3 := Blk.new he2
  have hg4 : w.heap.size ≤ w.heap.size := hbel0.size
  have hbel5 := bel_alloc hbel0 he2
  simp only [nz1, nz2, nz3]
  refine lst (wanted_none rfl) (w_alloc (c := bs 0) (T := 23) 2 rfl (run_alN rfl) (fun w6 he7 => ?_))
  have hne9 : w.heap.size ≠ w1.heap.size := Nat.ne_of_lt k3.lt
  have k8 := k3.alloc he7
  have k10 := Blk.new he7
  have hg11 : w.heap.size ≤ w1.heap.size := hbel5.size
  have hbel12 := bel_alloc hbel5 he7
  simp only [nz1, nz2, nz3]
  refine lv 3 (.bool false) rfl rfl (run_as rfl rfl) ?_
  simp only [nz1, nz2, nz3]
  go_step
  go_step
  go_step
  go_step
  go_step
  refine lst (wanted_none rfl) (w_enter 7 (.agg (bs PP)) rfl (run_rorder rfl) (rorder_any _) (fun w13 hb14 => ?_))
  have k15 := k8.call hb14
  have k16 := k10.call hb14
  have hbel17 := bel_call hbel12 hb14
  simp only [nz1, nz2, nz3]
  refine lst (wanted_none rfl) (w_alloc (c := bs 0) (T := 23) 4 rfl (run_alN rfl) (fun w18 he19 => ?_))
  have hne21 : w.heap.size ≠ w13.heap.size := Nat.ne_of_lt k15.lt
  have k20 := k15.alloc he19
  have hne23 : w1.heap.size ≠ w13.heap.size := Nat.ne_of_lt k16.lt
  have k22 := k16.alloc he19
  have k24 := Blk.new he19
  have hg25 : w.heap.size ≤ w13.heap.size := hbel17.size
  have hbel26 := bel_alloc hbel17 he19
  simp only [nz1, nz2, nz3]
  refine lst (wanted_none rfl) (w_store 23 _ _ (w13.heap.size) (bs PP) rfl rfl rfl rfl k24 (by rw [bs_sz]; exact info_b) ((bs_sz _).trans (bs_sz _).symm) (bs_one _) (fun w27 he28 => ?_))
  have k29 := k20.other hne21 he28
  have k30 := k22.other hne23 he28
  have k31 := k24.set he28
  have hbel32 := bel_set hbel26 hg25 he28
  go_step
  go_step
  go_step
  go_step
  go_step
  refine lv 8 (.pointer (some ⟨w13.heap.size, 0, none⟩)) rfl rfl (run_ix 4 0 (w13.heap.size) rfl rfl (by decide)) ?_
  simp only [nz1, nz2, nz3]
  refine lst (wanted_none rfl) (w_put (w13.heap.size) 0 (.int .u8 254) rfl k31 put_a (run_put (bt PP) 0 (w13.heap.size) k31 (by decide) rfl rfl) (fun w33 he34 => ?_))
  have k35 := k29.other hne21 he34
  have k36 := k30.other hne23 he34
  have k37 := k31.set he34
  have hbel38 := bel_set hbel32 hg25 he34
  go_step
  go_step
  go_step
  go_step
  go_step
  refine lv 9 (.pointer (some ⟨w13.heap.size, 31, none⟩)) rfl rfl (run_ix 4 31 (w13.heap.size) rfl rfl (by decide)) ?_
  simp only [nz1, nz2, nz3]
  refine lst (wanted_none rfl) (w_put (w13.heap.size) 31 (.int .u8 15) rfl k37 put_b (run_put (bt K1a) 31 (w13.heap.size) k37 (by decide) rfl rfl) (fun w39 he40 => ?_))
  have k41 := k35.other hne21 he40
  have k42 := k36.other hne23 he40
  have k43 := k37.set he40
  have hbel44 := bel_set hbel38 hg25 he40
  go_step
  go_step
  go_step
  go_step
  go_step
  refine lv 10 (.agg (bs a)) rfl rfl (run_row rfl rfl k41 Tryd.underlying23 rfl (by rw [bs_sz]; exact info_b)) ?_
  simp only [nz1, nz2, nz3]
  refine lv 11 (.agg (bs K1)) rfl rfl (run_row rfl rfl k43 Tryd.underlying23 rfl (by rw [bs_sz]; exact info_b)) ?_
  simp only [nz1, nz2, nz3]
  refine lst (wanted_none rfl) (w_enter 12 (.agg (bs (a ^ K1 % PP))) rfl (run_rPower rfl rfl rfl) (rpower_any a K1 HA.out (by decide) _) (fun w45 hb46 => ?_))
  have k47 := k41.call hb46
  have k48 := k42.call hb46
  have k49 := k43.call hb46
  have hbel50 := bel_call hbel44 hb46
  simp only [nz1, nz2, nz3]
  refine lst (wanted_none rfl) (w_alloc (c := bs 0) (T := 23) 5 rfl (run_alN rfl) (fun w51 he52 => ?_))
  have hne54 : w.heap.size ≠ w45.heap.size := Nat.ne_of_lt k47.lt
  have k53 := k47.alloc he52
  have hne56 : w1.heap.size ≠ w45.heap.size := Nat.ne_of_lt k48.lt
  have k55 := k48.alloc he52
  have hne58 : w13.heap.size ≠ w45.heap.size := Nat.ne_of_lt k49.lt
  have k57 := k49.alloc he52
  have k59 := Blk.new he52
  have hg60 : w.heap.size ≤ w45.heap.size := hbel50.size
  have hbel61 := bel_alloc hbel50 he52
  simp only [nz1, nz2, nz3]
  refine lst (wanted_none rfl) (w_store 23 _ _ (w45.heap.size) (bs (a ^ K1 % PP)) rfl rfl rfl rfl k59 (by rw [bs_sz]; exact info_b) ((bs_sz _).trans (bs_sz _).symm) (bs_one _) (fun w62 he63 => ?_))
  have k64 := k53.other hne54 he63
  have k65 := k55.other hne56 he63
  have k66 := k57.other hne58 he63
  have k67 := k59.set he63
  have hbel68 := bel_set hbel61 hg60 he63
  go_step
  go_step
  go_step
  go_step
  go_step
  have k69 := k64.drew
  have k70 := k65.drew
  have k71 := k66.drew
  have k72 := k67.drew
  have hbel73 := hbel68.drew
  refine wp_region_held_drew (S := fun w' => Blk w' (w45.heap.size) (bs (a ^ K1 % PP)) 23 ∧ Blk w' (w.heap.size) (bs a) 23) (by kernel_rfl) ⟨k72, k69⟩ (fun _ => ?_)
  generalize w62.drew = wd74 at *
  refine tk 0 13 (.agg (bs (a ^ K1 % PP))) rfl rfl (fun _ hw => run_row rfl rfl (hw.1) Tryd.underlying23 rfl (by rw [bs_sz]; exact info_b)) ⟨k72, k69⟩ ?_
  simp only [nz1, nz2, nz3]
  refine tk 1 14 (.agg (bs (a ^ K1 % PP))) rfl rfl (fun _ hw => run_row rfl rfl (hw.1) Tryd.underlying23 rfl (by rw [bs_sz]; exact info_b)) ⟨k72, k69⟩ ?_
  simp only [nz1, nz2, nz3]
  refine tk 3 16 (.agg (bs a)) rfl rfl (fun _ hw => run_row rfl rfl (hw.2) Tryd.underlying23 rfl (by rw [bs_sz]; exact info_b)) ⟨k72, k69⟩ ?_
  simp only [nz1, nz2, nz3]
  refine one_ready 2 (by kernel_rfl) ?_
  refine opd rfl (wanted_none rfl) (w_enter 15 (.agg (bs ((a ^ K1 % PP) * (a ^ K1 % PP) % PP))) rfl (run_rMul rfl rfl rfl) (rmul_any (a ^ K1 % PP) (a ^ K1 % PP) (Nat.lt_trans (Nat.mod_lt _ (by decide)) pp_lt) (Nat.lt_trans (Nat.mod_lt _ (by decide)) pp_lt) _) (fun w75 hb76 => ?_))
  have k77 := k69.call hb76
  have k78 := k70.call hb76
  have k79 := k71.call hb76
  have k80 := k72.call hb76
  have hbel81 := bel_call hbel73 hb76
  refine ⟨⟨k80, k77⟩, ?_⟩
  simp only [nz1, nz2, nz3]
  refine one_ready 4 (by kernel_rfl) ?_
  refine opd rfl (wanted_none rfl) (w_enter 17 (.agg (bs (a % PP))) rfl (run_rReduce rfl rfl) (rreduce_any a HA.out _) (fun w82 hb83 => ?_))
  have k84 := k77.call hb83
  have k85 := k78.call hb83
  have k86 := k79.call hb83
  have k87 := k80.call hb83
  have hbel88 := bel_call hbel81 hb83
  refine ⟨⟨k87, k84⟩, ?_⟩
  simp only [nz1, nz2, nz3]
  refine tk 5 18 (.bool true) rfl rfl (fun _ hw => run_neqN ((a ^ K1 % PP) * (a ^ K1 % PP) % PP) (a % PP) (Nat.lt_trans (Nat.mod_lt _ (by decide)) pp_lt) (Nat.lt_trans (Nat.mod_lt _ (by decide)) pp_lt) true H1.out rfl rfl rfl) ⟨k87, k84⟩ ?_
  simp only [nz1, nz2, nz3]
  refine wpAnyH_done (by kernel_rfl) ?_ _
  go_step
  go_step
  go_step
  go_step
  go_step
  refine lst (wanted_none rfl) (w_enter 19 (.agg (bs PP)) rfl (run_rorder rfl) (rorder_any _) (fun w89 hb90 => ?_))
  have k91 := k84.call hb90
  have k92 := k85.call hb90
  have k93 := k86.call hb90
  have k94 := k87.call hb90
  have hbel95 := bel_call hbel88 hb90
  simp only [nz1, nz2, nz3]
  refine lst (wanted_none rfl) (w_alloc (c := bs 0) (T := 23) 6 rfl (run_alN rfl) (fun w96 he97 => ?_))
  have hne99 : w.heap.size ≠ w89.heap.size := Nat.ne_of_lt k91.lt
  have k98 := k91.alloc he97
  have hne101 : w1.heap.size ≠ w89.heap.size := Nat.ne_of_lt k92.lt
  have k100 := k92.alloc he97
  have hne103 : w13.heap.size ≠ w89.heap.size := Nat.ne_of_lt k93.lt
  have k102 := k93.alloc he97
  have hne105 : w45.heap.size ≠ w89.heap.size := Nat.ne_of_lt k94.lt
  have k104 := k94.alloc he97
  have k106 := Blk.new he97
  have hg107 : w.heap.size ≤ w89.heap.size := hbel95.size
  have hbel108 := bel_alloc hbel95 he97
  simp only [nz1, nz2, nz3]
  refine lst (wanted_none rfl) (w_store 23 _ _ (w89.heap.size) (bs PP) rfl rfl rfl rfl k106 (by rw [bs_sz]; exact info_b) ((bs_sz _).trans (bs_sz _).symm) (bs_one _) (fun w109 he110 => ?_))
  have k111 := k98.other hne99 he110
  have k112 := k100.other hne101 he110
  have k113 := k102.other hne103 he110
  have k114 := k104.other hne105 he110
  have k115 := k106.set he110
  have hbel116 := bel_set hbel108 hg107 he110
  go_step
  go_step
  go_step
  go_step
  go_step
  refine lv 20 (.pointer (some ⟨w89.heap.size, 0, none⟩)) rfl rfl (run_ix 6 0 (w89.heap.size) rfl rfl (by decide)) ?_
  simp only [nz1, nz2, nz3]
  refine lst (wanted_none rfl) (w_put (w89.heap.size) 0 (.int .u8 251) rfl k115 put_c (run_put (bt PP) 0 (w89.heap.size) k115 (by decide) rfl rfl) (fun w117 he118 => ?_))
  have k119 := k111.other hne99 he118
  have k120 := k112.other hne101 he118
  have k121 := k113.other hne103 he118
  have k122 := k114.other hne105 he118
  have k123 := k115.set he118
  have hbel124 := bel_set hbel116 hg107 he118
  go_step
  go_step
  go_step
  go_step
  go_step
  refine lv 21 (.pointer (some ⟨w89.heap.size, 31, none⟩)) rfl rfl (run_ix 6 31 (w89.heap.size) rfl rfl (by decide)) ?_
  simp only [nz1, nz2, nz3]
  refine lst (wanted_none rfl) (w_put (w89.heap.size) 31 (.int .u8 31) rfl k123 put_d (run_put (bt K2a) 31 (w89.heap.size) k123 (by decide) rfl rfl) (fun w125 he126 => ?_))
  have k127 := k119.other hne99 he126
  have k128 := k120.other hne101 he126
  have k129 := k121.other hne103 he126
  have k130 := k122.other hne105 he126
  have k131 := k123.set he126
  have hbel132 := bel_set hbel124 hg107 he126
  go_step
  go_step
  go_step
  have k133 := k127.drew
  have k134 := k128.drew
  have k135 := k129.drew
  have k136 := k130.drew
  have k137 := k131.drew
  have hbel138 := hbel132.drew
  refine wp_region_held_drew (S := fun w' => Blk w' (w89.heap.size) (bs K2) 23) (by kernel_rfl) k137 (fun _ => ?_)
  generalize w125.drew = wd139 at *
  refine tk 1 23 (.agg (bs 2)) rfl rfl (fun _ hw => by unfold execOp; go_simp; rfl) k137 ?_
  simp only [nz1, nz2, nz3]
  refine tk 2 24 (.agg (bs K2)) rfl rfl (fun _ hw => run_row rfl rfl hw Tryd.underlying23 rfl (by rw [bs_sz]; exact info_b)) k137 ?_
  simp only [nz1, nz2, nz3]
  refine two_ready 0 3 (by kernel_rfl) ?_ ?_
  · refine opd rfl (wanted_none rfl) (w_value 22 (.agg (bs (a ^ K1 % PP))) rfl (run_row rfl rfl k136 Tryd.underlying23 rfl (by rw [bs_sz]; exact info_b)) ⟨k137, ?_⟩)
    simp only [nz1, nz2, nz3]
    refine one_ready 3 (by kernel_rfl) ?_
    refine opd rfl (wanted_none rfl) (w_enter 25 (.agg (bs (2 ^ K2 % PP))) rfl (run_rPower rfl rfl rfl) (rpower_any 2 K2 (by decide) (by decide) _) (fun w140 hb141 => ?_))
    have k142 := k133.call hb141
    have k143 := k134.call hb141
    have k144 := k135.call hb141
    have k145 := k136.call hb141
    have k146 := k137.call hb141
    have hbel147 := bel_call hbel138 hb141
    refine ⟨k146, ?_⟩
    simp only [nz1, nz2, nz3]
    refine one_ready 4 (by kernel_rfl) ?_
    refine opd rfl (wanted_none rfl) (w_enter 26 (.agg (bs ((a ^ K1 % PP) * (2 ^ K2 % PP) % PP))) rfl (run_rMul rfl rfl rfl) (rmul_any (a ^ K1 % PP) (2 ^ K2 % PP) (Nat.lt_trans (Nat.mod_lt _ (by decide)) pp_lt) (Nat.lt_trans (Nat.mod_lt _ (by decide)) pp_lt) _) (fun w148 hb149 => ?_))
    have k150 := k142.call hb149
    have k151 := k143.call hb149
    have k152 := k144.call hb149
    have k153 := k145.call hb149
    have k154 := k146.call hb149
    have hbel155 := bel_call hbel147 hb149
    refine ⟨k154, ?_⟩
    simp only [nz1, nz2, nz3]
    refine one_ready 5 (by kernel_rfl) ?_
    refine opd rfl (wanted_none rfl) (w_store 23 _ _ (w45.heap.size) (bs ((a ^ K1 % PP) * (2 ^ K2 % PP) % PP)) rfl rfl rfl rfl k153 (by rw [bs_sz]; exact info_b) ((bs_sz _).trans (bs_sz _).symm) (bs_one _) (fun w156 he157 => ?_))
    have k158 := k150.other hne54 he157
    have k159 := k151.other hne56 he157
    have k160 := k152.other hne58 he157
    have k161 := k154.other hne105.symm he157
    have k162 := k153.set he157
    have hbel163 := bel_set hbel155 hg60 he157
    refine ⟨k161, ?_⟩
    refine wpAnyH_done (by kernel_rfl) ?_ _
    go_step
    go_step
    go_step
    go_step
    have k164 := k158.drew
    have k165 := k159.drew
    have k166 := k160.drew
    have k167 := k162.drew
    have k168 := k161.drew
    have hbel169 := hbel163.drew
    refine wp_region_held_drew (S := fun w' => Blk w' (w45.heap.size) (bs ((a ^ K1 % PP) * (2 ^ K2 % PP) % PP)) 23 ∧ Blk w' (w.heap.size) (bs a) 23) (by kernel_rfl) ⟨k167, k164⟩ (fun _ => ?_)
    generalize w156.drew = wd170 at *
    refine tk 0 27 (.agg (bs ((a ^ K1 % PP) * (2 ^ K2 % PP) % PP))) rfl rfl (fun _ hw => run_row rfl rfl (hw.1) Tryd.underlying23 rfl (by rw [bs_sz]; exact info_b)) ⟨k167, k164⟩ ?_
    simp only [nz1, nz2, nz3]
    refine tk 1 28 (.agg (bs ((a ^ K1 % PP) * (2 ^ K2 % PP) % PP))) rfl rfl (fun _ hw => run_row rfl rfl (hw.1) Tryd.underlying23 rfl (by rw [bs_sz]; exact info_b)) ⟨k167, k164⟩ ?_
    simp only [nz1, nz2, nz3]
    refine tk 3 30 (.agg (bs a)) rfl rfl (fun _ hw => run_row rfl rfl (hw.2) Tryd.underlying23 rfl (by rw [bs_sz]; exact info_b)) ⟨k167, k164⟩ ?_
    simp only [nz1, nz2, nz3]
    refine one_ready 2 (by kernel_rfl) ?_
    refine opd rfl (wanted_none rfl) (w_enter 29 (.agg (bs (((a ^ K1 % PP) * (2 ^ K2 % PP) % PP) * ((a ^ K1 % PP) * (2 ^ K2 % PP) % PP) % PP))) rfl (run_rMul rfl rfl rfl) (rmul_any ((a ^ K1 % PP) * (2 ^ K2 % PP) % PP) ((a ^ K1 % PP) * (2 ^ K2 % PP) % PP) (Nat.lt_trans (Nat.mod_lt _ (by decide)) pp_lt) (Nat.lt_trans (Nat.mod_lt _ (by decide)) pp_lt) _) (fun w171 hb172 => ?_))
    have k173 := k164.call hb172
    have k174 := k165.call hb172
    have k175 := k166.call hb172
    have k176 := k167.call hb172
    have k177 := k168.call hb172
    have hbel178 := bel_call hbel169 hb172
    refine ⟨⟨k176, k173⟩, ?_⟩
    simp only [nz1, nz2, nz3]
    refine one_ready 4 (by kernel_rfl) ?_
    refine opd rfl (wanted_none rfl) (w_enter 31 (.agg (bs (a % PP))) rfl (run_rReduce rfl rfl) (rreduce_any a HA.out _) (fun w179 hb180 => ?_))
    have k181 := k173.call hb180
    have k182 := k174.call hb180
    have k183 := k175.call hb180
    have k184 := k176.call hb180
    have k185 := k177.call hb180
    have hbel186 := bel_call hbel178 hb180
    refine ⟨⟨k184, k181⟩, ?_⟩
    simp only [nz1, nz2, nz3]
    refine tk 5 32 (.bool false) rfl rfl (fun _ hw => run_neqN (((a ^ K1 % PP) * (2 ^ K2 % PP) % PP) * ((a ^ K1 % PP) * (2 ^ K2 % PP) % PP) % PP) (a % PP) (Nat.lt_trans (Nat.mod_lt _ (by decide)) pp_lt) (Nat.lt_trans (Nat.mod_lt _ (by decide)) pp_lt) false H2.out rfl rfl rfl) ⟨k184, k181⟩ ?_
    simp only [nz1, nz2, nz3]
    refine wpAnyH_done (by kernel_rfl) ?_ _
    go_step
    go_step
    go_step
    go_step
    go_step
    go_step
    go_step
    go_step
    go_step
    refine lv 34 (.pointer (some ⟨w45.heap.size, 0, none⟩)) rfl rfl (run_ix 5 0 (w45.heap.size) rfl rfl (by decide)) ?_
    simp only [nz1, nz2, nz3]
    refine lv 35 (.int .u8 (bt ((a ^ K1 % PP) * (2 ^ K2 % PP) % PP) 0 : Int)) rfl rfl (run_ld8v (bt ((a ^ K1 % PP) * (2 ^ K2 % PP) % PP)) 0 (w45.heap.size) (show Row _ _ 32 23 .u8 (bt ((a ^ K1 % PP) * (2 ^ K2 % PP) % PP)) from k184) rfl rfl (by decide)) ?_
    simp only [nz1, nz2, nz3]
    refine lv 36 (.int .u8 ((((a ^ K1 % PP) * (2 ^ K2 % PP) % PP) % 2 : Nat) : Int)) rfl rfl (run_rem2 ((a ^ K1 % PP) * (2 ^ K2 % PP) % PP) rfl rfl) ?_
    simp only [nz1, nz2, nz3]
    refine lv 37 (.bool true) rfl rfl (run_one8 (b := ((a ^ K1 % PP) * (2 ^ K2 % PP) % PP) % 2) rfl rfl H3.out) ?_
    simp only [nz1, nz2, nz3]
    go_step
    go_step
    go_step
    go_step
    go_step
    refine lv 38 (.agg (bs ((a ^ K1 % PP) * (2 ^ K2 % PP) % PP))) rfl rfl (run_row rfl rfl k184 Tryd.underlying23 rfl (by rw [bs_sz]; exact info_b)) ?_
    simp only [nz1, nz2, nz3]
    refine lst (wanted_none rfl) (w_enter 39 (.agg (bs ((PP - (((a ^ K1 % PP) * (2 ^ K2 % PP) % PP) % PP)) % PP))) rfl (run_rNeg rfl rfl) (rneg_any ((a ^ K1 % PP) * (2 ^ K2 % PP) % PP) (Nat.lt_trans (Nat.mod_lt _ (by decide)) pp_lt) _) (fun w187 hb188 => ?_))
    have k189 := k181.call hb188
    have k190 := k182.call hb188
    have k191 := k183.call hb188
    have k192 := k184.call hb188
    have k193 := k185.call hb188
    have hbel194 := bel_call hbel186 hb188
    simp only [nz1, nz2, nz3]
    refine lst (wanted_none rfl) (w_store 23 _ _ (w45.heap.size) (bs ((PP - (((a ^ K1 % PP) * (2 ^ K2 % PP) % PP) % PP)) % PP)) rfl rfl rfl rfl k192 (by rw [bs_sz]; exact info_b) ((bs_sz _).trans (bs_sz _).symm) (bs_one _) (fun w195 he196 => ?_))
    have k197 := k189.other hne54 he196
    have k198 := k190.other hne56 he196
    have k199 := k191.other hne58 he196
    have k200 := k193.other hne105.symm he196
    have k201 := k192.set he196
    have hbel202 := bel_set hbel194 hg60 he196
    go_step
    go_step
    go_step
    go_step
    go_step
    refine lv 40 (.agg (bs ((PP - (((a ^ K1 % PP) * (2 ^ K2 % PP) % PP) % PP)) % PP))) rfl rfl (run_row rfl rfl k201 Tryd.underlying23 rfl (by rw [bs_sz]; exact info_b)) ?_
    simp only [nz1, nz2, nz3]
    refine lst (wanted_none rfl) (w_store 23 _ _ (w1.heap.size) (bs ((PP - (((a ^ K1 % PP) * (2 ^ K2 % PP) % PP) % PP)) % PP)) rfl rfl rfl rfl k198 (by rw [bs_sz]; exact info_b) ((bs_sz _).trans (bs_sz _).symm) (bs_one _) (fun w203 he204 => ?_))
    have k205 := k197.other hne9 he204
    have k206 := k199.other hne23.symm he204
    have k207 := k201.other hne56.symm he204
    have k208 := k200.other hne101.symm he204
    have k209 := k198.set he204
    have hbel210 := bel_set hbel202 hg11 he204
    refine lv 3 (.bool true) rfl rfl (run_as rfl rfl) ?_
    simp only [nz1, nz2, nz3]
    go_step
    go_step
    go_step
    go_wp2
    refine bodyPost_ret (results_cell_tmp rfl _ _ (w1.heap.size) 23 (bs ((PP - (((a ^ K1 % PP) * (2 ^ K2 % PP) % PP) % PP)) % PP)) (0, 0) _ (.bool true) rfl rfl k209 Tryd.underlying23 rfl (by rw [bs_sz]; exact info_b)) rfl ⟨rfl, hbel210⟩
  · refine opd rfl (wanted_none rfl) (w_enter 25 (.agg (bs (2 ^ K2 % PP))) rfl (run_rPower rfl rfl rfl) (rpower_any 2 K2 (by decide) (by decide) _) (fun w211 hb212 => ?_))
    have k213 := k133.call hb212
    have k214 := k134.call hb212
    have k215 := k135.call hb212
    have k216 := k136.call hb212
    have k217 := k137.call hb212
    have hbel218 := bel_call hbel138 hb212
    refine ⟨k217, ?_⟩
    simp only [nz1, nz2, nz3]
    refine one_ready 0 (by kernel_rfl) ?_
    refine opd rfl (wanted_none rfl) (w_value 22 (.agg (bs (a ^ K1 % PP))) rfl (run_row rfl rfl k216 Tryd.underlying23 rfl (by rw [bs_sz]; exact info_b)) ⟨k217, ?_⟩)
    simp only [nz1, nz2, nz3]
    refine one_ready 4 (by kernel_rfl) ?_
    refine opd rfl (wanted_none rfl) (w_enter 26 (.agg (bs ((a ^ K1 % PP) * (2 ^ K2 % PP) % PP))) rfl (run_rMul rfl rfl rfl) (rmul_any (a ^ K1 % PP) (2 ^ K2 % PP) (Nat.lt_trans (Nat.mod_lt _ (by decide)) pp_lt) (Nat.lt_trans (Nat.mod_lt _ (by decide)) pp_lt) _) (fun w219 hb220 => ?_))
    have k221 := k213.call hb220
    have k222 := k214.call hb220
    have k223 := k215.call hb220
    have k224 := k216.call hb220
    have k225 := k217.call hb220
    have hbel226 := bel_call hbel218 hb220
    refine ⟨k225, ?_⟩
    simp only [nz1, nz2, nz3]
    refine one_ready 5 (by kernel_rfl) ?_
    refine opd rfl (wanted_none rfl) (w_store 23 _ _ (w45.heap.size) (bs ((a ^ K1 % PP) * (2 ^ K2 % PP) % PP)) rfl rfl rfl rfl k224 (by rw [bs_sz]; exact info_b) ((bs_sz _).trans (bs_sz _).symm) (bs_one _) (fun w227 he228 => ?_))
    have k229 := k221.other hne54 he228
    have k230 := k222.other hne56 he228
    have k231 := k223.other hne58 he228
    have k232 := k225.other hne105.symm he228
    have k233 := k224.set he228
    have hbel234 := bel_set hbel226 hg60 he228
    refine ⟨k232, ?_⟩
    refine wpAnyH_done (by kernel_rfl) ?_ _
    go_step
    go_step
    go_step
    go_step
    have k235 := k229.drew
    have k236 := k230.drew
    have k237 := k231.drew
    have k238 := k233.drew
    have k239 := k232.drew
    have hbel240 := hbel234.drew
    refine wp_region_held_drew (S := fun w' => Blk w' (w45.heap.size) (bs ((a ^ K1 % PP) * (2 ^ K2 % PP) % PP)) 23 ∧ Blk w' (w.heap.size) (bs a) 23) (by kernel_rfl) ⟨k238, k235⟩ (fun _ => ?_)
    generalize w227.drew = wd241 at *
    refine tk 0 27 (.agg (bs ((a ^ K1 % PP) * (2 ^ K2 % PP) % PP))) rfl rfl (fun _ hw => run_row rfl rfl (hw.1) Tryd.underlying23 rfl (by rw [bs_sz]; exact info_b)) ⟨k238, k235⟩ ?_
    simp only [nz1, nz2, nz3]
    refine tk 1 28 (.agg (bs ((a ^ K1 % PP) * (2 ^ K2 % PP) % PP))) rfl rfl (fun _ hw => run_row rfl rfl (hw.1) Tryd.underlying23 rfl (by rw [bs_sz]; exact info_b)) ⟨k238, k235⟩ ?_
    simp only [nz1, nz2, nz3]
    refine tk 3 30 (.agg (bs a)) rfl rfl (fun _ hw => run_row rfl rfl (hw.2) Tryd.underlying23 rfl (by rw [bs_sz]; exact info_b)) ⟨k238, k235⟩ ?_
    simp only [nz1, nz2, nz3]
    refine one_ready 2 (by kernel_rfl) ?_
    refine opd rfl (wanted_none rfl) (w_enter 29 (.agg (bs (((a ^ K1 % PP) * (2 ^ K2 % PP) % PP) * ((a ^ K1 % PP) * (2 ^ K2 % PP) % PP) % PP))) rfl (run_rMul rfl rfl rfl) (rmul_any ((a ^ K1 % PP) * (2 ^ K2 % PP) % PP) ((a ^ K1 % PP) * (2 ^ K2 % PP) % PP) (Nat.lt_trans (Nat.mod_lt _ (by decide)) pp_lt) (Nat.lt_trans (Nat.mod_lt _ (by decide)) pp_lt) _) (fun w242 hb243 => ?_))
    have k244 := k235.call hb243
    have k245 := k236.call hb243
    have k246 := k237.call hb243
    have k247 := k238.call hb243
    have k248 := k239.call hb243
    have hbel249 := bel_call hbel240 hb243
    refine ⟨⟨k247, k244⟩, ?_⟩
    simp only [nz1, nz2, nz3]
    refine one_ready 4 (by kernel_rfl) ?_
    refine opd rfl (wanted_none rfl) (w_enter 31 (.agg (bs (a % PP))) rfl (run_rReduce rfl rfl) (rreduce_any a HA.out _) (fun w250 hb251 => ?_))
    have k252 := k244.call hb251
    have k253 := k245.call hb251
    have k254 := k246.call hb251
    have k255 := k247.call hb251
    have k256 := k248.call hb251
    have hbel257 := bel_call hbel249 hb251
    refine ⟨⟨k255, k252⟩, ?_⟩
    simp only [nz1, nz2, nz3]
    refine tk 5 32 (.bool false) rfl rfl (fun _ hw => run_neqN (((a ^ K1 % PP) * (2 ^ K2 % PP) % PP) * ((a ^ K1 % PP) * (2 ^ K2 % PP) % PP) % PP) (a % PP) (Nat.lt_trans (Nat.mod_lt _ (by decide)) pp_lt) (Nat.lt_trans (Nat.mod_lt _ (by decide)) pp_lt) false H2.out rfl rfl rfl) ⟨k255, k252⟩ ?_
    simp only [nz1, nz2, nz3]
    refine wpAnyH_done (by kernel_rfl) ?_ _
    go_step
    go_step
    go_step
    go_step
    go_step
    go_step
    go_step
    go_step
    go_step
    refine lv 34 (.pointer (some ⟨w45.heap.size, 0, none⟩)) rfl rfl (run_ix 5 0 (w45.heap.size) rfl rfl (by decide)) ?_
    simp only [nz1, nz2, nz3]
    refine lv 35 (.int .u8 (bt ((a ^ K1 % PP) * (2 ^ K2 % PP) % PP) 0 : Int)) rfl rfl (run_ld8v (bt ((a ^ K1 % PP) * (2 ^ K2 % PP) % PP)) 0 (w45.heap.size) (show Row _ _ 32 23 .u8 (bt ((a ^ K1 % PP) * (2 ^ K2 % PP) % PP)) from k255) rfl rfl (by decide)) ?_
    simp only [nz1, nz2, nz3]
    refine lv 36 (.int .u8 ((((a ^ K1 % PP) * (2 ^ K2 % PP) % PP) % 2 : Nat) : Int)) rfl rfl (run_rem2 ((a ^ K1 % PP) * (2 ^ K2 % PP) % PP) rfl rfl) ?_
    simp only [nz1, nz2, nz3]
    refine lv 37 (.bool true) rfl rfl (run_one8 (b := ((a ^ K1 % PP) * (2 ^ K2 % PP) % PP) % 2) rfl rfl H3.out) ?_
    simp only [nz1, nz2, nz3]
    go_step
    go_step
    go_step
    go_step
    go_step
    refine lv 38 (.agg (bs ((a ^ K1 % PP) * (2 ^ K2 % PP) % PP))) rfl rfl (run_row rfl rfl k255 Tryd.underlying23 rfl (by rw [bs_sz]; exact info_b)) ?_
    simp only [nz1, nz2, nz3]
    refine lst (wanted_none rfl) (w_enter 39 (.agg (bs ((PP - (((a ^ K1 % PP) * (2 ^ K2 % PP) % PP) % PP)) % PP))) rfl (run_rNeg rfl rfl) (rneg_any ((a ^ K1 % PP) * (2 ^ K2 % PP) % PP) (Nat.lt_trans (Nat.mod_lt _ (by decide)) pp_lt) _) (fun w258 hb259 => ?_))
    have k260 := k252.call hb259
    have k261 := k253.call hb259
    have k262 := k254.call hb259
    have k263 := k255.call hb259
    have k264 := k256.call hb259
    have hbel265 := bel_call hbel257 hb259
    simp only [nz1, nz2, nz3]
    refine lst (wanted_none rfl) (w_store 23 _ _ (w45.heap.size) (bs ((PP - (((a ^ K1 % PP) * (2 ^ K2 % PP) % PP) % PP)) % PP)) rfl rfl rfl rfl k263 (by rw [bs_sz]; exact info_b) ((bs_sz _).trans (bs_sz _).symm) (bs_one _) (fun w266 he267 => ?_))
    have k268 := k260.other hne54 he267
    have k269 := k261.other hne56 he267
    have k270 := k262.other hne58 he267
    have k271 := k264.other hne105.symm he267
    have k272 := k263.set he267
    have hbel273 := bel_set hbel265 hg60 he267
    go_step
    go_step
    go_step
    go_step
    go_step
    refine lv 40 (.agg (bs ((PP - (((a ^ K1 % PP) * (2 ^ K2 % PP) % PP) % PP)) % PP))) rfl rfl (run_row rfl rfl k272 Tryd.underlying23 rfl (by rw [bs_sz]; exact info_b)) ?_
    simp only [nz1, nz2, nz3]
    refine lst (wanted_none rfl) (w_store 23 _ _ (w1.heap.size) (bs ((PP - (((a ^ K1 % PP) * (2 ^ K2 % PP) % PP) % PP)) % PP)) rfl rfl rfl rfl k269 (by rw [bs_sz]; exact info_b) ((bs_sz _).trans (bs_sz _).symm) (bs_one _) (fun w274 he275 => ?_))
    have k276 := k268.other hne9 he275
    have k277 := k270.other hne23.symm he275
    have k278 := k272.other hne56.symm he275
    have k279 := k271.other hne101.symm he275
    have k280 := k269.set he275
    have hbel281 := bel_set hbel273 hg11 he275
    refine lv 3 (.bool true) rfl rfl (run_as rfl rfl) ?_
    simp only [nz1, nz2, nz3]
    go_step
    go_step
    go_step
    go_wp2
    refine bodyPost_ret (results_cell_tmp rfl _ _ (w1.heap.size) 23 (bs ((PP - (((a ^ K1 % PP) * (2 ^ K2 % PP) % PP) % PP)) % PP)) (0, 0) _ (.bool true) rfl rfl k280 Tryd.underlying23 rfl (by rw [bs_sz]; exact info_b)) rfl ⟨rfl, hbel281⟩

set_option maxHeartbeats 1000000 in
theorem rroot_none (a : Nat) (ha : a < MM) (h1 : decide ((a ^ K1 % PP) * (a ^ K1 % PP) % PP = (a % PP)) = false) (h2 : decide (((a ^ K1 % PP) * (2 ^ K2 % PP) % PP) * ((a ^ K1 % PP) * (2 ^ K2 % PP) % PP) % PP = (a % PP)) = false) (w : World) : Calls Tryd.prog 40 #[.agg (bs a)] w fun e w' => e = .returned (.tuple #[.agg (bs 0), .bool false]) ∧ Below w.heap.size w w' := by
  have HA := Lib.hid ha
  clear ha
  have H1 := Lib.hid h1
  clear h1
  have H2 := Lib.hid h2
  clear h2
  go_enter Tryd.func40, Tryd.ntmps40
  have hbel0 := Below.refl w.heap.size w
  go_step
  go_step
  go_step
  refine lst (wanted_none rfl) (w_alloc (c := bs a) (T := 23) 1 rfl (run_box rfl rfl) (fun w1 he2 => ?_))
  have k3 := Blk.new he2
  have hg4 : w.heap.size ≤ w.heap.size := hbel0.size
  have hbel5 := bel_alloc hbel0 he2
  simp only [nz1, nz2, nz3]
  refine lst (wanted_none rfl) (w_alloc (c := bs 0) (T := 23) 2 rfl (run_alN rfl) (fun w6 he7 => ?_))
  have hne9 : w.heap.size ≠ w1.heap.size := Nat.ne_of_lt k3.lt
  have k8 := k3.alloc he7
  have k10 := Blk.new he7
  have hg11 : w.heap.size ≤ w1.heap.size := hbel5.size
  have hbel12 := bel_alloc hbel5 he7
  simp only [nz1, nz2, nz3]
  refine lv 3 (.bool false) rfl rfl (run_as rfl rfl) ?_
  simp only [nz1, nz2, nz3]
  go_step
  go_step
  go_step
  go_step
  go_step
  refine lst (wanted_none rfl) (w_enter 7 (.agg (bs PP)) rfl (run_rorder rfl) (rorder_any _) (fun w13 hb14 => ?_))
  have k15 := k8.call hb14
  have k16 := k10.call hb14
  have hbel17 := bel_call hbel12 hb14
  simp only [nz1, nz2, nz3]
  refine lst (wanted_none rfl) (w_alloc (c := bs 0) (T := 23) 4 rfl (run_alN rfl) (fun w18 he19 => ?_))
  have hne21 : w.heap.size ≠ w13.heap.size := Nat.ne_of_lt k15.lt
  have k20 := k15.alloc he19
  have hne23 : w1.heap.size ≠ w13.heap.size := Nat.ne_of_lt k16.lt
  have k22 := k16.alloc he19
  have k24 := Blk.new he19
  have hg25 : w.heap.size ≤ w13.heap.size := hbel17.size
  have hbel26 := bel_alloc hbel17 he19
  simp only [nz1, nz2, nz3]
  refine lst (wanted_none rfl) (w_store 23 _ _ (w13.heap.size) (bs PP) rfl rfl rfl rfl k24 (by rw [bs_sz]; exact info_b) ((bs_sz _).trans (bs_sz _).symm) (bs_one _) (fun w27 he28 => ?_))
  have k29 := k20.other hne21 he28
  have k30 := k22.other hne23 he28
  have k31 := k24.set he28
  have hbel32 := bel_set hbel26 hg25 he28
  go_step
  go_step
  go_step
  go_step
  go_step
  refine lv 8 (.pointer (some ⟨w13.heap.size, 0, none⟩)) rfl rfl (run_ix 4 0 (w13.heap.size) rfl rfl (by decide)) ?_
  simp only [nz1, nz2, nz3]
  refine lst (wanted_none rfl) (w_put (w13.heap.size) 0 (.int .u8 254) rfl k31 put_a (run_put (bt PP) 0 (w13.heap.size) k31 (by decide) rfl rfl) (fun w33 he34 => ?_))
  have k35 := k29.other hne21 he34
  have k36 := k30.other hne23 he34
  have k37 := k31.set he34
  have hbel38 := bel_set hbel32 hg25 he34
  go_step
  go_step
  go_step
  go_step
  go_step
  refine lv 9 (.pointer (some ⟨w13.heap.size, 31, none⟩)) rfl rfl (run_ix 4 31 (w13.heap.size) rfl rfl (by decide)) ?_
  simp only [nz1, nz2, nz3]
  refine lst (wanted_none rfl) (w_put (w13.heap.size) 31 (.int .u8 15) rfl k37 put_b (run_put (bt K1a) 31 (w13.heap.size) k37 (by decide) rfl rfl) (fun w39 he40 => ?_))
  have k41 := k35.other hne21 he40
  have k42 := k36.other hne23 he40
  have k43 := k37.set he40
  have hbel44 := bel_set hbel38 hg25 he40
  go_step
  go_step
  go_step
  go_step
  go_step
  refine lv 10 (.agg (bs a)) rfl rfl (run_row rfl rfl k41 Tryd.underlying23 rfl (by rw [bs_sz]; exact info_b)) ?_
  simp only [nz1, nz2, nz3]
  refine lv 11 (.agg (bs K1)) rfl rfl (run_row rfl rfl k43 Tryd.underlying23 rfl (by rw [bs_sz]; exact info_b)) ?_
  simp only [nz1, nz2, nz3]
  refine lst (wanted_none rfl) (w_enter 12 (.agg (bs (a ^ K1 % PP))) rfl (run_rPower rfl rfl rfl) (rpower_any a K1 HA.out (by decide) _) (fun w45 hb46 => ?_))
  have k47 := k41.call hb46
  have k48 := k42.call hb46
  have k49 := k43.call hb46
  have hbel50 := bel_call hbel44 hb46
  simp only [nz1, nz2, nz3]
  refine lst (wanted_none rfl) (w_alloc (c := bs 0) (T := 23) 5 rfl (run_alN rfl) (fun w51 he52 => ?_))
  have hne54 : w.heap.size ≠ w45.heap.size := Nat.ne_of_lt k47.lt
  have k53 := k47.alloc he52
  have hne56 : w1.heap.size ≠ w45.heap.size := Nat.ne_of_lt k48.lt
  have k55 := k48.alloc he52
  have hne58 : w13.heap.size ≠ w45.heap.size := Nat.ne_of_lt k49.lt
  have k57 := k49.alloc he52
  have k59 := Blk.new he52
  have hg60 : w.heap.size ≤ w45.heap.size := hbel50.size
  have hbel61 := bel_alloc hbel50 he52
  simp only [nz1, nz2, nz3]
  refine lst (wanted_none rfl) (w_store 23 _ _ (w45.heap.size) (bs (a ^ K1 % PP)) rfl rfl rfl rfl k59 (by rw [bs_sz]; exact info_b) ((bs_sz _).trans (bs_sz _).symm) (bs_one _) (fun w62 he63 => ?_))
  have k64 := k53.other hne54 he63
  have k65 := k55.other hne56 he63
  have k66 := k57.other hne58 he63
  have k67 := k59.set he63
  have hbel68 := bel_set hbel61 hg60 he63
  go_step
  go_step
  go_step
  go_step
  go_step
  have k69 := k64.drew
  have k70 := k65.drew
  have k71 := k66.drew
  have k72 := k67.drew
  have hbel73 := hbel68.drew
  refine wp_region_held_drew (S := fun w' => Blk w' (w45.heap.size) (bs (a ^ K1 % PP)) 23 ∧ Blk w' (w.heap.size) (bs a) 23) (by kernel_rfl) ⟨k72, k69⟩ (fun _ => ?_)
  generalize w62.drew = wd74 at *
  refine tk 0 13 (.agg (bs (a ^ K1 % PP))) rfl rfl (fun _ hw => run_row rfl rfl (hw.1) Tryd.underlying23 rfl (by rw [bs_sz]; exact info_b)) ⟨k72, k69⟩ ?_
  simp only [nz1, nz2, nz3]
  refine tk 1 14 (.agg (bs (a ^ K1 % PP))) rfl rfl (fun _ hw => run_row rfl rfl (hw.1) Tryd.underlying23 rfl (by rw [bs_sz]; exact info_b)) ⟨k72, k69⟩ ?_
  simp only [nz1, nz2, nz3]
  refine tk 3 16 (.agg (bs a)) rfl rfl (fun _ hw => run_row rfl rfl (hw.2) Tryd.underlying23 rfl (by rw [bs_sz]; exact info_b)) ⟨k72, k69⟩ ?_
  simp only [nz1, nz2, nz3]
  refine one_ready 2 (by kernel_rfl) ?_
  refine opd rfl (wanted_none rfl) (w_enter 15 (.agg (bs ((a ^ K1 % PP) * (a ^ K1 % PP) % PP))) rfl (run_rMul rfl rfl rfl) (rmul_any (a ^ K1 % PP) (a ^ K1 % PP) (Nat.lt_trans (Nat.mod_lt _ (by decide)) pp_lt) (Nat.lt_trans (Nat.mod_lt _ (by decide)) pp_lt) _) (fun w75 hb76 => ?_))
  have k77 := k69.call hb76
  have k78 := k70.call hb76
  have k79 := k71.call hb76
  have k80 := k72.call hb76
  have hbel81 := bel_call hbel73 hb76
  refine ⟨⟨k80, k77⟩, ?_⟩
  simp only [nz1, nz2, nz3]
  refine one_ready 4 (by kernel_rfl) ?_
  refine opd rfl (wanted_none rfl) (w_enter 17 (.agg (bs (a % PP))) rfl (run_rReduce rfl rfl) (rreduce_any a HA.out _) (fun w82 hb83 => ?_))
  have k84 := k77.call hb83
  have k85 := k78.call hb83
  have k86 := k79.call hb83
  have k87 := k80.call hb83
  have hbel88 := bel_call hbel81 hb83
  refine ⟨⟨k87, k84⟩, ?_⟩
  simp only [nz1, nz2, nz3]
  refine tk 5 18 (.bool true) rfl rfl (fun _ hw => run_neqN ((a ^ K1 % PP) * (a ^ K1 % PP) % PP) (a % PP) (Nat.lt_trans (Nat.mod_lt _ (by decide)) pp_lt) (Nat.lt_trans (Nat.mod_lt _ (by decide)) pp_lt) true H1.out rfl rfl rfl) ⟨k87, k84⟩ ?_
  simp only [nz1, nz2, nz3]
  refine wpAnyH_done (by kernel_rfl) ?_ _
  go_step
  go_step
  go_step
  go_step
  go_step
  refine lst (wanted_none rfl) (w_enter 19 (.agg (bs PP)) rfl (run_rorder rfl) (rorder_any _) (fun w89 hb90 => ?_))
  have k91 := k84.call hb90
  have k92 := k85.call hb90
  have k93 := k86.call hb90
  have k94 := k87.call hb90
  have hbel95 := bel_call hbel88 hb90
  simp only [nz1, nz2, nz3]
  refine lst (wanted_none rfl) (w_alloc (c := bs 0) (T := 23) 6 rfl (run_alN rfl) (fun w96 he97 => ?_))
  have hne99 : w.heap.size ≠ w89.heap.size := Nat.ne_of_lt k91.lt
  have k98 := k91.alloc he97
  have hne101 : w1.heap.size ≠ w89.heap.size := Nat.ne_of_lt k92.lt
  have k100 := k92.alloc he97
  have hne103 : w13.heap.size ≠ w89.heap.size := Nat.ne_of_lt k93.lt
  have k102 := k93.alloc he97
  have hne105 : w45.heap.size ≠ w89.heap.size := Nat.ne_of_lt k94.lt
  have k104 := k94.alloc he97
  have k106 := Blk.new he97
  have hg107 : w.heap.size ≤ w89.heap.size := hbel95.size
  have hbel108 := bel_alloc hbel95 he97
  simp only [nz1, nz2, nz3]
  refine lst (wanted_none rfl) (w_store 23 _ _ (w89.heap.size) (bs PP) rfl rfl rfl rfl k106 (by rw [bs_sz]; exact info_b) ((bs_sz _).trans (bs_sz _).symm) (bs_one _) (fun w109 he110 => ?_))
  have k111 := k98.other hne99 he110
  have k112 := k100.other hne101 he110
  have k113 := k102.other hne103 he110
  have k114 := k104.other hne105 he110
  have k115 := k106.set he110
  have hbel116 := bel_set hbel108 hg107 he110
  go_step
  go_step
  go_step
  go_step
  go_step
  refine lv 20 (.pointer (some ⟨w89.heap.size, 0, none⟩)) rfl rfl (run_ix 6 0 (w89.heap.size) rfl rfl (by decide)) ?_
  simp only [nz1, nz2, nz3]
  refine lst (wanted_none rfl) (w_put (w89.heap.size) 0 (.int .u8 251) rfl k115 put_c (run_put (bt PP) 0 (w89.heap.size) k115 (by decide) rfl rfl) (fun w117 he118 => ?_))
  have k119 := k111.other hne99 he118
  have k120 := k112.other hne101 he118
  have k121 := k113.other hne103 he118
  have k122 := k114.other hne105 he118
  have k123 := k115.set he118
  have hbel124 := bel_set hbel116 hg107 he118
  go_step
  go_step
  go_step
  go_step
  go_step
  refine lv 21 (.pointer (some ⟨w89.heap.size, 31, none⟩)) rfl rfl (run_ix 6 31 (w89.heap.size) rfl rfl (by decide)) ?_
  simp only [nz1, nz2, nz3]
  refine lst (wanted_none rfl) (w_put (w89.heap.size) 31 (.int .u8 31) rfl k123 put_d (run_put (bt K2a) 31 (w89.heap.size) k123 (by decide) rfl rfl) (fun w125 he126 => ?_))
  have k127 := k119.other hne99 he126
  have k128 := k120.other hne101 he126
  have k129 := k121.other hne103 he126
  have k130 := k122.other hne105 he126
  have k131 := k123.set he126
  have hbel132 := bel_set hbel124 hg107 he126
  go_step
  go_step
  go_step
  have k133 := k127.drew
  have k134 := k128.drew
  have k135 := k129.drew
  have k136 := k130.drew
  have k137 := k131.drew
  have hbel138 := hbel132.drew
  refine wp_region_held_drew (S := fun w' => Blk w' (w89.heap.size) (bs K2) 23) (by kernel_rfl) k137 (fun _ => ?_)
  generalize w125.drew = wd139 at *
  refine tk 1 23 (.agg (bs 2)) rfl rfl (fun _ hw => by unfold execOp; go_simp; rfl) k137 ?_
  simp only [nz1, nz2, nz3]
  refine tk 2 24 (.agg (bs K2)) rfl rfl (fun _ hw => run_row rfl rfl hw Tryd.underlying23 rfl (by rw [bs_sz]; exact info_b)) k137 ?_
  simp only [nz1, nz2, nz3]
  refine two_ready 0 3 (by kernel_rfl) ?_ ?_
  · refine opd rfl (wanted_none rfl) (w_value 22 (.agg (bs (a ^ K1 % PP))) rfl (run_row rfl rfl k136 Tryd.underlying23 rfl (by rw [bs_sz]; exact info_b)) ⟨k137, ?_⟩)
    simp only [nz1, nz2, nz3]
    refine one_ready 3 (by kernel_rfl) ?_
    refine opd rfl (wanted_none rfl) (w_enter 25 (.agg (bs (2 ^ K2 % PP))) rfl (run_rPower rfl rfl rfl) (rpower_any 2 K2 (by decide) (by decide) _) (fun w140 hb141 => ?_))
    have k142 := k133.call hb141
    have k143 := k134.call hb141
    have k144 := k135.call hb141
    have k145 := k136.call hb141
    have k146 := k137.call hb141
    have hbel147 := bel_call hbel138 hb141
    refine ⟨k146, ?_⟩
    simp only [nz1, nz2, nz3]
    refine one_ready 4 (by kernel_rfl) ?_
    refine opd rfl (wanted_none rfl) (w_enter 26 (.agg (bs ((a ^ K1 % PP) * (2 ^ K2 % PP) % PP))) rfl (run_rMul rfl rfl rfl) (rmul_any (a ^ K1 % PP) (2 ^ K2 % PP) (Nat.lt_trans (Nat.mod_lt _ (by decide)) pp_lt) (Nat.lt_trans (Nat.mod_lt _ (by decide)) pp_lt) _) (fun w148 hb149 => ?_))
    have k150 := k142.call hb149
    have k151 := k143.call hb149
    have k152 := k144.call hb149
    have k153 := k145.call hb149
    have k154 := k146.call hb149
    have hbel155 := bel_call hbel147 hb149
    refine ⟨k154, ?_⟩
    simp only [nz1, nz2, nz3]
    refine one_ready 5 (by kernel_rfl) ?_
    refine opd rfl (wanted_none rfl) (w_store 23 _ _ (w45.heap.size) (bs ((a ^ K1 % PP) * (2 ^ K2 % PP) % PP)) rfl rfl rfl rfl k153 (by rw [bs_sz]; exact info_b) ((bs_sz _).trans (bs_sz _).symm) (bs_one _) (fun w156 he157 => ?_))
    have k158 := k150.other hne54 he157
    have k159 := k151.other hne56 he157
    have k160 := k152.other hne58 he157
    have k161 := k154.other hne105.symm he157
    have k162 := k153.set he157
    have hbel163 := bel_set hbel155 hg60 he157
    refine ⟨k161, ?_⟩
    refine wpAnyH_done (by kernel_rfl) ?_ _
    go_step
    go_step
    go_step
    go_step
    have k164 := k158.drew
    have k165 := k159.drew
    have k166 := k160.drew
    have k167 := k162.drew
    have k168 := k161.drew
    have hbel169 := hbel163.drew
    refine wp_region_held_drew (S := fun w' => Blk w' (w45.heap.size) (bs ((a ^ K1 % PP) * (2 ^ K2 % PP) % PP)) 23 ∧ Blk w' (w.heap.size) (bs a) 23) (by kernel_rfl) ⟨k167, k164⟩ (fun _ => ?_)
    generalize w156.drew = wd170 at *
    refine tk 0 27 (.agg (bs ((a ^ K1 % PP) * (2 ^ K2 % PP) % PP))) rfl rfl (fun _ hw => run_row rfl rfl (hw.1) Tryd.underlying23 rfl (by rw [bs_sz]; exact info_b)) ⟨k167, k164⟩ ?_
    simp only [nz1, nz2, nz3]
    refine tk 1 28 (.agg (bs ((a ^ K1 % PP) * (2 ^ K2 % PP) % PP))) rfl rfl (fun _ hw => run_row rfl rfl (hw.1) Tryd.underlying23 rfl (by rw [bs_sz]; exact info_b)) ⟨k167, k164⟩ ?_
    simp only [nz1, nz2, nz3]
    refine tk 3 30 (.agg (bs a)) rfl rfl (fun _ hw => run_row rfl rfl (hw.2) Tryd.underlying23 rfl (by rw [bs_sz]; exact info_b)) ⟨k167, k164⟩ ?_
    simp only [nz1, nz2, nz3]
    refine one_ready 2 (by kernel_rfl) ?_
    refine opd rfl (wanted_none rfl) (w_enter 29 (.agg (bs (((a ^ K1 % PP) * (2 ^ K2 % PP) % PP) * ((a ^ K1 % PP) * (2 ^ K2 % PP) % PP) % PP))) rfl (run_rMul rfl rfl rfl) (rmul_any ((a ^ K1 % PP) * (2 ^ K2 % PP) % PP) ((a ^ K1 % PP) * (2 ^ K2 % PP) % PP) (Nat.lt_trans (Nat.mod_lt _ (by decide)) pp_lt) (Nat.lt_trans (Nat.mod_lt _ (by decide)) pp_lt) _) (fun w171 hb172 => ?_))
    have k173 := k164.call hb172
    have k174 := k165.call hb172
    have k175 := k166.call hb172
    have k176 := k167.call hb172
    have k177 := k168.call hb172
    have hbel178 := bel_call hbel169 hb172
    refine ⟨⟨k176, k173⟩, ?_⟩
    simp only [nz1, nz2, nz3]
    refine one_ready 4 (by kernel_rfl) ?_
    refine opd rfl (wanted_none rfl) (w_enter 31 (.agg (bs (a % PP))) rfl (run_rReduce rfl rfl) (rreduce_any a HA.out _) (fun w179 hb180 => ?_))
    have k181 := k173.call hb180
    have k182 := k174.call hb180
    have k183 := k175.call hb180
    have k184 := k176.call hb180
    have k185 := k177.call hb180
    have hbel186 := bel_call hbel178 hb180
    refine ⟨⟨k184, k181⟩, ?_⟩
    simp only [nz1, nz2, nz3]
    refine tk 5 32 (.bool true) rfl rfl (fun _ hw => run_neqN (((a ^ K1 % PP) * (2 ^ K2 % PP) % PP) * ((a ^ K1 % PP) * (2 ^ K2 % PP) % PP) % PP) (a % PP) (Nat.lt_trans (Nat.mod_lt _ (by decide)) pp_lt) (Nat.lt_trans (Nat.mod_lt _ (by decide)) pp_lt) true H2.out rfl rfl rfl) ⟨k184, k181⟩ ?_
    simp only [nz1, nz2, nz3]
    refine wpAnyH_done (by kernel_rfl) ?_ _
    go_step
    go_step
    go_step
    go_step
    go_step
    refine lv 33 (.agg (bs 0)) rfl rfl (by unfold execOp; go_simp; rfl) ?_
    simp only [nz1, nz2, nz3]
    refine lst (wanted_none rfl) (w_store 23 _ _ (w1.heap.size) (bs 0) rfl rfl rfl rfl k182 (by rw [bs_sz]; exact info_b) ((bs_sz _).trans (bs_sz _).symm) (bs_one _) (fun w187 he188 => ?_))
    have k189 := k181.other hne9 he188
    have k190 := k183.other hne23.symm he188
    have k191 := k184.other hne56.symm he188
    have k192 := k185.other hne101.symm he188
    have k193 := k182.set he188
    have hbel194 := bel_set hbel186 hg11 he188
    refine lv 3 (.bool false) rfl rfl (run_as rfl rfl) ?_
    simp only [nz1, nz2, nz3]
    go_step
    go_step
    go_step
    go_wp2
    refine bodyPost_ret (results_cell_tmp rfl _ _ (w1.heap.size) 23 (bs 0) (0, 0) _ (.bool false) rfl rfl k193 Tryd.underlying23 rfl (by rw [bs_sz]; exact info_b)) rfl ⟨rfl, hbel194⟩
  · refine opd rfl (wanted_none rfl) (w_enter 25 (.agg (bs (2 ^ K2 % PP))) rfl (run_rPower rfl rfl rfl) (rpower_any 2 K2 (by decide) (by decide) _) (fun w195 hb196 => ?_))
    have k197 := k133.call hb196
    have k198 := k134.call hb196
    have k199 := k135.call hb196
    have k200 := k136.call hb196
    have k201 := k137.call hb196
    have hbel202 := bel_call hbel138 hb196
    refine ⟨k201, ?_⟩
    simp only [nz1, nz2, nz3]
    refine one_ready 0 (by kernel_rfl) ?_
    refine opd rfl (wanted_none rfl) (w_value 22 (.agg (bs (a ^ K1 % PP))) rfl (run_row rfl rfl k200 Tryd.underlying23 rfl (by rw [bs_sz]; exact info_b)) ⟨k201, ?_⟩)
    simp only [nz1, nz2, nz3]
    refine one_ready 4 (by kernel_rfl) ?_
    refine opd rfl (wanted_none rfl) (w_enter 26 (.agg (bs ((a ^ K1 % PP) * (2 ^ K2 % PP) % PP))) rfl (run_rMul rfl rfl rfl) (rmul_any (a ^ K1 % PP) (2 ^ K2 % PP) (Nat.lt_trans (Nat.mod_lt _ (by decide)) pp_lt) (Nat.lt_trans (Nat.mod_lt _ (by decide)) pp_lt) _) (fun w203 hb204 => ?_))
    have k205 := k197.call hb204
    have k206 := k198.call hb204
    have k207 := k199.call hb204
    have k208 := k200.call hb204
    have k209 := k201.call hb204
    have hbel210 := bel_call hbel202 hb204
    refine ⟨k209, ?_⟩
    simp only [nz1, nz2, nz3]
    refine one_ready 5 (by kernel_rfl) ?_
    refine opd rfl (wanted_none rfl) (w_store 23 _ _ (w45.heap.size) (bs ((a ^ K1 % PP) * (2 ^ K2 % PP) % PP)) rfl rfl rfl rfl k208 (by rw [bs_sz]; exact info_b) ((bs_sz _).trans (bs_sz _).symm) (bs_one _) (fun w211 he212 => ?_))
    have k213 := k205.other hne54 he212
    have k214 := k206.other hne56 he212
    have k215 := k207.other hne58 he212
    have k216 := k209.other hne105.symm he212
    have k217 := k208.set he212
    have hbel218 := bel_set hbel210 hg60 he212
    refine ⟨k216, ?_⟩
    refine wpAnyH_done (by kernel_rfl) ?_ _
    go_step
    go_step
    go_step
    go_step
    have k219 := k213.drew
    have k220 := k214.drew
    have k221 := k215.drew
    have k222 := k217.drew
    have k223 := k216.drew
    have hbel224 := hbel218.drew
    refine wp_region_held_drew (S := fun w' => Blk w' (w45.heap.size) (bs ((a ^ K1 % PP) * (2 ^ K2 % PP) % PP)) 23 ∧ Blk w' (w.heap.size) (bs a) 23) (by kernel_rfl) ⟨k222, k219⟩ (fun _ => ?_)
    generalize w211.drew = wd225 at *
    refine tk 0 27 (.agg (bs ((a ^ K1 % PP) * (2 ^ K2 % PP) % PP))) rfl rfl (fun _ hw => run_row rfl rfl (hw.1) Tryd.underlying23 rfl (by rw [bs_sz]; exact info_b)) ⟨k222, k219⟩ ?_
    simp only [nz1, nz2, nz3]
    refine tk 1 28 (.agg (bs ((a ^ K1 % PP) * (2 ^ K2 % PP) % PP))) rfl rfl (fun _ hw => run_row rfl rfl (hw.1) Tryd.underlying23 rfl (by rw [bs_sz]; exact info_b)) ⟨k222, k219⟩ ?_
    simp only [nz1, nz2, nz3]
    refine tk 3 30 (.agg (bs a)) rfl rfl (fun _ hw => run_row rfl rfl (hw.2) Tryd.underlying23 rfl (by rw [bs_sz]; exact info_b)) ⟨k222, k219⟩ ?_
    simp only [nz1, nz2, nz3]
    refine one_ready 2 (by kernel_rfl) ?_
    refine opd rfl (wanted_none rfl) (w_enter 29 (.agg (bs (((a ^ K1 % PP) * (2 ^ K2 % PP) % PP) * ((a ^ K1 % PP) * (2 ^ K2 % PP) % PP) % PP))) rfl (run_rMul rfl rfl rfl) (rmul_any ((a ^ K1 % PP) * (2 ^ K2 % PP) % PP) ((a ^ K1 % PP) * (2 ^ K2 % PP) % PP) (Nat.lt_trans (Nat.mod_lt _ (by decide)) pp_lt) (Nat.lt_trans (Nat.mod_lt _ (by decide)) pp_lt) _) (fun w226 hb227 => ?_))
    have k228 := k219.call hb227
    have k229 := k220.call hb227
    have k230 := k221.call hb227
    have k231 := k222.call hb227
    have k232 := k223.call hb227
    have hbel233 := bel_call hbel224 hb227
    refine ⟨⟨k231, k228⟩, ?_⟩
    simp only [nz1, nz2, nz3]
    refine one_ready 4 (by kernel_rfl) ?_
    refine opd rfl (wanted_none rfl) (w_enter 31 (.agg (bs (a % PP))) rfl (run_rReduce rfl rfl) (rreduce_any a HA.out _) (fun w234 hb235 => ?_))
    have k236 := k228.call hb235
    have k237 := k229.call hb235
    have k238 := k230.call hb235
    have k239 := k231.call hb235
    have k240 := k232.call hb235
    have hbel241 := bel_call hbel233 hb235
    refine ⟨⟨k239, k236⟩, ?_⟩
    simp only [nz1, nz2, nz3]
    refine tk 5 32 (.bool true) rfl rfl (fun _ hw => run_neqN (((a ^ K1 % PP) * (2 ^ K2 % PP) % PP) * ((a ^ K1 % PP) * (2 ^ K2 % PP) % PP) % PP) (a % PP) (Nat.lt_trans (Nat.mod_lt _ (by decide)) pp_lt) (Nat.lt_trans (Nat.mod_lt _ (by decide)) pp_lt) true H2.out rfl rfl rfl) ⟨k239, k236⟩ ?_
    simp only [nz1, nz2, nz3]
    refine wpAnyH_done (by kernel_rfl) ?_ _
    go_step
    go_step
    go_step
    go_step
    go_step
    refine lv 33 (.agg (bs 0)) rfl rfl (by unfold execOp; go_simp; rfl) ?_
    simp only [nz1, nz2, nz3]
    refine lst (wanted_none rfl) (w_store 23 _ _ (w1.heap.size) (bs 0) rfl rfl rfl rfl k237 (by rw [bs_sz]; exact info_b) ((bs_sz _).trans (bs_sz _).symm) (bs_one _) (fun w242 he243 => ?_))
    have k244 := k236.other hne9 he243
    have k245 := k238.other hne23.symm he243
    have k246 := k239.other hne56.symm he243
    have k247 := k240.other hne101.symm he243
    have k248 := k237.set he243
    have hbel249 := bel_set hbel241 hg11 he243
    refine lv 3 (.bool false) rfl rfl (run_as rfl rfl) ?_
    simp only [nz1, nz2, nz3]
    go_step
    go_step
    go_step
    go_wp2
    refine bodyPost_ret (results_cell_tmp rfl _ _ (w1.heap.size) 23 (bs 0) (0, 0) _ (.bool false) rfl rfl k248 Tryd.underlying23 rfl (by rw [bs_sz]; exact info_b)) rfl ⟨rfl, hbel249⟩

theorem rootV_lt (s : Nat) : rootV s < MM := by
  have h1 : rootR s < PP := by
    unfold rootR rt2 rt1
    split
    · exact Nat.mod_lt _ PP_pos
    · exact Nat.mod_lt _ PP_pos
  have h2 := pp_lt
  unfold rootV
  split
  · split <;> omega
  · omega
theorem rroot_any (a : Nat) (ha : a < MM) (w : World) : Calls Tryd.prog 40 #[.agg (bs a)] w fun e w' => e = .returned (.tuple #[.agg (bs (rootV (a % PP))), .bool (rootOk (a % PP))]) ∧ Below w.heap.size w w' := by
  have e : a ^ K1 % PP = rt1 (a % PP) := by unfold rt1; exact Nat.pow_mod a K1 PP
  have s0 := rroot_same0 a ha
  have s1 := rroot_same1 a ha
  have t0 := rroot_turn0 a ha
  have t1 := rroot_turn1 a ha
  have nn := rroot_none a ha
  rw [e] at s0 s1 t0 t1 nn
  have e2 : rt1 (a % PP) * (2 ^ K2 % PP) % PP = rt2 (a % PP) := rfl
  rw [e2] at t0 t1 nn
  have l1 : rt1 (a % PP) < PP := Nat.mod_lt _ PP_pos
  have l2 : rt2 (a % PP) < PP := Nat.mod_lt _ PP_pos
  have hneg : ∀ r, r < PP → r % 2 = 1 → (PP - (r % PP)) % PP = PP - r := fun r h h1 => by
    rw [Nat.mod_eq_of_lt h, Nat.mod_eq_of_lt]
    omega
  unfold rootV rootOk rootR
  generalize rt1 (a % PP) = r1 at *
  generalize rt2 (a % PP) = r2 at *
  by_cases h1 : r1 * r1 % PP = a % PP
  · rw [if_pos h1]
    rw [decide_eq_true h1, if_pos rfl]
    by_cases h3 : r1 % 2 = 1
    · rw [if_pos h3, ← hneg r1 l1 h3]; exact s1 (decide_eq_true h1) (decide_eq_true h3) w
    · rw [if_neg h3]; exact s0 (decide_eq_true h1) (decide_eq_false h3) w
  · rw [if_neg h1]
    by_cases h2 : r2 * r2 % PP = a % PP
    · rw [decide_eq_true h2, if_pos rfl]
      by_cases h3 : r2 % 2 = 1
      · rw [if_pos h3, ← hneg r2 l2 h3]; exact t1 (decide_eq_false h1) (decide_eq_true h2) (decide_eq_true h3) w
      · rw [if_neg h3]; exact t0 (decide_eq_false h1) (decide_eq_true h2) (decide_eq_false h3) w
    · rw [decide_eq_false h2, if_neg (by decide)]
      exact nn (decide_eq_false h1) (decide_eq_false h2) w
end Go.Proofs.YtfpphinnngblgaaDoor.Fld
