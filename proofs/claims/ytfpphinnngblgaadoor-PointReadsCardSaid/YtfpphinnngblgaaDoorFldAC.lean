/- Layer 3, the document's answers: sums and products. Layer 3, the document's answers: differences. Layer 3, the document's answers: powers. -/
import Derived.Test.YtfpphinnngblgaaDoorFldY
import Derived.Test.YtfpphinnngblgaaDoorFldE
import Derived.Test.YtfpphinnngblgaaDoorFldR
namespace Go.Proofs.YtfpphinnngblgaaDoor.Fld
open Go.RowKit Go.Lib
open Go.Proofs.YtfpphinnngblgaaDoor.Num (val up val_congr val_add val_lt val_up val_digits val_word)
open Go.Proofs.YtfpphinnngblgaaDoor.Arr Go.Proofs.YtfpphinnngblgaaDoor.Sym

theorem info_8 : (Tryd.prog.info? 62).map (·.size) = some 8 := by kernel_rfl
theorem w8_sz (f : Nat → Nat) : (rowOf .u64 f 8).size = 8 := rowOf_size _ _ _
theorem w8_one (f : Nat → Nat) : (rowOf .u64 f 8).all (·.oneCell') = true := rowOf_one _ _ _
theorem run_alX {o : Oper} {a : Act} {w : World} (ho : o.op = .alloc 51) : (execOp a.eval o).run Tryd.prog w = .ok (.value (.pointer (some ⟨w.heap.size, 0, none⟩))) (w.alloc (.cells (ws 0) 51)) := by
  unfold execOp
  simp only [ho]
  go_simp
  rfl
theorem run_al8 {o : Oper} {a : Act} {w : World} (ho : o.op = .alloc 62) : (execOp a.eval o).run Tryd.prog w = .ok (.value (.pointer (some ⟨w.heap.size, 0, none⟩))) (w.alloc (.cells (rowOf .u64 (fun _ => 0) 8) 62)) := by
  unfold execOp
  simp only [ho]
  go_simp
  rfl
theorem add8 (a b : Nat) (ha : a < MM) (hb : b < MM) : rowOf .u64 (up (part (a + b) 4) 4 (car a b 4)) 8 = rowOf .u64 (wd (a + b)) 8 := rowOf_congr fun j hj => by
  have hs : a + b < 18446744073709551616 ^ 5 := by unfold MM at *; omega
  unfold up part
  by_cases h4 : j = 4
  · rw [if_pos h4, h4, car_top a b ha hb]
    unfold wd
    rw [← MM_eq, Nat.mod_eq_of_lt]
    unfold MM at *; omega
  · rw [if_neg h4]
    by_cases h : j < 4
    · rw [if_pos h]
    · rw [if_neg h]
      unfold wd
      have : (18446744073709551616 : Nat) ^ 5 ≤ 18446744073709551616 ^ j := Nat.pow_le_pow_right (by decide) (by omega)
      rw [Nat.div_eq_of_lt (by omega)]
theorem run_rwords {o : Oper} {a : Act} {w : World} {x0 : Operand} {v0 : Value} (ho : o.op = .call { callee := .value (.func 57), args := #[x0], argTypes := #[23] }) (h0 : a.eval x0 = v0) :
    (execOp a.eval o).run Tryd.prog w = .ok (.enter 57 #[v0]) w := by
  unfold execOp
  simp only [ho]
  have hf : a.eval (.func 57) = .func (.func 57) #[] #[] := rfl
  generalize a.eval = f at *
  go_simp
set_option maxHeartbeats 2000000 in
set_option maxRecDepth 100000 in
theorem radd_any (a b : Nat) (ha : a < MM) (hb : b < MM) (w : World) : Calls Tryd.prog 38 #[.agg (bs a), .agg (bs b)] w fun e w' => e = .returned (.agg (bs ((a + b) % PP))) ∧ Below w.heap.size w w' := by
  have HA := Lib.hid ha
  have HB := Lib.hid hb
  clear ha hb
  go_enter Tryd.func38, Tryd.ntmps38
  have hbel0 := Below.refl w.heap.size w
  go_step
  go_step
  go_step
  refine lst (wanted_none rfl) (w_alloc (c := bs a) (T := 23) 2 rfl (run_box rfl rfl) (fun w1 he2 => ?_))
  have k3 := Blk.new he2
  have hg4 : w.heap.size ≤ w.heap.size := hbel0.size
  have hbel5 := bel_alloc hbel0 he2
  simp only [nz1, nz2, nz3]
  refine lst (wanted_none rfl) (w_alloc (c := bs b) (T := 23) 3 rfl (run_box rfl rfl) (fun w6 he7 => ?_))
  have hne9 : w.heap.size ≠ w1.heap.size := Nat.ne_of_lt k3.lt
  have k8 := k3.alloc he7
  have k10 := Blk.new he7
  have hg11 : w.heap.size ≤ w1.heap.size := hbel5.size
  have hbel12 := bel_alloc hbel5 he7
  simp only [nz1, nz2, nz3]
  refine lst (wanted_none rfl) (w_alloc (c := bs 0) (T := 23) 4 rfl (run_alN rfl) (fun w13 he14 => ?_))
  have hne16 : w.heap.size ≠ w6.heap.size := Nat.ne_of_lt k8.lt
  have k15 := k8.alloc he14
  have hne18 : w1.heap.size ≠ w6.heap.size := Nat.ne_of_lt k10.lt
  have k17 := k10.alloc he14
  have k19 := Blk.new he14
  have hg20 : w.heap.size ≤ w6.heap.size := hbel12.size
  have hbel21 := bel_alloc hbel12 he14
  simp only [nz1, nz2, nz3]
  go_step
  go_step
  go_step
  go_step
  go_step
  refine lst (wanted_none rfl) (w_alloc (c := rowOf .u64 (fun _ => 0) 8) (T := 62) 5 rfl (run_al8 rfl) (fun w22 he23 => ?_))
  have hne25 : w.heap.size ≠ w13.heap.size := Nat.ne_of_lt k15.lt
  have k24 := k15.alloc he23
  have hne27 : w1.heap.size ≠ w13.heap.size := Nat.ne_of_lt k17.lt
  have k26 := k17.alloc he23
  have hne29 : w6.heap.size ≠ w13.heap.size := Nat.ne_of_lt k19.lt
  have k28 := k19.alloc he23
  have k30 := Blk.new he23
  have hg31 : w.heap.size ≤ w13.heap.size := hbel21.size
  have hbel32 := bel_alloc hbel21 he23
  simp only [nz1, nz2, nz3]
  go_step
  go_step
  go_step
  go_step
  clear he14 he2 he23 he7
  refine wp_mono (Q := fun e a' w' => e = Exit.normal ∧ ∃ gx gy : Nat, a' = ⟨#[.agg (bs a), .agg (bs b), .pointer (some ⟨w.heap.size, 0, none⟩), .pointer (some ⟨w1.heap.size, 0, none⟩), .pointer (some ⟨w6.heap.size, 0, none⟩), .pointer (some ⟨w13.heap.size, 0, none⟩), .pointer (some ⟨gx, 0, none⟩), .pointer (some ⟨gy, 0, none⟩), undef, undef, undef, undef, .agg (bs a), .agg (ws a), .agg (bs b), .agg (ws b), undef, undef, undef, undef, undef, undef, undef, undef, undef, undef, undef, undef, undef, undef, undef, undef, undef, undef, undef, undef, undef, undef, undef], []⟩ ∧ Blk w' gx (ws a) 51 ∧ Blk w' gy (ws b) 51 ∧ Blk w' (w13.heap.size) (rowOf .u64 (fun _ => 0) 8) 62 ∧ Blk w' (w6.heap.size) (bs 0) 23 ∧ Below w.heap.size w w' ∧ w13.heap.size ≠ gx ∧ w13.heap.size ≠ gy) ?_ ?_
  · have k33 := k24.drew
    have k34 := k26.drew
    have k35 := k28.drew
    have k36 := k30.drew
    have hbel37 := hbel32.drew
    refine wp_region_held_drew (S := fun w' => Blk w' (w.heap.size) (bs a) 23 ∧ Blk w' (w1.heap.size) (bs b) 23) (by kernel_rfl) ⟨k33, k34⟩ (fun _ => ?_)
    generalize w22.drew = wd38 at *
    refine Sym.take_at 0 12 (.agg (bs a)) rfl rfl (by kernel_rfl) (by kernel_rfl) (by kernel_rfl) (fun _ _ _ h => nomatch h.1) (wanted_none rfl) (fun _ hw => run_row rfl rfl (hw.1) Tryd.underlying23 rfl (by rw [bs_sz]; exact info_b)) ⟨k33, k34⟩ ?_
    simp only [nz1, nz2, nz3]
    refine Sym.take_at 2 14 (.agg (bs b)) rfl rfl (by kernel_rfl) (by kernel_rfl) (by kernel_rfl) (fun _ _ _ h => nomatch h.1) (wanted_none rfl) (fun _ hw => run_row rfl rfl (hw.2) Tryd.underlying23 rfl (by rw [bs_sz]; exact info_b)) ⟨k33, k34⟩ ?_
    simp only [nz1, nz2, nz3]
    refine three_ready 1 4 5 (by kernel_rfl) ?_ ?_ ?_
    · refine opd rfl (wanted_none rfl) (w_enter 13 (.agg (ws a)) rfl (run_rwords rfl rfl) (rwords_any a _) (fun w39 hb40 => ?_))
      have k41 := k33.call hb40
      have k42 := k34.call hb40
      have k43 := k35.call hb40
      have k44 := k36.call hb40
      have hbel45 := bel_call hbel37 hb40
      refine ⟨⟨k41, k42⟩, ?_⟩
      simp only [nz1, nz2, nz3]
      refine three_ready 3 4 5 (by kernel_rfl) ?_ ?_ ?_
      · refine opd rfl (wanted_none rfl) (w_enter 15 (.agg (ws b)) rfl (run_rwords rfl rfl) (rwords_any b _) (fun w46 hb47 => ?_))
        have k48 := k41.call hb47
        have k49 := k42.call hb47
        have k50 := k43.call hb47
        have k51 := k44.call hb47
        have hbel52 := bel_call hbel45 hb47
        refine ⟨⟨k48, k49⟩, ?_⟩
        simp only [nz1, nz2, nz3]
        refine two_ready 4 5 (by kernel_rfl) ?_ ?_
        · refine opd rfl (wanted_none rfl) (w_alloc (c := ws 0) (T := 51) 6 rfl (run_alX rfl) (fun w53 he54 => ?_))
          have hne56 : w.heap.size ≠ w46.heap.size := Nat.ne_of_lt k48.lt
          have k55 := k48.alloc he54
          have hne58 : w1.heap.size ≠ w46.heap.size := Nat.ne_of_lt k49.lt
          have k57 := k49.alloc he54
          have hne60 : w6.heap.size ≠ w46.heap.size := Nat.ne_of_lt k50.lt
          have k59 := k50.alloc he54
          have hne62 : w13.heap.size ≠ w46.heap.size := Nat.ne_of_lt k51.lt
          have k61 := k51.alloc he54
          have k63 := Blk.new he54
          have hg64 : w.heap.size ≤ w46.heap.size := hbel52.size
          have hbel65 := bel_alloc hbel52 he54
          refine ⟨⟨k55, k57⟩, ?_⟩
          simp only [nz1, nz2, nz3]
          refine one_ready 5 (by kernel_rfl) ?_
          refine opd rfl (wanted_none rfl) (w_alloc (c := ws 0) (T := 51) 7 rfl (run_alX rfl) (fun w66 he67 => ?_))
          have hne69 : w.heap.size ≠ w53.heap.size := Nat.ne_of_lt k55.lt
          have k68 := k55.alloc he67
          have hne71 : w1.heap.size ≠ w53.heap.size := Nat.ne_of_lt k57.lt
          have k70 := k57.alloc he67
          have hne73 : w6.heap.size ≠ w53.heap.size := Nat.ne_of_lt k59.lt
          have k72 := k59.alloc he67
          have hne75 : w13.heap.size ≠ w53.heap.size := Nat.ne_of_lt k61.lt
          have k74 := k61.alloc he67
          have hne77 : w46.heap.size ≠ w53.heap.size := Nat.ne_of_lt k63.lt
          have k76 := k63.alloc he67
          have k78 := Blk.new he67
          have hg79 : w.heap.size ≤ w53.heap.size := hbel65.size
          have hbel80 := bel_alloc hbel65 he67
          refine ⟨⟨k68, k70⟩, ?_⟩
          simp only [nz1, nz2, nz3]
          refine one_ready 6 (by kernel_rfl) ?_
          refine opd rfl (wanted_none rfl) (w_store 51 _ _ (w46.heap.size) (ws a) rfl rfl rfl rfl k76 (by rw [ws_sz]; exact info_x) ((ws_sz _).trans (ws_sz _).symm) (ws_one _) (fun w81 he82 => ?_))
          have k83 := k68.other hne56 he82
          have k84 := k70.other hne58 he82
          have k85 := k72.other hne60 he82
          have k86 := k74.other hne62 he82
          have k87 := k78.other hne77.symm he82
          have k88 := k76.set he82
          have hbel89 := bel_set hbel80 hg64 he82
          refine ⟨⟨k83, k84⟩, ?_⟩
          refine one_ready 7 (by kernel_rfl) ?_
          refine opd rfl (wanted_none rfl) (w_store 51 _ _ (w53.heap.size) (ws b) rfl rfl rfl rfl k87 (by rw [ws_sz]; exact info_x) ((ws_sz _).trans (ws_sz _).symm) (ws_one _) (fun w90 he91 => ?_))
          have k92 := k83.other hne69 he91
          have k93 := k84.other hne71 he91
          have k94 := k85.other hne73 he91
          have k95 := k86.other hne75 he91
          have k96 := k88.other hne77 he91
          have k97 := k87.set he91
          have hbel98 := bel_set hbel89 hg79 he91
          refine ⟨⟨k92, k93⟩, ?_⟩
          refine wpAnyH_done (by kernel_rfl) ?_ _
          exact ⟨rfl, w46.heap.size, w53.heap.size, rfl, k96, k97, k95, k94, hbel98, hne62, hne75⟩
        · refine opd rfl (wanted_none rfl) (w_alloc (c := ws 0) (T := 51) 7 rfl (run_alX rfl) (fun w99 he100 => ?_))
          have hne102 : w.heap.size ≠ w46.heap.size := Nat.ne_of_lt k48.lt
          have k101 := k48.alloc he100
          have hne104 : w1.heap.size ≠ w46.heap.size := Nat.ne_of_lt k49.lt
          have k103 := k49.alloc he100
          have hne106 : w6.heap.size ≠ w46.heap.size := Nat.ne_of_lt k50.lt
          have k105 := k50.alloc he100
          have hne108 : w13.heap.size ≠ w46.heap.size := Nat.ne_of_lt k51.lt
          have k107 := k51.alloc he100
          have k109 := Blk.new he100
          have hg110 : w.heap.size ≤ w46.heap.size := hbel52.size
          have hbel111 := bel_alloc hbel52 he100
          refine ⟨⟨k101, k103⟩, ?_⟩
          simp only [nz1, nz2, nz3]
          refine one_ready 4 (by kernel_rfl) ?_
          refine opd rfl (wanted_none rfl) (w_alloc (c := ws 0) (T := 51) 6 rfl (run_alX rfl) (fun w112 he113 => ?_))
          have hne115 : w.heap.size ≠ w99.heap.size := Nat.ne_of_lt k101.lt
          have k114 := k101.alloc he113
          have hne117 : w1.heap.size ≠ w99.heap.size := Nat.ne_of_lt k103.lt
          have k116 := k103.alloc he113
          have hne119 : w6.heap.size ≠ w99.heap.size := Nat.ne_of_lt k105.lt
          have k118 := k105.alloc he113
          have hne121 : w13.heap.size ≠ w99.heap.size := Nat.ne_of_lt k107.lt
          have k120 := k107.alloc he113
          have hne123 : w46.heap.size ≠ w99.heap.size := Nat.ne_of_lt k109.lt
          have k122 := k109.alloc he113
          have k124 := Blk.new he113
          have hg125 : w.heap.size ≤ w99.heap.size := hbel111.size
          have hbel126 := bel_alloc hbel111 he113
          refine ⟨⟨k114, k116⟩, ?_⟩
          simp only [nz1, nz2, nz3]
          refine one_ready 6 (by kernel_rfl) ?_
          refine opd rfl (wanted_none rfl) (w_store 51 _ _ (w99.heap.size) (ws a) rfl rfl rfl rfl k124 (by rw [ws_sz]; exact info_x) ((ws_sz _).trans (ws_sz _).symm) (ws_one _) (fun w127 he128 => ?_))
          have k129 := k114.other hne115 he128
          have k130 := k116.other hne117 he128
          have k131 := k118.other hne119 he128
          have k132 := k120.other hne121 he128
          have k133 := k122.other hne123 he128
          have k134 := k124.set he128
          have hbel135 := bel_set hbel126 hg125 he128
          refine ⟨⟨k129, k130⟩, ?_⟩
          refine one_ready 7 (by kernel_rfl) ?_
          refine opd rfl (wanted_none rfl) (w_store 51 _ _ (w46.heap.size) (ws b) rfl rfl rfl rfl k133 (by rw [ws_sz]; exact info_x) ((ws_sz _).trans (ws_sz _).symm) (ws_one _) (fun w136 he137 => ?_))
          have k138 := k129.other hne102 he137
          have k139 := k130.other hne104 he137
          have k140 := k131.other hne106 he137
          have k141 := k132.other hne108 he137
          have k142 := k134.other hne123.symm he137
          have k143 := k133.set he137
          have hbel144 := bel_set hbel135 hg110 he137
          refine ⟨⟨k138, k139⟩, ?_⟩
          refine wpAnyH_done (by kernel_rfl) ?_ _
          exact ⟨rfl, w99.heap.size, w46.heap.size, rfl, k142, k143, k141, k140, hbel144, hne121, hne108⟩
      · refine opd rfl (wanted_none rfl) (w_alloc (c := ws 0) (T := 51) 6 rfl (run_alX rfl) (fun w145 he146 => ?_))
        have hne148 : w.heap.size ≠ w39.heap.size := Nat.ne_of_lt k41.lt
        have k147 := k41.alloc he146
        have hne150 : w1.heap.size ≠ w39.heap.size := Nat.ne_of_lt k42.lt
        have k149 := k42.alloc he146
        have hne152 : w6.heap.size ≠ w39.heap.size := Nat.ne_of_lt k43.lt
        have k151 := k43.alloc he146
        have hne154 : w13.heap.size ≠ w39.heap.size := Nat.ne_of_lt k44.lt
        have k153 := k44.alloc he146
        have k155 := Blk.new he146
        have hg156 : w.heap.size ≤ w39.heap.size := hbel45.size
        have hbel157 := bel_alloc hbel45 he146
        refine ⟨⟨k147, k149⟩, ?_⟩
        simp only [nz1, nz2, nz3]
        refine two_ready 3 5 (by kernel_rfl) ?_ ?_
        · refine opd rfl (wanted_none rfl) (w_enter 15 (.agg (ws b)) rfl (run_rwords rfl rfl) (rwords_any b _) (fun w158 hb159 => ?_))
          have k160 := k147.call hb159
          have k161 := k149.call hb159
          have k162 := k151.call hb159
          have k163 := k153.call hb159
          have k164 := k155.call hb159
          have hbel165 := bel_call hbel157 hb159
          refine ⟨⟨k160, k161⟩, ?_⟩
          simp only [nz1, nz2, nz3]
          refine one_ready 5 (by kernel_rfl) ?_
          refine opd rfl (wanted_none rfl) (w_alloc (c := ws 0) (T := 51) 7 rfl (run_alX rfl) (fun w166 he167 => ?_))
          have hne169 : w.heap.size ≠ w158.heap.size := Nat.ne_of_lt k160.lt
          have k168 := k160.alloc he167
          have hne171 : w1.heap.size ≠ w158.heap.size := Nat.ne_of_lt k161.lt
          have k170 := k161.alloc he167
          have hne173 : w6.heap.size ≠ w158.heap.size := Nat.ne_of_lt k162.lt
          have k172 := k162.alloc he167
          have hne175 : w13.heap.size ≠ w158.heap.size := Nat.ne_of_lt k163.lt
          have k174 := k163.alloc he167
          have hne177 : w39.heap.size ≠ w158.heap.size := Nat.ne_of_lt k164.lt
          have k176 := k164.alloc he167
          have k178 := Blk.new he167
          have hg179 : w.heap.size ≤ w158.heap.size := hbel165.size
          have hbel180 := bel_alloc hbel165 he167
          refine ⟨⟨k168, k170⟩, ?_⟩
          simp only [nz1, nz2, nz3]
          refine one_ready 6 (by kernel_rfl) ?_
          refine opd rfl (wanted_none rfl) (w_store 51 _ _ (w39.heap.size) (ws a) rfl rfl rfl rfl k176 (by rw [ws_sz]; exact info_x) ((ws_sz _).trans (ws_sz _).symm) (ws_one _) (fun w181 he182 => ?_))
          have k183 := k168.other hne148 he182
          have k184 := k170.other hne150 he182
          have k185 := k172.other hne152 he182
          have k186 := k174.other hne154 he182
          have k187 := k178.other hne177.symm he182
          have k188 := k176.set he182
          have hbel189 := bel_set hbel180 hg156 he182
          refine ⟨⟨k183, k184⟩, ?_⟩
          refine one_ready 7 (by kernel_rfl) ?_
          refine opd rfl (wanted_none rfl) (w_store 51 _ _ (w158.heap.size) (ws b) rfl rfl rfl rfl k187 (by rw [ws_sz]; exact info_x) ((ws_sz _).trans (ws_sz _).symm) (ws_one _) (fun w190 he191 => ?_))
          have k192 := k183.other hne169 he191
          have k193 := k184.other hne171 he191
          have k194 := k185.other hne173 he191
          have k195 := k186.other hne175 he191
          have k196 := k188.other hne177 he191
          have k197 := k187.set he191
          have hbel198 := bel_set hbel189 hg179 he191
          refine ⟨⟨k192, k193⟩, ?_⟩
          refine wpAnyH_done (by kernel_rfl) ?_ _
          exact ⟨rfl, w39.heap.size, w158.heap.size, rfl, k196, k197, k195, k194, hbel198, hne154, hne175⟩
        · refine opd rfl (wanted_none rfl) (w_alloc (c := ws 0) (T := 51) 7 rfl (run_alX rfl) (fun w199 he200 => ?_))
          have hne202 : w.heap.size ≠ w145.heap.size := Nat.ne_of_lt k147.lt
          have k201 := k147.alloc he200
          have hne204 : w1.heap.size ≠ w145.heap.size := Nat.ne_of_lt k149.lt
          have k203 := k149.alloc he200
          have hne206 : w6.heap.size ≠ w145.heap.size := Nat.ne_of_lt k151.lt
          have k205 := k151.alloc he200
          have hne208 : w13.heap.size ≠ w145.heap.size := Nat.ne_of_lt k153.lt
          have k207 := k153.alloc he200
          have hne210 : w39.heap.size ≠ w145.heap.size := Nat.ne_of_lt k155.lt
          have k209 := k155.alloc he200
          have k211 := Blk.new he200
          have hg212 : w.heap.size ≤ w145.heap.size := hbel157.size
          have hbel213 := bel_alloc hbel157 he200
          refine ⟨⟨k201, k203⟩, ?_⟩
          simp only [nz1, nz2, nz3]
          refine one_ready 3 (by kernel_rfl) ?_
          refine opd rfl (wanted_none rfl) (w_enter 15 (.agg (ws b)) rfl (run_rwords rfl rfl) (rwords_any b _) (fun w214 hb215 => ?_))
          have k216 := k201.call hb215
          have k217 := k203.call hb215
          have k218 := k205.call hb215
          have k219 := k207.call hb215
          have k220 := k209.call hb215
          have k221 := k211.call hb215
          have hbel222 := bel_call hbel213 hb215
          refine ⟨⟨k216, k217⟩, ?_⟩
          simp only [nz1, nz2, nz3]
          refine one_ready 6 (by kernel_rfl) ?_
          refine opd rfl (wanted_none rfl) (w_store 51 _ _ (w39.heap.size) (ws a) rfl rfl rfl rfl k220 (by rw [ws_sz]; exact info_x) ((ws_sz _).trans (ws_sz _).symm) (ws_one _) (fun w223 he224 => ?_))
          have k225 := k216.other hne148 he224
          have k226 := k217.other hne150 he224
          have k227 := k218.other hne152 he224
          have k228 := k219.other hne154 he224
          have k229 := k221.other hne210.symm he224
          have k230 := k220.set he224
          have hbel231 := bel_set hbel222 hg156 he224
          refine ⟨⟨k225, k226⟩, ?_⟩
          refine one_ready 7 (by kernel_rfl) ?_
          refine opd rfl (wanted_none rfl) (w_store 51 _ _ (w145.heap.size) (ws b) rfl rfl rfl rfl k229 (by rw [ws_sz]; exact info_x) ((ws_sz _).trans (ws_sz _).symm) (ws_one _) (fun w232 he233 => ?_))
          have k234 := k225.other hne202 he233
          have k235 := k226.other hne204 he233
          have k236 := k227.other hne206 he233
          have k237 := k228.other hne208 he233
          have k238 := k230.other hne210 he233
          have k239 := k229.set he233
          have hbel240 := bel_set hbel231 hg212 he233
          refine ⟨⟨k234, k235⟩, ?_⟩
          refine wpAnyH_done (by kernel_rfl) ?_ _
          exact ⟨rfl, w39.heap.size, w145.heap.size, rfl, k238, k239, k237, k236, hbel240, hne154, hne208⟩
      · refine opd rfl (wanted_none rfl) (w_alloc (c := ws 0) (T := 51) 7 rfl (run_alX rfl) (fun w241 he242 => ?_))
        have hne244 : w.heap.size ≠ w39.heap.size := Nat.ne_of_lt k41.lt
        have k243 := k41.alloc he242
        have hne246 : w1.heap.size ≠ w39.heap.size := Nat.ne_of_lt k42.lt
        have k245 := k42.alloc he242
        have hne248 : w6.heap.size ≠ w39.heap.size := Nat.ne_of_lt k43.lt
        have k247 := k43.alloc he242
        have hne250 : w13.heap.size ≠ w39.heap.size := Nat.ne_of_lt k44.lt
        have k249 := k44.alloc he242
        have k251 := Blk.new he242
        have hg252 : w.heap.size ≤ w39.heap.size := hbel45.size
        have hbel253 := bel_alloc hbel45 he242
        refine ⟨⟨k243, k245⟩, ?_⟩
        simp only [nz1, nz2, nz3]
        refine two_ready 3 4 (by kernel_rfl) ?_ ?_
        · refine opd rfl (wanted_none rfl) (w_enter 15 (.agg (ws b)) rfl (run_rwords rfl rfl) (rwords_any b _) (fun w254 hb255 => ?_))
          have k256 := k243.call hb255
          have k257 := k245.call hb255
          have k258 := k247.call hb255
          have k259 := k249.call hb255
          have k260 := k251.call hb255
          have hbel261 := bel_call hbel253 hb255
          refine ⟨⟨k256, k257⟩, ?_⟩
          simp only [nz1, nz2, nz3]
          refine one_ready 4 (by kernel_rfl) ?_
          refine opd rfl (wanted_none rfl) (w_alloc (c := ws 0) (T := 51) 6 rfl (run_alX rfl) (fun w262 he263 => ?_))
          have hne265 : w.heap.size ≠ w254.heap.size := Nat.ne_of_lt k256.lt
          have k264 := k256.alloc he263
          have hne267 : w1.heap.size ≠ w254.heap.size := Nat.ne_of_lt k257.lt
          have k266 := k257.alloc he263
          have hne269 : w6.heap.size ≠ w254.heap.size := Nat.ne_of_lt k258.lt
          have k268 := k258.alloc he263
          have hne271 : w13.heap.size ≠ w254.heap.size := Nat.ne_of_lt k259.lt
          have k270 := k259.alloc he263
          have hne273 : w39.heap.size ≠ w254.heap.size := Nat.ne_of_lt k260.lt
          have k272 := k260.alloc he263
          have k274 := Blk.new he263
          have hg275 : w.heap.size ≤ w254.heap.size := hbel261.size
          have hbel276 := bel_alloc hbel261 he263
          refine ⟨⟨k264, k266⟩, ?_⟩
          simp only [nz1, nz2, nz3]
          refine one_ready 6 (by kernel_rfl) ?_
          refine opd rfl (wanted_none rfl) (w_store 51 _ _ (w254.heap.size) (ws a) rfl rfl rfl rfl k274 (by rw [ws_sz]; exact info_x) ((ws_sz _).trans (ws_sz _).symm) (ws_one _) (fun w277 he278 => ?_))
          have k279 := k264.other hne265 he278
          have k280 := k266.other hne267 he278
          have k281 := k268.other hne269 he278
          have k282 := k270.other hne271 he278
          have k283 := k272.other hne273 he278
          have k284 := k274.set he278
          have hbel285 := bel_set hbel276 hg275 he278
          refine ⟨⟨k279, k280⟩, ?_⟩
          refine one_ready 7 (by kernel_rfl) ?_
          refine opd rfl (wanted_none rfl) (w_store 51 _ _ (w39.heap.size) (ws b) rfl rfl rfl rfl k283 (by rw [ws_sz]; exact info_x) ((ws_sz _).trans (ws_sz _).symm) (ws_one _) (fun w286 he287 => ?_))
          have k288 := k279.other hne244 he287
          have k289 := k280.other hne246 he287
          have k290 := k281.other hne248 he287
          have k291 := k282.other hne250 he287
          have k292 := k284.other hne273.symm he287
          have k293 := k283.set he287
          have hbel294 := bel_set hbel285 hg252 he287
          refine ⟨⟨k288, k289⟩, ?_⟩
          refine wpAnyH_done (by kernel_rfl) ?_ _
          exact ⟨rfl, w254.heap.size, w39.heap.size, rfl, k292, k293, k291, k290, hbel294, hne271, hne250⟩
        · refine opd rfl (wanted_none rfl) (w_alloc (c := ws 0) (T := 51) 6 rfl (run_alX rfl) (fun w295 he296 => ?_))
          have hne298 : w.heap.size ≠ w241.heap.size := Nat.ne_of_lt k243.lt
          have k297 := k243.alloc he296
          have hne300 : w1.heap.size ≠ w241.heap.size := Nat.ne_of_lt k245.lt
          have k299 := k245.alloc he296
          have hne302 : w6.heap.size ≠ w241.heap.size := Nat.ne_of_lt k247.lt
          have k301 := k247.alloc he296
          have hne304 : w13.heap.size ≠ w241.heap.size := Nat.ne_of_lt k249.lt
          have k303 := k249.alloc he296
          have hne306 : w39.heap.size ≠ w241.heap.size := Nat.ne_of_lt k251.lt
          have k305 := k251.alloc he296
          have k307 := Blk.new he296
          have hg308 : w.heap.size ≤ w241.heap.size := hbel253.size
          have hbel309 := bel_alloc hbel253 he296
          refine ⟨⟨k297, k299⟩, ?_⟩
          simp only [nz1, nz2, nz3]
          refine one_ready 3 (by kernel_rfl) ?_
          refine opd rfl (wanted_none rfl) (w_enter 15 (.agg (ws b)) rfl (run_rwords rfl rfl) (rwords_any b _) (fun w310 hb311 => ?_))
          have k312 := k297.call hb311
          have k313 := k299.call hb311
          have k314 := k301.call hb311
          have k315 := k303.call hb311
          have k316 := k305.call hb311
          have k317 := k307.call hb311
          have hbel318 := bel_call hbel309 hb311
          refine ⟨⟨k312, k313⟩, ?_⟩
          simp only [nz1, nz2, nz3]
          refine one_ready 6 (by kernel_rfl) ?_
          refine opd rfl (wanted_none rfl) (w_store 51 _ _ (w241.heap.size) (ws a) rfl rfl rfl rfl k317 (by rw [ws_sz]; exact info_x) ((ws_sz _).trans (ws_sz _).symm) (ws_one _) (fun w319 he320 => ?_))
          have k321 := k312.other hne298 he320
          have k322 := k313.other hne300 he320
          have k323 := k314.other hne302 he320
          have k324 := k315.other hne304 he320
          have k325 := k316.other hne306 he320
          have k326 := k317.set he320
          have hbel327 := bel_set hbel318 hg308 he320
          refine ⟨⟨k321, k322⟩, ?_⟩
          refine one_ready 7 (by kernel_rfl) ?_
          refine opd rfl (wanted_none rfl) (w_store 51 _ _ (w39.heap.size) (ws b) rfl rfl rfl rfl k325 (by rw [ws_sz]; exact info_x) ((ws_sz _).trans (ws_sz _).symm) (ws_one _) (fun w328 he329 => ?_))
          have k330 := k321.other hne244 he329
          have k331 := k322.other hne246 he329
          have k332 := k323.other hne248 he329
          have k333 := k324.other hne250 he329
          have k334 := k326.other hne306.symm he329
          have k335 := k325.set he329
          have hbel336 := bel_set hbel327 hg252 he329
          refine ⟨⟨k330, k331⟩, ?_⟩
          refine wpAnyH_done (by kernel_rfl) ?_ _
          exact ⟨rfl, w241.heap.size, w39.heap.size, rfl, k334, k335, k333, k332, hbel336, hne304, hne250⟩
    · refine opd rfl (wanted_none rfl) (w_alloc (c := ws 0) (T := 51) 6 rfl (run_alX rfl) (fun w337 he338 => ?_))
      have hne340 : w.heap.size ≠ wd38.heap.size := Nat.ne_of_lt k33.lt
      have k339 := k33.alloc he338
      have hne342 : w1.heap.size ≠ wd38.heap.size := Nat.ne_of_lt k34.lt
      have k341 := k34.alloc he338
      have hne344 : w6.heap.size ≠ wd38.heap.size := Nat.ne_of_lt k35.lt
      have k343 := k35.alloc he338
      have hne346 : w13.heap.size ≠ wd38.heap.size := Nat.ne_of_lt k36.lt
      have k345 := k36.alloc he338
      have k347 := Blk.new he338
      have hg348 : w.heap.size ≤ wd38.heap.size := hbel37.size
      have hbel349 := bel_alloc hbel37 he338
      refine ⟨⟨k339, k341⟩, ?_⟩
      simp only [nz1, nz2, nz3]
      refine two_ready 1 5 (by kernel_rfl) ?_ ?_
      · refine opd rfl (wanted_none rfl) (w_enter 13 (.agg (ws a)) rfl (run_rwords rfl rfl) (rwords_any a _) (fun w350 hb351 => ?_))
        have k352 := k339.call hb351
        have k353 := k341.call hb351
        have k354 := k343.call hb351
        have k355 := k345.call hb351
        have k356 := k347.call hb351
        have hbel357 := bel_call hbel349 hb351
        refine ⟨⟨k352, k353⟩, ?_⟩
        simp only [nz1, nz2, nz3]
        refine two_ready 3 5 (by kernel_rfl) ?_ ?_
        · refine opd rfl (wanted_none rfl) (w_enter 15 (.agg (ws b)) rfl (run_rwords rfl rfl) (rwords_any b _) (fun w358 hb359 => ?_))
          have k360 := k352.call hb359
          have k361 := k353.call hb359
          have k362 := k354.call hb359
          have k363 := k355.call hb359
          have k364 := k356.call hb359
          have hbel365 := bel_call hbel357 hb359
          refine ⟨⟨k360, k361⟩, ?_⟩
          simp only [nz1, nz2, nz3]
          refine one_ready 5 (by kernel_rfl) ?_
          refine opd rfl (wanted_none rfl) (w_alloc (c := ws 0) (T := 51) 7 rfl (run_alX rfl) (fun w366 he367 => ?_))
          have hne369 : w.heap.size ≠ w358.heap.size := Nat.ne_of_lt k360.lt
          have k368 := k360.alloc he367
          have hne371 : w1.heap.size ≠ w358.heap.size := Nat.ne_of_lt k361.lt
          have k370 := k361.alloc he367
          have hne373 : w6.heap.size ≠ w358.heap.size := Nat.ne_of_lt k362.lt
          have k372 := k362.alloc he367
          have hne375 : w13.heap.size ≠ w358.heap.size := Nat.ne_of_lt k363.lt
          have k374 := k363.alloc he367
          have hne377 : wd38.heap.size ≠ w358.heap.size := Nat.ne_of_lt k364.lt
          have k376 := k364.alloc he367
          have k378 := Blk.new he367
          have hg379 : w.heap.size ≤ w358.heap.size := hbel365.size
          have hbel380 := bel_alloc hbel365 he367
          refine ⟨⟨k368, k370⟩, ?_⟩
          simp only [nz1, nz2, nz3]
          refine one_ready 6 (by kernel_rfl) ?_
          refine opd rfl (wanted_none rfl) (w_store 51 _ _ (wd38.heap.size) (ws a) rfl rfl rfl rfl k376 (by rw [ws_sz]; exact info_x) ((ws_sz _).trans (ws_sz _).symm) (ws_one _) (fun w381 he382 => ?_))
          have k383 := k368.other hne340 he382
          have k384 := k370.other hne342 he382
          have k385 := k372.other hne344 he382
          have k386 := k374.other hne346 he382
          have k387 := k378.other hne377.symm he382
          have k388 := k376.set he382
          have hbel389 := bel_set hbel380 hg348 he382
          refine ⟨⟨k383, k384⟩, ?_⟩
          refine one_ready 7 (by kernel_rfl) ?_
          refine opd rfl (wanted_none rfl) (w_store 51 _ _ (w358.heap.size) (ws b) rfl rfl rfl rfl k387 (by rw [ws_sz]; exact info_x) ((ws_sz _).trans (ws_sz _).symm) (ws_one _) (fun w390 he391 => ?_))
          have k392 := k383.other hne369 he391
          have k393 := k384.other hne371 he391
          have k394 := k385.other hne373 he391
          have k395 := k386.other hne375 he391
          have k396 := k388.other hne377 he391
          have k397 := k387.set he391
          have hbel398 := bel_set hbel389 hg379 he391
          refine ⟨⟨k392, k393⟩, ?_⟩
          refine wpAnyH_done (by kernel_rfl) ?_ _
          exact ⟨rfl, wd38.heap.size, w358.heap.size, rfl, k396, k397, k395, k394, hbel398, hne346, hne375⟩
        · refine opd rfl (wanted_none rfl) (w_alloc (c := ws 0) (T := 51) 7 rfl (run_alX rfl) (fun w399 he400 => ?_))
          have hne402 : w.heap.size ≠ w350.heap.size := Nat.ne_of_lt k352.lt
          have k401 := k352.alloc he400
          have hne404 : w1.heap.size ≠ w350.heap.size := Nat.ne_of_lt k353.lt
          have k403 := k353.alloc he400
          have hne406 : w6.heap.size ≠ w350.heap.size := Nat.ne_of_lt k354.lt
          have k405 := k354.alloc he400
          have hne408 : w13.heap.size ≠ w350.heap.size := Nat.ne_of_lt k355.lt
          have k407 := k355.alloc he400
          have hne410 : wd38.heap.size ≠ w350.heap.size := Nat.ne_of_lt k356.lt
          have k409 := k356.alloc he400
          have k411 := Blk.new he400
          have hg412 : w.heap.size ≤ w350.heap.size := hbel357.size
          have hbel413 := bel_alloc hbel357 he400
          refine ⟨⟨k401, k403⟩, ?_⟩
          simp only [nz1, nz2, nz3]
          refine one_ready 3 (by kernel_rfl) ?_
          refine opd rfl (wanted_none rfl) (w_enter 15 (.agg (ws b)) rfl (run_rwords rfl rfl) (rwords_any b _) (fun w414 hb415 => ?_))
          have k416 := k401.call hb415
          have k417 := k403.call hb415
          have k418 := k405.call hb415
          have k419 := k407.call hb415
          have k420 := k409.call hb415
          have k421 := k411.call hb415
          have hbel422 := bel_call hbel413 hb415
          refine ⟨⟨k416, k417⟩, ?_⟩
          simp only [nz1, nz2, nz3]
          refine one_ready 6 (by kernel_rfl) ?_
          refine opd rfl (wanted_none rfl) (w_store 51 _ _ (wd38.heap.size) (ws a) rfl rfl rfl rfl k420 (by rw [ws_sz]; exact info_x) ((ws_sz _).trans (ws_sz _).symm) (ws_one _) (fun w423 he424 => ?_))
          have k425 := k416.other hne340 he424
          have k426 := k417.other hne342 he424
          have k427 := k418.other hne344 he424
          have k428 := k419.other hne346 he424
          have k429 := k421.other hne410.symm he424
          have k430 := k420.set he424
          have hbel431 := bel_set hbel422 hg348 he424
          refine ⟨⟨k425, k426⟩, ?_⟩
          refine one_ready 7 (by kernel_rfl) ?_
          refine opd rfl (wanted_none rfl) (w_store 51 _ _ (w350.heap.size) (ws b) rfl rfl rfl rfl k429 (by rw [ws_sz]; exact info_x) ((ws_sz _).trans (ws_sz _).symm) (ws_one _) (fun w432 he433 => ?_))
          have k434 := k425.other hne402 he433
          have k435 := k426.other hne404 he433
          have k436 := k427.other hne406 he433
          have k437 := k428.other hne408 he433
          have k438 := k430.other hne410 he433
          have k439 := k429.set he433
          have hbel440 := bel_set hbel431 hg412 he433
          refine ⟨⟨k434, k435⟩, ?_⟩
          refine wpAnyH_done (by kernel_rfl) ?_ _
          exact ⟨rfl, wd38.heap.size, w350.heap.size, rfl, k438, k439, k437, k436, hbel440, hne346, hne408⟩
      · refine opd rfl (wanted_none rfl) (w_alloc (c := ws 0) (T := 51) 7 rfl (run_alX rfl) (fun w441 he442 => ?_))
        have hne444 : w.heap.size ≠ w337.heap.size := Nat.ne_of_lt k339.lt
        have k443 := k339.alloc he442
        have hne446 : w1.heap.size ≠ w337.heap.size := Nat.ne_of_lt k341.lt
        have k445 := k341.alloc he442
        have hne448 : w6.heap.size ≠ w337.heap.size := Nat.ne_of_lt k343.lt
        have k447 := k343.alloc he442
        have hne450 : w13.heap.size ≠ w337.heap.size := Nat.ne_of_lt k345.lt
        have k449 := k345.alloc he442
        have hne452 : wd38.heap.size ≠ w337.heap.size := Nat.ne_of_lt k347.lt
        have k451 := k347.alloc he442
        have k453 := Blk.new he442
        have hg454 : w.heap.size ≤ w337.heap.size := hbel349.size
        have hbel455 := bel_alloc hbel349 he442
        refine ⟨⟨k443, k445⟩, ?_⟩
        simp only [nz1, nz2, nz3]
        refine one_ready 1 (by kernel_rfl) ?_
        refine opd rfl (wanted_none rfl) (w_enter 13 (.agg (ws a)) rfl (run_rwords rfl rfl) (rwords_any a _) (fun w456 hb457 => ?_))
        have k458 := k443.call hb457
        have k459 := k445.call hb457
        have k460 := k447.call hb457
        have k461 := k449.call hb457
        have k462 := k451.call hb457
        have k463 := k453.call hb457
        have hbel464 := bel_call hbel455 hb457
        refine ⟨⟨k458, k459⟩, ?_⟩
        simp only [nz1, nz2, nz3]
        refine one_ready 3 (by kernel_rfl) ?_
        refine opd rfl (wanted_none rfl) (w_enter 15 (.agg (ws b)) rfl (run_rwords rfl rfl) (rwords_any b _) (fun w465 hb466 => ?_))
        have k467 := k458.call hb466
        have k468 := k459.call hb466
        have k469 := k460.call hb466
        have k470 := k461.call hb466
        have k471 := k462.call hb466
        have k472 := k463.call hb466
        have hbel473 := bel_call hbel464 hb466
        refine ⟨⟨k467, k468⟩, ?_⟩
        simp only [nz1, nz2, nz3]
        refine one_ready 6 (by kernel_rfl) ?_
        refine opd rfl (wanted_none rfl) (w_store 51 _ _ (wd38.heap.size) (ws a) rfl rfl rfl rfl k471 (by rw [ws_sz]; exact info_x) ((ws_sz _).trans (ws_sz _).symm) (ws_one _) (fun w474 he475 => ?_))
        have k476 := k467.other hne340 he475
        have k477 := k468.other hne342 he475
        have k478 := k469.other hne344 he475
        have k479 := k470.other hne346 he475
        have k480 := k472.other hne452.symm he475
        have k481 := k471.set he475
        have hbel482 := bel_set hbel473 hg348 he475
        refine ⟨⟨k476, k477⟩, ?_⟩
        refine one_ready 7 (by kernel_rfl) ?_
        refine opd rfl (wanted_none rfl) (w_store 51 _ _ (w337.heap.size) (ws b) rfl rfl rfl rfl k480 (by rw [ws_sz]; exact info_x) ((ws_sz _).trans (ws_sz _).symm) (ws_one _) (fun w483 he484 => ?_))
        have k485 := k476.other hne444 he484
        have k486 := k477.other hne446 he484
        have k487 := k478.other hne448 he484
        have k488 := k479.other hne450 he484
        have k489 := k481.other hne452 he484
        have k490 := k480.set he484
        have hbel491 := bel_set hbel482 hg454 he484
        refine ⟨⟨k485, k486⟩, ?_⟩
        refine wpAnyH_done (by kernel_rfl) ?_ _
        exact ⟨rfl, wd38.heap.size, w337.heap.size, rfl, k489, k490, k488, k487, hbel491, hne346, hne450⟩
    · refine opd rfl (wanted_none rfl) (w_alloc (c := ws 0) (T := 51) 7 rfl (run_alX rfl) (fun w492 he493 => ?_))
      have hne495 : w.heap.size ≠ wd38.heap.size := Nat.ne_of_lt k33.lt
      have k494 := k33.alloc he493
      have hne497 : w1.heap.size ≠ wd38.heap.size := Nat.ne_of_lt k34.lt
      have k496 := k34.alloc he493
      have hne499 : w6.heap.size ≠ wd38.heap.size := Nat.ne_of_lt k35.lt
      have k498 := k35.alloc he493
      have hne501 : w13.heap.size ≠ wd38.heap.size := Nat.ne_of_lt k36.lt
      have k500 := k36.alloc he493
      have k502 := Blk.new he493
      have hg503 : w.heap.size ≤ wd38.heap.size := hbel37.size
      have hbel504 := bel_alloc hbel37 he493
      refine ⟨⟨k494, k496⟩, ?_⟩
      simp only [nz1, nz2, nz3]
      refine two_ready 1 4 (by kernel_rfl) ?_ ?_
      · refine opd rfl (wanted_none rfl) (w_enter 13 (.agg (ws a)) rfl (run_rwords rfl rfl) (rwords_any a _) (fun w505 hb506 => ?_))
        have k507 := k494.call hb506
        have k508 := k496.call hb506
        have k509 := k498.call hb506
        have k510 := k500.call hb506
        have k511 := k502.call hb506
        have hbel512 := bel_call hbel504 hb506
        refine ⟨⟨k507, k508⟩, ?_⟩
        simp only [nz1, nz2, nz3]
        refine two_ready 3 4 (by kernel_rfl) ?_ ?_
        · refine opd rfl (wanted_none rfl) (w_enter 15 (.agg (ws b)) rfl (run_rwords rfl rfl) (rwords_any b _) (fun w513 hb514 => ?_))
          have k515 := k507.call hb514
          have k516 := k508.call hb514
          have k517 := k509.call hb514
          have k518 := k510.call hb514
          have k519 := k511.call hb514
          have hbel520 := bel_call hbel512 hb514
          refine ⟨⟨k515, k516⟩, ?_⟩
          simp only [nz1, nz2, nz3]
          refine one_ready 4 (by kernel_rfl) ?_
          refine opd rfl (wanted_none rfl) (w_alloc (c := ws 0) (T := 51) 6 rfl (run_alX rfl) (fun w521 he522 => ?_))
          have hne524 : w.heap.size ≠ w513.heap.size := Nat.ne_of_lt k515.lt
          have k523 := k515.alloc he522
          have hne526 : w1.heap.size ≠ w513.heap.size := Nat.ne_of_lt k516.lt
          have k525 := k516.alloc he522
          have hne528 : w6.heap.size ≠ w513.heap.size := Nat.ne_of_lt k517.lt
          have k527 := k517.alloc he522
          have hne530 : w13.heap.size ≠ w513.heap.size := Nat.ne_of_lt k518.lt
          have k529 := k518.alloc he522
          have hne532 : wd38.heap.size ≠ w513.heap.size := Nat.ne_of_lt k519.lt
          have k531 := k519.alloc he522
          have k533 := Blk.new he522
          have hg534 : w.heap.size ≤ w513.heap.size := hbel520.size
          have hbel535 := bel_alloc hbel520 he522
          refine ⟨⟨k523, k525⟩, ?_⟩
          simp only [nz1, nz2, nz3]
          refine one_ready 6 (by kernel_rfl) ?_
          refine opd rfl (wanted_none rfl) (w_store 51 _ _ (w513.heap.size) (ws a) rfl rfl rfl rfl k533 (by rw [ws_sz]; exact info_x) ((ws_sz _).trans (ws_sz _).symm) (ws_one _) (fun w536 he537 => ?_))
          have k538 := k523.other hne524 he537
          have k539 := k525.other hne526 he537
          have k540 := k527.other hne528 he537
          have k541 := k529.other hne530 he537
          have k542 := k531.other hne532 he537
          have k543 := k533.set he537
          have hbel544 := bel_set hbel535 hg534 he537
          refine ⟨⟨k538, k539⟩, ?_⟩
          refine one_ready 7 (by kernel_rfl) ?_
          refine opd rfl (wanted_none rfl) (w_store 51 _ _ (wd38.heap.size) (ws b) rfl rfl rfl rfl k542 (by rw [ws_sz]; exact info_x) ((ws_sz _).trans (ws_sz _).symm) (ws_one _) (fun w545 he546 => ?_))
          have k547 := k538.other hne495 he546
          have k548 := k539.other hne497 he546
          have k549 := k540.other hne499 he546
          have k550 := k541.other hne501 he546
          have k551 := k543.other hne532.symm he546
          have k552 := k542.set he546
          have hbel553 := bel_set hbel544 hg503 he546
          refine ⟨⟨k547, k548⟩, ?_⟩
          refine wpAnyH_done (by kernel_rfl) ?_ _
          exact ⟨rfl, w513.heap.size, wd38.heap.size, rfl, k551, k552, k550, k549, hbel553, hne530, hne501⟩
        · refine opd rfl (wanted_none rfl) (w_alloc (c := ws 0) (T := 51) 6 rfl (run_alX rfl) (fun w554 he555 => ?_))
          have hne557 : w.heap.size ≠ w505.heap.size := Nat.ne_of_lt k507.lt
          have k556 := k507.alloc he555
          have hne559 : w1.heap.size ≠ w505.heap.size := Nat.ne_of_lt k508.lt
          have k558 := k508.alloc he555
          have hne561 : w6.heap.size ≠ w505.heap.size := Nat.ne_of_lt k509.lt
          have k560 := k509.alloc he555
          have hne563 : w13.heap.size ≠ w505.heap.size := Nat.ne_of_lt k510.lt
          have k562 := k510.alloc he555
          have hne565 : wd38.heap.size ≠ w505.heap.size := Nat.ne_of_lt k511.lt
          have k564 := k511.alloc he555
          have k566 := Blk.new he555
          have hg567 : w.heap.size ≤ w505.heap.size := hbel512.size
          have hbel568 := bel_alloc hbel512 he555
          refine ⟨⟨k556, k558⟩, ?_⟩
          simp only [nz1, nz2, nz3]
          refine one_ready 3 (by kernel_rfl) ?_
          refine opd rfl (wanted_none rfl) (w_enter 15 (.agg (ws b)) rfl (run_rwords rfl rfl) (rwords_any b _) (fun w569 hb570 => ?_))
          have k571 := k556.call hb570
          have k572 := k558.call hb570
          have k573 := k560.call hb570
          have k574 := k562.call hb570
          have k575 := k564.call hb570
          have k576 := k566.call hb570
          have hbel577 := bel_call hbel568 hb570
          refine ⟨⟨k571, k572⟩, ?_⟩
          simp only [nz1, nz2, nz3]
          refine one_ready 6 (by kernel_rfl) ?_
          refine opd rfl (wanted_none rfl) (w_store 51 _ _ (w505.heap.size) (ws a) rfl rfl rfl rfl k576 (by rw [ws_sz]; exact info_x) ((ws_sz _).trans (ws_sz _).symm) (ws_one _) (fun w578 he579 => ?_))
          have k580 := k571.other hne557 he579
          have k581 := k572.other hne559 he579
          have k582 := k573.other hne561 he579
          have k583 := k574.other hne563 he579
          have k584 := k575.other hne565 he579
          have k585 := k576.set he579
          have hbel586 := bel_set hbel577 hg567 he579
          refine ⟨⟨k580, k581⟩, ?_⟩
          refine one_ready 7 (by kernel_rfl) ?_
          refine opd rfl (wanted_none rfl) (w_store 51 _ _ (wd38.heap.size) (ws b) rfl rfl rfl rfl k584 (by rw [ws_sz]; exact info_x) ((ws_sz _).trans (ws_sz _).symm) (ws_one _) (fun w587 he588 => ?_))
          have k589 := k580.other hne495 he588
          have k590 := k581.other hne497 he588
          have k591 := k582.other hne499 he588
          have k592 := k583.other hne501 he588
          have k593 := k585.other hne565.symm he588
          have k594 := k584.set he588
          have hbel595 := bel_set hbel586 hg503 he588
          refine ⟨⟨k589, k590⟩, ?_⟩
          refine wpAnyH_done (by kernel_rfl) ?_ _
          exact ⟨rfl, w505.heap.size, wd38.heap.size, rfl, k593, k594, k592, k591, hbel595, hne563, hne501⟩
      · refine opd rfl (wanted_none rfl) (w_alloc (c := ws 0) (T := 51) 6 rfl (run_alX rfl) (fun w596 he597 => ?_))
        have hne599 : w.heap.size ≠ w492.heap.size := Nat.ne_of_lt k494.lt
        have k598 := k494.alloc he597
        have hne601 : w1.heap.size ≠ w492.heap.size := Nat.ne_of_lt k496.lt
        have k600 := k496.alloc he597
        have hne603 : w6.heap.size ≠ w492.heap.size := Nat.ne_of_lt k498.lt
        have k602 := k498.alloc he597
        have hne605 : w13.heap.size ≠ w492.heap.size := Nat.ne_of_lt k500.lt
        have k604 := k500.alloc he597
        have hne607 : wd38.heap.size ≠ w492.heap.size := Nat.ne_of_lt k502.lt
        have k606 := k502.alloc he597
        have k608 := Blk.new he597
        have hg609 : w.heap.size ≤ w492.heap.size := hbel504.size
        have hbel610 := bel_alloc hbel504 he597
        refine ⟨⟨k598, k600⟩, ?_⟩
        simp only [nz1, nz2, nz3]
        refine one_ready 1 (by kernel_rfl) ?_
        refine opd rfl (wanted_none rfl) (w_enter 13 (.agg (ws a)) rfl (run_rwords rfl rfl) (rwords_any a _) (fun w611 hb612 => ?_))
        have k613 := k598.call hb612
        have k614 := k600.call hb612
        have k615 := k602.call hb612
        have k616 := k604.call hb612
        have k617 := k606.call hb612
        have k618 := k608.call hb612
        have hbel619 := bel_call hbel610 hb612
        refine ⟨⟨k613, k614⟩, ?_⟩
        simp only [nz1, nz2, nz3]
        refine one_ready 3 (by kernel_rfl) ?_
        refine opd rfl (wanted_none rfl) (w_enter 15 (.agg (ws b)) rfl (run_rwords rfl rfl) (rwords_any b _) (fun w620 hb621 => ?_))
        have k622 := k613.call hb621
        have k623 := k614.call hb621
        have k624 := k615.call hb621
        have k625 := k616.call hb621
        have k626 := k617.call hb621
        have k627 := k618.call hb621
        have hbel628 := bel_call hbel619 hb621
        refine ⟨⟨k622, k623⟩, ?_⟩
        simp only [nz1, nz2, nz3]
        refine one_ready 6 (by kernel_rfl) ?_
        refine opd rfl (wanted_none rfl) (w_store 51 _ _ (w492.heap.size) (ws a) rfl rfl rfl rfl k627 (by rw [ws_sz]; exact info_x) ((ws_sz _).trans (ws_sz _).symm) (ws_one _) (fun w629 he630 => ?_))
        have k631 := k622.other hne599 he630
        have k632 := k623.other hne601 he630
        have k633 := k624.other hne603 he630
        have k634 := k625.other hne605 he630
        have k635 := k626.other hne607 he630
        have k636 := k627.set he630
        have hbel637 := bel_set hbel628 hg609 he630
        refine ⟨⟨k631, k632⟩, ?_⟩
        refine one_ready 7 (by kernel_rfl) ?_
        refine opd rfl (wanted_none rfl) (w_store 51 _ _ (wd38.heap.size) (ws b) rfl rfl rfl rfl k635 (by rw [ws_sz]; exact info_x) ((ws_sz _).trans (ws_sz _).symm) (ws_one _) (fun w638 he639 => ?_))
        have k640 := k631.other hne495 he639
        have k641 := k632.other hne497 he639
        have k642 := k633.other hne499 he639
        have k643 := k634.other hne501 he639
        have k644 := k636.other hne607.symm he639
        have k645 := k635.set he639
        have hbel646 := bel_set hbel637 hg503 he639
        refine ⟨⟨k640, k641⟩, ?_⟩
        refine wpAnyH_done (by kernel_rfl) ?_ _
        exact ⟨rfl, w492.heap.size, wd38.heap.size, rfl, k644, k645, k643, k642, hbel646, hne605, hne501⟩
  rintro e a' w' ⟨rfl, gx, gy, rfl, bx, by', b8, b2, hbel, nx, ny⟩
  generalize w6.heap.size = g2 at *
  generalize w13.heap.size = g3 at *
  have rx : Row w' gx 4 51 .u64 (wd a) := bx
  have ry : Row w' gy 4 51 .u64 (wd b) := by'
  have r8 : Row w' g3 8 62 .u64 (part (a + b) 0) := b8
  have r2 : Row w' g2 32 23 .u8 (bt 0) := b2
  have n32 : g3 ≠ g2 := (hne29).symm
  have NX := Lib.hid nx
  have NY := Lib.hid ny
  have N32 := Lib.hid n32
  clear bx by' b8 b2 nx ny n32
  go_step
  go_step
  go_wp2_with fail
  go_loopw [8, 9] (fun cv iv wr => ∃ i : Nat, i ≤ 4 ∧ iv = .int .i64 (i : Int) ∧ cv = .int .u64 (car a b i : Int) ∧ Row wr gx 4 51 .u64 (wd a) ∧ Row wr gy 4 51 .u64 (wd b) ∧ Row wr g3 8 62 .u64 (part (a + b) i) ∧ Row wr g2 32 23 .u8 (bt 0) ∧ Below w.heap.size w wr) (fun _ iv _ => 4 - (intOf iv).toNat)
  case atStart => exact ⟨0, by omega, rfl, by rw [car_zero]; rfl, rx, ry, r8, r2, hbel⟩
  case round =>
    clear rx ry r8 r2 hbel
    obtain ⟨i, hi, rfl, rfl, rx, ry, r8, r2, hbel⟩ := hrel
    by_cases hlt : i < 4
    · obtain ⟨c1, _⟩ := rx.at i hlt
      obtain ⟨c2, _⟩ := ry.at i hlt
      obtain ⟨c3, f3⟩ := r8.at i (by omega)
      have hadd := fun w => add64_wd a b i w
      have i0 : (0 : Int) ≤ (i : Int) := by omega
      have i4 : (i : Int) < 4 := by omega
      have i8 : (i : Int) < 8 := by omega
      have RX := Lib.hid rx
      have RY := Lib.hid ry
      have R8 := Lib.hid r8
      have R2 := Lib.hid r2
      have HBB := Lib.hid hbel
      clear rx ry r8 r2 hbel
      go_wp2_with fail
      go_region_held3 (fun w' => w'.cell? ⟨gx, i, none⟩ = some (.int .u64 (wd a i : Int)) ∧ w'.cell? ⟨gy, i, none⟩ = some (.int .u64 (wd b i : Int))) (first | exact ⟨c1, c2⟩ | go_keep) (fail)
      clear c1 c2
      go_wp2
      go_roundw
      case rel => exact ⟨i + 1, by omega, by go_num, rfl, RX.out.drew.other _ _ NX.out, RY.out.drew.other _ _ NY.out, by rw [← part_up]; exact R8.out.drew.set i _, R2.out.drew.other _ _ N32.out, HBB.out.drew.setCell hg31 _⟩
      case measure => simp [intOf]; omega
    · obtain rfl : i = 4 := by omega
      rw [show ((4 : Nat) : Int) = (4 : Int) from rfl]
      obtain ⟨c3, f3⟩ := r8.at 4 (by omega)
      have q8 := r8.set 4 (car a b 4)
      have q2 := r2.other ⟨g3, 4, none⟩ (.int .u64 (car a b 4 : Int)) N32.out
      have qb := Below.setCell hbel (p := ⟨g3, 4, none⟩) hg31 (.int .u64 (car a b 4 : Int))
      have Q8 : (World.setCell wr ⟨g3, 4, none⟩ (.int .u64 (car a b 4 : Int))).heap[g3]? = some (.cells (rowOf .u64 (wd (a + b)) 8) 62 (0, 0)) := by rw [← add8 a b HA.out HB.out]; exact q8
      have Q2 : (World.setCell wr ⟨g3, 4, none⟩ (.int .u64 (car a b 4 : Int))).heap[g2]? = some (.cells (bs 0) 23 (0, 0)) := q2
      have QB := qb
      have HX : Hid (a + b < MM * MM) := by
        show a + b < MM * MM
        have := HA.out
        have := HB.out
        unfold MM at *; omega
      clear q8 q2 qb r8 r2 rx ry hbel hi hlt
      go_wp2_with (with_reducible refine wpList_load_row rfl 62 _ rfl (g3) rfl 62 _ (0, 0) _ Q8 Tryd.underlying62 rfl (by rw [w8_sz]; exact info_8) ?_)
      refine (rfolded_any (a + b) (HX.out) _).mono ?_
      rintro e w5 ⟨rfl, hb5⟩
      have h5 : w5.heap[g2]? = some (.cells (bs 0) 23 (0, 0)) := Blk.call (c := bs 0) (T := 23) Q2 hb5
      have bl5 := bel_call QB hb5
      obtain ⟨v, hv⟩ : ∃ v, v = (a + b) % PP := ⟨_, rfl⟩
      rw [← hv]
      have HV := Lib.hid hv
      clear hv
      go_wp2_with (with_reducible refine wpList_store_row rfl 23 _ _ rfl (g2) (bs v) rfl rfl 23 _ h5 (by rw [bs_sz]; exact info_b) (by rw [bs_sz, bs_sz]) (bs_one _) ?_)
      refine bodyPost_ret (v := .agg (bs v)) (results_cell_row rfl _ _ (g2) 23 _ (0, 0) _ rfl (setRow_heap _ _ _ _ _ _ h5) Tryd.underlying23 rfl (by rw [bs_sz]; exact info_b)) rfl ⟨by rw [HV.out], below_setRow bl5 hg20⟩
set_option maxHeartbeats 2000000 in
set_option maxRecDepth 100000 in
theorem rmul_any (a b : Nat) (ha : a < MM) (hb : b < MM) (w : World) : Calls Tryd.prog 36 #[.agg (bs a), .agg (bs b)] w fun e w' => e = .returned (.agg (bs ((a * b) % PP))) ∧ Below w.heap.size w w' := by
  have HA := Lib.hid ha
  have HB := Lib.hid hb
  clear ha hb
  go_enter Tryd.func36, Tryd.ntmps36
  have hbel0 := Below.refl w.heap.size w
  go_step
  go_step
  go_step
  refine lst (wanted_none rfl) (w_alloc (c := bs a) (T := 23) 2 rfl (run_box rfl rfl) (fun w1 he2 => ?_))
  have k3 := Blk.new he2
  have hg4 : w.heap.size ≤ w.heap.size := hbel0.size
  have hbel5 := bel_alloc hbel0 he2
  simp only [nz1, nz2, nz3]
  refine lst (wanted_none rfl) (w_alloc (c := bs b) (T := 23) 3 rfl (run_box rfl rfl) (fun w6 he7 => ?_))
  have hne9 : w.heap.size ≠ w1.heap.size := Nat.ne_of_lt k3.lt
  have k8 := k3.alloc he7
  have k10 := Blk.new he7
  have hg11 : w.heap.size ≤ w1.heap.size := hbel5.size
  have hbel12 := bel_alloc hbel5 he7
  simp only [nz1, nz2, nz3]
  refine lst (wanted_none rfl) (w_alloc (c := bs 0) (T := 23) 4 rfl (run_alN rfl) (fun w13 he14 => ?_))
  have hne16 : w.heap.size ≠ w6.heap.size := Nat.ne_of_lt k8.lt
  have k15 := k8.alloc he14
  have hne18 : w1.heap.size ≠ w6.heap.size := Nat.ne_of_lt k10.lt
  have k17 := k10.alloc he14
  have k19 := Blk.new he14
  have hg20 : w.heap.size ≤ w6.heap.size := hbel12.size
  have hbel21 := bel_alloc hbel12 he14
  simp only [nz1, nz2, nz3]
  go_step
  go_step
  go_step
  go_step
  go_step
  refine lst (wanted_none rfl) (w_alloc (c := rowOf .u64 (fun _ => 0) 8) (T := 62) 5 rfl (run_al8 rfl) (fun w22 he23 => ?_))
  have hne25 : w.heap.size ≠ w13.heap.size := Nat.ne_of_lt k15.lt
  have k24 := k15.alloc he23
  have hne27 : w1.heap.size ≠ w13.heap.size := Nat.ne_of_lt k17.lt
  have k26 := k17.alloc he23
  have hne29 : w6.heap.size ≠ w13.heap.size := Nat.ne_of_lt k19.lt
  have k28 := k19.alloc he23
  have k30 := Blk.new he23
  have hg31 : w.heap.size ≤ w13.heap.size := hbel21.size
  have hbel32 := bel_alloc hbel21 he23
  simp only [nz1, nz2, nz3]
  go_step
  go_step
  go_step
  go_step
  clear he14 he2 he23 he7
  refine wp_mono (Q := fun e a' w' => e = Exit.normal ∧ ∃ gx gy : Nat, a' = ⟨#[.agg (bs a), .agg (bs b), .pointer (some ⟨w.heap.size, 0, none⟩), .pointer (some ⟨w1.heap.size, 0, none⟩), .pointer (some ⟨w6.heap.size, 0, none⟩), .pointer (some ⟨w13.heap.size, 0, none⟩), .pointer (some ⟨gx, 0, none⟩), .pointer (some ⟨gy, 0, none⟩), undef, undef, undef, undef, undef, undef, undef, undef, undef, .agg (bs a), .agg (ws a), .agg (bs b), .agg (ws b), undef, undef, undef, undef, undef, undef, undef, undef, undef, undef, undef, undef, undef, undef, undef, undef, undef, undef, undef, undef, undef, undef, undef, undef, undef, undef, undef, undef, undef, undef, undef, undef, undef, undef, undef, undef, undef, undef, undef, undef, undef, undef, undef, undef, undef, undef, undef, undef, undef, undef], []⟩ ∧ Blk w' gx (ws a) 51 ∧ Blk w' gy (ws b) 51 ∧ Blk w' (w13.heap.size) (rowOf .u64 (fun _ => 0) 8) 62 ∧ Blk w' (w6.heap.size) (bs 0) 23 ∧ Below w.heap.size w w' ∧ w13.heap.size ≠ gx ∧ w13.heap.size ≠ gy) ?_ ?_
  · have k33 := k24.drew
    have k34 := k26.drew
    have k35 := k28.drew
    have k36 := k30.drew
    have hbel37 := hbel32.drew
    refine wp_region_held_drew (S := fun w' => Blk w' (w.heap.size) (bs a) 23 ∧ Blk w' (w1.heap.size) (bs b) 23) (by kernel_rfl) ⟨k33, k34⟩ (fun _ => ?_)
    generalize w22.drew = wd38 at *
    refine Sym.take_at 0 17 (.agg (bs a)) rfl rfl (by kernel_rfl) (by kernel_rfl) (by kernel_rfl) (fun _ _ _ h => nomatch h.1) (wanted_none rfl) (fun _ hw => run_row rfl rfl (hw.1) Tryd.underlying23 rfl (by rw [bs_sz]; exact info_b)) ⟨k33, k34⟩ ?_
    simp only [nz1, nz2, nz3]
    refine Sym.take_at 2 19 (.agg (bs b)) rfl rfl (by kernel_rfl) (by kernel_rfl) (by kernel_rfl) (fun _ _ _ h => nomatch h.1) (wanted_none rfl) (fun _ hw => run_row rfl rfl (hw.2) Tryd.underlying23 rfl (by rw [bs_sz]; exact info_b)) ⟨k33, k34⟩ ?_
    simp only [nz1, nz2, nz3]
    refine three_ready 1 4 5 (by kernel_rfl) ?_ ?_ ?_
    · refine opd rfl (wanted_none rfl) (w_enter 18 (.agg (ws a)) rfl (run_rwords rfl rfl) (rwords_any a _) (fun w39 hb40 => ?_))
      have k41 := k33.call hb40
      have k42 := k34.call hb40
      have k43 := k35.call hb40
      have k44 := k36.call hb40
      have hbel45 := bel_call hbel37 hb40
      refine ⟨⟨k41, k42⟩, ?_⟩
      simp only [nz1, nz2, nz3]
      refine three_ready 3 4 5 (by kernel_rfl) ?_ ?_ ?_
      · refine opd rfl (wanted_none rfl) (w_enter 20 (.agg (ws b)) rfl (run_rwords rfl rfl) (rwords_any b _) (fun w46 hb47 => ?_))
        have k48 := k41.call hb47
        have k49 := k42.call hb47
        have k50 := k43.call hb47
        have k51 := k44.call hb47
        have hbel52 := bel_call hbel45 hb47
        refine ⟨⟨k48, k49⟩, ?_⟩
        simp only [nz1, nz2, nz3]
        refine two_ready 4 5 (by kernel_rfl) ?_ ?_
        · refine opd rfl (wanted_none rfl) (w_alloc (c := ws 0) (T := 51) 6 rfl (run_alX rfl) (fun w53 he54 => ?_))
          have hne56 : w.heap.size ≠ w46.heap.size := Nat.ne_of_lt k48.lt
          have k55 := k48.alloc he54
          have hne58 : w1.heap.size ≠ w46.heap.size := Nat.ne_of_lt k49.lt
          have k57 := k49.alloc he54
          have hne60 : w6.heap.size ≠ w46.heap.size := Nat.ne_of_lt k50.lt
          have k59 := k50.alloc he54
          have hne62 : w13.heap.size ≠ w46.heap.size := Nat.ne_of_lt k51.lt
          have k61 := k51.alloc he54
          have k63 := Blk.new he54
          have hg64 : w.heap.size ≤ w46.heap.size := hbel52.size
          have hbel65 := bel_alloc hbel52 he54
          refine ⟨⟨k55, k57⟩, ?_⟩
          simp only [nz1, nz2, nz3]
          refine one_ready 5 (by kernel_rfl) ?_
          refine opd rfl (wanted_none rfl) (w_alloc (c := ws 0) (T := 51) 7 rfl (run_alX rfl) (fun w66 he67 => ?_))
          have hne69 : w.heap.size ≠ w53.heap.size := Nat.ne_of_lt k55.lt
          have k68 := k55.alloc he67
          have hne71 : w1.heap.size ≠ w53.heap.size := Nat.ne_of_lt k57.lt
          have k70 := k57.alloc he67
          have hne73 : w6.heap.size ≠ w53.heap.size := Nat.ne_of_lt k59.lt
          have k72 := k59.alloc he67
          have hne75 : w13.heap.size ≠ w53.heap.size := Nat.ne_of_lt k61.lt
          have k74 := k61.alloc he67
          have hne77 : w46.heap.size ≠ w53.heap.size := Nat.ne_of_lt k63.lt
          have k76 := k63.alloc he67
          have k78 := Blk.new he67
          have hg79 : w.heap.size ≤ w53.heap.size := hbel65.size
          have hbel80 := bel_alloc hbel65 he67
          refine ⟨⟨k68, k70⟩, ?_⟩
          simp only [nz1, nz2, nz3]
          refine one_ready 6 (by kernel_rfl) ?_
          refine opd rfl (wanted_none rfl) (w_store 51 _ _ (w46.heap.size) (ws a) rfl rfl rfl rfl k76 (by rw [ws_sz]; exact info_x) ((ws_sz _).trans (ws_sz _).symm) (ws_one _) (fun w81 he82 => ?_))
          have k83 := k68.other hne56 he82
          have k84 := k70.other hne58 he82
          have k85 := k72.other hne60 he82
          have k86 := k74.other hne62 he82
          have k87 := k78.other hne77.symm he82
          have k88 := k76.set he82
          have hbel89 := bel_set hbel80 hg64 he82
          refine ⟨⟨k83, k84⟩, ?_⟩
          refine one_ready 7 (by kernel_rfl) ?_
          refine opd rfl (wanted_none rfl) (w_store 51 _ _ (w53.heap.size) (ws b) rfl rfl rfl rfl k87 (by rw [ws_sz]; exact info_x) ((ws_sz _).trans (ws_sz _).symm) (ws_one _) (fun w90 he91 => ?_))
          have k92 := k83.other hne69 he91
          have k93 := k84.other hne71 he91
          have k94 := k85.other hne73 he91
          have k95 := k86.other hne75 he91
          have k96 := k88.other hne77 he91
          have k97 := k87.set he91
          have hbel98 := bel_set hbel89 hg79 he91
          refine ⟨⟨k92, k93⟩, ?_⟩
          refine wpAnyH_done (by kernel_rfl) ?_ _
          exact ⟨rfl, w46.heap.size, w53.heap.size, rfl, k96, k97, k95, k94, hbel98, hne62, hne75⟩
        · refine opd rfl (wanted_none rfl) (w_alloc (c := ws 0) (T := 51) 7 rfl (run_alX rfl) (fun w99 he100 => ?_))
          have hne102 : w.heap.size ≠ w46.heap.size := Nat.ne_of_lt k48.lt
          have k101 := k48.alloc he100
          have hne104 : w1.heap.size ≠ w46.heap.size := Nat.ne_of_lt k49.lt
          have k103 := k49.alloc he100
          have hne106 : w6.heap.size ≠ w46.heap.size := Nat.ne_of_lt k50.lt
          have k105 := k50.alloc he100
          have hne108 : w13.heap.size ≠ w46.heap.size := Nat.ne_of_lt k51.lt
          have k107 := k51.alloc he100
          have k109 := Blk.new he100
          have hg110 : w.heap.size ≤ w46.heap.size := hbel52.size
          have hbel111 := bel_alloc hbel52 he100
          refine ⟨⟨k101, k103⟩, ?_⟩
          simp only [nz1, nz2, nz3]
          refine one_ready 4 (by kernel_rfl) ?_
          refine opd rfl (wanted_none rfl) (w_alloc (c := ws 0) (T := 51) 6 rfl (run_alX rfl) (fun w112 he113 => ?_))
          have hne115 : w.heap.size ≠ w99.heap.size := Nat.ne_of_lt k101.lt
          have k114 := k101.alloc he113
          have hne117 : w1.heap.size ≠ w99.heap.size := Nat.ne_of_lt k103.lt
          have k116 := k103.alloc he113
          have hne119 : w6.heap.size ≠ w99.heap.size := Nat.ne_of_lt k105.lt
          have k118 := k105.alloc he113
          have hne121 : w13.heap.size ≠ w99.heap.size := Nat.ne_of_lt k107.lt
          have k120 := k107.alloc he113
          have hne123 : w46.heap.size ≠ w99.heap.size := Nat.ne_of_lt k109.lt
          have k122 := k109.alloc he113
          have k124 := Blk.new he113
          have hg125 : w.heap.size ≤ w99.heap.size := hbel111.size
          have hbel126 := bel_alloc hbel111 he113
          refine ⟨⟨k114, k116⟩, ?_⟩
          simp only [nz1, nz2, nz3]
          refine one_ready 6 (by kernel_rfl) ?_
          refine opd rfl (wanted_none rfl) (w_store 51 _ _ (w99.heap.size) (ws a) rfl rfl rfl rfl k124 (by rw [ws_sz]; exact info_x) ((ws_sz _).trans (ws_sz _).symm) (ws_one _) (fun w127 he128 => ?_))
          have k129 := k114.other hne115 he128
          have k130 := k116.other hne117 he128
          have k131 := k118.other hne119 he128
          have k132 := k120.other hne121 he128
          have k133 := k122.other hne123 he128
          have k134 := k124.set he128
          have hbel135 := bel_set hbel126 hg125 he128
          refine ⟨⟨k129, k130⟩, ?_⟩
          refine one_ready 7 (by kernel_rfl) ?_
          refine opd rfl (wanted_none rfl) (w_store 51 _ _ (w46.heap.size) (ws b) rfl rfl rfl rfl k133 (by rw [ws_sz]; exact info_x) ((ws_sz _).trans (ws_sz _).symm) (ws_one _) (fun w136 he137 => ?_))
          have k138 := k129.other hne102 he137
          have k139 := k130.other hne104 he137
          have k140 := k131.other hne106 he137
          have k141 := k132.other hne108 he137
          have k142 := k134.other hne123.symm he137
          have k143 := k133.set he137
          have hbel144 := bel_set hbel135 hg110 he137
          refine ⟨⟨k138, k139⟩, ?_⟩
          refine wpAnyH_done (by kernel_rfl) ?_ _
          exact ⟨rfl, w99.heap.size, w46.heap.size, rfl, k142, k143, k141, k140, hbel144, hne121, hne108⟩
      · refine opd rfl (wanted_none rfl) (w_alloc (c := ws 0) (T := 51) 6 rfl (run_alX rfl) (fun w145 he146 => ?_))
        have hne148 : w.heap.size ≠ w39.heap.size := Nat.ne_of_lt k41.lt
        have k147 := k41.alloc he146
        have hne150 : w1.heap.size ≠ w39.heap.size := Nat.ne_of_lt k42.lt
        have k149 := k42.alloc he146
        have hne152 : w6.heap.size ≠ w39.heap.size := Nat.ne_of_lt k43.lt
        have k151 := k43.alloc he146
        have hne154 : w13.heap.size ≠ w39.heap.size := Nat.ne_of_lt k44.lt
        have k153 := k44.alloc he146
        have k155 := Blk.new he146
        have hg156 : w.heap.size ≤ w39.heap.size := hbel45.size
        have hbel157 := bel_alloc hbel45 he146
        refine ⟨⟨k147, k149⟩, ?_⟩
        simp only [nz1, nz2, nz3]
        refine two_ready 3 5 (by kernel_rfl) ?_ ?_
        · refine opd rfl (wanted_none rfl) (w_enter 20 (.agg (ws b)) rfl (run_rwords rfl rfl) (rwords_any b _) (fun w158 hb159 => ?_))
          have k160 := k147.call hb159
          have k161 := k149.call hb159
          have k162 := k151.call hb159
          have k163 := k153.call hb159
          have k164 := k155.call hb159
          have hbel165 := bel_call hbel157 hb159
          refine ⟨⟨k160, k161⟩, ?_⟩
          simp only [nz1, nz2, nz3]
          refine one_ready 5 (by kernel_rfl) ?_
          refine opd rfl (wanted_none rfl) (w_alloc (c := ws 0) (T := 51) 7 rfl (run_alX rfl) (fun w166 he167 => ?_))
          have hne169 : w.heap.size ≠ w158.heap.size := Nat.ne_of_lt k160.lt
          have k168 := k160.alloc he167
          have hne171 : w1.heap.size ≠ w158.heap.size := Nat.ne_of_lt k161.lt
          have k170 := k161.alloc he167
          have hne173 : w6.heap.size ≠ w158.heap.size := Nat.ne_of_lt k162.lt
          have k172 := k162.alloc he167
          have hne175 : w13.heap.size ≠ w158.heap.size := Nat.ne_of_lt k163.lt
          have k174 := k163.alloc he167
          have hne177 : w39.heap.size ≠ w158.heap.size := Nat.ne_of_lt k164.lt
          have k176 := k164.alloc he167
          have k178 := Blk.new he167
          have hg179 : w.heap.size ≤ w158.heap.size := hbel165.size
          have hbel180 := bel_alloc hbel165 he167
          refine ⟨⟨k168, k170⟩, ?_⟩
          simp only [nz1, nz2, nz3]
          refine one_ready 6 (by kernel_rfl) ?_
          refine opd rfl (wanted_none rfl) (w_store 51 _ _ (w39.heap.size) (ws a) rfl rfl rfl rfl k176 (by rw [ws_sz]; exact info_x) ((ws_sz _).trans (ws_sz _).symm) (ws_one _) (fun w181 he182 => ?_))
          have k183 := k168.other hne148 he182
          have k184 := k170.other hne150 he182
          have k185 := k172.other hne152 he182
          have k186 := k174.other hne154 he182
          have k187 := k178.other hne177.symm he182
          have k188 := k176.set he182
          have hbel189 := bel_set hbel180 hg156 he182
          refine ⟨⟨k183, k184⟩, ?_⟩
          refine one_ready 7 (by kernel_rfl) ?_
          refine opd rfl (wanted_none rfl) (w_store 51 _ _ (w158.heap.size) (ws b) rfl rfl rfl rfl k187 (by rw [ws_sz]; exact info_x) ((ws_sz _).trans (ws_sz _).symm) (ws_one _) (fun w190 he191 => ?_))
          have k192 := k183.other hne169 he191
          have k193 := k184.other hne171 he191
          have k194 := k185.other hne173 he191
          have k195 := k186.other hne175 he191
          have k196 := k188.other hne177 he191
          have k197 := k187.set he191
          have hbel198 := bel_set hbel189 hg179 he191
          refine ⟨⟨k192, k193⟩, ?_⟩
          refine wpAnyH_done (by kernel_rfl) ?_ _
          exact ⟨rfl, w39.heap.size, w158.heap.size, rfl, k196, k197, k195, k194, hbel198, hne154, hne175⟩
        · refine opd rfl (wanted_none rfl) (w_alloc (c := ws 0) (T := 51) 7 rfl (run_alX rfl) (fun w199 he200 => ?_))
          have hne202 : w.heap.size ≠ w145.heap.size := Nat.ne_of_lt k147.lt
          have k201 := k147.alloc he200
          have hne204 : w1.heap.size ≠ w145.heap.size := Nat.ne_of_lt k149.lt
          have k203 := k149.alloc he200
          have hne206 : w6.heap.size ≠ w145.heap.size := Nat.ne_of_lt k151.lt
          have k205 := k151.alloc he200
          have hne208 : w13.heap.size ≠ w145.heap.size := Nat.ne_of_lt k153.lt
          have k207 := k153.alloc he200
          have hne210 : w39.heap.size ≠ w145.heap.size := Nat.ne_of_lt k155.lt
          have k209 := k155.alloc he200
          have k211 := Blk.new he200
          have hg212 : w.heap.size ≤ w145.heap.size := hbel157.size
          have hbel213 := bel_alloc hbel157 he200
          refine ⟨⟨k201, k203⟩, ?_⟩
          simp only [nz1, nz2, nz3]
          refine one_ready 3 (by kernel_rfl) ?_
          refine opd rfl (wanted_none rfl) (w_enter 20 (.agg (ws b)) rfl (run_rwords rfl rfl) (rwords_any b _) (fun w214 hb215 => ?_))
          have k216 := k201.call hb215
          have k217 := k203.call hb215
          have k218 := k205.call hb215
          have k219 := k207.call hb215
          have k220 := k209.call hb215
          have k221 := k211.call hb215
          have hbel222 := bel_call hbel213 hb215
          refine ⟨⟨k216, k217⟩, ?_⟩
          simp only [nz1, nz2, nz3]
          refine one_ready 6 (by kernel_rfl) ?_
          refine opd rfl (wanted_none rfl) (w_store 51 _ _ (w39.heap.size) (ws a) rfl rfl rfl rfl k220 (by rw [ws_sz]; exact info_x) ((ws_sz _).trans (ws_sz _).symm) (ws_one _) (fun w223 he224 => ?_))
          have k225 := k216.other hne148 he224
          have k226 := k217.other hne150 he224
          have k227 := k218.other hne152 he224
          have k228 := k219.other hne154 he224
          have k229 := k221.other hne210.symm he224
          have k230 := k220.set he224
          have hbel231 := bel_set hbel222 hg156 he224
          refine ⟨⟨k225, k226⟩, ?_⟩
          refine one_ready 7 (by kernel_rfl) ?_
          refine opd rfl (wanted_none rfl) (w_store 51 _ _ (w145.heap.size) (ws b) rfl rfl rfl rfl k229 (by rw [ws_sz]; exact info_x) ((ws_sz _).trans (ws_sz _).symm) (ws_one _) (fun w232 he233 => ?_))
          have k234 := k225.other hne202 he233
          have k235 := k226.other hne204 he233
          have k236 := k227.other hne206 he233
          have k237 := k228.other hne208 he233
          have k238 := k230.other hne210 he233
          have k239 := k229.set he233
          have hbel240 := bel_set hbel231 hg212 he233
          refine ⟨⟨k234, k235⟩, ?_⟩
          refine wpAnyH_done (by kernel_rfl) ?_ _
          exact ⟨rfl, w39.heap.size, w145.heap.size, rfl, k238, k239, k237, k236, hbel240, hne154, hne208⟩
      · refine opd rfl (wanted_none rfl) (w_alloc (c := ws 0) (T := 51) 7 rfl (run_alX rfl) (fun w241 he242 => ?_))
        have hne244 : w.heap.size ≠ w39.heap.size := Nat.ne_of_lt k41.lt
        have k243 := k41.alloc he242
        have hne246 : w1.heap.size ≠ w39.heap.size := Nat.ne_of_lt k42.lt
        have k245 := k42.alloc he242
        have hne248 : w6.heap.size ≠ w39.heap.size := Nat.ne_of_lt k43.lt
        have k247 := k43.alloc he242
        have hne250 : w13.heap.size ≠ w39.heap.size := Nat.ne_of_lt k44.lt
        have k249 := k44.alloc he242
        have k251 := Blk.new he242
        have hg252 : w.heap.size ≤ w39.heap.size := hbel45.size
        have hbel253 := bel_alloc hbel45 he242
        refine ⟨⟨k243, k245⟩, ?_⟩
        simp only [nz1, nz2, nz3]
        refine two_ready 3 4 (by kernel_rfl) ?_ ?_
        · refine opd rfl (wanted_none rfl) (w_enter 20 (.agg (ws b)) rfl (run_rwords rfl rfl) (rwords_any b _) (fun w254 hb255 => ?_))
          have k256 := k243.call hb255
          have k257 := k245.call hb255
          have k258 := k247.call hb255
          have k259 := k249.call hb255
          have k260 := k251.call hb255
          have hbel261 := bel_call hbel253 hb255
          refine ⟨⟨k256, k257⟩, ?_⟩
          simp only [nz1, nz2, nz3]
          refine one_ready 4 (by kernel_rfl) ?_
          refine opd rfl (wanted_none rfl) (w_alloc (c := ws 0) (T := 51) 6 rfl (run_alX rfl) (fun w262 he263 => ?_))
          have hne265 : w.heap.size ≠ w254.heap.size := Nat.ne_of_lt k256.lt
          have k264 := k256.alloc he263
          have hne267 : w1.heap.size ≠ w254.heap.size := Nat.ne_of_lt k257.lt
          have k266 := k257.alloc he263
          have hne269 : w6.heap.size ≠ w254.heap.size := Nat.ne_of_lt k258.lt
          have k268 := k258.alloc he263
          have hne271 : w13.heap.size ≠ w254.heap.size := Nat.ne_of_lt k259.lt
          have k270 := k259.alloc he263
          have hne273 : w39.heap.size ≠ w254.heap.size := Nat.ne_of_lt k260.lt
          have k272 := k260.alloc he263
          have k274 := Blk.new he263
          have hg275 : w.heap.size ≤ w254.heap.size := hbel261.size
          have hbel276 := bel_alloc hbel261 he263
          refine ⟨⟨k264, k266⟩, ?_⟩
          simp only [nz1, nz2, nz3]
          refine one_ready 6 (by kernel_rfl) ?_
          refine opd rfl (wanted_none rfl) (w_store 51 _ _ (w254.heap.size) (ws a) rfl rfl rfl rfl k274 (by rw [ws_sz]; exact info_x) ((ws_sz _).trans (ws_sz _).symm) (ws_one _) (fun w277 he278 => ?_))
          have k279 := k264.other hne265 he278
          have k280 := k266.other hne267 he278
          have k281 := k268.other hne269 he278
          have k282 := k270.other hne271 he278
          have k283 := k272.other hne273 he278
          have k284 := k274.set he278
          have hbel285 := bel_set hbel276 hg275 he278
          refine ⟨⟨k279, k280⟩, ?_⟩
          refine one_ready 7 (by kernel_rfl) ?_
          refine opd rfl (wanted_none rfl) (w_store 51 _ _ (w39.heap.size) (ws b) rfl rfl rfl rfl k283 (by rw [ws_sz]; exact info_x) ((ws_sz _).trans (ws_sz _).symm) (ws_one _) (fun w286 he287 => ?_))
          have k288 := k279.other hne244 he287
          have k289 := k280.other hne246 he287
          have k290 := k281.other hne248 he287
          have k291 := k282.other hne250 he287
          have k292 := k284.other hne273.symm he287
          have k293 := k283.set he287
          have hbel294 := bel_set hbel285 hg252 he287
          refine ⟨⟨k288, k289⟩, ?_⟩
          refine wpAnyH_done (by kernel_rfl) ?_ _
          exact ⟨rfl, w254.heap.size, w39.heap.size, rfl, k292, k293, k291, k290, hbel294, hne271, hne250⟩
        · refine opd rfl (wanted_none rfl) (w_alloc (c := ws 0) (T := 51) 6 rfl (run_alX rfl) (fun w295 he296 => ?_))
          have hne298 : w.heap.size ≠ w241.heap.size := Nat.ne_of_lt k243.lt
          have k297 := k243.alloc he296
          have hne300 : w1.heap.size ≠ w241.heap.size := Nat.ne_of_lt k245.lt
          have k299 := k245.alloc he296
          have hne302 : w6.heap.size ≠ w241.heap.size := Nat.ne_of_lt k247.lt
          have k301 := k247.alloc he296
          have hne304 : w13.heap.size ≠ w241.heap.size := Nat.ne_of_lt k249.lt
          have k303 := k249.alloc he296
          have hne306 : w39.heap.size ≠ w241.heap.size := Nat.ne_of_lt k251.lt
          have k305 := k251.alloc he296
          have k307 := Blk.new he296
          have hg308 : w.heap.size ≤ w241.heap.size := hbel253.size
          have hbel309 := bel_alloc hbel253 he296
          refine ⟨⟨k297, k299⟩, ?_⟩
          simp only [nz1, nz2, nz3]
          refine one_ready 3 (by kernel_rfl) ?_
          refine opd rfl (wanted_none rfl) (w_enter 20 (.agg (ws b)) rfl (run_rwords rfl rfl) (rwords_any b _) (fun w310 hb311 => ?_))
          have k312 := k297.call hb311
          have k313 := k299.call hb311
          have k314 := k301.call hb311
          have k315 := k303.call hb311
          have k316 := k305.call hb311
          have k317 := k307.call hb311
          have hbel318 := bel_call hbel309 hb311
          refine ⟨⟨k312, k313⟩, ?_⟩
          simp only [nz1, nz2, nz3]
          refine one_ready 6 (by kernel_rfl) ?_
          refine opd rfl (wanted_none rfl) (w_store 51 _ _ (w241.heap.size) (ws a) rfl rfl rfl rfl k317 (by rw [ws_sz]; exact info_x) ((ws_sz _).trans (ws_sz _).symm) (ws_one _) (fun w319 he320 => ?_))
          have k321 := k312.other hne298 he320
          have k322 := k313.other hne300 he320
          have k323 := k314.other hne302 he320
          have k324 := k315.other hne304 he320
          have k325 := k316.other hne306 he320
          have k326 := k317.set he320
          have hbel327 := bel_set hbel318 hg308 he320
          refine ⟨⟨k321, k322⟩, ?_⟩
          refine one_ready 7 (by kernel_rfl) ?_
          refine opd rfl (wanted_none rfl) (w_store 51 _ _ (w39.heap.size) (ws b) rfl rfl rfl rfl k325 (by rw [ws_sz]; exact info_x) ((ws_sz _).trans (ws_sz _).symm) (ws_one _) (fun w328 he329 => ?_))
          have k330 := k321.other hne244 he329
          have k331 := k322.other hne246 he329
          have k332 := k323.other hne248 he329
          have k333 := k324.other hne250 he329
          have k334 := k326.other hne306.symm he329
          have k335 := k325.set he329
          have hbel336 := bel_set hbel327 hg252 he329
          refine ⟨⟨k330, k331⟩, ?_⟩
          refine wpAnyH_done (by kernel_rfl) ?_ _
          exact ⟨rfl, w241.heap.size, w39.heap.size, rfl, k334, k335, k333, k332, hbel336, hne304, hne250⟩
    · refine opd rfl (wanted_none rfl) (w_alloc (c := ws 0) (T := 51) 6 rfl (run_alX rfl) (fun w337 he338 => ?_))
      have hne340 : w.heap.size ≠ wd38.heap.size := Nat.ne_of_lt k33.lt
      have k339 := k33.alloc he338
      have hne342 : w1.heap.size ≠ wd38.heap.size := Nat.ne_of_lt k34.lt
      have k341 := k34.alloc he338
      have hne344 : w6.heap.size ≠ wd38.heap.size := Nat.ne_of_lt k35.lt
      have k343 := k35.alloc he338
      have hne346 : w13.heap.size ≠ wd38.heap.size := Nat.ne_of_lt k36.lt
      have k345 := k36.alloc he338
      have k347 := Blk.new he338
      have hg348 : w.heap.size ≤ wd38.heap.size := hbel37.size
      have hbel349 := bel_alloc hbel37 he338
      refine ⟨⟨k339, k341⟩, ?_⟩
      simp only [nz1, nz2, nz3]
      refine two_ready 1 5 (by kernel_rfl) ?_ ?_
      · refine opd rfl (wanted_none rfl) (w_enter 18 (.agg (ws a)) rfl (run_rwords rfl rfl) (rwords_any a _) (fun w350 hb351 => ?_))
        have k352 := k339.call hb351
        have k353 := k341.call hb351
        have k354 := k343.call hb351
        have k355 := k345.call hb351
        have k356 := k347.call hb351
        have hbel357 := bel_call hbel349 hb351
        refine ⟨⟨k352, k353⟩, ?_⟩
        simp only [nz1, nz2, nz3]
        refine two_ready 3 5 (by kernel_rfl) ?_ ?_
        · refine opd rfl (wanted_none rfl) (w_enter 20 (.agg (ws b)) rfl (run_rwords rfl rfl) (rwords_any b _) (fun w358 hb359 => ?_))
          have k360 := k352.call hb359
          have k361 := k353.call hb359
          have k362 := k354.call hb359
          have k363 := k355.call hb359
          have k364 := k356.call hb359
          have hbel365 := bel_call hbel357 hb359
          refine ⟨⟨k360, k361⟩, ?_⟩
          simp only [nz1, nz2, nz3]
          refine one_ready 5 (by kernel_rfl) ?_
          refine opd rfl (wanted_none rfl) (w_alloc (c := ws 0) (T := 51) 7 rfl (run_alX rfl) (fun w366 he367 => ?_))
          have hne369 : w.heap.size ≠ w358.heap.size := Nat.ne_of_lt k360.lt
          have k368 := k360.alloc he367
          have hne371 : w1.heap.size ≠ w358.heap.size := Nat.ne_of_lt k361.lt
          have k370 := k361.alloc he367
          have hne373 : w6.heap.size ≠ w358.heap.size := Nat.ne_of_lt k362.lt
          have k372 := k362.alloc he367
          have hne375 : w13.heap.size ≠ w358.heap.size := Nat.ne_of_lt k363.lt
          have k374 := k363.alloc he367
          have hne377 : wd38.heap.size ≠ w358.heap.size := Nat.ne_of_lt k364.lt
          have k376 := k364.alloc he367
          have k378 := Blk.new he367
          have hg379 : w.heap.size ≤ w358.heap.size := hbel365.size
          have hbel380 := bel_alloc hbel365 he367
          refine ⟨⟨k368, k370⟩, ?_⟩
          simp only [nz1, nz2, nz3]
          refine one_ready 6 (by kernel_rfl) ?_
          refine opd rfl (wanted_none rfl) (w_store 51 _ _ (wd38.heap.size) (ws a) rfl rfl rfl rfl k376 (by rw [ws_sz]; exact info_x) ((ws_sz _).trans (ws_sz _).symm) (ws_one _) (fun w381 he382 => ?_))
          have k383 := k368.other hne340 he382
          have k384 := k370.other hne342 he382
          have k385 := k372.other hne344 he382
          have k386 := k374.other hne346 he382
          have k387 := k378.other hne377.symm he382
          have k388 := k376.set he382
          have hbel389 := bel_set hbel380 hg348 he382
          refine ⟨⟨k383, k384⟩, ?_⟩
          refine one_ready 7 (by kernel_rfl) ?_
          refine opd rfl (wanted_none rfl) (w_store 51 _ _ (w358.heap.size) (ws b) rfl rfl rfl rfl k387 (by rw [ws_sz]; exact info_x) ((ws_sz _).trans (ws_sz _).symm) (ws_one _) (fun w390 he391 => ?_))
          have k392 := k383.other hne369 he391
          have k393 := k384.other hne371 he391
          have k394 := k385.other hne373 he391
          have k395 := k386.other hne375 he391
          have k396 := k388.other hne377 he391
          have k397 := k387.set he391
          have hbel398 := bel_set hbel389 hg379 he391
          refine ⟨⟨k392, k393⟩, ?_⟩
          refine wpAnyH_done (by kernel_rfl) ?_ _
          exact ⟨rfl, wd38.heap.size, w358.heap.size, rfl, k396, k397, k395, k394, hbel398, hne346, hne375⟩
        · refine opd rfl (wanted_none rfl) (w_alloc (c := ws 0) (T := 51) 7 rfl (run_alX rfl) (fun w399 he400 => ?_))
          have hne402 : w.heap.size ≠ w350.heap.size := Nat.ne_of_lt k352.lt
          have k401 := k352.alloc he400
          have hne404 : w1.heap.size ≠ w350.heap.size := Nat.ne_of_lt k353.lt
          have k403 := k353.alloc he400
          have hne406 : w6.heap.size ≠ w350.heap.size := Nat.ne_of_lt k354.lt
          have k405 := k354.alloc he400
          have hne408 : w13.heap.size ≠ w350.heap.size := Nat.ne_of_lt k355.lt
          have k407 := k355.alloc he400
          have hne410 : wd38.heap.size ≠ w350.heap.size := Nat.ne_of_lt k356.lt
          have k409 := k356.alloc he400
          have k411 := Blk.new he400
          have hg412 : w.heap.size ≤ w350.heap.size := hbel357.size
          have hbel413 := bel_alloc hbel357 he400
          refine ⟨⟨k401, k403⟩, ?_⟩
          simp only [nz1, nz2, nz3]
          refine one_ready 3 (by kernel_rfl) ?_
          refine opd rfl (wanted_none rfl) (w_enter 20 (.agg (ws b)) rfl (run_rwords rfl rfl) (rwords_any b _) (fun w414 hb415 => ?_))
          have k416 := k401.call hb415
          have k417 := k403.call hb415
          have k418 := k405.call hb415
          have k419 := k407.call hb415
          have k420 := k409.call hb415
          have k421 := k411.call hb415
          have hbel422 := bel_call hbel413 hb415
          refine ⟨⟨k416, k417⟩, ?_⟩
          simp only [nz1, nz2, nz3]
          refine one_ready 6 (by kernel_rfl) ?_
          refine opd rfl (wanted_none rfl) (w_store 51 _ _ (wd38.heap.size) (ws a) rfl rfl rfl rfl k420 (by rw [ws_sz]; exact info_x) ((ws_sz _).trans (ws_sz _).symm) (ws_one _) (fun w423 he424 => ?_))
          have k425 := k416.other hne340 he424
          have k426 := k417.other hne342 he424
          have k427 := k418.other hne344 he424
          have k428 := k419.other hne346 he424
          have k429 := k421.other hne410.symm he424
          have k430 := k420.set he424
          have hbel431 := bel_set hbel422 hg348 he424
          refine ⟨⟨k425, k426⟩, ?_⟩
          refine one_ready 7 (by kernel_rfl) ?_
          refine opd rfl (wanted_none rfl) (w_store 51 _ _ (w350.heap.size) (ws b) rfl rfl rfl rfl k429 (by rw [ws_sz]; exact info_x) ((ws_sz _).trans (ws_sz _).symm) (ws_one _) (fun w432 he433 => ?_))
          have k434 := k425.other hne402 he433
          have k435 := k426.other hne404 he433
          have k436 := k427.other hne406 he433
          have k437 := k428.other hne408 he433
          have k438 := k430.other hne410 he433
          have k439 := k429.set he433
          have hbel440 := bel_set hbel431 hg412 he433
          refine ⟨⟨k434, k435⟩, ?_⟩
          refine wpAnyH_done (by kernel_rfl) ?_ _
          exact ⟨rfl, wd38.heap.size, w350.heap.size, rfl, k438, k439, k437, k436, hbel440, hne346, hne408⟩
      · refine opd rfl (wanted_none rfl) (w_alloc (c := ws 0) (T := 51) 7 rfl (run_alX rfl) (fun w441 he442 => ?_))
        have hne444 : w.heap.size ≠ w337.heap.size := Nat.ne_of_lt k339.lt
        have k443 := k339.alloc he442
        have hne446 : w1.heap.size ≠ w337.heap.size := Nat.ne_of_lt k341.lt
        have k445 := k341.alloc he442
        have hne448 : w6.heap.size ≠ w337.heap.size := Nat.ne_of_lt k343.lt
        have k447 := k343.alloc he442
        have hne450 : w13.heap.size ≠ w337.heap.size := Nat.ne_of_lt k345.lt
        have k449 := k345.alloc he442
        have hne452 : wd38.heap.size ≠ w337.heap.size := Nat.ne_of_lt k347.lt
        have k451 := k347.alloc he442
        have k453 := Blk.new he442
        have hg454 : w.heap.size ≤ w337.heap.size := hbel349.size
        have hbel455 := bel_alloc hbel349 he442
        refine ⟨⟨k443, k445⟩, ?_⟩
        simp only [nz1, nz2, nz3]
        refine one_ready 1 (by kernel_rfl) ?_
        refine opd rfl (wanted_none rfl) (w_enter 18 (.agg (ws a)) rfl (run_rwords rfl rfl) (rwords_any a _) (fun w456 hb457 => ?_))
        have k458 := k443.call hb457
        have k459 := k445.call hb457
        have k460 := k447.call hb457
        have k461 := k449.call hb457
        have k462 := k451.call hb457
        have k463 := k453.call hb457
        have hbel464 := bel_call hbel455 hb457
        refine ⟨⟨k458, k459⟩, ?_⟩
        simp only [nz1, nz2, nz3]
        refine one_ready 3 (by kernel_rfl) ?_
        refine opd rfl (wanted_none rfl) (w_enter 20 (.agg (ws b)) rfl (run_rwords rfl rfl) (rwords_any b _) (fun w465 hb466 => ?_))
        have k467 := k458.call hb466
        have k468 := k459.call hb466
        have k469 := k460.call hb466
        have k470 := k461.call hb466
        have k471 := k462.call hb466
        have k472 := k463.call hb466
        have hbel473 := bel_call hbel464 hb466
        refine ⟨⟨k467, k468⟩, ?_⟩
        simp only [nz1, nz2, nz3]
        refine one_ready 6 (by kernel_rfl) ?_
        refine opd rfl (wanted_none rfl) (w_store 51 _ _ (wd38.heap.size) (ws a) rfl rfl rfl rfl k471 (by rw [ws_sz]; exact info_x) ((ws_sz _).trans (ws_sz _).symm) (ws_one _) (fun w474 he475 => ?_))
        have k476 := k467.other hne340 he475
        have k477 := k468.other hne342 he475
        have k478 := k469.other hne344 he475
        have k479 := k470.other hne346 he475
        have k480 := k472.other hne452.symm he475
        have k481 := k471.set he475
        have hbel482 := bel_set hbel473 hg348 he475
        refine ⟨⟨k476, k477⟩, ?_⟩
        refine one_ready 7 (by kernel_rfl) ?_
        refine opd rfl (wanted_none rfl) (w_store 51 _ _ (w337.heap.size) (ws b) rfl rfl rfl rfl k480 (by rw [ws_sz]; exact info_x) ((ws_sz _).trans (ws_sz _).symm) (ws_one _) (fun w483 he484 => ?_))
        have k485 := k476.other hne444 he484
        have k486 := k477.other hne446 he484
        have k487 := k478.other hne448 he484
        have k488 := k479.other hne450 he484
        have k489 := k481.other hne452 he484
        have k490 := k480.set he484
        have hbel491 := bel_set hbel482 hg454 he484
        refine ⟨⟨k485, k486⟩, ?_⟩
        refine wpAnyH_done (by kernel_rfl) ?_ _
        exact ⟨rfl, wd38.heap.size, w337.heap.size, rfl, k489, k490, k488, k487, hbel491, hne346, hne450⟩
    · refine opd rfl (wanted_none rfl) (w_alloc (c := ws 0) (T := 51) 7 rfl (run_alX rfl) (fun w492 he493 => ?_))
      have hne495 : w.heap.size ≠ wd38.heap.size := Nat.ne_of_lt k33.lt
      have k494 := k33.alloc he493
      have hne497 : w1.heap.size ≠ wd38.heap.size := Nat.ne_of_lt k34.lt
      have k496 := k34.alloc he493
      have hne499 : w6.heap.size ≠ wd38.heap.size := Nat.ne_of_lt k35.lt
      have k498 := k35.alloc he493
      have hne501 : w13.heap.size ≠ wd38.heap.size := Nat.ne_of_lt k36.lt
      have k500 := k36.alloc he493
      have k502 := Blk.new he493
      have hg503 : w.heap.size ≤ wd38.heap.size := hbel37.size
      have hbel504 := bel_alloc hbel37 he493
      refine ⟨⟨k494, k496⟩, ?_⟩
      simp only [nz1, nz2, nz3]
      refine two_ready 1 4 (by kernel_rfl) ?_ ?_
      · refine opd rfl (wanted_none rfl) (w_enter 18 (.agg (ws a)) rfl (run_rwords rfl rfl) (rwords_any a _) (fun w505 hb506 => ?_))
        have k507 := k494.call hb506
        have k508 := k496.call hb506
        have k509 := k498.call hb506
        have k510 := k500.call hb506
        have k511 := k502.call hb506
        have hbel512 := bel_call hbel504 hb506
        refine ⟨⟨k507, k508⟩, ?_⟩
        simp only [nz1, nz2, nz3]
        refine two_ready 3 4 (by kernel_rfl) ?_ ?_
        · refine opd rfl (wanted_none rfl) (w_enter 20 (.agg (ws b)) rfl (run_rwords rfl rfl) (rwords_any b _) (fun w513 hb514 => ?_))
          have k515 := k507.call hb514
          have k516 := k508.call hb514
          have k517 := k509.call hb514
          have k518 := k510.call hb514
          have k519 := k511.call hb514
          have hbel520 := bel_call hbel512 hb514
          refine ⟨⟨k515, k516⟩, ?_⟩
          simp only [nz1, nz2, nz3]
          refine one_ready 4 (by kernel_rfl) ?_
          refine opd rfl (wanted_none rfl) (w_alloc (c := ws 0) (T := 51) 6 rfl (run_alX rfl) (fun w521 he522 => ?_))
          have hne524 : w.heap.size ≠ w513.heap.size := Nat.ne_of_lt k515.lt
          have k523 := k515.alloc he522
          have hne526 : w1.heap.size ≠ w513.heap.size := Nat.ne_of_lt k516.lt
          have k525 := k516.alloc he522
          have hne528 : w6.heap.size ≠ w513.heap.size := Nat.ne_of_lt k517.lt
          have k527 := k517.alloc he522
          have hne530 : w13.heap.size ≠ w513.heap.size := Nat.ne_of_lt k518.lt
          have k529 := k518.alloc he522
          have hne532 : wd38.heap.size ≠ w513.heap.size := Nat.ne_of_lt k519.lt
          have k531 := k519.alloc he522
          have k533 := Blk.new he522
          have hg534 : w.heap.size ≤ w513.heap.size := hbel520.size
          have hbel535 := bel_alloc hbel520 he522
          refine ⟨⟨k523, k525⟩, ?_⟩
          simp only [nz1, nz2, nz3]
          refine one_ready 6 (by kernel_rfl) ?_
          refine opd rfl (wanted_none rfl) (w_store 51 _ _ (w513.heap.size) (ws a) rfl rfl rfl rfl k533 (by rw [ws_sz]; exact info_x) ((ws_sz _).trans (ws_sz _).symm) (ws_one _) (fun w536 he537 => ?_))
          have k538 := k523.other hne524 he537
          have k539 := k525.other hne526 he537
          have k540 := k527.other hne528 he537
          have k541 := k529.other hne530 he537
          have k542 := k531.other hne532 he537
          have k543 := k533.set he537
          have hbel544 := bel_set hbel535 hg534 he537
          refine ⟨⟨k538, k539⟩, ?_⟩
          refine one_ready 7 (by kernel_rfl) ?_
          refine opd rfl (wanted_none rfl) (w_store 51 _ _ (wd38.heap.size) (ws b) rfl rfl rfl rfl k542 (by rw [ws_sz]; exact info_x) ((ws_sz _).trans (ws_sz _).symm) (ws_one _) (fun w545 he546 => ?_))
          have k547 := k538.other hne495 he546
          have k548 := k539.other hne497 he546
          have k549 := k540.other hne499 he546
          have k550 := k541.other hne501 he546
          have k551 := k543.other hne532.symm he546
          have k552 := k542.set he546
          have hbel553 := bel_set hbel544 hg503 he546
          refine ⟨⟨k547, k548⟩, ?_⟩
          refine wpAnyH_done (by kernel_rfl) ?_ _
          exact ⟨rfl, w513.heap.size, wd38.heap.size, rfl, k551, k552, k550, k549, hbel553, hne530, hne501⟩
        · refine opd rfl (wanted_none rfl) (w_alloc (c := ws 0) (T := 51) 6 rfl (run_alX rfl) (fun w554 he555 => ?_))
          have hne557 : w.heap.size ≠ w505.heap.size := Nat.ne_of_lt k507.lt
          have k556 := k507.alloc he555
          have hne559 : w1.heap.size ≠ w505.heap.size := Nat.ne_of_lt k508.lt
          have k558 := k508.alloc he555
          have hne561 : w6.heap.size ≠ w505.heap.size := Nat.ne_of_lt k509.lt
          have k560 := k509.alloc he555
          have hne563 : w13.heap.size ≠ w505.heap.size := Nat.ne_of_lt k510.lt
          have k562 := k510.alloc he555
          have hne565 : wd38.heap.size ≠ w505.heap.size := Nat.ne_of_lt k511.lt
          have k564 := k511.alloc he555
          have k566 := Blk.new he555
          have hg567 : w.heap.size ≤ w505.heap.size := hbel512.size
          have hbel568 := bel_alloc hbel512 he555
          refine ⟨⟨k556, k558⟩, ?_⟩
          simp only [nz1, nz2, nz3]
          refine one_ready 3 (by kernel_rfl) ?_
          refine opd rfl (wanted_none rfl) (w_enter 20 (.agg (ws b)) rfl (run_rwords rfl rfl) (rwords_any b _) (fun w569 hb570 => ?_))
          have k571 := k556.call hb570
          have k572 := k558.call hb570
          have k573 := k560.call hb570
          have k574 := k562.call hb570
          have k575 := k564.call hb570
          have k576 := k566.call hb570
          have hbel577 := bel_call hbel568 hb570
          refine ⟨⟨k571, k572⟩, ?_⟩
          simp only [nz1, nz2, nz3]
          refine one_ready 6 (by kernel_rfl) ?_
          refine opd rfl (wanted_none rfl) (w_store 51 _ _ (w505.heap.size) (ws a) rfl rfl rfl rfl k576 (by rw [ws_sz]; exact info_x) ((ws_sz _).trans (ws_sz _).symm) (ws_one _) (fun w578 he579 => ?_))
          have k580 := k571.other hne557 he579
          have k581 := k572.other hne559 he579
          have k582 := k573.other hne561 he579
          have k583 := k574.other hne563 he579
          have k584 := k575.other hne565 he579
          have k585 := k576.set he579
          have hbel586 := bel_set hbel577 hg567 he579
          refine ⟨⟨k580, k581⟩, ?_⟩
          refine one_ready 7 (by kernel_rfl) ?_
          refine opd rfl (wanted_none rfl) (w_store 51 _ _ (wd38.heap.size) (ws b) rfl rfl rfl rfl k584 (by rw [ws_sz]; exact info_x) ((ws_sz _).trans (ws_sz _).symm) (ws_one _) (fun w587 he588 => ?_))
          have k589 := k580.other hne495 he588
          have k590 := k581.other hne497 he588
          have k591 := k582.other hne499 he588
          have k592 := k583.other hne501 he588
          have k593 := k585.other hne565.symm he588
          have k594 := k584.set he588
          have hbel595 := bel_set hbel586 hg503 he588
          refine ⟨⟨k589, k590⟩, ?_⟩
          refine wpAnyH_done (by kernel_rfl) ?_ _
          exact ⟨rfl, w505.heap.size, wd38.heap.size, rfl, k593, k594, k592, k591, hbel595, hne563, hne501⟩
      · refine opd rfl (wanted_none rfl) (w_alloc (c := ws 0) (T := 51) 6 rfl (run_alX rfl) (fun w596 he597 => ?_))
        have hne599 : w.heap.size ≠ w492.heap.size := Nat.ne_of_lt k494.lt
        have k598 := k494.alloc he597
        have hne601 : w1.heap.size ≠ w492.heap.size := Nat.ne_of_lt k496.lt
        have k600 := k496.alloc he597
        have hne603 : w6.heap.size ≠ w492.heap.size := Nat.ne_of_lt k498.lt
        have k602 := k498.alloc he597
        have hne605 : w13.heap.size ≠ w492.heap.size := Nat.ne_of_lt k500.lt
        have k604 := k500.alloc he597
        have hne607 : wd38.heap.size ≠ w492.heap.size := Nat.ne_of_lt k502.lt
        have k606 := k502.alloc he597
        have k608 := Blk.new he597
        have hg609 : w.heap.size ≤ w492.heap.size := hbel504.size
        have hbel610 := bel_alloc hbel504 he597
        refine ⟨⟨k598, k600⟩, ?_⟩
        simp only [nz1, nz2, nz3]
        refine one_ready 1 (by kernel_rfl) ?_
        refine opd rfl (wanted_none rfl) (w_enter 18 (.agg (ws a)) rfl (run_rwords rfl rfl) (rwords_any a _) (fun w611 hb612 => ?_))
        have k613 := k598.call hb612
        have k614 := k600.call hb612
        have k615 := k602.call hb612
        have k616 := k604.call hb612
        have k617 := k606.call hb612
        have k618 := k608.call hb612
        have hbel619 := bel_call hbel610 hb612
        refine ⟨⟨k613, k614⟩, ?_⟩
        simp only [nz1, nz2, nz3]
        refine one_ready 3 (by kernel_rfl) ?_
        refine opd rfl (wanted_none rfl) (w_enter 20 (.agg (ws b)) rfl (run_rwords rfl rfl) (rwords_any b _) (fun w620 hb621 => ?_))
        have k622 := k613.call hb621
        have k623 := k614.call hb621
        have k624 := k615.call hb621
        have k625 := k616.call hb621
        have k626 := k617.call hb621
        have k627 := k618.call hb621
        have hbel628 := bel_call hbel619 hb621
        refine ⟨⟨k622, k623⟩, ?_⟩
        simp only [nz1, nz2, nz3]
        refine one_ready 6 (by kernel_rfl) ?_
        refine opd rfl (wanted_none rfl) (w_store 51 _ _ (w492.heap.size) (ws a) rfl rfl rfl rfl k627 (by rw [ws_sz]; exact info_x) ((ws_sz _).trans (ws_sz _).symm) (ws_one _) (fun w629 he630 => ?_))
        have k631 := k622.other hne599 he630
        have k632 := k623.other hne601 he630
        have k633 := k624.other hne603 he630
        have k634 := k625.other hne605 he630
        have k635 := k626.other hne607 he630
        have k636 := k627.set he630
        have hbel637 := bel_set hbel628 hg609 he630
        refine ⟨⟨k631, k632⟩, ?_⟩
        refine one_ready 7 (by kernel_rfl) ?_
        refine opd rfl (wanted_none rfl) (w_store 51 _ _ (wd38.heap.size) (ws b) rfl rfl rfl rfl k635 (by rw [ws_sz]; exact info_x) ((ws_sz _).trans (ws_sz _).symm) (ws_one _) (fun w638 he639 => ?_))
        have k640 := k631.other hne495 he639
        have k641 := k632.other hne497 he639
        have k642 := k633.other hne499 he639
        have k643 := k634.other hne501 he639
        have k644 := k636.other hne607.symm he639
        have k645 := k635.set he639
        have hbel646 := bel_set hbel637 hg503 he639
        refine ⟨⟨k640, k641⟩, ?_⟩
        refine wpAnyH_done (by kernel_rfl) ?_ _
        exact ⟨rfl, w492.heap.size, wd38.heap.size, rfl, k644, k645, k643, k642, hbel646, hne605, hne501⟩
  rintro e a' w' ⟨rfl, gx, gy, rfl, bx, by', b8, b2, hbel, nx, ny⟩
  generalize w6.heap.size = g2 at *
  generalize w13.heap.size = g3 at *
  have rx : Row w' gx 4 51 .u64 (wd a) := bx
  have ry : Row w' gy 4 51 .u64 (wd b) := by'
  have r8 : Row w' g3 8 62 .u64 (fun _ => 0) := b8
  have r2 : Row w' g2 32 23 .u8 (bt 0) := b2
  have n32 : g3 ≠ g2 := (hne29).symm
  have NX := Lib.hid nx
  have NY := Lib.hid ny
  have N32 := Lib.hid n32
  clear bx by' b8 b2 nx ny n32
  go_step
  go_step
  go_wp2_with fail
  go_loopw [8] (fun iv wr => ∃ (i : Nat) (f : Nat → Nat), i ≤ 4 ∧ iv = .int .i64 (i : Int) ∧ Row wr gx 4 51 .u64 (wd a) ∧ Row wr gy 4 51 .u64 (wd b) ∧ Row wr g3 8 62 .u64 f ∧ Row wr g2 32 23 .u8 (bt 0) ∧ Below w.heap.size w wr ∧ Pro a b i 0 0 f) (fun iv _ => 4 - (intOf iv).toNat)
  case atStart => exact ⟨0, _, by omega, rfl, rx, ry, r8, r2, hbel, pro_start a b⟩
  case round =>
    clear rx ry r8 r2 hbel
    obtain ⟨i, f, hi, rfl, rx, ry, r8, r2, hbel, hp⟩ := hrel
    by_cases hlt : i < 4
    · have hk0 : (0 : Int) ≤ (i : Int) := by omega
      have hk4 : (i : Int) < 4 := by omega
      have RX := Lib.hid rx
      have RY := Lib.hid ry
      have R8 := Lib.hid r8
      have R2 := Lib.hid r2
      have HBB := Lib.hid hbel
      have HP := Lib.hid hp
      clear rx ry r8 r2 hbel hp
      go_wp2_with fail
      go_loopw [9, 10] (fun ov jv wr => ∃ (j o : Nat) (f : Nat → Nat), j ≤ 4 ∧ jv = .int .i64 (j : Int) ∧ ov = .int .u64 (o : Int) ∧ Row wr gx 4 51 .u64 (wd a) ∧ Row wr gy 4 51 .u64 (wd b) ∧ Row wr g3 8 62 .u64 f ∧ Row wr g2 32 23 .u8 (bt 0) ∧ Below w.heap.size w wr ∧ Pro a b i j o f) (fun _ jv _ => 4 - (intOf jv).toNat)
      case atStart => exact ⟨0, 0, f, by omega, rfl, rfl, RX.out, RY.out, R8.out, R2.out, HBB.out, HP.out⟩
      case round =>
        clear RX RY R8 R2 HBB HP f
        obtain ⟨j, o, f, hj, rfl, rfl, rx, ry, r8, r2, hbel, hp⟩ := hrel
        by_cases hlj : j < 4
        · obtain ⟨c0, _⟩ := rx.at i hlt
          obtain ⟨c1, _⟩ := ry.at j hlj
          obtain ⟨c4, f4⟩ := r8.at (i + j) (by omega)
          have hm := mul_high (wd a i) (wd b j) (wd_lt _ _) (wd_lt _ _)
          have hff := hp.lt (i + j)
          have hoo := hp.olt
          obtain ⟨s1, s2, s3⟩ := pro_sums (wd a i * wd b j) (f (i + j)) o hm.2 hff
          obtain ⟨p, hpp⟩ : ∃ p, p = wd a i * wd b j := ⟨_, rfl⟩
          rw [← hpp] at s1 s2 s3 hm
          obtain ⟨hh, hhh⟩ : ∃ x, x = p / 18446744073709551616 := ⟨_, rfl⟩
          obtain ⟨ll, hll⟩ : ∃ x, x = p % 18446744073709551616 := ⟨_, rfl⟩
          obtain ⟨q, hq⟩ : ∃ q, q = f (i + j) := ⟨_, rfl⟩
          rw [← hq] at c4 hff s1 s2 s3
          rw [← hhh] at s2 s3
          rw [← hll] at s1 s2 s3
          have hlll : ll < 18446744073709551616 := by omega
          obtain ⟨t1, ht1⟩ : ∃ x, x = (ll + q) % 18446744073709551616 := ⟨_, rfl⟩
          obtain ⟨d1, hd1⟩ : ∃ x, x = (ll + q) / 18446744073709551616 := ⟨_, rfl⟩
          obtain ⟨d2, hd2⟩ : ∃ x, x = (t1 + o) / 18446744073709551616 := ⟨_, rfl⟩
          obtain ⟨t2, ht2⟩ : ∃ x, x = (p + q + o) % 18446744073709551616 := ⟨_, rfl⟩
          obtain ⟨ov, hov⟩ : ∃ x, x = (p + q + o) / 18446744073709551616 := ⟨_, rfl⟩
          have ht1l : t1 < 18446744073709551616 := by omega
          rw [← ht1, ← ht2] at s1
          rw [← ht1, ← hd1, ← hd2, ← hov] at s2
          rw [← hd1] at s3
          have a1 := add64_0 q ll hff hlll
          rw [Nat.add_comm q ll, ← ht1, ← hd1] at a1
          have a2 := add64_0 t1 o ht1l hoo
          rw [s1, ← hd2] at a2
          have hs := hp.step hlt hlj
          rw [← hpp, ← hq, ← ht2, ← hov] at hs
          have HS := Lib.hid hs
          have HM := Lib.hid (mul64 (wd a i) (wd b j) (wd_lt _ _) (wd_lt _ _))
          rw [← hpp, ← hhh, ← hll] at HM
          have e1 : (hh : Int) + (d1 : Int) < 18446744073709551616 := by omega
          have e2 : (hh : Int) + (d1 : Int) + (d2 : Int) = (ov : Int) := by omega
          have e3 : (ov : Int) < 18446744073709551616 := by have := hs.olt; omega
          have j0 : (0 : Int) ≤ (j : Int) := by omega
          have j4 : (j : Int) < 4 := by omega
          have x1 : ((i : Int) + (j : Int)).toNat = i + j := by omega
          have x2 : (0 : Int) ≤ (i : Int) + (j : Int) := by omega
          have x3 : (i : Int) + (j : Int) < 8 := by omega
          have RX := Lib.hid rx
          have RY := Lib.hid ry
          have R8 := Lib.hid r8
          have R2 := Lib.hid r2
          have HBB := Lib.hid hbel
          clear hs rx ry r8 r2 hbel hp s1 s2 s3 hpp hhh hll hq ht1 hd1 hd2 ht2 hov hm
          go_wp2_with fail
          go_region_held3 (fun w' => w'.cell? ⟨gx, i, none⟩ = some (.int .u64 (wd a i : Int)) ∧ w'.cell? ⟨gy, j, none⟩ = some (.int .u64 (wd b j : Int))) (first | exact ⟨c0, c1⟩ | go_keep)
            (first | (go_at_call 58; ((with_reducible refine (HM.out _).mono ?_); rintro e w' ⟨rfl, rfl⟩)))
          clear c0 c1
          go_wp2
          go_roundw
          case rel =>
            exact ⟨j + 1, ov, _, by omega, by go_num, by first | rfl | (congr 1; omega) | (rw [e2]), RX.out.drew.other _ _ NX.out, RY.out.drew.other _ _ NY.out, R8.out.drew.set (i + j) _, R2.out.drew.other _ _ N32.out, HBB.out.drew.setCell hg31 _, HS.out⟩
          case measure => simp [intOf]; omega
        · obtain rfl : j = 4 := by omega
          rw [show ((4 : Nat) : Int) = (4 : Int) from rfl]
          obtain ⟨c4, f4⟩ := r8.at (i + 4) (by omega)
          have x1 : ((i : Int) + 4).toNat = i + 4 := by omega
          have x2 : (0 : Int) ≤ (i : Int) + 4 := by omega
          have x3 : (i : Int) + 4 < 8 := by omega
          have RX := Lib.hid rx
          have RY := Lib.hid ry
          have R8 := Lib.hid r8
          have R2 := Lib.hid r2
          have HBB := Lib.hid hbel
          have HP := Lib.hid (hp.next HB.out hlt)
          clear rx ry r8 r2 hbel hp
          go_wp2
          go_roundw
          case rel => exact ⟨i + 1, _, by omega, by go_num, RX.out.other _ _ NX.out, RY.out.other _ _ NY.out, R8.out.set (i + 4) _, R2.out.other _ _ N32.out, HBB.out.setCell hg31 _, HP.out⟩
          case measure => simp [intOf]; omega
    · obtain rfl : i = 4 := by omega
      rw [show ((4 : Nat) : Int) = (4 : Int) from rfl]
      have r5 : rowOf .u64 f 8 = rowOf .u64 (wd (a * b)) 8 := rowOf_congr fun j hj => hp.low HA.out j hj
      unfold Row at r8
      rw [r5] at r8
      have HX : Hid (a * b < MM * MM) := Nat.mul_lt_mul'' HA.out HB.out
      clear rx ry hi hlt hp r5
      go_wp2_with (with_reducible refine wpList_load_row rfl 62 _ rfl (g3) rfl 62 _ (0, 0) _ r8 Tryd.underlying62 rfl (by rw [w8_sz]; exact info_8) ?_)
      refine (rfolded_any (a * b) (HX.out) _).mono ?_
      rintro e w5 ⟨rfl, hb5⟩
      have h5 : w5.heap[g2]? = some (.cells (bs 0) 23 (0, 0)) := Blk.call (c := bs 0) (T := 23) r2 hb5
      have bl5 := bel_call hbel hb5
      obtain ⟨v, hv⟩ : ∃ v, v = (a * b) % PP := ⟨_, rfl⟩
      rw [← hv]
      have HV := Lib.hid hv
      clear hv
      go_wp2_with (with_reducible refine wpList_store_row rfl 23 _ _ rfl (g2) (bs v) rfl rfl 23 _ h5 (by rw [bs_sz]; exact info_b) (by rw [bs_sz, bs_sz]) (bs_one _) ?_)
      refine bodyPost_ret (v := .agg (bs v)) (results_cell_row rfl _ _ (g2) 23 _ (0, 0) _ rfl (setRow_heap _ _ _ _ _ _ h5) Tryd.underlying23 rfl (by rw [bs_sz]; exact info_b)) rfl ⟨by rw [HV.out], below_setRow bl5 hg20⟩
end Go.Proofs.YtfpphinnngblgaaDoor.Fld

namespace Go.Proofs.YtfpphinnngblgaaDoor.Fld
open Go.RowKit
open Go.Proofs.YtfpphinnngblgaaDoor.Arr Go.Proofs.YtfpphinnngblgaaDoor.Sym

theorem run_rAdd {o : Oper} {a : Act} {w : World} {x0 x1 : Operand} {v0 v1 : Value} (ho : o.op = .call { callee := .value (.func 38), args := #[x0, x1], argTypes := #[23, 23] }) (h0 : a.eval x0 = v0) (h1 : a.eval x1 = v1) :
    (execOp a.eval o).run Tryd.prog w = .ok (.enter 38 #[v0, v1]) w := by
  unfold execOp
  simp only [ho]
  have hf : a.eval (.func 38) = .func (.func 38) #[] #[] := rfl
  generalize a.eval = f at *
  go_simp
theorem run_rSub {o : Oper} {a : Act} {w : World} {x0 x1 : Operand} {v0 v1 : Value} (ho : o.op = .call { callee := .value (.func 37), args := #[x0, x1], argTypes := #[23, 23] }) (h0 : a.eval x0 = v0) (h1 : a.eval x1 = v1) :
    (execOp a.eval o).run Tryd.prog w = .ok (.enter 37 #[v0, v1]) w := by
  unfold execOp
  simp only [ho]
  have hf : a.eval (.func 37) = .func (.func 37) #[] #[] := rfl
  generalize a.eval = f at *
  go_simp
theorem run_rMul {o : Oper} {a : Act} {w : World} {x0 x1 : Operand} {v0 v1 : Value} (ho : o.op = .call { callee := .value (.func 36), args := #[x0, x1], argTypes := #[23, 23] }) (h0 : a.eval x0 = v0) (h1 : a.eval x1 = v1) :
    (execOp a.eval o).run Tryd.prog w = .ok (.enter 36 #[v0, v1]) w := by
  unfold execOp
  simp only [ho]
  have hf : a.eval (.func 36) = .func (.func 36) #[] #[] := rfl
  generalize a.eval = f at *
  go_simp
theorem run_rPower {o : Oper} {a : Act} {w : World} {x0 x1 : Operand} {v0 v1 : Value} (ho : o.op = .call { callee := .value (.func 61), args := #[x0, x1], argTypes := #[23, 23] }) (h0 : a.eval x0 = v0) (h1 : a.eval x1 = v1) :
    (execOp a.eval o).run Tryd.prog w = .ok (.enter 61 #[v0, v1]) w := by
  unfold execOp
  simp only [ho]
  have hf : a.eval (.func 61) = .func (.func 61) #[] #[] := rfl
  generalize a.eval = f at *
  go_simp
theorem run_rInv {o : Oper} {a : Act} {w : World} {x0 : Operand} {v0 : Value} (ho : o.op = .call { callee := .value (.func 41), args := #[x0], argTypes := #[23] }) (h0 : a.eval x0 = v0) :
    (execOp a.eval o).run Tryd.prog w = .ok (.enter 41 #[v0]) w := by
  unfold execOp
  simp only [ho]
  have hf : a.eval (.func 41) = .func (.func 41) #[] #[] := rfl
  generalize a.eval = f at *
  go_simp
theorem run_rRoot {o : Oper} {a : Act} {w : World} {x0 : Operand} {v0 : Value} (ho : o.op = .call { callee := .value (.func 40), args := #[x0], argTypes := #[23] }) (h0 : a.eval x0 = v0) :
    (execOp a.eval o).run Tryd.prog w = .ok (.enter 40 #[v0]) w := by
  unfold execOp
  simp only [ho]
  have hf : a.eval (.func 40) = .func (.func 40) #[] #[] := rfl
  generalize a.eval = f at *
  go_simp
set_option maxHeartbeats 1000000 in
theorem rsub_any (a b : Nat) (ha : a < MM) (hb : b < MM) (w : World) : Calls Tryd.prog 37 #[.agg (bs a), .agg (bs b)] w fun e w' => e = .returned (.agg (bs ((a + ((PP - (b % PP)) % PP)) % PP))) ∧ Below w.heap.size w w' := by
  have HA := Lib.hid ha
  have HB := Lib.hid hb
  clear ha hb
  go_enter Tryd.func37, Tryd.ntmps37
  have hbel0 := Below.refl w.heap.size w
  go_step
  go_step
  go_step
  refine lst (wanted_none rfl) (w_alloc (c := bs a) (T := 23) 2 rfl (run_box rfl rfl) (fun w1 he2 => ?_))
  have k3 := Blk.new he2
  have hg4 : w.heap.size ≤ w.heap.size := hbel0.size
  have hbel5 := bel_alloc hbel0 he2
  simp only [nz1, nz2, nz3]
  refine lst (wanted_none rfl) (w_alloc (c := bs b) (T := 23) 3 rfl (run_box rfl rfl) (fun w6 he7 => ?_))
  have hne9 : w.heap.size ≠ w1.heap.size := Nat.ne_of_lt k3.lt
  have k8 := k3.alloc he7
  have k10 := Blk.new he7
  have hg11 : w.heap.size ≤ w1.heap.size := hbel5.size
  have hbel12 := bel_alloc hbel5 he7
  simp only [nz1, nz2, nz3]
  refine lst (wanted_none rfl) (w_alloc (c := bs 0) (T := 23) 4 rfl (run_alN rfl) (fun w13 he14 => ?_))
  have hne16 : w.heap.size ≠ w6.heap.size := Nat.ne_of_lt k8.lt
  have k15 := k8.alloc he14
  have hne18 : w1.heap.size ≠ w6.heap.size := Nat.ne_of_lt k10.lt
  have k17 := k10.alloc he14
  have k19 := Blk.new he14
  have hg20 : w.heap.size ≤ w6.heap.size := hbel12.size
  have hbel21 := bel_alloc hbel12 he14
  simp only [nz1, nz2, nz3]
  go_step
  go_step
  go_step
  go_step
  have k22 := k15.drew
  have k23 := k17.drew
  have k24 := k19.drew
  have hbel25 := hbel21.drew
  refine wp_region_held_drew (S := fun w' => Blk w' (w.heap.size) (bs a) 23 ∧ Blk w' (w1.heap.size) (bs b) 23) (by kernel_rfl) ⟨k22, k23⟩ (fun _ => ?_)
  generalize w13.drew = wd26 at *
  refine tk 0 5 (.agg (bs a)) rfl rfl (fun _ hw => run_row rfl rfl (hw.1) Tryd.underlying23 rfl (by rw [bs_sz]; exact info_b)) ⟨k22, k23⟩ ?_
  simp only [nz1, nz2, nz3]
  refine tk 1 6 (.agg (bs b)) rfl rfl (fun _ hw => run_row rfl rfl (hw.2) Tryd.underlying23 rfl (by rw [bs_sz]; exact info_b)) ⟨k22, k23⟩ ?_
  simp only [nz1, nz2, nz3]
  refine one_ready 2 (by kernel_rfl) ?_
  refine opd rfl (wanted_none rfl) (w_enter 7 (.agg (bs ((PP - (b % PP)) % PP))) rfl (run_rNeg rfl rfl) (rneg_any b HB.out _) (fun w27 hb28 => ?_))
  have k29 := k22.call hb28
  have k30 := k23.call hb28
  have k31 := k24.call hb28
  have hbel32 := bel_call hbel25 hb28
  refine ⟨⟨k29, k30⟩, ?_⟩
  simp only [nz1, nz2, nz3]
  refine one_ready 3 (by kernel_rfl) ?_
  refine opd rfl (wanted_none rfl) (w_enter 8 (.agg (bs ((a + ((PP - (b % PP)) % PP)) % PP))) rfl (run_rAdd rfl rfl rfl) (radd_any a ((PP - (b % PP)) % PP) HA.out (Nat.lt_trans (Nat.mod_lt _ (by decide)) pp_lt) _) (fun w33 hb34 => ?_))
  have k35 := k29.call hb34
  have k36 := k30.call hb34
  have k37 := k31.call hb34
  have hbel38 := bel_call hbel32 hb34
  refine ⟨⟨k35, k36⟩, ?_⟩
  simp only [nz1, nz2, nz3]
  refine one_ready 4 (by kernel_rfl) ?_
  refine opd rfl (wanted_none rfl) (w_store 23 _ _ (w6.heap.size) (bs ((a + ((PP - (b % PP)) % PP)) % PP)) rfl rfl rfl rfl k37 (by rw [bs_sz]; exact info_b) ((bs_sz _).trans (bs_sz _).symm) (bs_one _) (fun w39 he40 => ?_))
  have k41 := k35.other hne16 he40
  have k42 := k36.other hne18 he40
  have k43 := k37.set he40
  have hbel44 := bel_set hbel38 hg20 he40
  refine ⟨⟨k41, k42⟩, ?_⟩
  refine wpAnyH_done (by kernel_rfl) ?_ _
  go_step
  go_step
  go_wp2
  refine bodyPost_ret (v := .agg (bs ((a + ((PP - (b % PP)) % PP)) % PP))) (results_cell_row rfl _ _ (w6.heap.size) 23 _ (0, 0) _ rfl k43 Tryd.underlying23 rfl (by rw [bs_sz]; exact info_b)) rfl ⟨rfl, hbel44⟩

end Go.Proofs.YtfpphinnngblgaaDoor.Fld

namespace Go.Proofs.YtfpphinnngblgaaDoor.Fld
open Go.RowKit Go.Shelf Go.Lib
open Go.Proofs.YtfpphinnngblgaaDoor.Num (val up val_congr val_add val_lt val_up val_digits val_word)
open Go.Proofs.YtfpphinnngblgaaDoor.Arr Go.Proofs.YtfpphinnngblgaaDoor.Sym

/-- Bit j of n in its byte. -/
theorem bit_bt (n j : Nat) : bt n (j / 8) / 2 ^ (j % 8) % 2 = n / 2 ^ j % 2 := by
  unfold bt
  have e : (256 : Nat) = 2 ^ 8 := by decide
  have e2 : (2 : Nat) ^ j = 2 ^ (8 * (j / 8)) * 2 ^ (j % 8) := by rw [← Nat.pow_add]; congr 1; omega
  rw [e, ← Nat.pow_mul, e2, ← Nat.div_div_eq_div_mul]
  generalize n / 2 ^ (8 * (j / 8)) = x
  have h3 : j % 8 < 8 := Nat.mod_lt _ (by decide)
  generalize j % 8 = s at *
  rw [show (2 : Nat) ^ 8 = 2 ^ s * (2 * 2 ^ (7 - s)) by rw [← Nat.pow_succ', ← Nat.pow_add]; congr 1; omega]
  rw [Nat.mod_mul_right_div_self]
  exact Nat.mod_mul_right_mod _ _ _

theorem bit_testb (n j : Nat) : (bits BinOp.and IntKind.u8 ((bt n (j / 8) : Int) / 2 ^ (j % 8)) 1 == 1) = decide (n / 2 ^ j % 2 = 1) := by
  have e : ((bt n (j / 8) : Int) / 2 ^ (j % 8)) = ((bt n (j / 8) / 2 ^ (j % 8) : Nat) : Int) := by
    simp
  rw [e]
  have h := (bits_nat IntKind.u8 8 (by decide) wraps_u8 (bt n (j / 8) / 2 ^ (j % 8)) 1 (Nat.lt_of_le_of_lt (Nat.div_le_self _ _) (bt_lt _ _)) (by omega)).1
  have h2 : bits BinOp.and IntKind.u8 ((bt n (j / 8) / 2 ^ (j % 8) : Nat) : Int) 1 = ((bt n (j / 8) / 2 ^ (j % 8) &&& 1 : Nat) : Int) := h
  rw [h2, Nat.and_one_is_mod, bit_bt]
  have : n / 2 ^ j % 2 = 0 ∨ n / 2 ^ j % 2 = 1 := by omega
  rcases this with h | h <;> rw [h] <;> decide

set_option maxHeartbeats 1000000 in
theorem rpower_any (a n : Nat) (ha : a < MM) (hn : n < MM) (w : World) : Calls Tryd.prog 61 #[.agg (bs a), .agg (bs n)] w fun e w' => e = .returned (.agg (bs (a ^ n % PP))) ∧ Below w.heap.size w w' := by
  have HA := Lib.hid ha
  have HN := Lib.hid hn
  clear ha hn
  go_enter Tryd.func61, Tryd.ntmps61
  have hbel0 := Below.refl w.heap.size w
  go_step
  go_step
  go_step
  refine lst (wanted_none rfl) (w_alloc (c := bs a) (T := 23) 2 rfl (run_box rfl rfl) (fun w1 he2 => ?_))
  have k3 := Blk.new he2
  have hg4 : w.heap.size ≤ w.heap.size := hbel0.size
  have hbel5 := bel_alloc hbel0 he2
  simp only [nz1, nz2, nz3]
  refine lst (wanted_none rfl) (w_alloc (c := bs n) (T := 23) 3 rfl (run_box rfl rfl) (fun w6 he7 => ?_))
  have hne9 : w.heap.size ≠ w1.heap.size := Nat.ne_of_lt k3.lt
  have k8 := k3.alloc he7
  have k10 := Blk.new he7
  have hg11 : w.heap.size ≤ w1.heap.size := hbel5.size
  have hbel12 := bel_alloc hbel5 he7
  simp only [nz1, nz2, nz3]
  refine lst (wanted_none rfl) (w_alloc (c := bs 0) (T := 23) 4 rfl (run_alN rfl) (fun w13 he14 => ?_))
  have hne16 : w.heap.size ≠ w6.heap.size := Nat.ne_of_lt k8.lt
  have k15 := k8.alloc he14
  have hne18 : w1.heap.size ≠ w6.heap.size := Nat.ne_of_lt k10.lt
  have k17 := k10.alloc he14
  have k19 := Blk.new he14
  have hg20 : w.heap.size ≤ w6.heap.size := hbel12.size
  have hbel21 := bel_alloc hbel12 he14
  simp only [nz1, nz2, nz3]
  go_step
  go_step
  go_step
  go_step
  go_step
  refine lv 7 (.agg (bs 1)) rfl rfl (by unfold execOp; go_simp; rfl) ?_
  simp only [nz1, nz2, nz3]
  refine lst (wanted_none rfl) (w_alloc (c := bs 0) (T := 23) 5 rfl (run_alN rfl) (fun w22 he23 => ?_))
  have hne25 : w.heap.size ≠ w13.heap.size := Nat.ne_of_lt k15.lt
  have k24 := k15.alloc he23
  have hne27 : w1.heap.size ≠ w13.heap.size := Nat.ne_of_lt k17.lt
  have k26 := k17.alloc he23
  have hne29 : w6.heap.size ≠ w13.heap.size := Nat.ne_of_lt k19.lt
  have k28 := k19.alloc he23
  have k30 := Blk.new he23
  have hg31 : w.heap.size ≤ w13.heap.size := hbel21.size
  have hbel32 := bel_alloc hbel21 he23
  simp only [nz1, nz2, nz3]
  refine lst (wanted_none rfl) (w_store 23 _ _ (w13.heap.size) (bs 1) rfl rfl rfl rfl k30 (by rw [bs_sz]; exact info_b) ((bs_sz _).trans (bs_sz _).symm) (bs_one _) (fun w33 he34 => ?_))
  have k35 := k24.other hne25 he34
  have k36 := k26.other hne27 he34
  have k37 := k28.other hne29 he34
  have k38 := k30.set he34
  have hbel39 := bel_set hbel32 hg31 he34
  go_step
  have e1 : w1.heap.size = w.heap.size + 1 := by rw [he2]; simp
  have e2 : w6.heap.size = w.heap.size + 2 := by rw [he7]; simp [e1]
  have e3 : w13.heap.size = w.heap.size + 3 := by rw [he14]; simp [e2]
  rw [e1, e2, e3]
  have f0 : Blk w33 (w.heap.size + 0) (bs a) 23 := by exact k35
  have f1 : Blk w33 (w.heap.size + 1) (bs n) 23 := by rw [← e1]; exact k36
  have f2 : Blk w33 (w.heap.size + 2) (bs 0) 23 := by rw [← e2]; exact k37
  have f3 : Blk w33 (w.heap.size + 3) (bs 1) 23 := by rw [← e3]; exact k38
  have h0 : Fr w w33 [(bs a, 23), (bs n, 23), (bs 0, 23), (bs 1, 23)] := ⟨fun i c T h => by rcases i with _ | _ | _ | _ | i <;> simp at h <;> (obtain ⟨rfl, rfl⟩ := h; first | exact f0 | exact f1 | exact f2 | exact f3), hbel39, by have := f3.lt; simp; omega⟩
  clear f0 f1 f2 f3 e1 e2 e3 hbel39 k38 k37 k36 k35 hbel32 hg31 k30 k28 hne29 k26 hne27 k24 hne25 hbel21 hg20 k19 k17 hne18 k15 hne16 hbel12 hg11 k10 k8 hne9 hbel5 hg4 k3 he34 he23 he14 he7 he2
  generalize w33 = W0 at *
  go_step
  go_step
  go_wp2_with fail
  have e256 : a ^ (n / 2 ^ 256) % PP = 1 := by
    rw [Nat.div_eq_of_lt (by have := HN.out; unfold MM at this; omega), Nat.pow_zero]; decide
  go_loopw [6] (fun iv wr => ∃ (k : Nat) (x : Int), k ≤ 256 ∧ x = (k : Int) - 1 ∧ iv = .int .i64 x ∧ Fr w wr [(bs a, 23), (bs n, 23), (bs 0, 23), (bs (a ^ (n / 2 ^ k) % PP), 23)]) (fun iv _ => (intOf iv + 1).toNat)
  case atStart => exact ⟨256, 255, by omega, by decide, rfl, by rw [e256]; exact h0⟩
  case round =>
    clear h0 e256
    obtain ⟨k, x, hk, hx, rfl, h0⟩ := hrel
    rcases k with _ | j
    · obtain rfl : x = -1 := by omega
      rw [Nat.pow_zero, Nat.div_one] at h0
      clear hx hk
      go_wp2_with (first | (with_reducible refine wpList_load_row rfl 23 _ rfl (w.heap.size + 3) rfl 23 _ (0, 0) _ (h0.at' 3 _ _ rfl) Tryd.underlying23 rfl (by rw [bs_sz]; exact info_b) ?_) | (with_reducible refine wpList_store_row rfl 23 _ _ rfl (w.heap.size + 2) (bs (a ^ n % PP)) rfl rfl 23 _ (h0.at' 2 _ _ rfl) (by rw [bs_sz]; exact info_b) (by rw [bs_sz, bs_sz]) (bs_one _) ?_))
      refine bodyPost_ret (v := .agg (bs (a ^ n % PP))) (results_cell_row rfl _ _ (w.heap.size + 2) 23 _ (0, 0) _ rfl (setRow_heap _ _ _ _ _ _ (h0.at' 2 _ _ rfl)) Tryd.underlying23 rfl (by rw [bs_sz]; exact info_b)) rfl ⟨rfl, below_setRow h0.below (by omega)⟩
    · obtain rfl : x = (j : Int) := by omega
      clear hx
      obtain ⟨r, hr⟩ : ∃ r, r = a ^ (n / 2 ^ (j + 1)) % PP := ⟨_, rfl⟩
      rw [← hr] at h0
      have hrl : r < MM := by rw [hr]; exact Nat.lt_trans (Nat.mod_lt _ (by decide)) pp_lt
      have HR := Lib.hid hr
      have HL := Lib.hid hrl
      clear hr hrl
      have j0 : (0 : Int) ≤ (j : Int) := by omega
      have j1 : (j : Int) ≤ 255 := by omega
      have x1 : ((j : Int) / 8).toNat = j / 8 := by omega
      have x2 : (0 : Int) ≤ (j : Int) / 8 := by omega
      have x3 : (j : Int) / 8 < 32 := by omega
      have x4 : (0 : Int) ≤ (j : Int) % 8 := by omega
      have x5 : ((j : Int) % 8).toNat = j % 8 := by omega
      go_wp2_with (with_reducible refine wpList_load_row rfl 23 _ rfl (w.heap.size + 3) rfl 23 _ (0, 0) _ (h0.at' 3 _ _ rfl) Tryd.underlying23 rfl (by rw [bs_sz]; exact info_b) ?_)
      refine (rmul_any r r HL.out HL.out _).mono ?_
      rintro e w1 ⟨rfl, hb1⟩
      generalize hq : r * r % PP = q
      have hql : q < MM := by rw [← hq]; exact Nat.lt_trans (Nat.mod_lt _ (by decide)) pp_lt
      have HQ := Lib.hid hq
      have HQL := Lib.hid hql
      clear hq hql
      have h1 := h0.call hb1
      clear h0 hb1
      by_cases hb : n / 2 ^ j % 2 = 1
      · have ht : (bits BinOp.and IntKind.u8 ((bt n (j / 8) : Int) / 2 ^ (j % 8)) 1 == 1) = true := by rw [bit_testb]; simpa using hb
        go_wp2_with (first | ((with_reducible refine wpList_store_row rfl 23 _ _ rfl (w.heap.size + 3) (bs q) rfl rfl 23 _ (h1.at' 3 _ _ rfl) (by rw [bs_sz]; exact info_b) (by rw [bs_sz, bs_sz]) (bs_one _) ?_); generalize hW2 : World.setRow _ _ _ = W2; have h2 : Fr w W2 [(bs a, 23), (bs n, 23), (bs 0, 23), (bs q, 23)] := hW2 ▸ (h1.set 3 rfl (bs q)); clear hW2; obtain ⟨c1, _⟩ := (show Row W2 (w.heap.size + 1) 32 23 .u8 (bt n) from h2.at' 1 _ _ rfl).at (j / 8) (by omega)) | (with_reducible refine wpList_load_row rfl 23 _ rfl (w.heap.size + 3) rfl 23 _ (0, 0) _ (h2.at' 3 _ _ rfl) Tryd.underlying23 rfl (by rw [bs_sz]; exact info_b) ?_) | (with_reducible refine wpList_load_row rfl 23 _ rfl (w.heap.size) rfl 23 _ (0, 0) _ (h2.at' 0 _ _ rfl) Tryd.underlying23 rfl (by rw [bs_sz]; exact info_b) ?_))
        refine (rmul_any q a HQL.out HA.out _).mono ?_
        rintro e w3 ⟨rfl, hb3⟩
        generalize hp : q * a % PP = p
        have HP := Lib.hid hp
        clear hp
        have h3 := h2.call hb3
        clear h2 hb3 c1
        go_wp2_with (with_reducible refine wpList_store_row rfl 23 _ _ rfl (w.heap.size + 3) (bs p) rfl rfl 23 _ (h3.at' 3 _ _ rfl) (by rw [bs_sz]; exact info_b) (by rw [bs_sz, bs_sz]) (bs_one _) ?_)
        go_roundw
        case rel =>
          refine ⟨j, (j : Int) - 1, by omega, rfl, rfl, ?_⟩
          rw [← pow_odd a n j hb, ← HR.out, HQ.out, HP.out]
          exact h3.set 3 rfl (bs p)
        case measure => simp [intOf]
      · have ht : (bits BinOp.and IntKind.u8 ((bt n (j / 8) : Int) / 2 ^ (j % 8)) 1 == 1) = false := by rw [bit_testb]; simpa using hb
        have hb0 : n / 2 ^ j % 2 = 0 := by omega
        have HB := Lib.hid hb0
        clear hb hb0
        go_wp2_with ((with_reducible refine wpList_store_row rfl 23 _ _ rfl (w.heap.size + 3) (bs q) rfl rfl 23 _ (h1.at' 3 _ _ rfl) (by rw [bs_sz]; exact info_b) (by rw [bs_sz, bs_sz]) (bs_one _) ?_); generalize hW2 : World.setRow _ _ _ = W2; have h2 : Fr w W2 [(bs a, 23), (bs n, 23), (bs 0, 23), (bs q, 23)] := hW2 ▸ (h1.set 3 rfl (bs q)); clear hW2; obtain ⟨c1, _⟩ := (show Row W2 (w.heap.size + 1) 32 23 .u8 (bt n) from h2.at' 1 _ _ rfl).at (j / 8) (by omega))
        go_roundw
        case rel =>
          refine ⟨j, (j : Int) - 1, by omega, rfl, rfl, ?_⟩
          rw [← pow_even a n j HB.out, ← HR.out, HQ.out]
          exact h2
        case measure => simp [intOf]
end Go.Proofs.YtfpphinnngblgaaDoor.Fld
