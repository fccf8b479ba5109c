import Derived.Test.YtnmaaijeamlplaaDoorBkT
import Derived.Test.YtnmaaijeamlplaaDoorBkB
import Derived.Test.YtnmaaijeamlplaaDoorBkM
import Derived.Test.YtnmaaijeamlplaaDoorBkC
set_option linter.unusedVariables false
set_option linter.unusedSimpArgs false
set_option maxHeartbeats 4000000
set_option maxRecDepth 100000
namespace Go.Proofs.YtnmaaijeamlplaaDoor.Bk
open Go.RowKit
open Go.Proofs.YtnmaaijeamlplaaDoor.Sym Go.Proofs.YtnmaaijeamlplaaDoor.Mem
open Go.Proofs.YtnmaaijeamlplaaDoor.Sx hiding Mm m_alloc m_store m_call m_callx
attribute [local irreducible] wpList Oper.wp
def spent_m (d : Dk) : Dk × Bool :=
 if d.fuse = 0 then
  ((Dk.mk d.safe d.loose d.fuse true), false)
 else
  if 0 < d.fuse then
   ((Dk.mk d.safe d.loose (d.fuse - (1 : Int)) d.down), true)
  else
   (d, true)
theorem spent_any (d : Dk) (dv0 : Value) (dv1 : Value) (S : Nat → Prop) (w : World) (hd : From S (DkR d dv0 dv1) w) (hp0 : d.fuse ≤ 9223372036854775807) : Calls Tryd.prog 83 #[.agg #[dv0, dv1, J (d.fuse), .bool (d.down)]] w (fun e w' => (∃ v, e = .returned v ∧ ∃ (o0 : Value) (o1 : Value), v = .tuple #[.agg #[o0, o1, J (((spent_m d).1).fuse), .bool (((spent_m d).1).down)], .bool ((spent_m d).2)] ∧ Gives w w' S (DkR ((spent_m d).1) o0 o1)) ∧ Below w.heap.size w w') := by
 go_enter Tryd.func83, Tryd.ntmps83
 have hm00 := Mm.nil none S w
 obtain ⟨Fd, hm01⟩ := hm00.come hd
 have hm0 := hm01
 refine wk (fun K1 hK1 => (wq ?_))
 refine lst rfl (m_alloc (c := #[dv0, dv1, J (d.fuse), .bool (d.down)]) (T := 25) hm0 1 rfl (run_box rfl rfl) (fun g4 w2 hm3 => ?_))
 simp only [nz]
 refine lst rfl (m_alloc (c := #[.slice none 0 0, .slice none 0 0, J 0, .bool false]) (T := 25) hm3 2 rfl (by unfold execOp; go_simp; try rfl) (fun g7 w5 hm6 => ?_))
 simp only [nz]
 refine la 3 (.bool false) ?_
 simp only [nz]
 refine wn (tj (hK1 _ _ (wk (fun K8 hK8 => (wk (fun K9 hK9 => (wq ?_)))))))
 refine lw 4 (Pp g4 2) (r_fa25_2 g4 0 rfl rfl) ?_
 refine lw 5 (J (d.fuse)) (r_load (hm6.at 1 rfl) rfl Tryd.underlying3 rfl rfl rfl) ?_
 refine lw 6 (.bool (decide (d.fuse = 0))) (z_eql d.fuse 0 rfl rfl rfl) ?_
 simp only [nz]
 refine wn (tj (hK9 _ _ ?_))
 refine cond_d (d.fuse = 0) rfl (fun hc10 => ?_) (fun hc10 => ?_)
 ·refine wk (fun K11 hK11 => (wq ?_))
  refine lw 7 (Pp g4 3) (r_fa25_3 g4 0 rfl rfl) ?_
  simp only [nz]
  refine lst rfl (m_store 1 4 _ _ 3 (.bool true) (old := #[dv0, dv1, J (d.fuse), .bool (d.down)]) (new := #[dv0, dv1, J (d.fuse), .bool true]) hm6 rfl rfl rfl rfl rfl (by exact sz_4) (show 3 + 1 ≤ 4 from by decide) (one_all rfl) rfl (fun w12 hm13 => ?_))
  refine wn (tj (hK11 _ _ (wk (fun K14 hK14 => (wq ?_)))))
  refine lw 8 (.agg #[dv0, dv1, J (d.fuse), .bool true]) (r_whole (hm13.at 1 rfl) Tryd.underlying25 rfl (by exact sz_25) rfl rfl) ?_
  simp only [nz]
  have ho17 := (rd_one ((hm13.see 0 rfl).1))
  have ho18 := (rd_one ((hm13.see 0 rfl).2))
  refine lst rfl (m_store 2 25 _ _ 0 (.agg #[dv0, dv1, J (d.fuse), .bool true]) (old := #[.slice none 0 0, .slice none 0 0, J 0, .bool false]) (new := #[dv0, dv1, J (d.fuse), .bool true]) hm13 rfl rfl rfl rfl rfl (by exact sz_25) (show 0 + 4 ≤ 4 from by decide) a4 rfl (fun w15 hm16 => ?_))
  refine la 3 (.bool false) ?_
  simp only [nz]
  refine wn (tj (hK14 _ _ (wp_ret (then_r ?_))))
  have he19 : spent_m d = ((Dk.mk d.safe d.loose d.fuse true), false) := by unfold spent_m; rw [if_pos hc10] <;> rfl
  exact ⟨rfl, .tuple #[.agg #[dv0, dv1, J (d.fuse), .bool true], .bool false], Mem.res_ct rfl rfl (hm16.at 2 rfl) Tryd.underlying25 rfl (by exact sz_25) rfl, ⟨⟨_, rfl, dv0, dv1, (by rw [he19]), by rw [he19]; exact hm16.give (hm16.from 0 rfl)⟩, hm16.below⟩⟩
 refine wp_skip (tj (hK8 _ _ (wk (fun K20 hK20 => (wk (fun K21 hK21 => (wq ?_)))))))
 refine lw 9 (Pp g4 2) (r_fa25_2 g4 0 rfl rfl) ?_
 refine lw 10 (J (d.fuse)) (r_load (hm6.at 1 rfl) rfl Tryd.underlying3 rfl rfl rfl) ?_
 refine lw 11 (.bool (decide (0 < d.fuse))) (z_gtr d.fuse 0 rfl rfl rfl) ?_
 simp only [nz]
 refine wn (tj (hK21 _ _ ?_))
 refine cond_d (0 < d.fuse) rfl (fun hc22 => ?_) (fun hc22 => ?_)
 rotate_left
 ·refine wp_skip (tj (hK20 _ _ (wk (fun K31 hK31 => (wq ?_)))))
  refine lw 16 (.agg #[dv0, dv1, J (d.fuse), .bool (d.down)]) (r_whole (hm6.at 1 rfl) Tryd.underlying25 rfl (by exact sz_25) rfl rfl) ?_
  simp only [nz]
  have ho34 := (rd_one ((hm6.see 0 rfl).1))
  have ho35 := (rd_one ((hm6.see 0 rfl).2))
  refine lst rfl (m_store 2 25 _ _ 0 (.agg #[dv0, dv1, J (d.fuse), .bool (d.down)]) (old := #[.slice none 0 0, .slice none 0 0, J 0, .bool false]) (new := #[dv0, dv1, J (d.fuse), .bool (d.down)]) hm6 rfl rfl rfl rfl rfl (by exact sz_25) (show 0 + 4 ≤ 4 from by decide) a4 rfl (fun w32 hm33 => ?_))
  refine la 3 (.bool true) ?_
  simp only [nz]
  refine wn (tj (hK31 _ _ (wp_ret ?_)))
  have he36 : spent_m d = (d, true) := by unfold spent_m; rw [if_neg hc10, if_neg hc22] <;> rfl
  exact ⟨rfl, .tuple #[.agg #[dv0, dv1, J (d.fuse), .bool (d.down)], .bool true], Mem.res_ct rfl rfl (hm33.at 2 rfl) Tryd.underlying25 rfl (by exact sz_25) rfl, ⟨⟨_, rfl, dv0, dv1, (by rw [he36]), by rw [he36]; exact hm33.give (hm33.from 0 rfl)⟩, hm33.below⟩⟩
 refine wq ?_
 refine lw 12 (Pp g4 2) (r_fa25_2 g4 0 rfl rfl) ?_
 refine lw 13 (J (d.fuse)) (r_load (hm6.at 1 rfl) rfl Tryd.underlying3 rfl rfl rfl) ?_
 refine lw 14 (J ((d.fuse - (1 : Int)))) (z_sub d.fuse (1 : Int) _ (by rw [IntKind.wrap_i64]; omega) rfl rfl rfl) ?_
 simp only [nz]
 refine lw 15 (Pp g4 2) (r_fa25_2 g4 0 rfl rfl) ?_
 simp only [nz]
 refine lst rfl (m_store 1 3 _ _ 2 (J ((d.fuse - (1 : Int)))) (old := #[dv0, dv1, J (d.fuse), .bool (d.down)]) (new := #[dv0, dv1, J ((d.fuse - (1 : Int))), .bool (d.down)]) hm6 rfl rfl rfl rfl rfl (by exact sz_3) (show 2 + 1 ≤ 4 from by decide) (one_all rfl) rfl (fun w23 hm24 => ?_))
 refine wn (tj (hK20 _ _ (wk (fun K25 hK25 => (wq ?_)))))
 refine lw 16 (.agg #[dv0, dv1, J ((d.fuse - (1 : Int))), .bool (d.down)]) (r_whole (hm24.at 1 rfl) Tryd.underlying25 rfl (by exact sz_25) rfl rfl) ?_
 simp only [nz]
 have ho28 := (rd_one ((hm24.see 0 rfl).1))
 have ho29 := (rd_one ((hm24.see 0 rfl).2))
 refine lst rfl (m_store 2 25 _ _ 0 (.agg #[dv0, dv1, J ((d.fuse - (1 : Int))), .bool (d.down)]) (old := #[.slice none 0 0, .slice none 0 0, J 0, .bool false]) (new := #[dv0, dv1, J ((d.fuse - (1 : Int))), .bool (d.down)]) hm24 rfl rfl rfl rfl rfl (by exact sz_25) (show 0 + 4 ≤ 4 from by decide) a4 rfl (fun w26 hm27 => ?_))
 refine la 3 (.bool true) ?_
 simp only [nz]
 refine wn (tj (hK25 _ _ (wp_ret ?_)))
 have he30 : spent_m d = ((Dk.mk d.safe d.loose (d.fuse - (1 : Int)) d.down), true) := by unfold spent_m; rw [if_neg hc10, if_pos hc22] <;> rfl
 exact ⟨rfl, .tuple #[.agg #[dv0, dv1, J ((d.fuse - (1 : Int))), .bool (d.down)], .bool true], Mem.res_ct rfl rfl (hm27.at 2 rfl) Tryd.underlying25 rfl (by exact sz_25) rfl, ⟨⟨_, rfl, dv0, dv1, (by rw [he30]), by rw [he30]; exact hm27.give (hm27.from 0 rfl)⟩, hm27.below⟩⟩
theorem run_spent {o : Oper} {a : Act} {w : World} {x0 : Operand} {v0 : Value} (ho : o.op = .call { callee := .value (.func 83), args := #[x0], argTypes := #[25] }) (h0 : a.eval x0 = v0) :
  (execOp a.eval o).run Tryd.prog w = .ok (.enter 83 #[v0]) w := by
 unfold execOp
 simp only [ho]
 have hf : a.eval (.func 83) = .func (.func 83) #[] #[] := rfl
 generalize a.eval = f at *
 go_simp
def spentD (d : Dk) : Dk × Bool := if d.fuse = 0 then ({ d with down := true }, false) else if 0 < d.fuse then ({ d with fuse := d.fuse - 1 }, true) else (d, true)
theorem spent_eq (d : Dk) : spent_m d = spentD d := rfl
theorem spent_loose (d : Dk) : (spent_m d).1.loose = d.loose := by rw [spent_eq]; unfold spentD; split; rfl; split <;> rfl
theorem spent_safe (d : Dk) : (spent_m d).1.safe = d.safe := by rw [spent_eq]; unfold spentD; split; rfl; split <;> rfl
theorem spent_llen (d : Dk) : (spent_m d).1.loose.length = d.loose.length := by rw [spent_loose]
theorem spent_slen (d : Dk) : (spent_m d).1.safe.length = d.safe.length := by rw [spent_safe]
theorem rflush_ix {d : Dk} (h : ¬ ¬ rready_m d = 0) (x : Nat) (hx : x < (spent_m d).1.loose.length) : 0 ≤ ((spent_m d).1.loose.getD x dWr).at_ ∧ ((spent_m d).1.loose.getD x dWr).at_ < ((spent_m d).1.safe.length : Int) := by
 rw [rready_eq] at h
 have hr := (ready_ok (Classical.not_not.1 h)).1
 rw [spent_loose, spent_safe]
 rw [spent_loose] at hx
 have := hr.2.2.2 _ (getD_mem d.loose x dWr hx)
 exact ⟨this.1, this.2.1⟩
def rput_m (d : Dk) (at_ : Int) (data : List UInt8) : Dk × Int :=
 if ¬ (rready_m d) = 0 then
  (d, (rready_m d))
 else
  if at_ < 0 then
   (d, 1)
  else
   if ((d.safe.length : Nat) : Int) ≤ at_ then
    (d, 1)
   else
    if ¬ data.length = 256 then
     (d, 1)
    else
     if (!((spent_m d).2)) = true then
      (((spent_m d).1), 11)
     else
      ((Dk.mk (((spent_m d).1).safe) ((([] : List Wr) ++ ((spent_m d).1).loose) ++ [(Wr.mk at_ data)]) (((spent_m d).1).fuse) (((spent_m d).1).down)), 0)
theorem rput_any (d : Dk) (at_ : Int) (data : List UInt8) (dv0 : Value) (dv1 : Value) (S : Nat → Prop) (w : World) (hd : From S (DkR d dv0 dv1) w) (hp0 : d.safe.length ≤ 8796093022208) (hp1 : d.loose.length ≤ 5864070000000) (hp2 : d.fuse ≤ 9223372036854775807) : Calls Tryd.prog 68 #[.agg #[dv0, dv1, J (d.fuse), .bool (d.down)], J (at_), .string (tx data)] w (fun e w' => (∃ v, e = .returned v ∧ ∃ (o0 : Value) (o1 : Value), v = .tuple #[.agg #[o0, o1, J (((rput_m d at_ data).1).fuse), .bool (((rput_m d at_ data).1).down)], J ((rput_m d at_ data).2)] ∧ Gives w w' S (DkR ((rput_m d at_ data).1) o0 o1)) ∧ Below w.heap.size w w') := by
 go_enter Tryd.func68, Tryd.ntmps68
 have hm00 := Mm.nil none S w
 obtain ⟨Fd, hm01⟩ := hm00.come hd
 have hm0 := hm01
 refine wk (fun K1 hK1 => (wq ?_))
 refine lst rfl (m_alloc (c := #[dv0, dv1, J (d.fuse), .bool (d.down)]) (T := 25) hm0 3 rfl (run_box rfl rfl) (fun g4 w2 hm3 => ?_))
 simp only [nz]
 refine lst rfl (m_alloc (c := #[.slice none 0 0, .slice none 0 0, J 0, .bool false]) (T := 25) hm3 6 rfl (by unfold execOp; go_simp; try rfl) (fun g7 w5 hm6 => ?_))
 simp only [nz]
 refine la 7 (J 0) ?_
 simp only [nz]
 refine wn (tj (hK1 _ _ (wk (fun K8 hK8 => (wq ?_)))))
 refine lw 10 (.agg #[dv0, dv1, J (d.fuse), .bool (d.down)]) (r_whole (hm6.at 1 rfl) Tryd.underlying25 rfl (by exact sz_25) rfl rfl) ?_
 simp only [nz]
 refine lst rfl (m_call hm6 11 (J ((rready_m d))) rfl (run_rready rfl rfl) (rready_any d dv0 dv1 _ (hm6.see 0 rfl) (by omega)) (fun w9 hm10 => ?_))
 simp only [nz]
 refine la 8 (J ((rready_m d))) ?_
 simp only [nz]
 refine wn (tj (hK8 _ _ (wk (fun K11 hK11 => (wk (fun K12 hK12 => (wq ?_)))))))
 refine lm 12 (J ((rready_m d))) ?_
 refine lw 13 (.bool (decide (¬ (rready_m d) = 0))) (z_neq (rready_m d) 0 rfl rfl rfl) ?_
 simp only [nz]
 refine wn (tj (hK12 _ _ ?_))
 refine cond_d (¬ (rready_m d) = 0) rfl (fun hc13 => ?_) (fun hc13 => ?_)
 ·refine wk (fun K14 hK14 => (wq ?_))
  refine lw 14 (.agg #[dv0, dv1, J (d.fuse), .bool (d.down)]) (r_whole (hm10.at 1 rfl) Tryd.underlying25 rfl (by exact sz_25) rfl rfl) ?_
  refine lm 15 (J ((rready_m d))) ?_
  simp only [nz]
  have ho17 := (rd_one ((hm10.see 0 rfl).1))
  have ho18 := (rd_one ((hm10.see 0 rfl).2))
  refine lst rfl (m_store 2 25 _ _ 0 (.agg #[dv0, dv1, J (d.fuse), .bool (d.down)]) (old := #[.slice none 0 0, .slice none 0 0, J 0, .bool false]) (new := #[dv0, dv1, J (d.fuse), .bool (d.down)]) hm10 rfl rfl rfl rfl rfl (by exact sz_25) (show 0 + 4 ≤ 4 from by decide) a4 rfl (fun w15 hm16 => ?_))
  refine la 7 (J ((rready_m d))) ?_
  simp only [nz]
  refine wn (tj (hK14 _ _ (wp_ret (then_r ?_))))
  have he19 : rput_m d at_ data = (d, (rready_m d)) := by unfold rput_m; rw [if_pos hc13] <;> rfl
  exact ⟨rfl, .tuple #[.agg #[dv0, dv1, J (d.fuse), .bool (d.down)], J ((rready_m d))], Mem.res_ct rfl rfl (hm16.at 2 rfl) Tryd.underlying25 rfl (by exact sz_25) rfl, ⟨⟨_, rfl, dv0, dv1, (by rw [he19]), by rw [he19]; exact hm16.give (hm16.from 0 rfl)⟩, hm16.below⟩⟩
 refine wp_skip (tj (hK11 _ _ (wk (fun K20 hK20 => (wk (fun K21 hK21 => (wq ?_)))))))
 refine lm 16 (J (at_)) ?_
 simp only [nz]
 refine lvb 17 (at_ < 0) rfl rfl (z_lss at_ 0 rfl rfl rfl) (fun hs22 => ?_) (fun hs22 => ?_)
 ·simp only [nz]
  refine lm 18 (.bool true) ?_
  simp only [nz]
  refine lst_skip 19 rfl rfl ?_
  simp only [nz]
  refine lst_skip 20 rfl rfl ?_
  simp only [nz]
  refine lst_skip 21 rfl rfl ?_
  simp only [nz]
  refine lst_skip 22 rfl rfl ?_
  simp only [nz]
  refine lst_skip 23 rfl rfl ?_
  simp only [nz]
  refine lw 24 (.bool true) (run_pick rfl rfl rfl) ?_
  refine lm 25 (.bool true) ?_
  simp only [nz]
  refine lst_skip 26 rfl rfl ?_
  simp only [nz]
  refine lst_skip 27 rfl rfl ?_
  simp only [nz]
  refine lst_skip 28 rfl rfl ?_
  simp only [nz]
  refine lw 29 (.bool true) (run_pick rfl rfl rfl) ?_
  simp only [nz]
  refine wn (tj (hK21 _ _ ?_))
  refine cond_t rfl ?_
  refine wk (fun K23 hK23 => (wq ?_))
  refine lw 30 (.agg #[dv0, dv1, J (d.fuse), .bool (d.down)]) (r_whole (hm10.at 1 rfl) Tryd.underlying25 rfl (by exact sz_25) rfl rfl) ?_
  simp only [nz]
  have ho26 := (rd_one ((hm10.see 0 rfl).1))
  have ho27 := (rd_one ((hm10.see 0 rfl).2))
  refine lst rfl (m_store 2 25 _ _ 0 (.agg #[dv0, dv1, J (d.fuse), .bool (d.down)]) (old := #[.slice none 0 0, .slice none 0 0, J 0, .bool false]) (new := #[dv0, dv1, J (d.fuse), .bool (d.down)]) hm10 rfl rfl rfl rfl rfl (by exact sz_25) (show 0 + 4 ≤ 4 from by decide) a4 rfl (fun w24 hm25 => ?_))
  refine la 7 (J 1) ?_
  simp only [nz]
  refine wn (tj (hK23 _ _ (wp_ret (then_r ?_))))
  have he28 : rput_m d at_ data = (d, 1) := by unfold rput_m; rw [if_neg hc13, if_pos hs22] <;> rfl
  exact ⟨rfl, .tuple #[.agg #[dv0, dv1, J (d.fuse), .bool (d.down)], J 1], Mem.res_ct rfl rfl (hm25.at 2 rfl) Tryd.underlying25 rfl (by exact sz_25) rfl, ⟨⟨_, rfl, dv0, dv1, (by rw [he28]), by rw [he28]; exact hm25.give (hm25.from 0 rfl)⟩, hm25.below⟩⟩
 simp only [nz]
 refine lm 18 (.bool false) ?_
 refine lm 19 (J (at_)) ?_
 refine lw 20 (Pp g4 0) (r_fa25_0 g4 0 rfl rfl) ?_
 simp only [nz]
 refine lw 21 (dv0) (r_load (hm10.at 1 rfl) rfl Tryd.underlying22 rfl rfl rfl) ?_
 refine lw 22 (J (d.safe.length : Int)) (s_len ((hm10.see 0 rfl).1) rfl Tryd.underlying22 rfl) ?_
 simp only [nz]
 refine lvb 23 ((d.safe.length : Int) ≤ at_) rfl rfl (z_geq at_ (d.safe.length : Int) rfl rfl rfl) (fun hs29 => ?_) (fun hs29 => ?_)
 ·simp only [nz]
  refine lw 24 (.bool true) (run_pickf rfl rfl rfl) ?_
  refine lm 25 (.bool true) ?_
  simp only [nz]
  refine lst_skip 26 rfl rfl ?_
  simp only [nz]
  refine lst_skip 27 rfl rfl ?_
  simp only [nz]
  refine lst_skip 28 rfl rfl ?_
  simp only [nz]
  refine lw 29 (.bool true) (run_pick rfl rfl rfl) ?_
  simp only [nz]
  refine wn (tj (hK21 _ _ ?_))
  refine cond_t rfl ?_
  refine wk (fun K30 hK30 => (wq ?_))
  refine lw 30 (.agg #[dv0, dv1, J (d.fuse), .bool (d.down)]) (r_whole (hm10.at 1 rfl) Tryd.underlying25 rfl (by exact sz_25) rfl rfl) ?_
  simp only [nz]
  have ho33 := (rd_one ((hm10.see 0 rfl).1))
  have ho34 := (rd_one ((hm10.see 0 rfl).2))
  refine lst rfl (m_store 2 25 _ _ 0 (.agg #[dv0, dv1, J (d.fuse), .bool (d.down)]) (old := #[.slice none 0 0, .slice none 0 0, J 0, .bool false]) (new := #[dv0, dv1, J (d.fuse), .bool (d.down)]) hm10 rfl rfl rfl rfl rfl (by exact sz_25) (show 0 + 4 ≤ 4 from by decide) a4 rfl (fun w31 hm32 => ?_))
  refine la 7 (J 1) ?_
  simp only [nz]
  refine wn (tj (hK30 _ _ (wp_ret (then_r ?_))))
  have he35 : rput_m d at_ data = (d, 1) := by unfold rput_m; rw [if_neg hc13, if_neg hs22, if_pos hs29] <;> rfl
  exact ⟨rfl, .tuple #[.agg #[dv0, dv1, J (d.fuse), .bool (d.down)], J 1], Mem.res_ct rfl rfl (hm32.at 2 rfl) Tryd.underlying25 rfl (by exact sz_25) rfl, ⟨⟨_, rfl, dv0, dv1, (by rw [he35]), by rw [he35]; exact hm32.give (hm32.from 0 rfl)⟩, hm32.below⟩⟩
 simp only [nz]
 refine lw 24 (.bool false) (run_pickf rfl rfl rfl) ?_
 refine lm 25 (.bool false) ?_
 refine lm 26 (.string (tx data)) ?_
 simp only [nz]
 refine lw 27 (J (data.length : Int)) (t_len rfl Tryd.underlying9 rfl) ?_
 refine lw 28 (.bool (decide (¬ data.length = 256))) (r_neq data.length 256 rfl rfl rfl) ?_
 refine lw 29 (.bool (decide (¬ data.length = 256))) (run_pickf rfl rfl rfl) ?_
 simp only [nz]
 refine wn (tj (hK21 _ _ ?_))
 refine cond_d (¬ data.length = 256) rfl (fun hc36 => ?_) (fun hc36 => ?_)
 ·refine wk (fun K37 hK37 => (wq ?_))
  refine lw 30 (.agg #[dv0, dv1, J (d.fuse), .bool (d.down)]) (r_whole (hm10.at 1 rfl) Tryd.underlying25 rfl (by exact sz_25) rfl rfl) ?_
  simp only [nz]
  have ho40 := (rd_one ((hm10.see 0 rfl).1))
  have ho41 := (rd_one ((hm10.see 0 rfl).2))
  refine lst rfl (m_store 2 25 _ _ 0 (.agg #[dv0, dv1, J (d.fuse), .bool (d.down)]) (old := #[.slice none 0 0, .slice none 0 0, J 0, .bool false]) (new := #[dv0, dv1, J (d.fuse), .bool (d.down)]) hm10 rfl rfl rfl rfl rfl (by exact sz_25) (show 0 + 4 ≤ 4 from by decide) a4 rfl (fun w38 hm39 => ?_))
  refine la 7 (J 1) ?_
  simp only [nz]
  refine wn (tj (hK37 _ _ (wp_ret (then_r ?_))))
  have he42 : rput_m d at_ data = (d, 1) := by unfold rput_m; rw [if_neg hc13, if_neg hs22, if_neg hs29, if_pos hc36] <;> rfl
  exact ⟨rfl, .tuple #[.agg #[dv0, dv1, J (d.fuse), .bool (d.down)], J 1], Mem.res_ct rfl rfl (hm39.at 2 rfl) Tryd.underlying25 rfl (by exact sz_25) rfl, ⟨⟨_, rfl, dv0, dv1, (by rw [he42]), by rw [he42]; exact hm39.give (hm39.from 0 rfl)⟩, hm39.below⟩⟩
 refine wp_skip (tj (hK20 _ _ (wk (fun K43 hK43 => (wq ?_)))))
 refine lw 32 (.agg #[dv0, dv1, J (d.fuse), .bool (d.down)]) (r_whole (hm10.at 1 rfl) Tryd.underlying25 rfl (by exact sz_25) rfl rfl) ?_
 simp only [nz]
 refine lst rfl (m_callx hm10 33 rfl (run_spent rfl rfl) (spent_any d dv0 dv1 (seeS _) _ (hm10.from 0 rfl) (by omega)) (fun vv50 w44 hR51 hb52 hm45 => ?_))
 obtain ⟨v46, v47, rfl, hg53⟩ := hR51
 obtain ⟨F49, hm54⟩ : ∃ F49, Mm none S w w44 [.see (DkR d dv0 dv1) Fd, .blk g4 #[dv0, dv1, J (d.fuse), .bool (d.down)] 25, .blk g7 #[.slice none 0 0, .slice none 0 0, J 0, .bool false] 25, .see (DkR ((spent_m d).1) v46 v47) F49] := Mm.tookS hm10 hb52 hg53
 clear hm45 hg53 hb52
 have hf55 : (spent_m d).1.loose.length = d.loose.length := spent_llen d
 have hf56 : (spent_m d).1.safe.length = d.safe.length := spent_slen d
 simp only [nz]
 refine lm 31 (.tuple #[.agg #[v46, v47, J (((spent_m d).1).fuse), .bool (((spent_m d).1).down)], .bool ((spent_m d).2)]) ?_
 refine lw 34 (.agg #[v46, v47, J (((spent_m d).1).fuse), .bool (((spent_m d).1).down)]) (run_ex rfl rfl rfl) ?_
 refine lw 35 (.bool ((spent_m d).2)) (run_ex rfl rfl rfl) ?_
 simp only [nz]
 have ho59 := (rd_one ((hm54.see 3 rfl).1))
 have ho60 := (rd_one ((hm54.see 3 rfl).2))
 refine lst rfl (m_store 1 25 _ _ 0 (.agg #[v46, v47, J (((spent_m d).1).fuse), .bool (((spent_m d).1).down)]) (old := #[dv0, dv1, J (d.fuse), .bool (d.down)]) (new := #[v46, v47, J (((spent_m d).1).fuse), .bool (((spent_m d).1).down)]) hm54 rfl rfl rfl rfl rfl (by exact sz_25) (show 0 + 4 ≤ 4 from by decide) a4 rfl (fun w57 hm58 => ?_))
 refine la 9 (.bool ((spent_m d).2)) ?_
 simp only [nz]
 refine wn (tj (hK43 _ _ (wk (fun K61 hK61 => (wk (fun K62 hK62 => (wq ?_)))))))
 refine lm 36 (.bool ((spent_m d).2)) ?_
 refine lw 37 (.bool (!((spent_m d).2))) (r_not ((spent_m d).2) rfl rfl) ?_
 simp only [nz]
 refine wn (tj (hK62 _ _ ?_))
 refine cond_B (!((spent_m d).2)) rfl (fun hc63 => ?_) (fun hc63 => ?_)
 ·refine wk (fun K64 hK64 => (wq ?_))
  refine lw 38 (.agg #[v46, v47, J (((spent_m d).1).fuse), .bool (((spent_m d).1).down)]) (r_whole (hm58.at 1 rfl) Tryd.underlying25 rfl (by exact sz_25) rfl rfl) ?_
  simp only [nz]
  have ho67 := (rd_one ((hm58.see 3 rfl).1))
  have ho68 := (rd_one ((hm58.see 3 rfl).2))
  refine lst rfl (m_store 2 25 _ _ 0 (.agg #[v46, v47, J (((spent_m d).1).fuse), .bool (((spent_m d).1).down)]) (old := #[.slice none 0 0, .slice none 0 0, J 0, .bool false]) (new := #[v46, v47, J (((spent_m d).1).fuse), .bool (((spent_m d).1).down)]) hm58 rfl rfl rfl rfl rfl (by exact sz_25) (show 0 + 4 ≤ 4 from by decide) a4 rfl (fun w65 hm66 => ?_))
  refine la 7 (J 11) ?_
  simp only [nz]
  refine wn (tj (hK64 _ _ (wp_ret (then_r ?_))))
  have he69 : rput_m d at_ data = (((spent_m d).1), 11) := by unfold rput_m; rw [if_neg hc13, if_neg hs22, if_neg hs29, if_neg hc36, if_pos hc63] <;> rfl
  exact ⟨rfl, .tuple #[.agg #[v46, v47, J (((spent_m d).1).fuse), .bool (((spent_m d).1).down)], J 11], Mem.res_ct rfl rfl (hm66.at 2 rfl) Tryd.underlying25 rfl (by exact sz_25) rfl, ⟨⟨_, rfl, v46, v47, (by rw [he69]), by rw [he69]; exact hm66.give (hm66.from 3 rfl)⟩, hm66.below⟩⟩
 refine wp_skip (tj (hK61 _ _ (wk (fun K70 hK70 => (wq ?_)))))
 refine lst rfl (m_lit0 (α := Wr) (enc := eWr) (size := 2) (e := 51) hm58 39 rfl (by unfold execOp; go_simp; try rfl) (fun v73 w71 hm72 => ?_))
 simp only [nz]
 refine lw 40 (Pp g4 1) (r_fa25_1 g4 0 rfl rfl) ?_
 refine lw 41 (v47) (r_load (hm72.at 1 rfl) rfl Tryd.underlying23 rfl rfl rfl) ?_
 simp only [nz]
 obtain ⟨iq, hiq, hz1, hz2, hz3⟩ := inf_51
 refine lst rfl (m_appendR 4 (l := ([] : List Wr)) (l2 := ((spent_m d).1).loose) iq _ _ _ (v47) hm72 rfl 42 rfl rfl Tryd.underlying23 hiq hz1 hz2 hz3 eWr_len eWr_one rfl (by decide) rfl rfl (hm72.see 3 rfl).2 (by simp; omega) (by simp; omega) (fun v76 w74 hm75 => ?_))
 simp only [nz]
 refine lm 43 (J (at_)) ?_
 refine lm 44 (.string (tx data)) ?_
 refine lw 45 (.agg #[J (at_), .string (tx data)]) (by unfold execOp; go_simp; try (first | rfl | (repeat' (first | rfl | apply And.intro)))) ?_
 simp only [nz]
 refine lst rfl (m_make (c := #[J (at_), .string (tx data)]) (T := 51) (fun g => Sl g 0 1 1) hm75 46 rfl (by unfold execOp; go_simp; try rfl) (fun g79 w77 hm78 => ?_))
 simp only [nz]
 obtain ⟨iq, hiq, hz1, hz2, hz3⟩ := inf_51
 refine lst rfl (m_appendR 4 (l := (([] : List Wr) ++ ((spent_m d).1).loose)) (l2 := [(Wr.mk at_ data)]) iq _ _ _ (Sl g79 0 1 1) hm78 rfl 47 rfl rfl Tryd.underlying23 hiq hz1 hz2 hz3 eWr_len eWr_one rfl (by decide) rfl rfl (Rs.blk (l := [(Wr.mk at_ data)]) (hm78.at 5 rfl) rfl rfl eWr_len (Nat.le_refl _)) (by simp; omega) (by simp; omega) (fun v82 w80 hm81 => ?_))
 simp only [nz]
 refine lw 48 (Pp g4 1) (r_fa25_1 g4 0 rfl rfl) ?_
 simp only [nz]
 have ho85 := (rd_one (Rs.row (hm81.row 4 rfl)))
 refine lst rfl (m_store 1 23 _ _ 1 (v82) (old := #[v46, v47, J (((spent_m d).1).fuse), .bool (((spent_m d).1).down)]) (new := #[v46, v82, J (((spent_m d).1).fuse), .bool (((spent_m d).1).down)]) hm81 rfl rfl rfl rfl rfl (by rw [cells_one ho85]; exact sz_23) (by rw [cells_one ho85]; exact (show 1 + 1 ≤ 4 from by decide)) (one_all ho85) (by rw [cells_one ho85]; rfl) (fun w83 hm84 => ?_))
 refine wn (tj (hK70 _ _ (wk (fun K86 hK86 => (wq ?_)))))
 refine lw 49 (.agg #[v46, v82, J (((spent_m d).1).fuse), .bool (((spent_m d).1).down)]) (r_whole (hm84.at 1 rfl) Tryd.underlying25 rfl (by exact sz_25) rfl rfl) ?_
 simp only [nz]
 have ho89 := (rd_one ((hm84.see 3 rfl).1))
 have ho90 := (rd_one (Rs.row (hm84.row 4 rfl)))
 refine lst rfl (m_store 2 25 _ _ 0 (.agg #[v46, v82, J (((spent_m d).1).fuse), .bool (((spent_m d).1).down)]) (old := #[.slice none 0 0, .slice none 0 0, J 0, .bool false]) (new := #[v46, v82, J (((spent_m d).1).fuse), .bool (((spent_m d).1).down)]) hm84 rfl rfl rfl rfl rfl (by exact sz_25) (show 0 + 4 ≤ 4 from by decide) a4 rfl (fun w87 hm88 => ?_))
 refine la 7 (J 0) ?_
 simp only [nz]
 refine wn (tj (hK86 _ _ (wp_ret ?_)))
 have hm91 : Mm none S w w87 [.see (DkR d dv0 dv1) Fd, .blk g4 #[v46, v82, J (((spent_m d).1).fuse), .bool (((spent_m d).1).down)] 25, .blk g7 #[v46, v82, J (((spent_m d).1).fuse), .bool (((spent_m d).1).down)] 25, .see (DkR ((spent_m d).1) v46 v47) F49, .see (Rs eWr 2 ((([] : List Wr) ++ ((spent_m d).1).loose) ++ [(Wr.mk at_ data)]) v82) (fp v82 (((([] : List Wr) ++ ((spent_m d).1).loose) ++ [(Wr.mk at_ data)]).flatMap eWr)), .blk g79 #[J (at_), .string (tx data)] 51] := hm88.freeze 4 rfl
 have he92 : rput_m d at_ data = ((Dk.mk (((spent_m d).1).safe) ((([] : List Wr) ++ ((spent_m d).1).loose) ++ [(Wr.mk at_ data)]) (((spent_m d).1).fuse) (((spent_m d).1).down)), 0) := by unfold rput_m; rw [if_neg hc13, if_neg hs22, if_neg hs29, if_neg hc36, if_neg hc63] <;> rfl
 exact ⟨rfl, .tuple #[.agg #[v46, v82, J (((spent_m d).1).fuse), .bool (((spent_m d).1).down)], J 0], Mem.res_ct rfl rfl (hm91.at 2 rfl) Tryd.underlying25 rfl (by exact sz_25) rfl, ⟨⟨_, rfl, v46, v82, (by rw [he92]), by rw [he92]; exact hm91.give (((hm91.from 3 rfl).mono (fun _ h => h.1)).and (hm91.from 4 rfl))⟩, hm91.below⟩⟩
theorem run_rput {o : Oper} {a : Act} {w : World} {x0 x1 x2 : Operand} {v0 v1 v2 : Value} (ho : o.op = .call { callee := .value (.func 68), args := #[x0, x1, x2], argTypes := #[25, 3, 9] }) (h0 : a.eval x0 = v0) (h1 : a.eval x1 = v1) (h2 : a.eval x2 = v2) :
  (execOp a.eval o).run Tryd.prog w = .ok (.enter 68 #[v0, v1, v2]) w := by
 unfold execOp
 simp only [ho]
 have hf : a.eval (.func 68) = .func (.func 68) #[] #[] := rfl
 generalize a.eval = f at *
 go_simp
def rget_m_b0 (d : Dk) (at_ : Int) (rec : (List UInt8) × Nat → Sum ((List UInt8) × Nat) ((List UInt8) × Int)) (x24 : List UInt8) (x25 : Nat) : Sum ((List UInt8) × Nat) ((List UInt8) × Int) :=
 if x25 < d.loose.length then
  if (d.loose.getD x25 dWr).at_ = at_ then
   rec (((d.loose.getD x25 dWr).data), (x25 + 1))
  else
   rec (x24, (x25 + 1))
 else
  .inl (x24, x25)
def rget_m_l0 (d : Dk) (at_ : Int) : Nat → (List UInt8) × Nat → Sum ((List UInt8) × Nat) ((List UInt8) × Int)
 | 0, zz => .inl zz
 | nq + 1, zz => rget_m_b0 d at_ (rget_m_l0 d at_ nq) zz.1 zz.2
def rget_m_k0 (d : Dk) (at_ : Int) (y29 : List UInt8) (y30 : Nat) : (List UInt8) × Int :=
 (y29, 0)
def rget_m (d : Dk) (at_ : Int) : (List UInt8) × Int :=
 if ¬ (rready_m d) = 0 then
  (([]), (rready_m d))
 else
  if at_ < 0 then
   (([]), 1)
  else
   if ((d.safe.length : Nat) : Int) ≤ at_ then
    (([]), 1)
   else
    fin (rget_m_l0 d at_ ((d.loose.length - 0) + 1) ((d.safe.getD at_.toNat []), 0)) (fun r => r) (fun zz => rget_m_k0 d at_ zz.1 zz.2)
theorem rget_any (d : Dk) (at_ : Int) (dv0 : Value) (dv1 : Value) (w : World) (hd : DkR d dv0 dv1 w) (hp0 : d.safe.length ≤ 8796093022208) (hp1 : d.loose.length ≤ 5864070000000) : Calls Tryd.prog 32 #[.agg #[dv0, dv1, J (d.fuse), .bool (d.down)], J (at_)] w (fun e w' => e = .returned (.tuple #[.string (tx ((rget_m d at_).1)), J ((rget_m d at_).2)]) ∧ Below w.heap.size w w') := by
 go_enter Tryd.func32, Tryd.ntmps32
 have hm00 := Mm.nil none (fun _ => True) w
 obtain ⟨Fd, hm01⟩ : ∃ Fd, Mm none (fun _ => True) w w [.see (DkR d dv0 dv1) Fd] := hm00.come (DkR_all hd)
 have hm0 := hm01
 refine wk (fun K1 hK1 => (wq ?_))
 refine lst rfl (m_alloc (c := #[dv0, dv1, J (d.fuse), .bool (d.down)]) (T := 25) hm0 2 rfl (run_box rfl rfl) (fun g4 w2 hm3 => ?_))
 simp only [nz]
 refine la 4 (.string (tx ([]))) ?_
 refine la 5 (J 0) ?_
 simp only [nz]
 refine wn (tj (hK1 _ _ (wk (fun K5 hK5 => (wq ?_)))))
 refine lw 9 (.agg #[dv0, dv1, J (d.fuse), .bool (d.down)]) (r_whole (hm3.at 1 rfl) Tryd.underlying25 rfl (by exact sz_25) rfl rfl) ?_
 simp only [nz]
 refine lst rfl (m_call hm3 10 (J ((rready_m d))) rfl (run_rready rfl rfl) (rready_any d dv0 dv1 _ (hm3.see 0 rfl) (by omega)) (fun w6 hm7 => ?_))
 simp only [nz]
 refine la 6 (J ((rready_m d))) ?_
 simp only [nz]
 refine wn (tj (hK5 _ _ (wk (fun K8 hK8 => (wk (fun K9 hK9 => (wq ?_)))))))
 refine lm 11 (J ((rready_m d))) ?_
 refine lw 12 (.bool (decide (¬ (rready_m d) = 0))) (z_neq (rready_m d) 0 rfl rfl rfl) ?_
 simp only [nz]
 refine wn (tj (hK9 _ _ ?_))
 refine cond_d (¬ (rready_m d) = 0) rfl (fun hc10 => ?_) (fun hc10 => ?_)
 ·refine wk (fun K11 hK11 => (wq ?_))
  refine lm 13 (J ((rready_m d))) ?_
  refine la 4 (.string (tx ([]))) ?_
  refine la 5 (J ((rready_m d))) ?_
  simp only [nz]
  refine wn (tj (hK11 _ _ (wp_ret (then_r ?_))))
  have he12 : rget_m d at_ = (([]), (rready_m d)) := by unfold rget_m; rw [if_pos hc10] <;> rfl
  exact ⟨rfl, .tuple #[.string (tx ([])), J ((rready_m d))], res_tt rfl rfl rfl, ⟨by (rw [he12]; try rfl), hm7.below⟩⟩
 refine wp_skip (tj (hK8 _ _ (wk (fun K13 hK13 => (wk (fun K14 hK14 => (wq ?_)))))))
 refine lm 14 (J (at_)) ?_
 simp only [nz]
 refine lvb 15 (at_ < 0) rfl rfl (z_lss at_ 0 rfl rfl rfl) (fun hs15 => ?_) (fun hs15 => ?_)
 ·simp only [nz]
  refine lm 16 (.bool true) ?_
  simp only [nz]
  refine lst_skip 17 rfl rfl ?_
  simp only [nz]
  refine lst_skip 18 rfl rfl ?_
  simp only [nz]
  refine lst_skip 19 rfl rfl ?_
  simp only [nz]
  refine lst_skip 20 rfl rfl ?_
  simp only [nz]
  refine lst_skip 21 rfl rfl ?_
  simp only [nz]
  refine lw 22 (.bool true) (run_pick rfl rfl rfl) ?_
  simp only [nz]
  refine wn (tj (hK14 _ _ ?_))
  refine cond_t rfl ?_
  refine wk (fun K16 hK16 => (wq ?_))
  refine la 4 (.string (tx ([]))) ?_
  refine la 5 (J 1) ?_
  simp only [nz]
  refine wn (tj (hK16 _ _ (wp_ret (then_r ?_))))
  have he17 : rget_m d at_ = (([]), 1) := by unfold rget_m; rw [if_neg hc10, if_pos hs15] <;> rfl
  exact ⟨rfl, .tuple #[.string (tx ([])), J 1], res_tt rfl rfl rfl, ⟨by (rw [he17]; try rfl), hm7.below⟩⟩
 simp only [nz]
 refine lm 16 (.bool false) ?_
 refine lm 17 (J (at_)) ?_
 refine lw 18 (Pp g4 0) (r_fa25_0 g4 0 rfl rfl) ?_
 simp only [nz]
 refine lw 19 (dv0) (r_load (hm7.at 1 rfl) rfl Tryd.underlying22 rfl rfl rfl) ?_
 refine lw 20 (J (d.safe.length : Int)) (s_len ((hm7.see 0 rfl).1) rfl Tryd.underlying22 rfl) ?_
 refine lw 21 (.bool (decide ((d.safe.length : Int) ≤ at_))) (z_geq at_ (d.safe.length : Int) rfl rfl rfl) ?_
 simp only [nz]
 refine lw 22 (.bool (decide ((d.safe.length : Int) ≤ at_))) (run_pickf rfl rfl rfl) ?_
 simp only [nz]
 refine wn (tj (hK14 _ _ ?_))
 refine cond_d ((d.safe.length : Int) ≤ at_) rfl (fun hc18 => ?_) (fun hc18 => ?_)
 ·refine wk (fun K19 hK19 => (wq ?_))
  refine la 4 (.string (tx ([]))) ?_
  refine la 5 (J 1) ?_
  simp only [nz]
  refine wn (tj (hK19 _ _ (wp_ret (then_r ?_))))
  have he20 : rget_m d at_ = (([]), 1) := by unfold rget_m; rw [if_neg hc10, if_neg hs15, if_pos hc18] <;> rfl
  exact ⟨rfl, .tuple #[.string (tx ([])), J 1], res_tt rfl rfl rfl, ⟨by (rw [he20]; try rfl), hm7.below⟩⟩
 refine wp_skip (tj (hK13 _ _ (wk (fun K21 hK21 => (wq ?_)))))
 refine lw 23 (Pp g4 0) (r_fa25_0 g4 0 rfl rfl) ?_
 refine lw 24 (dv0) (r_load (hm7.at 1 rfl) rfl Tryd.underlying22 rfl rfl rfl) ?_
 refine lm 25 (J (at_)) ?_
 simp only [nz]
 refine lw 26 (.pointer (some ⟨(bk dv0), (po dv0 + at_.toNat * 1), none⟩)) (r_ixvZ ((hm7.see 0 rfl).1) at_ (by omega) (by omega) Tryd.underlying22 sz_9 rfl rfl rfl) ?_
 refine lw 27 (.string (tx (d.safe.getD at_.toNat []))) (r_cellw (Rs.cell ((hm7.see 0 rfl).1) eS_len [] at_.toNat (by omega) 0 _ rfl) Tryd.underlying9 rfl rfl rfl) ?_
 refine la 7 (.string (tx (d.safe.getD at_.toNat []))) ?_
 simp only [nz]
 refine wn (tj (hK21 _ _ (wk (fun K22 hK22 => (wk (fun K23 hK23 => (wq ?_)))))))
 refine la 8 (J 0) ?_
 simp only [nz]
 refine wn (tj (hK23 _ _ ?_))
 refine wp_cutK (fun a' w' => ∃ (y29 : List UInt8) (y30 : Nat) (yu0 : Nat → Value), rget_m_l0 d at_ ((d.loose.length - 0) + 1) ((d.safe.getD at_.toNat []), 0) = .inl (y29, y30) ∧ a' = ⟨#[.agg #[dv0, dv1, J (d.fuse), .bool (d.down)], J (at_), Pp g4 0, undef, .string (tx ([])), J 0, J ((rready_m d)), .string (tx y29), J (y30 : Int), .agg #[dv0, dv1, J (d.fuse), .bool (d.down)], J ((rready_m d)), J ((rready_m d)), .bool (decide (¬ (rready_m d) = 0)), undef, J (at_), .bool false, .bool false, J (at_), Pp g4 0, dv0, J (d.safe.length : Int), .bool (decide ((d.safe.length : Int) ≤ at_)), .bool (decide ((d.safe.length : Int) ≤ at_)), Pp g4 0, dv0, J (at_), .pointer (some ⟨(bk dv0), (po dv0 + at_.toNat * 1), none⟩), .string (tx (d.safe.getD at_.toNat [])), yu0 0, yu0 1, yu0 2, yu0 3, yu0 4, yu0 5, yu0 6, yu0 7, yu0 8, yu0 9, yu0 10, yu0 11, yu0 12, yu0 13, yu0 14, yu0 15, yu0 16, yu0 17, yu0 18, yu0 19, yu0 20, undef], []⟩ ∧ Mm none (fun _ => True) w w' [.see (DkR d dv0 dv1) Fd, .blk g4 #[dv0, dv1, J (d.fuse), .bool (d.down)] 25]) ?_ ?_
 ·refine wp_block ?_
  refine wp_loop_n (fun n' a' w' => ∃ (n26 : Nat) (x24 : List UInt8) (x25 : Nat) (u0 : Nat → Value), n' = n26 ∧ (d.loose.length - x25) < n26 ∧ rget_m_l0 d at_ ((d.loose.length - 0) + 1) ((d.safe.getD at_.toNat []), 0) = rget_m_l0 d at_ n26 (x24, x25) ∧ a' = ⟨#[.agg #[dv0, dv1, J (d.fuse), .bool (d.down)], J (at_), Pp g4 0, undef, .string (tx ([])), J 0, J ((rready_m d)), .string (tx x24), J (x25 : Int), .agg #[dv0, dv1, J (d.fuse), .bool (d.down)], J ((rready_m d)), J ((rready_m d)), .bool (decide (¬ (rready_m d) = 0)), undef, J (at_), .bool false, .bool false, J (at_), Pp g4 0, dv0, J (d.safe.length : Int), .bool (decide ((d.safe.length : Int) ≤ at_)), .bool (decide ((d.safe.length : Int) ≤ at_)), Pp g4 0, dv0, J (at_), .pointer (some ⟨(bk dv0), (po dv0 + at_.toNat * 1), none⟩), .string (tx (d.safe.getD at_.toNat [])), u0 0, u0 1, u0 2, u0 3, u0 4, u0 5, u0 6, u0 7, u0 8, u0 9, u0 10, u0 11, u0 12, u0 13, u0 14, u0 15, u0 16, u0 17, u0 18, u0 19, u0 20, undef], []⟩ ∧ Mm none (fun _ => True) w w' [.see (DkR d dv0 dv1) Fd, .blk g4 #[dv0, dv1, J (d.fuse), .bool (d.down)] 25]) ⟨((d.loose.length - 0) + 1), (d.safe.getD at_.toNat []), 0, (fun qq => List.getD [undef, undef, undef, undef, undef, undef, undef, undef, undef, undef, undef, undef, undef, undef, undef, undef, undef, undef, undef, undef, undef] qq undef), rfl, Nat.lt_succ_self _, rfl, rfl, hm7⟩ ?_
  rintro n26 _ w32 ⟨_, x24, x25, u0, rfl, hl36, hi28, rfl, hm33⟩ R34 hR34
  obtain ⟨k27, rfl⟩ : ∃ k, n26 = k + 1 := ⟨n26 - 1, by omega⟩
  refine wk (fun K37 hK37 => (wk (fun K38 hK38 => (wq ?_))))
  refine lm 28 (J (x25 : Int)) ?_
  refine lw 29 (Pp g4 1) (r_fa25_1 g4 0 rfl rfl) ?_
  refine lw 30 (dv1) (r_load (hm33.at 1 rfl) rfl Tryd.underlying23 rfl rfl rfl) ?_
  simp only [nz]
  refine lw 31 (J (d.loose.length : Int)) (s_len ((hm33.see 0 rfl).2) rfl Tryd.underlying23 rfl) ?_
  refine lw 32 (.bool (decide (x25 < d.loose.length))) (r_lss x25 d.loose.length rfl rfl rfl) ?_
  simp only [nz]
  refine wn (tj (hK38 _ _ ?_))
  refine cond_d (x25 < d.loose.length) rfl (fun hc39 => ?_) (fun hc39 => ?_)
  rotate_left
  ·refine wp_exit (then_x (then_x (blk_x ?_)))
   refine tj ?_
   exact ⟨x24, x25, (fun qq => List.getD [J (x25 : Int), Pp g4 1, dv1, J (d.loose.length : Int), .bool (decide (x25 < d.loose.length)), u0 5, u0 6, u0 7, u0 8, u0 9, u0 10, u0 11, u0 12, u0 13, u0 14, u0 15, u0 16, u0 17, u0 18, u0 19, u0 20] qq undef), (hi28.trans (show rget_m_b0 d at_ (rget_m_l0 d at_ k27) x24 x25 = .inl (x24, x25) from by unfold rget_m_b0; rw [if_neg hc39] <;> rfl)), rfl, hm33⟩
  refine wp_skip (tj (hK37 _ _ (wk (fun K40 hK40 => ?_))))
  refine wp_block ?_
  refine wk (fun K41 hK41 => (wq ?_))
  refine lw 35 (Pp g4 1) (r_fa25_1 g4 0 rfl rfl) ?_
  refine lw 36 (dv1) (r_load (hm33.at 1 rfl) rfl Tryd.underlying23 rfl rfl rfl) ?_
  refine lm 37 (J (x25 : Int)) ?_
  simp only [nz]
  refine lw 38 (.pointer (some ⟨(bk dv1), (po dv1 + x25 * 2), none⟩)) (r_ixv ((hm33.see 0 rfl).2) x25 (by omega) Tryd.underlying23 sz_51 rfl rfl rfl) ?_
  refine lw 39 (.pointer (some ⟨(bk dv1), ((po dv1 + x25 * 2) + 0), none⟩)) (r_fa51_0 (bk dv1) (po dv1 + x25 * 2) rfl rfl) ?_
  refine lw 40 (J ((d.loose.getD x25 dWr).at_)) (r_cellw (Rs.cell ((hm33.see 0 rfl).2) eWr_len dWr x25 (by omega) 0 _ rfl) Tryd.underlying3 rfl rfl rfl) ?_
  simp only [nz]
  refine lm 41 (J (at_)) ?_
  refine lw 42 (.bool (decide ((d.loose.getD x25 dWr).at_ = at_))) (z_eql ((d.loose.getD x25 dWr).at_) at_ rfl rfl rfl) ?_
  simp only [nz]
  refine wn (tj (hK41 _ _ ?_))
  refine cond_d ((d.loose.getD x25 dWr).at_ = at_) rfl (fun hc42 => ?_) (fun hc42 => ?_)
  rotate_left
  ·refine wp_skip (blk_n (tj (hK40 _ _ (wq ?_))))
   refine lm 33 (J (x25 : Int)) ?_
   refine lw 34 (J (((x25 + 1) : Nat) : Int)) (r_add x25 1 (show (x25 + 1) < 9223372036854775808 from by omega) rfl rfl rfl) ?_
   refine la 8 (J (((x25 + 1) : Nat) : Int)) ?_
   simp only [nz]
   refine wn ?_
   refine tj (hR34 _ _ _ ⟨k27, x24, (x25 + 1), (fun qq => List.getD [J (x25 : Int), Pp g4 1, dv1, J (d.loose.length : Int), .bool (decide (x25 < d.loose.length)), J (x25 : Int), J (((x25 + 1) : Nat) : Int), Pp g4 1, dv1, J (x25 : Int), .pointer (some ⟨(bk dv1), (po dv1 + x25 * 2), none⟩), .pointer (some ⟨(bk dv1), ((po dv1 + x25 * 2) + 0), none⟩), J ((d.loose.getD x25 dWr).at_), J (at_), .bool (decide ((d.loose.getD x25 dWr).at_ = at_)), u0 15, u0 16, u0 17, u0 18, u0 19, u0 20] qq undef), rfl, (by omega), (hi28.trans (show rget_m_b0 d at_ (rget_m_l0 d at_ k27) x24 x25 = rget_m_l0 d at_ k27 (x24, (x25 + 1)) from by unfold rget_m_b0; rw [if_pos hc39, if_neg hc42] <;> rfl)), rfl, hm33⟩ ?_)
   omega
  refine wq ?_
  refine lw 43 (Pp g4 1) (r_fa25_1 g4 0 rfl rfl) ?_
  refine lw 44 (dv1) (r_load (hm33.at 1 rfl) rfl Tryd.underlying23 rfl rfl rfl) ?_
  refine lm 45 (J (x25 : Int)) ?_
  simp only [nz]
  refine lw 46 (.pointer (some ⟨(bk dv1), (po dv1 + x25 * 2), none⟩)) (r_ixv ((hm33.see 0 rfl).2) x25 (by omega) Tryd.underlying23 sz_51 rfl rfl rfl) ?_
  refine lw 47 (.pointer (some ⟨(bk dv1), ((po dv1 + x25 * 2) + 1), none⟩)) (r_fa51_1 (bk dv1) (po dv1 + x25 * 2) rfl rfl) ?_
  refine lw 48 (.string (tx ((d.loose.getD x25 dWr).data))) (r_cellw (Rs.cell ((hm33.see 0 rfl).2) eWr_len dWr x25 (by omega) 1 _ rfl) Tryd.underlying9 rfl rfl rfl) ?_
  simp only [nz]
  refine la 7 (.string (tx ((d.loose.getD x25 dWr).data))) ?_
  simp only [nz]
  refine wn (blk_n (tj (hK40 _ _ (wq ?_))))
  refine lm 33 (J (x25 : Int)) ?_
  refine lw 34 (J (((x25 + 1) : Nat) : Int)) (r_add x25 1 (show (x25 + 1) < 9223372036854775808 from by omega) rfl rfl rfl) ?_
  refine la 8 (J (((x25 + 1) : Nat) : Int)) ?_
  simp only [nz]
  refine wn ?_
  refine tj (hR34 _ _ _ ⟨k27, ((d.loose.getD x25 dWr).data), (x25 + 1), (fun qq => List.getD [J (x25 : Int), Pp g4 1, dv1, J (d.loose.length : Int), .bool (decide (x25 < d.loose.length)), J (x25 : Int), J (((x25 + 1) : Nat) : Int), Pp g4 1, dv1, J (x25 : Int), .pointer (some ⟨(bk dv1), (po dv1 + x25 * 2), none⟩), .pointer (some ⟨(bk dv1), ((po dv1 + x25 * 2) + 0), none⟩), J ((d.loose.getD x25 dWr).at_), J (at_), .bool (decide ((d.loose.getD x25 dWr).at_ = at_)), Pp g4 1, dv1, J (x25 : Int), .pointer (some ⟨(bk dv1), (po dv1 + x25 * 2), none⟩), .pointer (some ⟨(bk dv1), ((po dv1 + x25 * 2) + 1), none⟩), .string (tx ((d.loose.getD x25 dWr).data))] qq undef), rfl, (by omega), (hi28.trans (show rget_m_b0 d at_ (rget_m_l0 d at_ k27) x24 x25 = rget_m_l0 d at_ k27 (((d.loose.getD x25 dWr).data), (x25 + 1)) from by unfold rget_m_b0; rw [if_pos hc39, if_pos hc42] <;> rfl)), rfl, hm33⟩ ?_)
  omega
 rintro _ w43 ⟨y29, y30, yu0, hx31, rfl, hm44⟩
 have hq45 : rget_m d at_ = rget_m_k0 d at_ y29 y30 := (show rget_m d at_ = rget_m_k0 d at_ y29 y30 from by unfold rget_m; rw [if_neg hc10, if_neg hs15, if_neg hc18, hx31] <;> rfl)
 refine tj (hK22 _ _ (wk (fun K46 hK46 => (wq ?_))))
 refine lm 49 (.string (tx y29)) ?_
 refine la 4 (.string (tx y29)) ?_
 refine la 5 (J 0) ?_
 simp only [nz]
 refine wn (tj (hK46 _ _ (wp_ret ?_)))
 have he47 : rget_m d at_ = (y29, 0) := (hq45.trans (show rget_m_k0 d at_ y29 y30 = (y29, 0) from by unfold rget_m_k0; rfl))
 exact ⟨rfl, .tuple #[.string (tx y29), J 0], res_tt rfl rfl rfl, ⟨by (rw [he47]; try rfl), hm44.below⟩⟩
theorem run_rget {o : Oper} {a : Act} {w : World} {x0 x1 : Operand} {v0 v1 : Value} (ho : o.op = .call { callee := .value (.func 32), args := #[x0, x1], argTypes := #[25, 3] }) (h0 : a.eval x0 = v0) (h1 : a.eval x1 = v1) :
  (execOp a.eval o).run Tryd.prog w = .ok (.enter 32 #[v0, v1]) w := by
 unfold execOp
 simp only [ho]
 have hf : a.eval (.func 32) = .func (.func 32) #[] #[] := rfl
 generalize a.eval = f at *
 go_simp
def rflush_m_b0 (d : Dk) (rec : Nat × (List (List UInt8)) → Sum (Nat × (List (List UInt8))) (Dk × Int)) (x59 : Nat) (l60 : List (List UInt8)) : Sum (Nat × (List (List UInt8))) (Dk × Int) :=
 if x59 < (((spent_m d).1).loose).length then
  rec ((x59 + 1), (l60.set ((((((spent_m d).1).loose).getD x59 dWr).at_).toNat) (((((spent_m d).1).loose).getD x59 dWr).data)))
 else
  .inl (x59, l60)
def rflush_m_l0 (d : Dk) : Nat → Nat × (List (List UInt8)) → Sum (Nat × (List (List UInt8))) (Dk × Int)
 | 0, zz => .inl zz
 | nq + 1, zz => rflush_m_b0 d (rflush_m_l0 d nq) zz.1 zz.2
def rflush_m_k0 (d : Dk) (y64 : Nat) (y65 : List (List UInt8)) : Dk × Int :=
 ((Dk.mk y65 ([] : List Wr) (((spent_m d).1).fuse) (((spent_m d).1).down)), 0)
def rflush_m (d : Dk) : Dk × Int :=
 if ¬ (rready_m d) = 0 then
  (d, (rready_m d))
 else
  if (!((spent_m d).2)) = true then
   (((spent_m d).1), 11)
  else
   fin (rflush_m_l0 d (((((spent_m d).1).loose).length - 0) + 1) (0, (([] : List (List UInt8)) ++ ((spent_m d).1).safe))) (fun r => r) (fun zz => rflush_m_k0 d zz.1 zz.2)
theorem rflush_any (d : Dk) (dv0 : Value) (dv1 : Value) (S : Nat → Prop) (w : World) (hd : From S (DkR d dv0 dv1) w) (hp0 : d.safe.length ≤ 8796093022208) (hp1 : d.loose.length ≤ 5864070000000) (hp2 : d.fuse ≤ 9223372036854775807) : Calls Tryd.prog 69 #[.agg #[dv0, dv1, J (d.fuse), .bool (d.down)]] w (fun e w' => (∃ v, e = .returned v ∧ ∃ (o0 : Value) (o1 : Value), v = .tuple #[.agg #[o0, o1, J (((rflush_m d).1).fuse), .bool (((rflush_m d).1).down)], J ((rflush_m d).2)] ∧ Gives w w' S (DkR ((rflush_m d).1) o0 o1)) ∧ Below w.heap.size w w') := by
 go_enter Tryd.func69, Tryd.ntmps69
 have hm00 := Mm.nil none S w
 obtain ⟨Fd, hm01⟩ := hm00.come hd
 have hm0 := hm01
 refine wk (fun K1 hK1 => (wq ?_))
 refine lst rfl (m_alloc (c := #[dv0, dv1, J (d.fuse), .bool (d.down)]) (T := 25) hm0 1 rfl (run_box rfl rfl) (fun g4 w2 hm3 => ?_))
 simp only [nz]
 refine lst rfl (m_alloc (c := #[.slice none 0 0, .slice none 0 0, J 0, .bool false]) (T := 25) hm3 2 rfl (by unfold execOp; go_simp; try rfl) (fun g7 w5 hm6 => ?_))
 simp only [nz]
 refine la 3 (J 0) ?_
 simp only [nz]
 refine wn (tj (hK1 _ _ (wk (fun K8 hK8 => (wq ?_)))))
 refine lw 7 (.agg #[dv0, dv1, J (d.fuse), .bool (d.down)]) (r_whole (hm6.at 1 rfl) Tryd.underlying25 rfl (by exact sz_25) rfl rfl) ?_
 simp only [nz]
 refine lst rfl (m_call hm6 8 (J ((rready_m d))) rfl (run_rready rfl rfl) (rready_any d dv0 dv1 _ (hm6.see 0 rfl) (by omega)) (fun w9 hm10 => ?_))
 simp only [nz]
 refine la 4 (J ((rready_m d))) ?_
 simp only [nz]
 refine wn (tj (hK8 _ _ (wk (fun K11 hK11 => (wk (fun K12 hK12 => (wq ?_)))))))
 refine lm 9 (J ((rready_m d))) ?_
 refine lw 10 (.bool (decide (¬ (rready_m d) = 0))) (z_neq (rready_m d) 0 rfl rfl rfl) ?_
 simp only [nz]
 refine wn (tj (hK12 _ _ ?_))
 refine cond_d (¬ (rready_m d) = 0) rfl (fun hc13 => ?_) (fun hc13 => ?_)
 ·refine wk (fun K14 hK14 => (wq ?_))
  refine lw 11 (.agg #[dv0, dv1, J (d.fuse), .bool (d.down)]) (r_whole (hm10.at 1 rfl) Tryd.underlying25 rfl (by exact sz_25) rfl rfl) ?_
  refine lm 12 (J ((rready_m d))) ?_
  simp only [nz]
  have ho17 := (rd_one ((hm10.see 0 rfl).1))
  have ho18 := (rd_one ((hm10.see 0 rfl).2))
  refine lst rfl (m_store 2 25 _ _ 0 (.agg #[dv0, dv1, J (d.fuse), .bool (d.down)]) (old := #[.slice none 0 0, .slice none 0 0, J 0, .bool false]) (new := #[dv0, dv1, J (d.fuse), .bool (d.down)]) hm10 rfl rfl rfl rfl rfl (by exact sz_25) (show 0 + 4 ≤ 4 from by decide) a4 rfl (fun w15 hm16 => ?_))
  refine la 3 (J ((rready_m d))) ?_
  simp only [nz]
  refine wn (tj (hK14 _ _ (wp_ret (then_r ?_))))
  have he19 : rflush_m d = (d, (rready_m d)) := by unfold rflush_m; rw [if_pos hc13] <;> rfl
  exact ⟨rfl, .tuple #[.agg #[dv0, dv1, J (d.fuse), .bool (d.down)], J ((rready_m d))], Mem.res_ct rfl rfl (hm16.at 2 rfl) Tryd.underlying25 rfl (by exact sz_25) rfl, ⟨⟨_, rfl, dv0, dv1, (by rw [he19]), by rw [he19]; exact hm16.give (hm16.from 0 rfl)⟩, hm16.below⟩⟩
 refine wp_skip (tj (hK11 _ _ (wk (fun K20 hK20 => (wq ?_)))))
 refine lw 14 (.agg #[dv0, dv1, J (d.fuse), .bool (d.down)]) (r_whole (hm10.at 1 rfl) Tryd.underlying25 rfl (by exact sz_25) rfl rfl) ?_
 simp only [nz]
 refine lst rfl (m_callx hm10 15 rfl (run_spent rfl rfl) (spent_any d dv0 dv1 (seeS _) _ (hm10.from 0 rfl) (by omega)) (fun vv27 w21 hR28 hb29 hm22 => ?_))
 obtain ⟨v23, v24, rfl, hg30⟩ := hR28
 obtain ⟨F26, hm31⟩ : ∃ F26, Mm none S w w21 [.see (DkR d dv0 dv1) Fd, .blk g4 #[dv0, dv1, J (d.fuse), .bool (d.down)] 25, .blk g7 #[.slice none 0 0, .slice none 0 0, J 0, .bool false] 25, .see (DkR ((spent_m d).1) v23 v24) F26] := Mm.tookS hm10 hb29 hg30
 clear hm22 hg30 hb29
 have hf32 : (spent_m d).1.loose.length = d.loose.length := spent_llen d
 have hf33 : (spent_m d).1.safe.length = d.safe.length := spent_slen d
 simp only [nz]
 refine lm 13 (.tuple #[.agg #[v23, v24, J (((spent_m d).1).fuse), .bool (((spent_m d).1).down)], .bool ((spent_m d).2)]) ?_
 refine lw 16 (.agg #[v23, v24, J (((spent_m d).1).fuse), .bool (((spent_m d).1).down)]) (run_ex rfl rfl rfl) ?_
 refine lw 17 (.bool ((spent_m d).2)) (run_ex rfl rfl rfl) ?_
 simp only [nz]
 have ho36 := (rd_one ((hm31.see 3 rfl).1))
 have ho37 := (rd_one ((hm31.see 3 rfl).2))
 refine lst rfl (m_store 1 25 _ _ 0 (.agg #[v23, v24, J (((spent_m d).1).fuse), .bool (((spent_m d).1).down)]) (old := #[dv0, dv1, J (d.fuse), .bool (d.down)]) (new := #[v23, v24, J (((spent_m d).1).fuse), .bool (((spent_m d).1).down)]) hm31 rfl rfl rfl rfl rfl (by exact sz_25) (show 0 + 4 ≤ 4 from by decide) a4 rfl (fun w34 hm35 => ?_))
 refine la 5 (.bool ((spent_m d).2)) ?_
 simp only [nz]
 refine wn (tj (hK20 _ _ (wk (fun K38 hK38 => (wk (fun K39 hK39 => (wq ?_)))))))
 refine lm 18 (.bool ((spent_m d).2)) ?_
 refine lw 19 (.bool (!((spent_m d).2))) (r_not ((spent_m d).2) rfl rfl) ?_
 simp only [nz]
 refine wn (tj (hK39 _ _ ?_))
 refine cond_B (!((spent_m d).2)) rfl (fun hc40 => ?_) (fun hc40 => ?_)
 ·refine wk (fun K41 hK41 => (wq ?_))
  refine lw 20 (.agg #[v23, v24, J (((spent_m d).1).fuse), .bool (((spent_m d).1).down)]) (r_whole (hm35.at 1 rfl) Tryd.underlying25 rfl (by exact sz_25) rfl rfl) ?_
  simp only [nz]
  have ho44 := (rd_one ((hm35.see 3 rfl).1))
  have ho45 := (rd_one ((hm35.see 3 rfl).2))
  refine lst rfl (m_store 2 25 _ _ 0 (.agg #[v23, v24, J (((spent_m d).1).fuse), .bool (((spent_m d).1).down)]) (old := #[.slice none 0 0, .slice none 0 0, J 0, .bool false]) (new := #[v23, v24, J (((spent_m d).1).fuse), .bool (((spent_m d).1).down)]) hm35 rfl rfl rfl rfl rfl (by exact sz_25) (show 0 + 4 ≤ 4 from by decide) a4 rfl (fun w42 hm43 => ?_))
  refine la 3 (J 11) ?_
  simp only [nz]
  refine wn (tj (hK41 _ _ (wp_ret (then_r ?_))))
  have he46 : rflush_m d = (((spent_m d).1), 11) := by unfold rflush_m; rw [if_neg hc13, if_pos hc40] <;> rfl
  exact ⟨rfl, .tuple #[.agg #[v23, v24, J (((spent_m d).1).fuse), .bool (((spent_m d).1).down)], J 11], Mem.res_ct rfl rfl (hm43.at 2 rfl) Tryd.underlying25 rfl (by exact sz_25) rfl, ⟨⟨_, rfl, v23, v24, (by rw [he46]), by rw [he46]; exact hm43.give (hm43.from 3 rfl)⟩, hm43.below⟩⟩
 refine wp_skip (tj (hK38 _ _ (wk (fun K47 hK47 => (wq ?_)))))
 refine lst rfl (m_lit0 (α := List UInt8) (enc := eS) (size := 1) (e := 9) hm35 21 rfl (by unfold execOp; go_simp; try rfl) (fun v50 w48 hm49 => ?_))
 simp only [nz]
 refine lw 22 (Pp g4 0) (r_fa25_0 g4 0 rfl rfl) ?_
 refine lw 23 (v23) (r_load (hm49.at 1 rfl) rfl Tryd.underlying22 rfl rfl rfl) ?_
 simp only [nz]
 obtain ⟨iq, hiq, hz1, hz2, hz3⟩ := inf_9
 refine lst rfl (m_appendR 4 (l := ([] : List (List UInt8))) (l2 := ((spent_m d).1).safe) iq _ _ _ (v23) hm49 rfl 24 rfl rfl Tryd.underlying22 hiq hz1 hz2 hz3 eS_len eS_one rfl (by decide) rfl rfl (hm49.see 3 rfl).1 (by simp; omega) (by simp; omega) (fun v53 w51 hm52 => ?_))
 simp only [nz]
 refine lw 25 (Pp g4 0) (r_fa25_0 g4 0 rfl rfl) ?_
 simp only [nz]
 have ho56 := (rd_one (Rs.row (hm52.row 4 rfl)))
 refine lst rfl (m_store 1 22 _ _ 0 (v53) (old := #[v23, v24, J (((spent_m d).1).fuse), .bool (((spent_m d).1).down)]) (new := #[v53, v24, J (((spent_m d).1).fuse), .bool (((spent_m d).1).down)]) hm52 rfl rfl rfl rfl rfl (by rw [cells_one ho56]; exact sz_22) (by rw [cells_one ho56]; exact (show 0 + 1 ≤ 4 from by decide)) (one_all ho56) (by rw [cells_one ho56]; rfl) (fun w54 hm55 => ?_))
 refine wn (tj (hK47 _ _ (wk (fun K57 hK57 => (wk (fun K58 hK58 => (wq ?_)))))))
 refine la 6 (J 0) ?_
 simp only [nz]
 refine wn (tj (hK58 _ _ ?_))
 refine wp_cutK (fun a' w' => ∃ (y64 : Nat) (y65 : List (List UInt8)) (yu0 : Nat → Value), rflush_m_l0 d (((((spent_m d).1).loose).length - 0) + 1) (0, (([] : List (List UInt8)) ++ ((spent_m d).1).safe)) = .inl (y64, y65) ∧ (y65.length = ((spent_m d).1.safe).length) ∧ a' = ⟨#[.agg #[dv0, dv1, J (d.fuse), .bool (d.down)], Pp g4 0, Pp g7 0, J 0, J ((rready_m d)), .bool ((spent_m d).2), J (y64 : Int), .agg #[dv0, dv1, J (d.fuse), .bool (d.down)], J ((rready_m d)), J ((rready_m d)), .bool (decide (¬ (rready_m d) = 0)), undef, undef, .tuple #[.agg #[v23, v24, J (((spent_m d).1).fuse), .bool (((spent_m d).1).down)], .bool ((spent_m d).2)], .agg #[dv0, dv1, J (d.fuse), .bool (d.down)], .tuple #[.agg #[v23, v24, J (((spent_m d).1).fuse), .bool (((spent_m d).1).down)], .bool ((spent_m d).2)], .agg #[v23, v24, J (((spent_m d).1).fuse), .bool (((spent_m d).1).down)], .bool ((spent_m d).2), .bool ((spent_m d).2), .bool (!((spent_m d).2)), undef, v50, Pp g4 0, v23, v53, Pp g4 0, yu0 0, yu0 1, yu0 2, yu0 3, yu0 4, yu0 5, yu0 6, yu0 7, yu0 8, yu0 9, yu0 10, yu0 11, yu0 12, yu0 13, yu0 14, yu0 15, yu0 16, yu0 17, yu0 18, yu0 19, yu0 20, yu0 21, undef, undef], []⟩ ∧ Mm none S w w' [.see (DkR d dv0 dv1) Fd, .blk g4 #[v53, v24, J (((spent_m d).1).fuse), .bool (((spent_m d).1).down)] 25, .blk g7 #[.slice none 0 0, .slice none 0 0, J 0, .bool false] 25, .see (DkR ((spent_m d).1) v23 v24) F26, .row v53 y65.length (y65.flatMap eS) 9 1]) ?_ ?_
 ·refine wp_block ?_
  refine wp_loop_n (fun n' a' w' => ∃ (n61 : Nat) (x59 : Nat) (l60 : List (List UInt8)) (u0 : Nat → Value), n' = n61 ∧ ((((spent_m d).1).loose).length - x59) < n61 ∧ rflush_m_l0 d (((((spent_m d).1).loose).length - 0) + 1) (0, (([] : List (List UInt8)) ++ ((spent_m d).1).safe)) = rflush_m_l0 d n61 (x59, l60) ∧ (l60.length = ((spent_m d).1.safe).length) ∧ a' = ⟨#[.agg #[dv0, dv1, J (d.fuse), .bool (d.down)], Pp g4 0, Pp g7 0, J 0, J ((rready_m d)), .bool ((spent_m d).2), J (x59 : Int), .agg #[dv0, dv1, J (d.fuse), .bool (d.down)], J ((rready_m d)), J ((rready_m d)), .bool (decide (¬ (rready_m d) = 0)), undef, undef, .tuple #[.agg #[v23, v24, J (((spent_m d).1).fuse), .bool (((spent_m d).1).down)], .bool ((spent_m d).2)], .agg #[dv0, dv1, J (d.fuse), .bool (d.down)], .tuple #[.agg #[v23, v24, J (((spent_m d).1).fuse), .bool (((spent_m d).1).down)], .bool ((spent_m d).2)], .agg #[v23, v24, J (((spent_m d).1).fuse), .bool (((spent_m d).1).down)], .bool ((spent_m d).2), .bool ((spent_m d).2), .bool (!((spent_m d).2)), undef, v50, Pp g4 0, v23, v53, Pp g4 0, u0 0, u0 1, u0 2, u0 3, u0 4, u0 5, u0 6, u0 7, u0 8, u0 9, u0 10, u0 11, u0 12, u0 13, u0 14, u0 15, u0 16, u0 17, u0 18, u0 19, u0 20, u0 21, undef, undef], []⟩ ∧ Mm none S w w' [.see (DkR d dv0 dv1) Fd, .blk g4 #[v53, v24, J (((spent_m d).1).fuse), .bool (((spent_m d).1).down)] 25, .blk g7 #[.slice none 0 0, .slice none 0 0, J 0, .bool false] 25, .see (DkR ((spent_m d).1) v23 v24) F26, .row v53 l60.length (l60.flatMap eS) 9 1]) ⟨(((((spent_m d).1).loose).length - 0) + 1), 0, (([] : List (List UInt8)) ++ ((spent_m d).1).safe), (fun qq => List.getD [undef, undef, undef, undef, undef, undef, undef, undef, undef, undef, undef, undef, undef, undef, undef, undef, undef, undef, undef, undef, undef, undef] qq undef), rfl, Nat.lt_succ_self _, rfl, rfl, rfl, hm55⟩ ?_
  rintro n61 _ w67 ⟨_, x59, l60, u0, rfl, hl71, hi63, hls, rfl, hm68⟩ R69 hR69
  obtain ⟨k62, rfl⟩ : ∃ k, n61 = k + 1 := ⟨n61 - 1, by omega⟩
  refine wk (fun K72 hK72 => (wk (fun K73 hK73 => (wq ?_))))
  refine lm 26 (J (x59 : Int)) ?_
  refine lw 27 (Pp g4 1) (r_fa25_1 g4 0 rfl rfl) ?_
  refine lw 28 (v24) (r_load (hm68.at 1 rfl) rfl Tryd.underlying23 rfl rfl rfl) ?_
  simp only [nz]
  refine lw 29 (J (((((spent_m d).1).loose).length : Nat) : Int)) (s_len ((hm68.see 3 rfl).2) rfl Tryd.underlying23 rfl) ?_
  refine lw 30 (.bool (decide (x59 < (((spent_m d).1).loose).length))) (r_lss x59 ((((spent_m d).1).loose).length) rfl rfl rfl) ?_
  simp only [nz]
  refine wn (tj (hK73 _ _ ?_))
  refine cond_d (x59 < (((spent_m d).1).loose).length) rfl (fun hc74 => ?_) (fun hc74 => ?_)
  rotate_left
  ·refine wp_exit (then_x (then_x (blk_x ?_)))
   refine tj ?_
   exact ⟨x59, l60, (fun qq => List.getD [J (x59 : Int), Pp g4 1, v24, J (((((spent_m d).1).loose).length : Nat) : Int), .bool (decide (x59 < (((spent_m d).1).loose).length)), u0 5, u0 6, u0 7, u0 8, u0 9, u0 10, u0 11, u0 12, u0 13, u0 14, u0 15, u0 16, u0 17, u0 18, u0 19, u0 20, u0 21] qq undef), (hi63.trans (show rflush_m_b0 d (rflush_m_l0 d k62) x59 l60 = .inl (x59, l60) from by unfold rflush_m_b0; rw [if_neg hc74] <;> rfl)), hls, rfl, hm68⟩
  refine wp_skip (tj (hK72 _ _ (wk (fun K75 hK75 => ?_))))
  refine wp_block ?_
  have hm76 := hm68.drew
  refine wp_region_held_drew (S := fun w' => Mem.Blk w' g4 (#[v53, v24, J (((spent_m d).1).fuse), .bool (((spent_m d).1).down)]) 25 ∧ Rs eWr 2 (((spent_m d).1).loose) v24 w') (by kernel_rfl) (⟨hm76.at 1 rfl, ((hm76.see 3 rfl).2)⟩) (fun _ => ?_)
  generalize w67.drew = w77 at *
  refine tk 0 33 (Pp g4 0) rfl rfl (fun _ hw => r_fa25_0 g4 0 rfl rfl) (⟨hm76.at 1 rfl, ((hm76.see 3 rfl).2)⟩) ?_
  simp only [nz]
  refine tk 1 34 (v53) rfl rfl (fun _ hw => r_load hw.1 rfl Tryd.underlying22 rfl rfl rfl) (⟨hm76.at 1 rfl, ((hm76.see 3 rfl).2)⟩) ?_
  simp only [nz]
  refine tk 2 35 (Pp g4 1) rfl rfl (fun _ hw => r_fa25_1 g4 0 rfl rfl) (⟨hm76.at 1 rfl, ((hm76.see 3 rfl).2)⟩) ?_
  simp only [nz]
  refine tk 3 36 (v24) rfl rfl (fun _ hw => r_load hw.1 rfl Tryd.underlying23 rfl rfl rfl) (⟨hm76.at 1 rfl, ((hm76.see 3 rfl).2)⟩) ?_
  simp only [nz]
  refine tk 4 37 (J (x59 : Int)) rfl rfl (fun _ hw => run_mv rfl rfl) (⟨hm76.at 1 rfl, ((hm76.see 3 rfl).2)⟩) ?_
  simp only [nz]
  refine tk 5 38 (.pointer (some ⟨(bk v24), (po v24 + x59 * 2), none⟩)) rfl rfl (fun _ hw => r_ixv ((hm76.see 3 rfl).2) x59 (by omega) Tryd.underlying23 sz_51 rfl rfl rfl) (⟨hm76.at 1 rfl, ((hm76.see 3 rfl).2)⟩) ?_
  simp only [nz]
  refine tk 6 39 (.pointer (some ⟨(bk v24), ((po v24 + x59 * 2) + 0), none⟩)) rfl rfl (fun _ hw => r_fa51_0 (bk v24) (po v24 + x59 * 2) rfl rfl) (⟨hm76.at 1 rfl, ((hm76.see 3 rfl).2)⟩) ?_
  simp only [nz]
  refine tk 7 40 (J (((((spent_m d).1).loose).getD x59 dWr).at_)) rfl rfl (fun _ hw => r_cellw (Rs.cell hw.2 eWr_len dWr x59 (by omega) 0 _ rfl) Tryd.underlying3 rfl rfl rfl) (⟨hm76.at 1 rfl, ((hm76.see 3 rfl).2)⟩) ?_
  simp only [nz]
  refine tk 8 41 (Pp g4 1) rfl rfl (fun _ hw => r_fa25_1 g4 0 rfl rfl) (⟨hm76.at 1 rfl, ((hm76.see 3 rfl).2)⟩) ?_
  simp only [nz]
  refine tk 9 42 (v24) rfl rfl (fun _ hw => r_load hw.1 rfl Tryd.underlying23 rfl rfl rfl) (⟨hm76.at 1 rfl, ((hm76.see 3 rfl).2)⟩) ?_
  simp only [nz]
  refine tk 10 43 (J (x59 : Int)) rfl rfl (fun _ hw => run_mv rfl rfl) (⟨hm76.at 1 rfl, ((hm76.see 3 rfl).2)⟩) ?_
  simp only [nz]
  refine tk 11 44 (.pointer (some ⟨(bk v24), (po v24 + x59 * 2), none⟩)) rfl rfl (fun _ hw => r_ixv ((hm76.see 3 rfl).2) x59 (by omega) Tryd.underlying23 sz_51 rfl rfl rfl) (⟨hm76.at 1 rfl, ((hm76.see 3 rfl).2)⟩) ?_
  simp only [nz]
  refine tk 12 45 (.pointer (some ⟨(bk v24), ((po v24 + x59 * 2) + 1), none⟩)) rfl rfl (fun _ hw => r_fa51_1 (bk v24) (po v24 + x59 * 2) rfl rfl) (⟨hm76.at 1 rfl, ((hm76.see 3 rfl).2)⟩) ?_
  simp only [nz]
  refine tk 13 46 (.string (tx (((((spent_m d).1).loose).getD x59 dWr).data))) rfl rfl (fun _ hw => r_cellw (Rs.cell hw.2 eWr_len dWr x59 (by omega) 1 _ rfl) Tryd.underlying9 rfl rfl rfl) (⟨hm76.at 1 rfl, ((hm76.see 3 rfl).2)⟩) ?_
  simp only [nz]
  refine tk 14 47 (.pointer (some ⟨(bk v53), (po v53 + (((((spent_m d).1).loose).getD x59 dWr).at_).toNat * 1), none⟩)) rfl rfl (fun _ hw => r_ixvZ (Rs.row (hm76.row 4 rfl)) (((((spent_m d).1).loose).getD x59 dWr).at_) (rflush_ix ‹¬ ¬ rready_m d = 0› _ (by assumption)).1 (by have := (rflush_ix ‹¬ ¬ rready_m d = 0› _ (by assumption)).2; omega) Tryd.underlying22 sz_9 rfl rfl rfl) (⟨hm76.at 1 rfl, ((hm76.see 3 rfl).2)⟩) ?_
  simp only [nz]
  refine one_ready 15 (by kernel_rfl) ?_
  refine opd rfl (wanted_none rfl) (m_setR 4 (l := l60) ((((((spent_m d).1).loose).getD x59 dWr).at_).toNat) (((((spent_m d).1).loose).getD x59 dWr).data) (.string (tx (((((spent_m d).1).loose).getD x59 dWr).data))) hm76 rfl rfl rfl (by have := (rflush_ix ‹¬ ¬ rready_m d = 0› _ (by assumption)); omega) rfl rfl sz_9 eS_len rfl rfl (fun w78 hm79 => ?_))
  refine ⟨⟨hm79.at 1 rfl, ((hm79.see 3 rfl).2)⟩, ?_⟩
  refine wpAnyH_done (by kernel_rfl) ?_ _
  refine blk_n (tj (hK75 _ _ (wq ?_)))
  refine lm 31 (J (x59 : Int)) ?_
  refine lw 32 (J (((x59 + 1) : Nat) : Int)) (r_add x59 1 (show (x59 + 1) < 9223372036854775808 from by omega) rfl rfl rfl) ?_
  refine la 6 (J (((x59 + 1) : Nat) : Int)) ?_
  simp only [nz]
  refine wn ?_
  refine tj (hR69 _ _ _ ⟨k62, (x59 + 1), (l60.set ((((((spent_m d).1).loose).getD x59 dWr).at_).toNat) (((((spent_m d).1).loose).getD x59 dWr).data)), (fun qq => List.getD [J (x59 : Int), Pp g4 1, v24, J (((((spent_m d).1).loose).length : Nat) : Int), .bool (decide (x59 < (((spent_m d).1).loose).length)), J (x59 : Int), J (((x59 + 1) : Nat) : Int), Pp g4 0, v53, Pp g4 1, v24, J (x59 : Int), .pointer (some ⟨(bk v24), (po v24 + x59 * 2), none⟩), .pointer (some ⟨(bk v24), ((po v24 + x59 * 2) + 0), none⟩), J (((((spent_m d).1).loose).getD x59 dWr).at_), Pp g4 1, v24, J (x59 : Int), .pointer (some ⟨(bk v24), (po v24 + x59 * 2), none⟩), .pointer (some ⟨(bk v24), ((po v24 + x59 * 2) + 1), none⟩), .string (tx (((((spent_m d).1).loose).getD x59 dWr).data)), .pointer (some ⟨(bk v53), (po v53 + (((((spent_m d).1).loose).getD x59 dWr).at_).toNat * 1), none⟩)] qq undef), rfl, (by omega), (hi63.trans (show rflush_m_b0 d (rflush_m_l0 d k62) x59 l60 = rflush_m_l0 d k62 ((x59 + 1), (l60.set ((((((spent_m d).1).loose).getD x59 dWr).at_).toNat) (((((spent_m d).1).loose).getD x59 dWr).data))) from by unfold rflush_m_b0; rw [if_pos hc74] <;> rfl)), (by rw [List.length_set]; exact hls), rfl, hm79⟩ ?_)
  omega
 rintro _ w80 ⟨y64, y65, yu0, hx66, hls, rfl, hm81⟩
 have hq82 : rflush_m d = rflush_m_k0 d y64 y65 := (show rflush_m d = rflush_m_k0 d y64 y65 from by unfold rflush_m; rw [if_neg hc13, if_neg hc40, hx66] <;> rfl)
 refine tj (hK57 _ _ (wk (fun K83 hK83 => (wq ?_))))
 refine lw 48 (Pp g4 1) (r_fa25_1 g4 0 rfl rfl) ?_
 simp only [nz]
 have ho86 := (show (Value.slice none 0 0).oneCell' = true from rfl)
 refine lst rfl (m_store 1 23 _ _ 1 (.slice none 0 0) (old := #[v53, v24, J (((spent_m d).1).fuse), .bool (((spent_m d).1).down)]) (new := #[v53, .slice none 0 0, J (((spent_m d).1).fuse), .bool (((spent_m d).1).down)]) hm81 rfl rfl rfl rfl rfl (by rw [cells_one ho86]; exact sz_23) (by rw [cells_one ho86]; exact (show 1 + 1 ≤ 4 from by decide)) (one_all ho86) (by rw [cells_one ho86]; rfl) (fun w84 hm85 => ?_))
 refine wn (tj (hK83 _ _ (wk (fun K87 hK87 => (wq ?_)))))
 refine lw 49 (.agg #[v53, .slice none 0 0, J (((spent_m d).1).fuse), .bool (((spent_m d).1).down)]) (r_whole (hm85.at 1 rfl) Tryd.underlying25 rfl (by exact sz_25) rfl rfl) ?_
 simp only [nz]
 have ho90 := (rd_one (Rs.row (hm85.row 4 rfl)))
 have ho91 := (show (Value.slice none 0 0).oneCell' = true from rfl)
 refine lst rfl (m_store 2 25 _ _ 0 (.agg #[v53, .slice none 0 0, J (((spent_m d).1).fuse), .bool (((spent_m d).1).down)]) (old := #[.slice none 0 0, .slice none 0 0, J 0, .bool false]) (new := #[v53, .slice none 0 0, J (((spent_m d).1).fuse), .bool (((spent_m d).1).down)]) hm85 rfl rfl rfl rfl rfl (by exact sz_25) (show 0 + 4 ≤ 4 from by decide) a4 rfl (fun w88 hm89 => ?_))
 refine la 3 (J 0) ?_
 simp only [nz]
 refine wn (tj (hK87 _ _ (wp_ret ?_)))
 have hm92 : Mm none S w w88 [.see (DkR d dv0 dv1) Fd, .blk g4 #[v53, .slice none 0 0, J (((spent_m d).1).fuse), .bool (((spent_m d).1).down)] 25, .blk g7 #[v53, .slice none 0 0, J (((spent_m d).1).fuse), .bool (((spent_m d).1).down)] 25, .see (DkR ((spent_m d).1) v23 v24) F26, .see (Rs eS 1 y65 v53) (fp v53 (y65.flatMap eS))] := hm89.freeze 4 rfl
 have he93 : rflush_m d = ((Dk.mk y65 ([] : List Wr) (((spent_m d).1).fuse) (((spent_m d).1).down)), 0) := (hq82.trans (show rflush_m_k0 d y64 y65 = ((Dk.mk y65 ([] : List Wr) (((spent_m d).1).fuse) (((spent_m d).1).down)), 0) from by unfold rflush_m_k0; rfl))
 exact ⟨rfl, .tuple #[.agg #[v53, .slice none 0 0, J (((spent_m d).1).fuse), .bool (((spent_m d).1).down)], J 0], Mem.res_ct rfl rfl (hm92.at 2 rfl) Tryd.underlying25 rfl (by exact sz_25) rfl, ⟨⟨_, rfl, v53, (.slice none 0 0), (by rw [he93]), by rw [he93]; exact hm92.give ((hm92.from 4 rfl).and (From.pure (fun W => Rs.nil eWr 2 W)))⟩, hm92.below⟩⟩
theorem run_rflush {o : Oper} {a : Act} {w : World} {x0 : Operand} {v0 : Value} (ho : o.op = .call { callee := .value (.func 69), args := #[x0], argTypes := #[25] }) (h0 : a.eval x0 = v0) :
  (execOp a.eval o).run Tryd.prog w = .ok (.enter 69 #[v0]) w := by
 unfold execOp
 simp only [ho]
 have hf : a.eval (.func 69) = .func (.func 69) #[] #[] := rfl
 generalize a.eval = f at *
 go_simp
end Go.Proofs.YtnmaaijeamlplaaDoor.Bk
