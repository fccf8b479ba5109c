import Derived.Test.YtnmaaijeamlplaaDoorBkT
import Derived.Test.YtnmaaijeamlplaaDoorBkB
import Derived.Test.YtnmaaijeamlplaaDoorBkM
set_option linter.unusedVariables false
set_option linter.unusedSimpArgs false
set_option maxHeartbeats 4000000
set_option maxRecDepth 100000
namespace Go.Proofs.YtnmaaijeamlplaaDoor.Bk
open Go.RowKit
open Go.Proofs.YtnmaaijeamlplaaDoor.Sym Go.Proofs.YtnmaaijeamlplaaDoor.Mem
open Go.Proofs.YtnmaaijeamlplaaDoor.Sx hiding Mm m_alloc m_store m_call m_callx
attribute [local irreducible] wpList Oper.wp
def burnD (d : Dk) : Dk × Int := if d.fuse = 0 then ({ d with down := true }, 11) else if 0 < d.fuse then ({ d with fuse := d.fuse - 1 }, 0) else (d, 0)
theorem burn_eq (d : Dk) : burn_m d = burnD d := by
 unfold burn_m burnD
 rw [copied_eq]
theorem burn_loose (d : Dk) : (burn_m d).1.loose = d.loose := by rw [burn_eq]; unfold burnD; split; rfl; split <;> rfl
theorem burn_safe (d : Dk) : (burn_m d).1.safe = d.safe := by rw [burn_eq]; unfold burnD; split; rfl; split <;> rfl
theorem burn_llen (d : Dk) : (burn_m d).1.loose.length = d.loose.length := by rw [burn_loose]
theorem burn_slen (d : Dk) : (burn_m d).1.safe.length = d.safe.length := by rw [burn_safe]
theorem flush_ix {d : Dk} (h : ¬ ¬ ready_m d = 0) (x : Nat) (hx : x < (burn_m d).1.loose.length) : 0 ≤ ((burn_m d).1.loose.getD x dWr).at_ ∧ ((burn_m d).1.loose.getD x dWr).at_ < ((burn_m d).1.safe.length : Int) := by
 have hr := (ready_ok (Classical.not_not.1 h)).1
 rw [burn_loose, burn_safe]
 rw [burn_loose] at hx
 have := hr.2.2.2 _ (getD_mem d.loose x dWr hx)
 exact ⟨this.1, this.2.1⟩
def put_m (d : Dk) (at_ : Int) (data : List UInt8) : Dk × Int :=
 if ¬ (ready_m d) = 0 then
  (d, (ready_m d))
 else
  if at_ < 0 then
   (d, 1)
  else
   if ((d.safe.length : Nat) : Int) ≤ at_ then
    (d, 1)
   else
    if (!(full_m data)) = true then
     (d, 1)
    else
     if ¬ (burn_m d).2 = 0 then
      (((burn_m d).1), (burn_m d).2)
     else
      ((Dk.mk (((burn_m d).1).safe) ((((burn_m d).1).loose) ++ [(Wr.mk at_ data)]) (((burn_m d).1).fuse) (((burn_m d).1).down)), 0)
theorem put_any (d : Dk) (at_ : Int) (data : List UInt8) (dv0 : Value) (dv1 : Value) (S : Nat → Prop) (w : World) (hd : From S (DkR d dv0 dv1) w) (hp0 : d.safe.length ≤ 8796093022208) (hp1 : d.loose.length ≤ 5864070000000) (hp2 : d.fuse ≤ 9223372036854775807) : Calls Tryd.prog 72 #[.agg #[dv0, dv1, J (d.fuse), .bool (d.down)], J (at_), .string (tx data)] w (fun e w' => (∃ v, e = .returned v ∧ ∃ (o0 : Value) (o1 : Value), v = .tuple #[.agg #[o0, o1, J (((put_m d at_ data).1).fuse), .bool (((put_m d at_ data).1).down)], J ((put_m d at_ data).2)] ∧ Gives w w' S (DkR ((put_m d at_ data).1) o0 o1)) ∧ Below w.heap.size w w') := by
 go_enter Tryd.func72, Tryd.ntmps72
 have hm00 := Mm.nil none S w
 obtain ⟨Fd, hm01⟩ := hm00.come hd
 have hm0 := hm01
 refine wk (fun K1 hK1 => (wq ?_))
 refine lst rfl (m_alloc (c := #[dv0, dv1, J (d.fuse), .bool (d.down)]) (T := 25) hm0 3 rfl (run_box rfl rfl) (fun g4 w2 hm3 => ?_))
 simp only [nz]
 refine lst rfl (m_alloc (c := #[.slice none 0 0, .slice none 0 0, J 0, .bool false]) (T := 25) hm3 6 rfl (by unfold execOp; go_simp; try rfl) (fun g7 w5 hm6 => ?_))
 simp only [nz]
 refine la 7 (J 0) ?_
 simp only [nz]
 refine wn (tj (hK1 _ _ (wk (fun K8 hK8 => (wq ?_)))))
 refine lw 9 (.agg #[dv0, dv1, J (d.fuse), .bool (d.down)]) (r_whole (hm6.at 1 rfl) Tryd.underlying25 rfl (by exact sz_25) rfl rfl) ?_
 simp only [nz]
 refine lst rfl (m_call hm6 10 (J ((ready_m d))) rfl (run_ready rfl rfl) (ready_any d dv0 dv1 _ (hm6.see 0 rfl) (by omega)) (fun w9 hm10 => ?_))
 simp only [nz]
 refine la 8 (J ((ready_m d))) ?_
 simp only [nz]
 refine wn (tj (hK8 _ _ (wk (fun K11 hK11 => (wk (fun K12 hK12 => (wq ?_)))))))
 refine lm 11 (J ((ready_m d))) ?_
 refine lw 12 (.bool (decide (¬ (ready_m d) = 0))) (z_neq (ready_m d) 0 rfl rfl rfl) ?_
 simp only [nz]
 refine wn (tj (hK12 _ _ ?_))
 refine cond_d (¬ (ready_m d) = 0) rfl (fun hc13 => ?_) (fun hc13 => ?_)
 ·refine wk (fun K14 hK14 => (wq ?_))
  refine lw 13 (.agg #[dv0, dv1, J (d.fuse), .bool (d.down)]) (r_whole (hm10.at 1 rfl) Tryd.underlying25 rfl (by exact sz_25) rfl rfl) ?_
  refine lm 14 (J ((ready_m d))) ?_
  simp only [nz]
  have ho17 := (rd_one ((hm10.see 0 rfl).1))
  have ho18 := (rd_one ((hm10.see 0 rfl).2))
  refine lst rfl (m_store 2 25 _ _ 0 (.agg #[dv0, dv1, J (d.fuse), .bool (d.down)]) (old := #[.slice none 0 0, .slice none 0 0, J 0, .bool false]) (new := #[dv0, dv1, J (d.fuse), .bool (d.down)]) hm10 rfl rfl rfl rfl rfl (by exact sz_25) (show 0 + 4 ≤ 4 from by decide) a4 rfl (fun w15 hm16 => ?_))
  refine la 7 (J ((ready_m d))) ?_
  simp only [nz]
  refine wn (tj (hK14 _ _ (wp_ret (then_r ?_))))
  have he19 : put_m d at_ data = (d, (ready_m d)) := by unfold put_m; rw [if_pos hc13] <;> rfl
  exact ⟨rfl, .tuple #[.agg #[dv0, dv1, J (d.fuse), .bool (d.down)], J ((ready_m d))], Mem.res_ct rfl rfl (hm16.at 2 rfl) Tryd.underlying25 rfl (by exact sz_25) rfl, ⟨⟨_, rfl, dv0, dv1, (by rw [he19]), by rw [he19]; exact hm16.give (hm16.from 0 rfl)⟩, hm16.below⟩⟩
 refine wp_skip (tj (hK11 _ _ (wk (fun K20 hK20 => (wk (fun K21 hK21 => (wq ?_)))))))
 refine lm 15 (J (at_)) ?_
 simp only [nz]
 refine lvb 16 (at_ < 0) rfl rfl (z_lss at_ 0 rfl rfl rfl) (fun hs22 => ?_) (fun hs22 => ?_)
 ·simp only [nz]
  refine lm 17 (.bool true) ?_
  simp only [nz]
  refine lst_skip 18 rfl rfl ?_
  simp only [nz]
  refine lst_skip 19 rfl rfl ?_
  simp only [nz]
  refine lst_skip 20 rfl rfl ?_
  simp only [nz]
  refine lst_skip 21 rfl rfl ?_
  simp only [nz]
  refine lst_skip 22 rfl rfl ?_
  simp only [nz]
  refine lw 23 (.bool true) (run_pick rfl rfl rfl) ?_
  refine lm 24 (.bool true) ?_
  simp only [nz]
  refine lst_skip 25 rfl rfl ?_
  simp only [nz]
  refine lst_skip 26 rfl rfl ?_
  simp only [nz]
  refine lst_skip 27 rfl rfl ?_
  simp only [nz]
  refine lw 28 (.bool true) (run_pick rfl rfl rfl) ?_
  simp only [nz]
  refine wn (tj (hK21 _ _ ?_))
  refine cond_t rfl ?_
  refine wk (fun K23 hK23 => (wq ?_))
  refine lw 29 (.agg #[dv0, dv1, J (d.fuse), .bool (d.down)]) (r_whole (hm10.at 1 rfl) Tryd.underlying25 rfl (by exact sz_25) rfl rfl) ?_
  simp only [nz]
  have ho26 := (rd_one ((hm10.see 0 rfl).1))
  have ho27 := (rd_one ((hm10.see 0 rfl).2))
  refine lst rfl (m_store 2 25 _ _ 0 (.agg #[dv0, dv1, J (d.fuse), .bool (d.down)]) (old := #[.slice none 0 0, .slice none 0 0, J 0, .bool false]) (new := #[dv0, dv1, J (d.fuse), .bool (d.down)]) hm10 rfl rfl rfl rfl rfl (by exact sz_25) (show 0 + 4 ≤ 4 from by decide) a4 rfl (fun w24 hm25 => ?_))
  refine la 7 (J 1) ?_
  simp only [nz]
  refine wn (tj (hK23 _ _ (wp_ret (then_r ?_))))
  have he28 : put_m d at_ data = (d, 1) := by unfold put_m; rw [if_neg hc13, if_pos hs22] <;> rfl
  exact ⟨rfl, .tuple #[.agg #[dv0, dv1, J (d.fuse), .bool (d.down)], J 1], Mem.res_ct rfl rfl (hm25.at 2 rfl) Tryd.underlying25 rfl (by exact sz_25) rfl, ⟨⟨_, rfl, dv0, dv1, (by rw [he28]), by rw [he28]; exact hm25.give (hm25.from 0 rfl)⟩, hm25.below⟩⟩
 simp only [nz]
 refine lm 17 (.bool false) ?_
 refine lm 18 (J (at_)) ?_
 refine lw 19 (Pp g4 0) (r_fa25_0 g4 0 rfl rfl) ?_
 simp only [nz]
 refine lw 20 (dv0) (r_load (hm10.at 1 rfl) rfl Tryd.underlying22 rfl rfl rfl) ?_
 refine lw 21 (J (d.safe.length : Int)) (s_len ((hm10.see 0 rfl).1) rfl Tryd.underlying22 rfl) ?_
 simp only [nz]
 refine lvb 22 ((d.safe.length : Int) ≤ at_) rfl rfl (z_geq at_ (d.safe.length : Int) rfl rfl rfl) (fun hs29 => ?_) (fun hs29 => ?_)
 ·simp only [nz]
  refine lw 23 (.bool true) (run_pickf rfl rfl rfl) ?_
  refine lm 24 (.bool true) ?_
  simp only [nz]
  refine lst_skip 25 rfl rfl ?_
  simp only [nz]
  refine lst_skip 26 rfl rfl ?_
  simp only [nz]
  refine lst_skip 27 rfl rfl ?_
  simp only [nz]
  refine lw 28 (.bool true) (run_pick rfl rfl rfl) ?_
  simp only [nz]
  refine wn (tj (hK21 _ _ ?_))
  refine cond_t rfl ?_
  refine wk (fun K30 hK30 => (wq ?_))
  refine lw 29 (.agg #[dv0, dv1, J (d.fuse), .bool (d.down)]) (r_whole (hm10.at 1 rfl) Tryd.underlying25 rfl (by exact sz_25) rfl rfl) ?_
  simp only [nz]
  have ho33 := (rd_one ((hm10.see 0 rfl).1))
  have ho34 := (rd_one ((hm10.see 0 rfl).2))
  refine lst rfl (m_store 2 25 _ _ 0 (.agg #[dv0, dv1, J (d.fuse), .bool (d.down)]) (old := #[.slice none 0 0, .slice none 0 0, J 0, .bool false]) (new := #[dv0, dv1, J (d.fuse), .bool (d.down)]) hm10 rfl rfl rfl rfl rfl (by exact sz_25) (show 0 + 4 ≤ 4 from by decide) a4 rfl (fun w31 hm32 => ?_))
  refine la 7 (J 1) ?_
  simp only [nz]
  refine wn (tj (hK30 _ _ (wp_ret (then_r ?_))))
  have he35 : put_m d at_ data = (d, 1) := by unfold put_m; rw [if_neg hc13, if_neg hs22, if_pos hs29] <;> rfl
  exact ⟨rfl, .tuple #[.agg #[dv0, dv1, J (d.fuse), .bool (d.down)], J 1], Mem.res_ct rfl rfl (hm32.at 2 rfl) Tryd.underlying25 rfl (by exact sz_25) rfl, ⟨⟨_, rfl, dv0, dv1, (by rw [he35]), by rw [he35]; exact hm32.give (hm32.from 0 rfl)⟩, hm32.below⟩⟩
 simp only [nz]
 refine lw 23 (.bool false) (run_pickf rfl rfl rfl) ?_
 refine lm 24 (.bool false) ?_
 refine lm 25 (.string (tx data)) ?_
 simp only [nz]
 refine lst rfl (m_call hm10 26 (.bool ((full_m data))) rfl (run_full rfl rfl) (full_any data  _  ) (fun w36 hm37 => ?_))
 simp only [nz]
 refine lw 27 (.bool (!(full_m data))) (r_not (full_m data) rfl rfl) ?_
 refine lw 28 (.bool (!(full_m data))) (run_pickf rfl rfl rfl) ?_
 simp only [nz]
 refine wn (tj (hK21 _ _ ?_))
 refine cond_B (!(full_m data)) rfl (fun hc38 => ?_) (fun hc38 => ?_)
 ·refine wk (fun K39 hK39 => (wq ?_))
  refine lw 29 (.agg #[dv0, dv1, J (d.fuse), .bool (d.down)]) (r_whole (hm37.at 1 rfl) Tryd.underlying25 rfl (by exact sz_25) rfl rfl) ?_
  simp only [nz]
  have ho42 := (rd_one ((hm37.see 0 rfl).1))
  have ho43 := (rd_one ((hm37.see 0 rfl).2))
  refine lst rfl (m_store 2 25 _ _ 0 (.agg #[dv0, dv1, J (d.fuse), .bool (d.down)]) (old := #[.slice none 0 0, .slice none 0 0, J 0, .bool false]) (new := #[dv0, dv1, J (d.fuse), .bool (d.down)]) hm37 rfl rfl rfl rfl rfl (by exact sz_25) (show 0 + 4 ≤ 4 from by decide) a4 rfl (fun w40 hm41 => ?_))
  refine la 7 (J 1) ?_
  simp only [nz]
  refine wn (tj (hK39 _ _ (wp_ret (then_r ?_))))
  have he44 : put_m d at_ data = (d, 1) := by unfold put_m; rw [if_neg hc13, if_neg hs22, if_neg hs29, if_pos hc38] <;> rfl
  exact ⟨rfl, .tuple #[.agg #[dv0, dv1, J (d.fuse), .bool (d.down)], J 1], Mem.res_ct rfl rfl (hm41.at 2 rfl) Tryd.underlying25 rfl (by exact sz_25) rfl, ⟨⟨_, rfl, dv0, dv1, (by rw [he44]), by rw [he44]; exact hm41.give (hm41.from 0 rfl)⟩, hm41.below⟩⟩
 refine wp_skip (tj (hK20 _ _ (wk (fun K45 hK45 => (wq ?_)))))
 refine lw 31 (.agg #[dv0, dv1, J (d.fuse), .bool (d.down)]) (r_whole (hm37.at 1 rfl) Tryd.underlying25 rfl (by exact sz_25) rfl rfl) ?_
 simp only [nz]
 refine lst rfl (m_callx hm37 32 rfl (run_burn rfl rfl) (burn_any d dv0 dv1 _ (hm37.see 0 rfl) (by omega) (by omega) (by omega)) (fun vv50 w46 hR51 hb52 hm47 => ?_))
 obtain ⟨v48, v49, rfl, ho54, ho55, hne56⟩ := hR51
 have hm53 : Mm none S w w46 [.see (DkR d dv0 dv1) Fd, .blk g4 #[dv0, dv1, J (d.fuse), .bool (d.down)] 25, .blk g7 #[.slice none 0 0, .slice none 0 0, J 0, .bool false] 25, .row v48 (((burn_m d).1).safe).length ((((burn_m d).1).safe).flatMap eS) 9 1, .row v49 (((burn_m d).1).loose).length ((((burn_m d).1).loose).flatMap eWr) 51 2] := hm37.gained2 hb52 ho54 ho55 hne56
 clear hm47
 have hf57 : (burn_m d).1.loose.length = d.loose.length := burn_llen d
 have hf58 : (burn_m d).1.safe.length = d.safe.length := burn_slen d
 simp only [nz]
 refine lm 30 (.tuple #[.agg #[v48, v49, J (((burn_m d).1).fuse), .bool (((burn_m d).1).down)], J ((burn_m d).2)]) ?_
 refine lw 33 (.agg #[v48, v49, J (((burn_m d).1).fuse), .bool (((burn_m d).1).down)]) (run_ex rfl rfl rfl) ?_
 refine lw 34 (J ((burn_m d).2)) (run_ex rfl rfl rfl) ?_
 simp only [nz]
 have ho61 := (rd_one (Rs.row (hm53.row 3 rfl)))
 have ho62 := (rd_one (Rs.row (hm53.row 4 rfl)))
 refine lst rfl (m_store 1 25 _ _ 0 (.agg #[v48, v49, J (((burn_m d).1).fuse), .bool (((burn_m d).1).down)]) (old := #[dv0, dv1, J (d.fuse), .bool (d.down)]) (new := #[v48, v49, J (((burn_m d).1).fuse), .bool (((burn_m d).1).down)]) hm53 rfl rfl rfl rfl rfl (by exact sz_25) (show 0 + 4 ≤ 4 from by decide) a4 rfl (fun w59 hm60 => ?_))
 refine la 8 (J ((burn_m d).2)) ?_
 simp only [nz]
 refine wn (tj (hK45 _ _ (wk (fun K63 hK63 => (wk (fun K64 hK64 => (wq ?_)))))))
 refine lm 35 (J ((burn_m d).2)) ?_
 refine lw 36 (.bool (decide (¬ (burn_m d).2 = 0))) (z_neq ((burn_m d).2) 0 rfl rfl rfl) ?_
 simp only [nz]
 refine wn (tj (hK64 _ _ ?_))
 refine cond_d (¬ (burn_m d).2 = 0) rfl (fun hc65 => ?_) (fun hc65 => ?_)
 ·refine wk (fun K66 hK66 => (wq ?_))
  refine lw 37 (.agg #[v48, v49, J (((burn_m d).1).fuse), .bool (((burn_m d).1).down)]) (r_whole (hm60.at 1 rfl) Tryd.underlying25 rfl (by exact sz_25) rfl rfl) ?_
  refine lm 38 (J ((burn_m d).2)) ?_
  simp only [nz]
  have ho69 := (rd_one (Rs.row (hm60.row 3 rfl)))
  have ho70 := (rd_one (Rs.row (hm60.row 4 rfl)))
  refine lst rfl (m_store 2 25 _ _ 0 (.agg #[v48, v49, J (((burn_m d).1).fuse), .bool (((burn_m d).1).down)]) (old := #[.slice none 0 0, .slice none 0 0, J 0, .bool false]) (new := #[v48, v49, J (((burn_m d).1).fuse), .bool (((burn_m d).1).down)]) hm60 rfl rfl rfl rfl rfl (by exact sz_25) (show 0 + 4 ≤ 4 from by decide) a4 rfl (fun w67 hm68 => ?_))
  refine la 7 (J ((burn_m d).2)) ?_
  simp only [nz]
  refine wn (tj (hK66 _ _ (wp_ret (then_r ?_))))
  have hm71 : Mm none S w w67 [.see (DkR d dv0 dv1) Fd, .blk g4 #[v48, v49, J (((burn_m d).1).fuse), .bool (((burn_m d).1).down)] 25, .blk g7 #[v48, v49, J (((burn_m d).1).fuse), .bool (((burn_m d).1).down)] 25, .see (Rs eS 1 (((burn_m d).1).safe) v48) (fp v48 ((((burn_m d).1).safe).flatMap eS)), .row v49 (((burn_m d).1).loose).length ((((burn_m d).1).loose).flatMap eWr) 51 2] := hm68.freeze 3 rfl
  have hm72 : Mm none S w w67 [.see (DkR d dv0 dv1) Fd, .blk g4 #[v48, v49, J (((burn_m d).1).fuse), .bool (((burn_m d).1).down)] 25, .blk g7 #[v48, v49, J (((burn_m d).1).fuse), .bool (((burn_m d).1).down)] 25, .see (Rs eS 1 (((burn_m d).1).safe) v48) (fp v48 ((((burn_m d).1).safe).flatMap eS)), .see (Rs eWr 2 (((burn_m d).1).loose) v49) (fp v49 ((((burn_m d).1).loose).flatMap eWr))] := hm71.freeze 4 rfl
  have he73 : put_m d at_ data = (((burn_m d).1), (burn_m d).2) := by unfold put_m; rw [if_neg hc13, if_neg hs22, if_neg hs29, if_neg hc38, if_pos hc65] <;> rfl
  exact ⟨rfl, .tuple #[.agg #[v48, v49, J (((burn_m d).1).fuse), .bool (((burn_m d).1).down)], J ((burn_m d).2)], Mem.res_ct rfl rfl (hm72.at 2 rfl) Tryd.underlying25 rfl (by exact sz_25) rfl, ⟨⟨_, rfl, v48, v49, (by rw [he73]), by rw [he73]; exact hm72.give ((hm72.from 3 rfl).and (hm72.from 4 rfl))⟩, hm72.below⟩⟩
 refine wp_skip (tj (hK63 _ _ (wk (fun K74 hK74 => (wq ?_)))))
 refine lw 39 (Pp g4 1) (r_fa25_1 g4 0 rfl rfl) ?_
 refine lw 40 (v49) (r_load (hm60.at 1 rfl) rfl Tryd.underlying23 rfl rfl rfl) ?_
 refine lm 41 (J (at_)) ?_
 simp only [nz]
 refine lm 42 (.string (tx data)) ?_
 refine lw 43 (.agg #[J (at_), .string (tx data)]) (by unfold execOp; go_simp; try (first | rfl | (repeat' (first | rfl | apply And.intro)))) ?_
 simp only [nz]
 refine lst rfl (m_make (c := #[J (at_), .string (tx data)]) (T := 51) (fun g => Sl g 0 1 1) hm60 44 rfl (by unfold execOp; go_simp; try rfl) (fun g77 w75 hm76 => ?_))
 simp only [nz]
 obtain ⟨iq, hiq, hz1, hz2, hz3⟩ := inf_51
 refine lst rfl (m_appendR 4 (l := (((burn_m d).1).loose)) (l2 := [(Wr.mk at_ data)]) iq _ _ _ (Sl g77 0 1 1) hm76 rfl 45 rfl rfl Tryd.underlying23 hiq hz1 hz2 hz3 eWr_len eWr_one rfl (by decide) rfl rfl (Rs.blk (l := [(Wr.mk at_ data)]) (hm76.at 5 rfl) rfl rfl eWr_len (Nat.le_refl _)) (by simp; omega) (by simp; omega) (fun v80 w78 hm79 => ?_))
 simp only [nz]
 refine lw 46 (Pp g4 1) (r_fa25_1 g4 0 rfl rfl) ?_
 simp only [nz]
 have ho83 := (rd_one (Rs.row (hm79.row 4 rfl)))
 refine lst rfl (m_store 1 23 _ _ 1 (v80) (old := #[v48, v49, J (((burn_m d).1).fuse), .bool (((burn_m d).1).down)]) (new := #[v48, v80, J (((burn_m d).1).fuse), .bool (((burn_m d).1).down)]) hm79 rfl rfl rfl rfl rfl (by rw [cells_one ho83]; exact sz_23) (by rw [cells_one ho83]; exact (show 1 + 1 ≤ 4 from by decide)) (one_all ho83) (by rw [cells_one ho83]; rfl) (fun w81 hm82 => ?_))
 refine wn (tj (hK74 _ _ (wk (fun K84 hK84 => (wq ?_)))))
 refine lw 47 (.agg #[v48, v80, J (((burn_m d).1).fuse), .bool (((burn_m d).1).down)]) (r_whole (hm82.at 1 rfl) Tryd.underlying25 rfl (by exact sz_25) rfl rfl) ?_
 simp only [nz]
 have ho87 := (rd_one (Rs.row (hm82.row 3 rfl)))
 have ho88 := (rd_one (Rs.row (hm82.row 4 rfl)))
 refine lst rfl (m_store 2 25 _ _ 0 (.agg #[v48, v80, J (((burn_m d).1).fuse), .bool (((burn_m d).1).down)]) (old := #[.slice none 0 0, .slice none 0 0, J 0, .bool false]) (new := #[v48, v80, J (((burn_m d).1).fuse), .bool (((burn_m d).1).down)]) hm82 rfl rfl rfl rfl rfl (by exact sz_25) (show 0 + 4 ≤ 4 from by decide) a4 rfl (fun w85 hm86 => ?_))
 refine la 7 (J 0) ?_
 simp only [nz]
 refine wn (tj (hK84 _ _ (wp_ret ?_)))
 have hm89 : Mm none S w w85 [.see (DkR d dv0 dv1) Fd, .blk g4 #[v48, v80, J (((burn_m d).1).fuse), .bool (((burn_m d).1).down)] 25, .blk g7 #[v48, v80, J (((burn_m d).1).fuse), .bool (((burn_m d).1).down)] 25, .see (Rs eS 1 (((burn_m d).1).safe) v48) (fp v48 ((((burn_m d).1).safe).flatMap eS)), .row v80 ((((burn_m d).1).loose) ++ [(Wr.mk at_ data)]).length (((((burn_m d).1).loose) ++ [(Wr.mk at_ data)]).flatMap eWr) 51 2, .blk g77 #[J (at_), .string (tx data)] 51] := hm86.freeze 3 rfl
 have hm90 : Mm none S w w85 [.see (DkR d dv0 dv1) Fd, .blk g4 #[v48, v80, J (((burn_m d).1).fuse), .bool (((burn_m d).1).down)] 25, .blk g7 #[v48, v80, J (((burn_m d).1).fuse), .bool (((burn_m d).1).down)] 25, .see (Rs eS 1 (((burn_m d).1).safe) v48) (fp v48 ((((burn_m d).1).safe).flatMap eS)), .see (Rs eWr 2 ((((burn_m d).1).loose) ++ [(Wr.mk at_ data)]) v80) (fp v80 (((((burn_m d).1).loose) ++ [(Wr.mk at_ data)]).flatMap eWr)), .blk g77 #[J (at_), .string (tx data)] 51] := hm89.freeze 4 rfl
 have he91 : put_m d at_ data = ((Dk.mk (((burn_m d).1).safe) ((((burn_m d).1).loose) ++ [(Wr.mk at_ data)]) (((burn_m d).1).fuse) (((burn_m d).1).down)), 0) := by unfold put_m; rw [if_neg hc13, if_neg hs22, if_neg hs29, if_neg hc38, if_neg hc65] <;> rfl
 exact ⟨rfl, .tuple #[.agg #[v48, v80, J (((burn_m d).1).fuse), .bool (((burn_m d).1).down)], J 0], Mem.res_ct rfl rfl (hm90.at 2 rfl) Tryd.underlying25 rfl (by exact sz_25) rfl, ⟨⟨_, rfl, v48, v80, (by rw [he91]), by rw [he91]; exact hm90.give ((hm90.from 3 rfl).and (hm90.from 4 rfl))⟩, hm90.below⟩⟩
theorem run_put {o : Oper} {a : Act} {w : World} {x0 x1 x2 : Operand} {v0 v1 v2 : Value} (ho : o.op = .call { callee := .value (.func 72), args := #[x0, x1, x2], argTypes := #[25, 3, 9] }) (h0 : a.eval x0 = v0) (h1 : a.eval x1 = v1) (h2 : a.eval x2 = v2) :
  (execOp a.eval o).run Tryd.prog w = .ok (.enter 72 #[v0, v1, v2]) w := by
 unfold execOp
 simp only [ho]
 have hf : a.eval (.func 72) = .func (.func 72) #[] #[] := rfl
 generalize a.eval = f at *
 go_simp
def get_m_b0 (d : Dk) (at_ : Int) (rec : Int → Sum (Int) ((List UInt8) × Int)) (x23 : Int) : Sum (Int) ((List UInt8) × Int) :=
 if 0 ≤ x23 then
  if (d.loose.getD x23.toNat dWr).at_ = at_ then
   .inr (((d.loose.getD x23.toNat dWr).data), 0)
  else
   rec (x23 - (1 : Int))
 else
  .inl x23
def get_m_l0 (d : Dk) (at_ : Int) : Nat → Int → Sum (Int) ((List UInt8) × Int)
 | 0, zz => .inl zz
 | nq + 1, zz => get_m_b0 d at_ (get_m_l0 d at_ nq) zz
def get_m_k0 (d : Dk) (at_ : Int) (y27 : Int) : (List UInt8) × Int :=
 ((d.safe.getD at_.toNat []), 0)
def get_m (d : Dk) (at_ : Int) : (List UInt8) × Int :=
 if ¬ (ready_m d) = 0 then
  (([]), (ready_m d))
 else
  if at_ < 0 then
   (([]), 1)
  else
   if ((d.safe.length : Nat) : Int) ≤ at_ then
    (([]), 1)
   else
    fin (get_m_l0 d at_ (((((d.loose.length : Nat) : Int) - (1 : Int)) + 1).toNat + 1) (((d.loose.length : Nat) : Int) - (1 : Int))) (fun r => r) (fun zz => get_m_k0 d at_ zz)
theorem get_any (d : Dk) (at_ : Int) (dv0 : Value) (dv1 : Value) (w : World) (hd : DkR d dv0 dv1 w) (hp0 : d.safe.length ≤ 8796093022208) (hp1 : d.loose.length ≤ 5864070000000) : Calls Tryd.prog 29 #[.agg #[dv0, dv1, J (d.fuse), .bool (d.down)], J (at_)] w (fun e w' => e = .returned (.tuple #[.string (tx ((get_m d at_).1)), J ((get_m d at_).2)]) ∧ Below w.heap.size w w') := by
 go_enter Tryd.func29, Tryd.ntmps29
 have hm00 := Mm.nil none (fun _ => True) w
 obtain ⟨Fd, hm01⟩ : ∃ Fd, Mm none (fun _ => True) w w [.see (DkR d dv0 dv1) Fd] := hm00.come (DkR_all hd)
 have hm0 := hm01
 refine wk (fun K1 hK1 => (wq ?_))
 refine lst rfl (m_alloc (c := #[dv0, dv1, J (d.fuse), .bool (d.down)]) (T := 25) hm0 2 rfl (run_box rfl rfl) (fun g4 w2 hm3 => ?_))
 simp only [nz]
 refine la 4 (.string (tx ([]))) ?_
 refine la 5 (J 0) ?_
 simp only [nz]
 refine wn (tj (hK1 _ _ (wk (fun K5 hK5 => (wq ?_)))))
 refine lw 8 (.agg #[dv0, dv1, J (d.fuse), .bool (d.down)]) (r_whole (hm3.at 1 rfl) Tryd.underlying25 rfl (by exact sz_25) rfl rfl) ?_
 simp only [nz]
 refine lst rfl (m_call hm3 9 (J ((ready_m d))) rfl (run_ready rfl rfl) (ready_any d dv0 dv1 _ (hm3.see 0 rfl) (by omega)) (fun w6 hm7 => ?_))
 simp only [nz]
 refine la 6 (J ((ready_m d))) ?_
 simp only [nz]
 refine wn (tj (hK5 _ _ (wk (fun K8 hK8 => (wk (fun K9 hK9 => (wq ?_)))))))
 refine lm 10 (J ((ready_m d))) ?_
 refine lw 11 (.bool (decide (¬ (ready_m d) = 0))) (z_neq (ready_m d) 0 rfl rfl rfl) ?_
 simp only [nz]
 refine wn (tj (hK9 _ _ ?_))
 refine cond_d (¬ (ready_m d) = 0) rfl (fun hc10 => ?_) (fun hc10 => ?_)
 ·refine wk (fun K11 hK11 => (wq ?_))
  refine lm 12 (J ((ready_m d))) ?_
  refine la 4 (.string (tx ([]))) ?_
  refine la 5 (J ((ready_m d))) ?_
  simp only [nz]
  refine wn (tj (hK11 _ _ (wp_ret (then_r ?_))))
  have he12 : get_m d at_ = (([]), (ready_m d)) := by unfold get_m; rw [if_pos hc10] <;> rfl
  exact ⟨rfl, .tuple #[.string (tx ([])), J ((ready_m d))], res_tt rfl rfl rfl, ⟨by (rw [he12]; try rfl), hm7.below⟩⟩
 refine wp_skip (tj (hK8 _ _ (wk (fun K13 hK13 => (wk (fun K14 hK14 => (wq ?_)))))))
 refine lm 13 (J (at_)) ?_
 simp only [nz]
 refine lvb 14 (at_ < 0) rfl rfl (z_lss at_ 0 rfl rfl rfl) (fun hs15 => ?_) (fun hs15 => ?_)
 ·simp only [nz]
  refine lm 15 (.bool true) ?_
  simp only [nz]
  refine lst_skip 16 rfl rfl ?_
  simp only [nz]
  refine lst_skip 17 rfl rfl ?_
  simp only [nz]
  refine lst_skip 18 rfl rfl ?_
  simp only [nz]
  refine lst_skip 19 rfl rfl ?_
  simp only [nz]
  refine lst_skip 20 rfl rfl ?_
  simp only [nz]
  refine lw 21 (.bool true) (run_pick rfl rfl rfl) ?_
  simp only [nz]
  refine wn (tj (hK14 _ _ ?_))
  refine cond_t rfl ?_
  refine wk (fun K16 hK16 => (wq ?_))
  refine la 4 (.string (tx ([]))) ?_
  refine la 5 (J 1) ?_
  simp only [nz]
  refine wn (tj (hK16 _ _ (wp_ret (then_r ?_))))
  have he17 : get_m d at_ = (([]), 1) := by unfold get_m; rw [if_neg hc10, if_pos hs15] <;> rfl
  exact ⟨rfl, .tuple #[.string (tx ([])), J 1], res_tt rfl rfl rfl, ⟨by (rw [he17]; try rfl), hm7.below⟩⟩
 simp only [nz]
 refine lm 15 (.bool false) ?_
 refine lm 16 (J (at_)) ?_
 refine lw 17 (Pp g4 0) (r_fa25_0 g4 0 rfl rfl) ?_
 simp only [nz]
 refine lw 18 (dv0) (r_load (hm7.at 1 rfl) rfl Tryd.underlying22 rfl rfl rfl) ?_
 refine lw 19 (J (d.safe.length : Int)) (s_len ((hm7.see 0 rfl).1) rfl Tryd.underlying22 rfl) ?_
 refine lw 20 (.bool (decide ((d.safe.length : Int) ≤ at_))) (z_geq at_ (d.safe.length : Int) rfl rfl rfl) ?_
 simp only [nz]
 refine lw 21 (.bool (decide ((d.safe.length : Int) ≤ at_))) (run_pickf rfl rfl rfl) ?_
 simp only [nz]
 refine wn (tj (hK14 _ _ ?_))
 refine cond_d ((d.safe.length : Int) ≤ at_) rfl (fun hc18 => ?_) (fun hc18 => ?_)
 ·refine wk (fun K19 hK19 => (wq ?_))
  refine la 4 (.string (tx ([]))) ?_
  refine la 5 (J 1) ?_
  simp only [nz]
  refine wn (tj (hK19 _ _ (wp_ret (then_r ?_))))
  have he20 : get_m d at_ = (([]), 1) := by unfold get_m; rw [if_neg hc10, if_neg hs15, if_pos hc18] <;> rfl
  exact ⟨rfl, .tuple #[.string (tx ([])), J 1], res_tt rfl rfl rfl, ⟨by (rw [he20]; try rfl), hm7.below⟩⟩
 refine wp_skip (tj (hK13 _ _ (wk (fun K21 hK21 => (wk (fun K22 hK22 => (wq ?_)))))))
 refine lw 22 (Pp g4 1) (r_fa25_1 g4 0 rfl rfl) ?_
 refine lw 23 (dv1) (r_load (hm7.at 1 rfl) rfl Tryd.underlying23 rfl rfl rfl) ?_
 refine lw 24 (J (d.loose.length : Int)) (s_len ((hm7.see 0 rfl).2) rfl Tryd.underlying23 rfl) ?_
 simp only [nz]
 refine lw 25 (J (((d.loose.length : Int) - (1 : Int)))) (z_sub (d.loose.length : Int) (1 : Int) _ (by rw [IntKind.wrap_i64]; omega) rfl rfl rfl) ?_
 refine la 7 (J (((d.loose.length : Int) - (1 : Int)))) ?_
 simp only [nz]
 refine wn (tj (hK22 _ _ ?_))
 refine wp_cutK (fun a' w' => ∃ (y27 : Int) (yu0 : Nat → Value), get_m_l0 d at_ ((((d.loose.length : Int) - (1 : Int)) + 1).toNat + 1) ((d.loose.length : Int) - (1 : Int)) = .inl y27 ∧ (y27 < (d.loose.length : Int)) ∧ a' = ⟨#[.agg #[dv0, dv1, J (d.fuse), .bool (d.down)], J (at_), Pp g4 0, undef, yu0 0, yu0 1, J ((ready_m d)), J (y27), .agg #[dv0, dv1, J (d.fuse), .bool (d.down)], J ((ready_m d)), J ((ready_m d)), .bool (decide (¬ (ready_m d) = 0)), undef, J (at_), .bool false, .bool false, J (at_), Pp g4 0, dv0, J (d.safe.length : Int), .bool (decide ((d.safe.length : Int) ≤ at_)), .bool (decide ((d.safe.length : Int) ≤ at_)), Pp g4 1, dv1, J (d.loose.length : Int), J (((d.loose.length : Int) - (1 : Int))), yu0 2, yu0 3, yu0 4, yu0 5, yu0 6, yu0 7, yu0 8, yu0 9, yu0 10, yu0 11, yu0 12, yu0 13, yu0 14, yu0 15, yu0 16, yu0 17, yu0 18, yu0 19, undef, undef, undef, undef, undef], []⟩ ∧ Mm none (fun _ => True) w w' [.see (DkR d dv0 dv1) Fd, .blk g4 #[dv0, dv1, J (d.fuse), .bool (d.down)] 25]) ?_ ?_
 ·refine wp_block ?_
  refine wp_loop_n (fun n' a' w' => ∃ (n24 : Nat) (x23 : Int) (u0 : Nat → Value), n' = n24 ∧ (x23 + 1).toNat < n24 ∧ get_m_l0 d at_ ((((d.loose.length : Int) - (1 : Int)) + 1).toNat + 1) ((d.loose.length : Int) - (1 : Int)) = get_m_l0 d at_ n24 x23 ∧ (x23 < (d.loose.length : Int)) ∧ a' = ⟨#[.agg #[dv0, dv1, J (d.fuse), .bool (d.down)], J (at_), Pp g4 0, undef, u0 0, u0 1, J ((ready_m d)), J (x23), .agg #[dv0, dv1, J (d.fuse), .bool (d.down)], J ((ready_m d)), J ((ready_m d)), .bool (decide (¬ (ready_m d) = 0)), undef, J (at_), .bool false, .bool false, J (at_), Pp g4 0, dv0, J (d.safe.length : Int), .bool (decide ((d.safe.length : Int) ≤ at_)), .bool (decide ((d.safe.length : Int) ≤ at_)), Pp g4 1, dv1, J (d.loose.length : Int), J (((d.loose.length : Int) - (1 : Int))), u0 2, u0 3, u0 4, u0 5, u0 6, u0 7, u0 8, u0 9, u0 10, u0 11, u0 12, u0 13, u0 14, u0 15, u0 16, u0 17, u0 18, u0 19, undef, undef, undef, undef, undef], []⟩ ∧ Mm none (fun _ => True) w w' [.see (DkR d dv0 dv1) Fd, .blk g4 #[dv0, dv1, J (d.fuse), .bool (d.down)] 25]) ⟨((((d.loose.length : Int) - (1 : Int)) + 1).toNat + 1), ((d.loose.length : Int) - (1 : Int)), (fun qq => List.getD [.string (tx ([])), J 0, undef, undef, undef, undef, undef, undef, undef, undef, undef, undef, undef, undef, undef, undef, undef, undef, undef, undef] qq undef), rfl, Nat.lt_succ_self _, rfl, (by omega), rfl, hm7⟩ ?_
  rintro n24 _ w29 ⟨_, x23, u0, rfl, hl33, hi26, hlx, rfl, hm30⟩ R31 hR31
  obtain ⟨k25, rfl⟩ : ∃ k, n24 = k + 1 := ⟨n24 - 1, by omega⟩
  refine wk (fun K34 hK34 => (wk (fun K35 hK35 => (wq ?_))))
  refine lm 26 (J (x23)) ?_
  refine lw 27 (.bool (decide (0 ≤ x23))) (z_geq x23 0 rfl rfl rfl) ?_
  simp only [nz]
  refine wn (tj (hK35 _ _ ?_))
  refine cond_d (0 ≤ x23) rfl (fun hc36 => ?_) (fun hc36 => ?_)
  rotate_left
  ·refine wp_exit (then_x (then_x (blk_x ?_)))
   refine tj ?_
   exact ⟨x23, (fun qq => List.getD [u0 0, u0 1, J (x23), .bool (decide (0 ≤ x23)), u0 4, u0 5, u0 6, u0 7, u0 8, u0 9, u0 10, u0 11, u0 12, u0 13, u0 14, u0 15, u0 16, u0 17, u0 18, u0 19] qq undef), (hi26.trans (show get_m_b0 d at_ (get_m_l0 d at_ k25) x23 = .inl x23 from by unfold get_m_b0; rw [if_neg hc36] <;> rfl)), (by omega), rfl, hm30⟩
  refine wp_skip (tj (hK34 _ _ (wk (fun K37 hK37 => ?_))))
  refine wp_block ?_
  refine wk (fun K38 hK38 => (wq ?_))
  refine lw 30 (Pp g4 1) (r_fa25_1 g4 0 rfl rfl) ?_
  refine lw 31 (dv1) (r_load (hm30.at 1 rfl) rfl Tryd.underlying23 rfl rfl rfl) ?_
  refine lm 32 (J (x23)) ?_
  simp only [nz]
  refine lw 33 (.pointer (some ⟨(bk dv1), (po dv1 + x23.toNat * 2), none⟩)) (r_ixvZ ((hm30.see 0 rfl).2) x23 (by omega) (by omega) Tryd.underlying23 sz_51 rfl rfl rfl) ?_
  refine lw 34 (.pointer (some ⟨(bk dv1), ((po dv1 + x23.toNat * 2) + 0), none⟩)) (r_fa51_0 (bk dv1) (po dv1 + x23.toNat * 2) rfl rfl) ?_
  refine lw 35 (J ((d.loose.getD x23.toNat dWr).at_)) (r_cellw (Rs.cell ((hm30.see 0 rfl).2) eWr_len dWr x23.toNat (by omega) 0 _ rfl) Tryd.underlying3 rfl rfl rfl) ?_
  simp only [nz]
  refine lm 36 (J (at_)) ?_
  refine lw 37 (.bool (decide ((d.loose.getD x23.toNat dWr).at_ = at_))) (z_eql ((d.loose.getD x23.toNat dWr).at_) at_ rfl rfl rfl) ?_
  simp only [nz]
  refine wn (tj (hK38 _ _ ?_))
  refine cond_d ((d.loose.getD x23.toNat dWr).at_ = at_) rfl (fun hc39 => ?_) (fun hc39 => ?_)
  rotate_left
  ·refine wp_skip (blk_n (tj (hK37 _ _ (wq ?_))))
   refine lm 28 (J (x23)) ?_
   refine lw 29 (J ((x23 - (1 : Int)))) (z_sub x23 (1 : Int) _ (by rw [IntKind.wrap_i64]; omega) rfl rfl rfl) ?_
   refine la 7 (J ((x23 - (1 : Int)))) ?_
   simp only [nz]
   refine wn ?_
   refine tj (hR31 _ _ _ ⟨k25, (x23 - (1 : Int)), (fun qq => List.getD [u0 0, u0 1, J (x23), .bool (decide (0 ≤ x23)), J (x23), J ((x23 - (1 : Int))), Pp g4 1, dv1, J (x23), .pointer (some ⟨(bk dv1), (po dv1 + x23.toNat * 2), none⟩), .pointer (some ⟨(bk dv1), ((po dv1 + x23.toNat * 2) + 0), none⟩), J ((d.loose.getD x23.toNat dWr).at_), J (at_), .bool (decide ((d.loose.getD x23.toNat dWr).at_ = at_)), u0 14, u0 15, u0 16, u0 17, u0 18, u0 19] qq undef), rfl, (by omega), (hi26.trans (show get_m_b0 d at_ (get_m_l0 d at_ k25) x23 = get_m_l0 d at_ k25 (x23 - (1 : Int)) from by unfold get_m_b0; rw [if_pos hc36, if_neg hc39] <;> rfl)), (by omega), rfl, hm30⟩ ?_)
   omega
  refine wk (fun K40 hK40 => (wq ?_))
  refine lw 38 (Pp g4 1) (r_fa25_1 g4 0 rfl rfl) ?_
  refine lw 39 (dv1) (r_load (hm30.at 1 rfl) rfl Tryd.underlying23 rfl rfl rfl) ?_
  refine lm 40 (J (x23)) ?_
  simp only [nz]
  refine lw 41 (.pointer (some ⟨(bk dv1), (po dv1 + x23.toNat * 2), none⟩)) (r_ixvZ ((hm30.see 0 rfl).2) x23 (by omega) (by omega) Tryd.underlying23 sz_51 rfl rfl rfl) ?_
  refine lw 42 (.pointer (some ⟨(bk dv1), ((po dv1 + x23.toNat * 2) + 1), none⟩)) (r_fa51_1 (bk dv1) (po dv1 + x23.toNat * 2) rfl rfl) ?_
  refine lw 43 (.string (tx ((d.loose.getD x23.toNat dWr).data))) (r_cellw (Rs.cell ((hm30.see 0 rfl).2) eWr_len dWr x23.toNat (by omega) 1 _ rfl) Tryd.underlying9 rfl rfl rfl) ?_
  simp only [nz]
  refine la 4 (.string (tx ((d.loose.getD x23.toNat dWr).data))) ?_
  refine la 5 (J 0) ?_
  simp only [nz]
  refine wn (tj (hK40 _ _ (wp_ret (blk_r (then_r (then_r (blk_r (then_r (then_r ?_)))))))))
  have he41 : get_m_l0 d at_ (((((d.loose.length : Nat) : Int) - (1 : Int)) + 1).toNat + 1) (((d.loose.length : Nat) : Int) - (1 : Int)) = .inr (((d.loose.getD x23.toNat dWr).data), 0) := (hi26.trans (show get_m_b0 d at_ (get_m_l0 d at_ k25) x23 = .inr (((d.loose.getD x23.toNat dWr).data), 0) from by unfold get_m_b0; rw [if_pos hc36, if_pos hc39] <;> rfl))
  have he42 : get_m d at_ = (((d.loose.getD x23.toNat dWr).data), 0) := by unfold get_m; rw [if_neg hc10, if_neg hs15, if_neg hc18, he41] <;> rfl
  exact ⟨rfl, .tuple #[.string (tx ((d.loose.getD x23.toNat dWr).data)), J 0], res_tt rfl rfl rfl, ⟨by (rw [he42]; try rfl), hm30.below⟩⟩
 rintro _ w43 ⟨y27, yu0, hx28, hlx, rfl, hm44⟩
 have hq45 : get_m d at_ = get_m_k0 d at_ y27 := (show get_m d at_ = get_m_k0 d at_ y27 from by unfold get_m; rw [if_neg hc10, if_neg hs15, if_neg hc18, hx28] <;> rfl)
 refine tj (hK21 _ _ (wk (fun K46 hK46 => (wq ?_))))
 refine lw 44 (Pp g4 0) (r_fa25_0 g4 0 rfl rfl) ?_
 refine lw 45 (dv0) (r_load (hm44.at 1 rfl) rfl Tryd.underlying22 rfl rfl rfl) ?_
 refine lm 46 (J (at_)) ?_
 simp only [nz]
 refine lw 47 (.pointer (some ⟨(bk dv0), (po dv0 + at_.toNat * 1), none⟩)) (r_ixvZ ((hm44.see 0 rfl).1) at_ (by omega) (by omega) Tryd.underlying22 sz_9 rfl rfl rfl) ?_
 refine lw 48 (.string (tx (d.safe.getD at_.toNat []))) (r_cellw (Rs.cell ((hm44.see 0 rfl).1) eS_len [] at_.toNat (by omega) 0 _ rfl) Tryd.underlying9 rfl rfl rfl) ?_
 refine la 4 (.string (tx (d.safe.getD at_.toNat []))) ?_
 simp only [nz]
 refine la 5 (J 0) ?_
 simp only [nz]
 refine wn (tj (hK46 _ _ (wp_ret ?_)))
 have he47 : get_m d at_ = ((d.safe.getD at_.toNat []), 0) := (hq45.trans (show get_m_k0 d at_ y27 = ((d.safe.getD at_.toNat []), 0) from by unfold get_m_k0; rfl))
 exact ⟨rfl, .tuple #[.string (tx (d.safe.getD at_.toNat [])), J 0], res_tt rfl rfl rfl, ⟨by (rw [he47]; try rfl), hm44.below⟩⟩
theorem run_get {o : Oper} {a : Act} {w : World} {x0 x1 : Operand} {v0 v1 : Value} (ho : o.op = .call { callee := .value (.func 29), args := #[x0, x1], argTypes := #[25, 3] }) (h0 : a.eval x0 = v0) (h1 : a.eval x1 = v1) :
  (execOp a.eval o).run Tryd.prog w = .ok (.enter 29 #[v0, v1]) w := by
 unfold execOp
 simp only [ho]
 have hf : a.eval (.func 29) = .func (.func 29) #[] #[] := rfl
 generalize a.eval = f at *
 go_simp
def flush_m_b0 (d : Dk) (rec : Nat × (List (List UInt8)) → Sum (Nat × (List (List UInt8))) (Dk × Int)) (x51 : Nat) (l52 : List (List UInt8)) : Sum (Nat × (List (List UInt8))) (Dk × Int) :=
 if x51 < (((burn_m d).1).loose).length then
  rec ((x51 + 1), (l52.set ((((((burn_m d).1).loose).getD x51 dWr).at_).toNat) (((((burn_m d).1).loose).getD x51 dWr).data)))
 else
  .inl (x51, l52)
def flush_m_l0 (d : Dk) : Nat → Nat × (List (List UInt8)) → Sum (Nat × (List (List UInt8))) (Dk × Int)
 | 0, zz => .inl zz
 | nq + 1, zz => flush_m_b0 d (flush_m_l0 d nq) zz.1 zz.2
def flush_m_k0 (d : Dk) (y56 : Nat) (y57 : List (List UInt8)) : Dk × Int :=
 ((Dk.mk y57 ([] : List Wr) (((burn_m d).1).fuse) (((burn_m d).1).down)), 0)
def flush_m (d : Dk) : Dk × Int :=
 if ¬ (ready_m d) = 0 then
  (d, (ready_m d))
 else
  if ¬ (burn_m d).2 = 0 then
   (((burn_m d).1), (burn_m d).2)
  else
   fin (flush_m_l0 d (((((burn_m d).1).loose).length - 0) + 1) (0, (((burn_m d).1).safe))) (fun r => r) (fun zz => flush_m_k0 d zz.1 zz.2)
theorem flush_any (d : Dk) (dv0 : Value) (dv1 : Value) (S : Nat → Prop) (w : World) (hd : From S (DkR d dv0 dv1) w) (hp0 : d.safe.length ≤ 8796093022208) (hp1 : d.loose.length ≤ 5864070000000) (hp2 : d.fuse ≤ 9223372036854775807) : Calls Tryd.prog 67 #[.agg #[dv0, dv1, J (d.fuse), .bool (d.down)]] w (fun e w' => (∃ v, e = .returned v ∧ ∃ (o0 : Value) (o1 : Value), v = .tuple #[.agg #[o0, o1, J (((flush_m d).1).fuse), .bool (((flush_m d).1).down)], J ((flush_m d).2)] ∧ Gives w w' S (DkR ((flush_m d).1) o0 o1)) ∧ Below w.heap.size w w') := by
 go_enter Tryd.func67, Tryd.ntmps67
 have hm00 := Mm.nil none S w
 obtain ⟨Fd, hm01⟩ := hm00.come hd
 have hm0 := hm01
 refine wk (fun K1 hK1 => (wq ?_))
 refine lst rfl (m_alloc (c := #[dv0, dv1, J (d.fuse), .bool (d.down)]) (T := 25) hm0 1 rfl (run_box rfl rfl) (fun g4 w2 hm3 => ?_))
 simp only [nz]
 refine lst rfl (m_alloc (c := #[.slice none 0 0, .slice none 0 0, J 0, .bool false]) (T := 25) hm3 2 rfl (by unfold execOp; go_simp; try rfl) (fun g7 w5 hm6 => ?_))
 simp only [nz]
 refine la 3 (J 0) ?_
 simp only [nz]
 refine wn (tj (hK1 _ _ (wk (fun K8 hK8 => (wq ?_)))))
 refine lw 7 (.agg #[dv0, dv1, J (d.fuse), .bool (d.down)]) (r_whole (hm6.at 1 rfl) Tryd.underlying25 rfl (by exact sz_25) rfl rfl) ?_
 simp only [nz]
 refine lst rfl (m_call hm6 8 (J ((ready_m d))) rfl (run_ready rfl rfl) (ready_any d dv0 dv1 _ (hm6.see 0 rfl) (by omega)) (fun w9 hm10 => ?_))
 simp only [nz]
 refine la 4 (J ((ready_m d))) ?_
 simp only [nz]
 refine wn (tj (hK8 _ _ (wk (fun K11 hK11 => (wk (fun K12 hK12 => (wq ?_)))))))
 refine lm 9 (J ((ready_m d))) ?_
 refine lw 10 (.bool (decide (¬ (ready_m d) = 0))) (z_neq (ready_m d) 0 rfl rfl rfl) ?_
 simp only [nz]
 refine wn (tj (hK12 _ _ ?_))
 refine cond_d (¬ (ready_m d) = 0) rfl (fun hc13 => ?_) (fun hc13 => ?_)
 ·refine wk (fun K14 hK14 => (wq ?_))
  refine lw 11 (.agg #[dv0, dv1, J (d.fuse), .bool (d.down)]) (r_whole (hm10.at 1 rfl) Tryd.underlying25 rfl (by exact sz_25) rfl rfl) ?_
  refine lm 12 (J ((ready_m d))) ?_
  simp only [nz]
  have ho17 := (rd_one ((hm10.see 0 rfl).1))
  have ho18 := (rd_one ((hm10.see 0 rfl).2))
  refine lst rfl (m_store 2 25 _ _ 0 (.agg #[dv0, dv1, J (d.fuse), .bool (d.down)]) (old := #[.slice none 0 0, .slice none 0 0, J 0, .bool false]) (new := #[dv0, dv1, J (d.fuse), .bool (d.down)]) hm10 rfl rfl rfl rfl rfl (by exact sz_25) (show 0 + 4 ≤ 4 from by decide) a4 rfl (fun w15 hm16 => ?_))
  refine la 3 (J ((ready_m d))) ?_
  simp only [nz]
  refine wn (tj (hK14 _ _ (wp_ret (then_r ?_))))
  have he19 : flush_m d = (d, (ready_m d)) := by unfold flush_m; rw [if_pos hc13] <;> rfl
  exact ⟨rfl, .tuple #[.agg #[dv0, dv1, J (d.fuse), .bool (d.down)], J ((ready_m d))], Mem.res_ct rfl rfl (hm16.at 2 rfl) Tryd.underlying25 rfl (by exact sz_25) rfl, ⟨⟨_, rfl, dv0, dv1, (by rw [he19]), by rw [he19]; exact hm16.give (hm16.from 0 rfl)⟩, hm16.below⟩⟩
 refine wp_skip (tj (hK11 _ _ (wk (fun K20 hK20 => (wq ?_)))))
 refine lw 14 (.agg #[dv0, dv1, J (d.fuse), .bool (d.down)]) (r_whole (hm10.at 1 rfl) Tryd.underlying25 rfl (by exact sz_25) rfl rfl) ?_
 simp only [nz]
 refine lst rfl (m_callx hm10 15 rfl (run_burn rfl rfl) (burn_any d dv0 dv1 _ (hm10.see 0 rfl) (by omega) (by omega) (by omega)) (fun vv25 w21 hR26 hb27 hm22 => ?_))
 obtain ⟨v23, v24, rfl, ho29, ho30, hne31⟩ := hR26
 have hm28 : Mm none S w w21 [.see (DkR d dv0 dv1) Fd, .blk g4 #[dv0, dv1, J (d.fuse), .bool (d.down)] 25, .blk g7 #[.slice none 0 0, .slice none 0 0, J 0, .bool false] 25, .row v23 (((burn_m d).1).safe).length ((((burn_m d).1).safe).flatMap eS) 9 1, .row v24 (((burn_m d).1).loose).length ((((burn_m d).1).loose).flatMap eWr) 51 2] := hm10.gained2 hb27 ho29 ho30 hne31
 clear hm22
 have hf32 : (burn_m d).1.loose.length = d.loose.length := burn_llen d
 have hf33 : (burn_m d).1.safe.length = d.safe.length := burn_slen d
 simp only [nz]
 refine lm 13 (.tuple #[.agg #[v23, v24, J (((burn_m d).1).fuse), .bool (((burn_m d).1).down)], J ((burn_m d).2)]) ?_
 refine lw 16 (.agg #[v23, v24, J (((burn_m d).1).fuse), .bool (((burn_m d).1).down)]) (run_ex rfl rfl rfl) ?_
 refine lw 17 (J ((burn_m d).2)) (run_ex rfl rfl rfl) ?_
 simp only [nz]
 have ho36 := (rd_one (Rs.row (hm28.row 3 rfl)))
 have ho37 := (rd_one (Rs.row (hm28.row 4 rfl)))
 refine lst rfl (m_store 1 25 _ _ 0 (.agg #[v23, v24, J (((burn_m d).1).fuse), .bool (((burn_m d).1).down)]) (old := #[dv0, dv1, J (d.fuse), .bool (d.down)]) (new := #[v23, v24, J (((burn_m d).1).fuse), .bool (((burn_m d).1).down)]) hm28 rfl rfl rfl rfl rfl (by exact sz_25) (show 0 + 4 ≤ 4 from by decide) a4 rfl (fun w34 hm35 => ?_))
 refine la 4 (J ((burn_m d).2)) ?_
 simp only [nz]
 refine wn (tj (hK20 _ _ (wk (fun K38 hK38 => (wk (fun K39 hK39 => (wq ?_)))))))
 refine lm 18 (J ((burn_m d).2)) ?_
 refine lw 19 (.bool (decide (¬ (burn_m d).2 = 0))) (z_neq ((burn_m d).2) 0 rfl rfl rfl) ?_
 simp only [nz]
 refine wn (tj (hK39 _ _ ?_))
 refine cond_d (¬ (burn_m d).2 = 0) rfl (fun hc40 => ?_) (fun hc40 => ?_)
 ·refine wk (fun K41 hK41 => (wq ?_))
  refine lw 20 (.agg #[v23, v24, J (((burn_m d).1).fuse), .bool (((burn_m d).1).down)]) (r_whole (hm35.at 1 rfl) Tryd.underlying25 rfl (by exact sz_25) rfl rfl) ?_
  refine lm 21 (J ((burn_m d).2)) ?_
  simp only [nz]
  have ho44 := (rd_one (Rs.row (hm35.row 3 rfl)))
  have ho45 := (rd_one (Rs.row (hm35.row 4 rfl)))
  refine lst rfl (m_store 2 25 _ _ 0 (.agg #[v23, v24, J (((burn_m d).1).fuse), .bool (((burn_m d).1).down)]) (old := #[.slice none 0 0, .slice none 0 0, J 0, .bool false]) (new := #[v23, v24, J (((burn_m d).1).fuse), .bool (((burn_m d).1).down)]) hm35 rfl rfl rfl rfl rfl (by exact sz_25) (show 0 + 4 ≤ 4 from by decide) a4 rfl (fun w42 hm43 => ?_))
  refine la 3 (J ((burn_m d).2)) ?_
  simp only [nz]
  refine wn (tj (hK41 _ _ (wp_ret (then_r ?_))))
  have hm46 : Mm none S w w42 [.see (DkR d dv0 dv1) Fd, .blk g4 #[v23, v24, J (((burn_m d).1).fuse), .bool (((burn_m d).1).down)] 25, .blk g7 #[v23, v24, J (((burn_m d).1).fuse), .bool (((burn_m d).1).down)] 25, .see (Rs eS 1 (((burn_m d).1).safe) v23) (fp v23 ((((burn_m d).1).safe).flatMap eS)), .row v24 (((burn_m d).1).loose).length ((((burn_m d).1).loose).flatMap eWr) 51 2] := hm43.freeze 3 rfl
  have hm47 : Mm none S w w42 [.see (DkR d dv0 dv1) Fd, .blk g4 #[v23, v24, J (((burn_m d).1).fuse), .bool (((burn_m d).1).down)] 25, .blk g7 #[v23, v24, J (((burn_m d).1).fuse), .bool (((burn_m d).1).down)] 25, .see (Rs eS 1 (((burn_m d).1).safe) v23) (fp v23 ((((burn_m d).1).safe).flatMap eS)), .see (Rs eWr 2 (((burn_m d).1).loose) v24) (fp v24 ((((burn_m d).1).loose).flatMap eWr))] := hm46.freeze 4 rfl
  have he48 : flush_m d = (((burn_m d).1), (burn_m d).2) := by unfold flush_m; rw [if_neg hc13, if_pos hc40] <;> rfl
  exact ⟨rfl, .tuple #[.agg #[v23, v24, J (((burn_m d).1).fuse), .bool (((burn_m d).1).down)], J ((burn_m d).2)], Mem.res_ct rfl rfl (hm47.at 2 rfl) Tryd.underlying25 rfl (by exact sz_25) rfl, ⟨⟨_, rfl, v23, v24, (by rw [he48]), by rw [he48]; exact hm47.give ((hm47.from 3 rfl).and (hm47.from 4 rfl))⟩, hm47.below⟩⟩
 refine wp_skip (tj (hK38 _ _ (wk (fun K49 hK49 => (wk (fun K50 hK50 => (wq ?_)))))))
 refine lw 22 (Pp g4 1) (r_fa25_1 g4 0 rfl rfl) ?_
 refine lw 23 (v24) (r_load (hm35.at 1 rfl) rfl Tryd.underlying23 rfl rfl rfl) ?_
 refine lw 24 (J (((((burn_m d).1).loose).length : Nat) : Int)) (s_len (Rs.row (hm35.row 4 rfl)) rfl Tryd.underlying23 rfl) ?_
 simp only [nz]
 refine lm 25 (J 0) ?_
 simp only [nz]
 refine wn (tj (hK50 _ _ ?_))
 refine wp_cutK (fun a' w' => ∃ (y56 : Nat) (y57 : List (List UInt8)) (yu0 : Nat → Value), flush_m_l0 d (((((burn_m d).1).loose).length - 0) + 1) (0, (((burn_m d).1).safe)) = .inl (y56, y57) ∧ (y57.length = ((burn_m d).1.safe).length) ∧ a' = ⟨#[.agg #[dv0, dv1, J (d.fuse), .bool (d.down)], Pp g4 0, Pp g7 0, J 0, J ((burn_m d).2), undef, yu0 0, .agg #[dv0, dv1, J (d.fuse), .bool (d.down)], J ((ready_m d)), J ((ready_m d)), .bool (decide (¬ (ready_m d) = 0)), undef, undef, .tuple #[.agg #[v23, v24, J (((burn_m d).1).fuse), .bool (((burn_m d).1).down)], J ((burn_m d).2)], .agg #[dv0, dv1, J (d.fuse), .bool (d.down)], .tuple #[.agg #[v23, v24, J (((burn_m d).1).fuse), .bool (((burn_m d).1).down)], J ((burn_m d).2)], .agg #[v23, v24, J (((burn_m d).1).fuse), .bool (((burn_m d).1).down)], J ((burn_m d).2), J ((burn_m d).2), .bool (decide (¬ (burn_m d).2 = 0)), undef, undef, Pp g4 1, v24, J (((((burn_m d).1).loose).length : Nat) : Int), J (y56 : Int), yu0 1, yu0 2, yu0 3, yu0 4, yu0 5, yu0 6, yu0 7, yu0 8, yu0 9, yu0 10, yu0 11, undef, undef], []⟩ ∧ Mm none S w w' [.see (DkR d dv0 dv1) Fd, .blk g4 #[v23, v24, J (((burn_m d).1).fuse), .bool (((burn_m d).1).down)] 25, .blk g7 #[.slice none 0 0, .slice none 0 0, J 0, .bool false] 25, .row v23 y57.length (y57.flatMap eS) 9 1, .row v24 (((burn_m d).1).loose).length ((((burn_m d).1).loose).flatMap eWr) 51 2]) ?_ ?_
 ·refine wp_block ?_
  refine wp_loop_n (fun n' a' w' => ∃ (n53 : Nat) (x51 : Nat) (l52 : List (List UInt8)) (u0 : Nat → Value), n' = n53 ∧ ((((burn_m d).1).loose).length - x51) < n53 ∧ flush_m_l0 d (((((burn_m d).1).loose).length - 0) + 1) (0, (((burn_m d).1).safe)) = flush_m_l0 d n53 (x51, l52) ∧ (l52.length = ((burn_m d).1.safe).length) ∧ a' = ⟨#[.agg #[dv0, dv1, J (d.fuse), .bool (d.down)], Pp g4 0, Pp g7 0, J 0, J ((burn_m d).2), undef, u0 0, .agg #[dv0, dv1, J (d.fuse), .bool (d.down)], J ((ready_m d)), J ((ready_m d)), .bool (decide (¬ (ready_m d) = 0)), undef, undef, .tuple #[.agg #[v23, v24, J (((burn_m d).1).fuse), .bool (((burn_m d).1).down)], J ((burn_m d).2)], .agg #[dv0, dv1, J (d.fuse), .bool (d.down)], .tuple #[.agg #[v23, v24, J (((burn_m d).1).fuse), .bool (((burn_m d).1).down)], J ((burn_m d).2)], .agg #[v23, v24, J (((burn_m d).1).fuse), .bool (((burn_m d).1).down)], J ((burn_m d).2), J ((burn_m d).2), .bool (decide (¬ (burn_m d).2 = 0)), undef, undef, Pp g4 1, v24, J (((((burn_m d).1).loose).length : Nat) : Int), J (x51 : Int), u0 1, u0 2, u0 3, u0 4, u0 5, u0 6, u0 7, u0 8, u0 9, u0 10, u0 11, undef, undef], []⟩ ∧ Mm none S w w' [.see (DkR d dv0 dv1) Fd, .blk g4 #[v23, v24, J (((burn_m d).1).fuse), .bool (((burn_m d).1).down)] 25, .blk g7 #[.slice none 0 0, .slice none 0 0, J 0, .bool false] 25, .row v23 l52.length (l52.flatMap eS) 9 1, .row v24 (((burn_m d).1).loose).length ((((burn_m d).1).loose).flatMap eWr) 51 2]) ⟨(((((burn_m d).1).loose).length - 0) + 1), 0, (((burn_m d).1).safe), (fun qq => List.getD [undef, undef, undef, undef, undef, undef, undef, undef, undef, undef, undef, undef] qq undef), rfl, Nat.lt_succ_self _, rfl, rfl, rfl, hm35⟩ ?_
  rintro n53 _ w59 ⟨_, x51, l52, u0, rfl, hl63, hi55, hls, rfl, hm60⟩ R61 hR61
  obtain ⟨k54, rfl⟩ : ∃ k, n53 = k + 1 := ⟨n53 - 1, by omega⟩
  refine wk (fun K64 hK64 => (wq ?_))
  refine lw 26 (.bool (decide (x51 < (((burn_m d).1).loose).length))) (r_lss x51 ((((burn_m d).1).loose).length) rfl rfl rfl) ?_
  simp only [nz]
  refine wn (tj (hK64 _ _ (wk (fun K65 hK65 => ?_))))
  refine cond_d (x51 < (((burn_m d).1).loose).length) rfl (fun hc66 => ?_) (fun hc66 => ?_)
  rotate_left
  ·refine wp_exit (then_x (then_x (blk_x ?_)))
   refine tj ?_
   exact ⟨x51, l52, (fun qq => List.getD [u0 0, .bool (decide (x51 < (((burn_m d).1).loose).length)), u0 2, u0 3, u0 4, u0 5, u0 6, u0 7, u0 8, u0 9, u0 10, u0 11] qq undef), (hi55.trans (show flush_m_b0 d (flush_m_l0 d k54) x51 l52 = .inl (x51, l52) from by unfold flush_m_b0; rw [if_neg hc66] <;> rfl)), hls, rfl, hm60⟩
  refine wp_skip (tj (hK65 _ _ (wk (fun K67 hK67 => ?_))))
  refine wp_block ?_
  refine wk (fun K68 hK68 => (wq ?_))
  refine lw 27 (.pointer (some ⟨(bk v24), (po v24 + x51 * 2), none⟩)) (r_ixv (Rs.row (hm60.row 4 rfl)) x51 (by omega) Tryd.underlying23 sz_51 rfl rfl rfl) ?_
  refine lw 28 (.agg #[J (((((burn_m d).1).loose).getD x51 dWr).at_), .string (tx (((((burn_m d).1).loose).getD x51 dWr).data))]) (r_partw (fun j u hj => Rs.cell (Rs.row (hm60.row 4 rfl)) eWr_len dWr x51 (by omega) j u (arr_get hj)) Tryd.underlying51 rfl (by exact sz_51) rfl rfl) ?_
  simp only [nz]
  refine lst rfl (m_alloc (c := #[J 0, .string (tx ([]))]) (T := 51) hm60 6 rfl (by unfold execOp; go_simp; try rfl) (fun g71 w69 hm70 => ?_))
  simp only [nz]
  refine lst rfl (m_store 5 51 _ _ 0 (.agg #[J (((((burn_m d).1).loose).getD x51 dWr).at_), .string (tx (((((burn_m d).1).loose).getD x51 dWr).data))]) (old := #[J 0, .string (tx ([]))]) (new := #[J (((((burn_m d).1).loose).getD x51 dWr).at_), .string (tx (((((burn_m d).1).loose).getD x51 dWr).data))]) hm70 rfl rfl rfl rfl rfl (by exact sz_51) (show 0 + 2 ≤ 2 from by decide) (by simp [Value.cells, Value.oneCell']) rfl (fun w72 hm73 => ?_))
  refine wn (tj (hK68 _ _ (wq ?_)))
  refine lw 29 (Pp g4 0) (r_fa25_0 g4 0 rfl rfl) ?_
  refine lw 30 (v23) (r_load (hm73.at 1 rfl) rfl Tryd.underlying22 rfl rfl rfl) ?_
  refine lw 31 (Pp g71 0) (r_fa51_0 g71 0 rfl rfl) ?_
  simp only [nz]
  refine lw 32 (J (((((burn_m d).1).loose).getD x51 dWr).at_)) (r_load (hm73.at 5 rfl) rfl Tryd.underlying3 rfl rfl rfl) ?_
  refine lw 33 (Pp g71 1) (r_fa51_1 g71 0 rfl rfl) ?_
  refine lw 34 (.string (tx (((((burn_m d).1).loose).getD x51 dWr).data))) (r_load (hm73.at 5 rfl) rfl Tryd.underlying9 rfl rfl rfl) ?_
  simp only [nz]
  refine lw 35 (.pointer (some ⟨(bk v23), (po v23 + (((((burn_m d).1).loose).getD x51 dWr).at_).toNat * 1), none⟩)) (r_ixvZ (Rs.row (hm73.row 3 rfl)) (((((burn_m d).1).loose).getD x51 dWr).at_) (flush_ix ‹¬ ¬ ready_m d = 0› _ (by assumption)).1 (by have := (flush_ix ‹¬ ¬ ready_m d = 0› _ (by assumption)).2; omega) Tryd.underlying22 sz_9 rfl rfl rfl) ?_
  simp only [nz]
  refine lst rfl (m_setR 3 (l := l52) ((((((burn_m d).1).loose).getD x51 dWr).at_).toNat) (((((burn_m d).1).loose).getD x51 dWr).data) (.string (tx (((((burn_m d).1).loose).getD x51 dWr).data))) hm73 rfl rfl rfl (by have := flush_ix ‹¬ ¬ ready_m d = 0› _ (by assumption); omega) rfl rfl sz_9 eS_len rfl rfl (fun w74 hm75 => ?_))
  refine wn (blk_n (tj (hK67 _ _ (wq ?_))))
  refine lw 36 (J (((x51 + 1) : Nat) : Int)) (r_add x51 1 (show (x51 + 1) < 9223372036854775808 from by omega) rfl rfl rfl) ?_
  refine lm 25 (J (((x51 + 1) : Nat) : Int)) ?_
  simp only [nz]
  refine wn ?_
  refine tj (hR61 _ _ _ ⟨k54, (x51 + 1), (l52.set ((((((burn_m d).1).loose).getD x51 dWr).at_).toNat) (((((burn_m d).1).loose).getD x51 dWr).data)), (fun qq => List.getD [Pp g71 0, .bool (decide (x51 < (((burn_m d).1).loose).length)), .pointer (some ⟨(bk v24), (po v24 + x51 * 2), none⟩), .agg #[J (((((burn_m d).1).loose).getD x51 dWr).at_), .string (tx (((((burn_m d).1).loose).getD x51 dWr).data))], Pp g4 0, v23, Pp g71 0, J (((((burn_m d).1).loose).getD x51 dWr).at_), Pp g71 1, .string (tx (((((burn_m d).1).loose).getD x51 dWr).data)), .pointer (some ⟨(bk v23), (po v23 + (((((burn_m d).1).loose).getD x51 dWr).at_).toNat * 1), none⟩), J (((x51 + 1) : Nat) : Int)] qq undef), rfl, (by omega), (hi55.trans (show flush_m_b0 d (flush_m_l0 d k54) x51 l52 = flush_m_l0 d k54 ((x51 + 1), (l52.set ((((((burn_m d).1).loose).getD x51 dWr).at_).toNat) (((((burn_m d).1).loose).getD x51 dWr).data))) from by unfold flush_m_b0; rw [if_pos hc66] <;> rfl)), (by rw [List.length_set]; exact hls), rfl, (Mm.reorder hm75 [0, 1, 2, 3, 4] (by decide) rfl)⟩ ?_)
  omega
 rintro _ w76 ⟨y56, y57, yu0, hx58, hls, rfl, hm77⟩
 have hq78 : flush_m d = flush_m_k0 d y56 y57 := (show flush_m d = flush_m_k0 d y56 y57 from by unfold flush_m; rw [if_neg hc13, if_neg hc40, hx58] <;> rfl)
 refine tj (hK49 _ _ (wk (fun K79 hK79 => (wq ?_))))
 refine lw 37 (Pp g4 1) (r_fa25_1 g4 0 rfl rfl) ?_
 simp only [nz]
 have ho82 := (show (Value.slice none 0 0).oneCell' = true from rfl)
 refine lst rfl (m_store 1 23 _ _ 1 (.slice none 0 0) (old := #[v23, v24, J (((burn_m d).1).fuse), .bool (((burn_m d).1).down)]) (new := #[v23, .slice none 0 0, J (((burn_m d).1).fuse), .bool (((burn_m d).1).down)]) hm77 rfl rfl rfl rfl rfl (by rw [cells_one ho82]; exact sz_23) (by rw [cells_one ho82]; exact (show 1 + 1 ≤ 4 from by decide)) (one_all ho82) (by rw [cells_one ho82]; rfl) (fun w80 hm81 => ?_))
 refine wn (tj (hK79 _ _ (wk (fun K83 hK83 => (wq ?_)))))
 refine lw 38 (.agg #[v23, .slice none 0 0, J (((burn_m d).1).fuse), .bool (((burn_m d).1).down)]) (r_whole (hm81.at 1 rfl) Tryd.underlying25 rfl (by exact sz_25) rfl rfl) ?_
 simp only [nz]
 have ho86 := (rd_one (Rs.row (hm81.row 3 rfl)))
 have ho87 := (show (Value.slice none 0 0).oneCell' = true from rfl)
 refine lst rfl (m_store 2 25 _ _ 0 (.agg #[v23, .slice none 0 0, J (((burn_m d).1).fuse), .bool (((burn_m d).1).down)]) (old := #[.slice none 0 0, .slice none 0 0, J 0, .bool false]) (new := #[v23, .slice none 0 0, J (((burn_m d).1).fuse), .bool (((burn_m d).1).down)]) hm81 rfl rfl rfl rfl rfl (by exact sz_25) (show 0 + 4 ≤ 4 from by decide) a4 rfl (fun w84 hm85 => ?_))
 refine la 3 (J 0) ?_
 simp only [nz]
 refine wn (tj (hK83 _ _ (wp_ret ?_)))
 have hm88 : Mm none S w w84 [.see (DkR d dv0 dv1) Fd, .blk g4 #[v23, .slice none 0 0, J (((burn_m d).1).fuse), .bool (((burn_m d).1).down)] 25, .blk g7 #[v23, .slice none 0 0, J (((burn_m d).1).fuse), .bool (((burn_m d).1).down)] 25, .see (Rs eS 1 y57 v23) (fp v23 (y57.flatMap eS)), .row v24 (((burn_m d).1).loose).length ((((burn_m d).1).loose).flatMap eWr) 51 2] := hm85.freeze 3 rfl
 have he89 : flush_m d = ((Dk.mk y57 ([] : List Wr) (((burn_m d).1).fuse) (((burn_m d).1).down)), 0) := (hq78.trans (show flush_m_k0 d y56 y57 = ((Dk.mk y57 ([] : List Wr) (((burn_m d).1).fuse) (((burn_m d).1).down)), 0) from by unfold flush_m_k0; rfl))
 exact ⟨rfl, .tuple #[.agg #[v23, .slice none 0 0, J (((burn_m d).1).fuse), .bool (((burn_m d).1).down)], J 0], Mem.res_ct rfl rfl (hm88.at 2 rfl) Tryd.underlying25 rfl (by exact sz_25) rfl, ⟨⟨_, rfl, v23, (.slice none 0 0), (by rw [he89]), by rw [he89]; exact hm88.give ((hm88.from 3 rfl).and (From.pure (fun W => Rs.nil eWr 2 W)))⟩, hm88.below⟩⟩
theorem run_flush {o : Oper} {a : Act} {w : World} {x0 : Operand} {v0 : Value} (ho : o.op = .call { callee := .value (.func 67), args := #[x0], argTypes := #[25] }) (h0 : a.eval x0 = v0) :
  (execOp a.eval o).run Tryd.prog w = .ok (.enter 67 #[v0]) w := by
 unfold execOp
 simp only [ho]
 have hf : a.eval (.func 67) = .func (.func 67) #[] #[] := rfl
 generalize a.eval = f at *
 go_simp
end Go.Proofs.YtnmaaijeamlplaaDoor.Bk
