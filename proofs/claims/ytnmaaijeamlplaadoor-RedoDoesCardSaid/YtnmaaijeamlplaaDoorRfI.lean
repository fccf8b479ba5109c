import Derived.Test.YtnmaaijeamlplaaDoorRfM
set_option linter.unusedVariables false
set_option linter.unusedSimpArgs false
set_option maxHeartbeats 4000000
set_option maxRecDepth 100000
namespace Go.Proofs.YtnmaaijeamlplaaDoor.Bk
open Go.RowKit
open Go.Proofs.YtnmaaijeamlplaaDoor.Sym Go.Proofs.YtnmaaijeamlplaaDoor.Mem
open Go.Proofs.YtnmaaijeamlplaaDoor.Sx hiding Mm m_alloc m_store m_call m_callx
attribute [local irreducible] right_m rright_m ready_m rready_m copied_m burn_m put_m get_m flush_m spent_m rput_m rget_m rflush_m blank_m rnew_m same_m
attribute [local irreducible] number_m value_m fill_m beginning_m log_m fits_m lists_m epoch_m
attribute [local irreducible] home_m putall_m
attribute [local irreducible] putfl_m body_m rise_m sized_m current_m join_m sum_m
attribute [local irreducible] format_m rend_m bring_m
attribute [local irreducible] commit_m
attribute [local irreducible] rlog_m four_m eight_m rread_m rfull_m
attribute [local irreducible] rhead_m rlists_m rfits_m repoch_m rbody_m
attribute [local irreducible] rall_m done_m rformat_m place_m
attribute [local irreducible] good_m
attribute [local irreducible] wpList Oper.wp
abbrev QfI2 (d : Dk) (l : List Wr) := (done_m ((repoch_m d).1) ((l.length : Nat) : Int) (rbody_m ((repoch_m d).1) l))
abbrev QfI1 (d : Dk) (l : List Wr) := (rall_m ((rall_m d 2 (rbody_m ((repoch_m d).1) l)).1) 1 ([(QfI2 d l)] : List (List UInt8)))
def rcommit_m (d : Dk) (l : List Wr) : Dk × Int :=
 if (!(rright_m d)) = true then
  (d, 1)
 else
  if (!(good_m d l)) = true then
   (d, 1)
  else
   if d.down = true then
    (d, 11)
   else
    if (!((repoch_m d).2)) = true then
     (d, 20)
    else
     if 4611686018427387904 ≤ (repoch_m d).1 then
      (d, 20)
     else
      if l.length = 0 then
       (d, 0)
      else
       if ¬ (((0 : Int) ≤ ((l.length : Nat) : Int) ∧ (((l.length : Nat) : Int) : Int) ≤ (((d.safe).length : Nat) : Int) ∧ ((((l.length : Nat) : Int) : Int) + 60) / 61 + ((l.length : Nat) : Int) + 2 ≤ (((((d.safe).length / 4 : Nat)) : Int)))) then
        (d, 10)
       else
        if ¬ (rall_m d 2 (rbody_m ((repoch_m d).1) l)).2 = 0 then
         (((rall_m d 2 (rbody_m ((repoch_m d).1) l)).1), (rall_m d 2 (rbody_m ((repoch_m d).1) l)).2)
        else
         if ¬ (QfI1 d l).2 = 0 then
          (((QfI1 d l).1), (QfI1 d l).2)
         else
          (((place_m ((QfI1 d l).1) ((repoch_m d).1) l).1), (place_m ((QfI1 d l).1) ((repoch_m d).1) l).2)
theorem rcommit_any (d : Dk) (l : List Wr) (dv0 : Value) (dv1 : Value) (lv0 : Value) (S : Nat → Prop) (w : World) (hd : From S (DkR d dv0 dv1) w) (hl : From S (Rs eWr 2 l lv0) w) (hT : Laid2 w) (hp0 : d.safe.length ≤ 8796093021952) (hp1 : d.loose.length ≤ 5864063000000) (hp2 : d.fuse ≤ 9223372036854775807) (hp3 : l.length ≤ 5864070000000) : Calls Tryd.prog 21 #[.agg #[dv0, dv1, J (d.fuse), .bool (d.down)], lv0] w (fun e w' => (∃ v, e = .returned v ∧ ∃ (o0 : Value) (o1 : Value), v = .tuple #[.agg #[o0, o1, J (((rcommit_m d l).1).fuse), .bool (((rcommit_m d l).1).down)], J ((rcommit_m d l).2)] ∧ Gives w w' S (DkR ((rcommit_m d l).1) o0 o1)) ∧ Below w.heap.size w w') := by
 go_enter Tryd.func21, Tryd.ntmps21
 have hm00 := Mm.nil none S w
 obtain ⟨Fd, hm01⟩ := hm00.come hd
 obtain ⟨Fl, hm02⟩ := hm01.come hl
 have hm0 := hm02
 refine wk (fun K1 hK1 => (wq ?_))
 refine lst rfl (m_alloc (c := #[dv0, dv1, J (d.fuse), .bool (d.down)]) (T := 25) hm0 2 rfl (run_box rfl rfl) (fun g4 w2 hm3 => ?_))
 simp only [nz]
 refine lst rfl (m_alloc (c := #[.slice none 0 0, .slice none 0 0, J 0, .bool false]) (T := 25) hm3 4 rfl (by unfold execOp; go_simp; try rfl) (fun g7 w5 hm6 => ?_))
 simp only [nz]
 refine la 5 (J 0) ?_
 simp only [nz]
 refine wn (tj (hK1 _ _ (wk (fun K8 hK8 => (wk (fun K9 hK9 => (wq ?_)))))))
 refine lw 11 (.agg #[dv0, dv1, J (d.fuse), .bool (d.down)]) (r_whole (hm6.at 2 rfl) Tryd.underlying25 rfl (by exact sz_25) rfl rfl) ?_
 simp only [nz]
 refine lst rfl (m_call hm6 12 (.bool ((rright_m d))) rfl (run_rright rfl rfl) (rright_any d dv0 dv1 _ (hm6.see 0 rfl) (by omega)) (fun w10 hm11 => ?_))
 simp only [nz]
 refine lvB 13 (!(rright_m d)) rfl rfl (r_not (rright_m d) rfl rfl) (fun hs12 => ?_) (fun hs12 => ?_)
 ·simp only [nz]
  refine lm 14 (.bool true) ?_
  simp only [nz]
  refine lst_skip 15 rfl rfl ?_
  simp only [nz]
  refine lst_skip 16 rfl rfl ?_
  simp only [nz]
  refine lst_skip 17 rfl rfl ?_
  simp only [nz]
  refine lst_skip 18 rfl rfl ?_
  simp only [nz]
  refine lw 19 (.bool true) (run_pick rfl rfl rfl) ?_
  simp only [nz]
  refine wn (tj (hK9 _ _ ?_))
  refine cond_t rfl ?_
  refine wk (fun K13 hK13 => (wq ?_))
  refine lw 20 (.agg #[dv0, dv1, J (d.fuse), .bool (d.down)]) (r_whole (hm11.at 2 rfl) Tryd.underlying25 rfl (by exact sz_25) rfl rfl) ?_
  simp only [nz]
  have ho16 := (rd_one ((hm11.see 0 rfl).1))
  have ho17 := (rd_one ((hm11.see 0 rfl).2))
  refine lst rfl (m_store 3 25 _ _ 0 (.agg #[dv0, dv1, J (d.fuse), .bool (d.down)]) (old := #[.slice none 0 0, .slice none 0 0, J 0, .bool false]) (new := #[dv0, dv1, J (d.fuse), .bool (d.down)]) hm11 rfl rfl rfl rfl rfl (by exact sz_25) (show 0 + 4 ≤ 4 from by decide) a4 rfl (fun w14 hm15 => ?_))
  refine la 5 (J 1) ?_
  simp only [nz]
  refine wn (tj (hK13 _ _ (wp_ret (then_r ?_))))
  have he18 : rcommit_m d l = (d, 1) := by unfold rcommit_m; rw [if_pos hs12] <;> rfl
  exact ⟨rfl, .tuple #[.agg #[dv0, dv1, J (d.fuse), .bool (d.down)], J 1], Mem.res_ct rfl rfl (hm15.at 3 rfl) Tryd.underlying25 rfl (by exact sz_25) rfl, ⟨⟨_, rfl, dv0, dv1, (by rw [he18]), by rw [he18]; exact hm15.give (hm15.from 0 rfl)⟩, hm15.below⟩⟩
 simp only [nz]
 refine lm 14 (.bool false) ?_
 refine lw 15 (.agg #[dv0, dv1, J (d.fuse), .bool (d.down)]) (r_whole (hm11.at 2 rfl) Tryd.underlying25 rfl (by exact sz_25) rfl rfl) ?_
 refine lm 16 (lv0) ?_
 simp only [nz]
 refine lst rfl (m_call hm11 17 (.bool ((good_m d l))) rfl (run_good rfl rfl rfl) (good_any d l dv0 dv1 lv0 _ (hm11.see 0 rfl) (hm11.see 1 rfl) (by omega) (by omega) (by omega)) (fun w19 hm20 => ?_))
 simp only [nz]
 refine lw 18 (.bool (!(good_m d l))) (r_not (good_m d l) rfl rfl) ?_
 refine lw 19 (.bool (!(good_m d l))) (run_pickf rfl rfl rfl) ?_
 simp only [nz]
 refine wn (tj (hK9 _ _ ?_))
 refine cond_B (!(good_m d l)) rfl (fun hc21 => ?_) (fun hc21 => ?_)
 ·refine wk (fun K22 hK22 => (wq ?_))
  refine lw 20 (.agg #[dv0, dv1, J (d.fuse), .bool (d.down)]) (r_whole (hm20.at 2 rfl) Tryd.underlying25 rfl (by exact sz_25) rfl rfl) ?_
  simp only [nz]
  have ho25 := (rd_one ((hm20.see 0 rfl).1))
  have ho26 := (rd_one ((hm20.see 0 rfl).2))
  refine lst rfl (m_store 3 25 _ _ 0 (.agg #[dv0, dv1, J (d.fuse), .bool (d.down)]) (old := #[.slice none 0 0, .slice none 0 0, J 0, .bool false]) (new := #[dv0, dv1, J (d.fuse), .bool (d.down)]) hm20 rfl rfl rfl rfl rfl (by exact sz_25) (show 0 + 4 ≤ 4 from by decide) a4 rfl (fun w23 hm24 => ?_))
  refine la 5 (J 1) ?_
  simp only [nz]
  refine wn (tj (hK22 _ _ (wp_ret (then_r ?_))))
  have he27 : rcommit_m d l = (d, 1) := by unfold rcommit_m; rw [if_neg hs12, if_pos hc21] <;> rfl
  exact ⟨rfl, .tuple #[.agg #[dv0, dv1, J (d.fuse), .bool (d.down)], J 1], Mem.res_ct rfl rfl (hm24.at 3 rfl) Tryd.underlying25 rfl (by exact sz_25) rfl, ⟨⟨_, rfl, dv0, dv1, (by rw [he27]), by rw [he27]; exact hm24.give (hm24.from 0 rfl)⟩, hm24.below⟩⟩
 refine wp_skip (tj (hK8 _ _ (wk (fun K28 hK28 => (wk (fun K29 hK29 => (wq ?_)))))))
 refine lw 21 (Pp g4 3) (r_fa25_3 g4 0 rfl rfl) ?_
 refine lw 22 (.bool (d.down)) (r_load (hm20.at 2 rfl) rfl Tryd.underlying4 rfl rfl rfl) ?_
 simp only [nz]
 refine wn (tj (hK29 _ _ ?_))
 refine cond_B d.down rfl (fun hc30 => ?_) (fun hc30 => ?_)
 ·refine wk (fun K31 hK31 => (wq ?_))
  refine lw 23 (.agg #[dv0, dv1, J (d.fuse), .bool (d.down)]) (r_whole (hm20.at 2 rfl) Tryd.underlying25 rfl (by exact sz_25) rfl rfl) ?_
  simp only [nz]
  have ho34 := (rd_one ((hm20.see 0 rfl).1))
  have ho35 := (rd_one ((hm20.see 0 rfl).2))
  refine lst rfl (m_store 3 25 _ _ 0 (.agg #[dv0, dv1, J (d.fuse), .bool (d.down)]) (old := #[.slice none 0 0, .slice none 0 0, J 0, .bool false]) (new := #[dv0, dv1, J (d.fuse), .bool (d.down)]) hm20 rfl rfl rfl rfl rfl (by exact sz_25) (show 0 + 4 ≤ 4 from by decide) a4 rfl (fun w32 hm33 => ?_))
  refine la 5 (J 11) ?_
  simp only [nz]
  refine wn (tj (hK31 _ _ (wp_ret (then_r ?_))))
  have he36 : rcommit_m d l = (d, 11) := by unfold rcommit_m; rw [if_neg hs12, if_neg hc21, if_pos hc30] <;> rfl
  exact ⟨rfl, .tuple #[.agg #[dv0, dv1, J (d.fuse), .bool (d.down)], J 11], Mem.res_ct rfl rfl (hm33.at 3 rfl) Tryd.underlying25 rfl (by exact sz_25) rfl, ⟨⟨_, rfl, dv0, dv1, (by rw [he36]), by rw [he36]; exact hm33.give (hm33.from 0 rfl)⟩, hm33.below⟩⟩
 refine wp_skip (tj (hK28 _ _ (wk (fun K37 hK37 => (wq ?_)))))
 refine lw 25 (.agg #[dv0, dv1, J (d.fuse), .bool (d.down)]) (r_whole (hm20.at 2 rfl) Tryd.underlying25 rfl (by exact sz_25) rfl rfl) ?_
 simp only [nz]
 refine lst rfl (m_call hm20 26 (.tuple #[J ((repoch_m d).1), .bool ((repoch_m d).2)]) rfl (run_repoch rfl rfl) (repoch_any d dv0 dv1 _ (hm20.see 0 rfl) (by omega) (by omega)) (fun w38 hm39 => ?_))
 simp only [nz]
 refine lm 24 (.tuple #[J ((repoch_m d).1), .bool ((repoch_m d).2)]) ?_
 refine lw 27 (J ((repoch_m d).1)) (run_ex rfl rfl rfl) ?_
 refine lw 28 (.bool ((repoch_m d).2)) (run_ex rfl rfl rfl) ?_
 simp only [nz]
 refine la 6 (J ((repoch_m d).1)) ?_
 refine la 7 (.bool ((repoch_m d).2)) ?_
 simp only [nz]
 refine wn (tj (hK37 _ _ (wk (fun K40 hK40 => (wk (fun K41 hK41 => (wq ?_)))))))
 refine lm 29 (.bool ((repoch_m d).2)) ?_
 simp only [nz]
 refine lvB 30 (!((repoch_m d).2)) rfl rfl (r_not ((repoch_m d).2) rfl rfl) (fun hs42 => ?_) (fun hs42 => ?_)
 ·simp only [nz]
  refine lm 31 (.bool true) ?_
  simp only [nz]
  refine lst_skip 32 rfl rfl ?_
  simp only [nz]
  refine lst_skip 33 rfl rfl ?_
  simp only [nz]
  refine lw 34 (.bool true) (run_pick rfl rfl rfl) ?_
  simp only [nz]
  refine wn (tj (hK41 _ _ ?_))
  refine cond_t rfl ?_
  refine wk (fun K43 hK43 => (wq ?_))
  refine lw 35 (.agg #[dv0, dv1, J (d.fuse), .bool (d.down)]) (r_whole (hm39.at 2 rfl) Tryd.underlying25 rfl (by exact sz_25) rfl rfl) ?_
  simp only [nz]
  have ho46 := (rd_one ((hm39.see 0 rfl).1))
  have ho47 := (rd_one ((hm39.see 0 rfl).2))
  refine lst rfl (m_store 3 25 _ _ 0 (.agg #[dv0, dv1, J (d.fuse), .bool (d.down)]) (old := #[.slice none 0 0, .slice none 0 0, J 0, .bool false]) (new := #[dv0, dv1, J (d.fuse), .bool (d.down)]) hm39 rfl rfl rfl rfl rfl (by exact sz_25) (show 0 + 4 ≤ 4 from by decide) a4 rfl (fun w44 hm45 => ?_))
  refine la 5 (J 20) ?_
  simp only [nz]
  refine wn (tj (hK43 _ _ (wp_ret (then_r ?_))))
  have he48 : rcommit_m d l = (d, 20) := by unfold rcommit_m; rw [if_neg hs12, if_neg hc21, if_neg hc30, if_pos hs42] <;> rfl
  exact ⟨rfl, .tuple #[.agg #[dv0, dv1, J (d.fuse), .bool (d.down)], J 20], Mem.res_ct rfl rfl (hm45.at 3 rfl) Tryd.underlying25 rfl (by exact sz_25) rfl, ⟨⟨_, rfl, dv0, dv1, (by rw [he48]), by rw [he48]; exact hm45.give (hm45.from 0 rfl)⟩, hm45.below⟩⟩
 simp only [nz]
 refine lm 31 (.bool false) ?_
 refine lm 32 (J ((repoch_m d).1)) ?_
 refine lw 33 (.bool (decide (4611686018427387904 ≤ (repoch_m d).1))) (z_geq ((repoch_m d).1) 4611686018427387904 rfl rfl rfl) ?_
 simp only [nz]
 refine lw 34 (.bool (decide (4611686018427387904 ≤ (repoch_m d).1))) (run_pickf rfl rfl rfl) ?_
 simp only [nz]
 refine wn (tj (hK41 _ _ ?_))
 refine cond_d (4611686018427387904 ≤ (repoch_m d).1) rfl (fun hc49 => ?_) (fun hc49 => ?_)
 ·refine wk (fun K50 hK50 => (wq ?_))
  refine lw 35 (.agg #[dv0, dv1, J (d.fuse), .bool (d.down)]) (r_whole (hm39.at 2 rfl) Tryd.underlying25 rfl (by exact sz_25) rfl rfl) ?_
  simp only [nz]
  have ho53 := (rd_one ((hm39.see 0 rfl).1))
  have ho54 := (rd_one ((hm39.see 0 rfl).2))
  refine lst rfl (m_store 3 25 _ _ 0 (.agg #[dv0, dv1, J (d.fuse), .bool (d.down)]) (old := #[.slice none 0 0, .slice none 0 0, J 0, .bool false]) (new := #[dv0, dv1, J (d.fuse), .bool (d.down)]) hm39 rfl rfl rfl rfl rfl (by exact sz_25) (show 0 + 4 ≤ 4 from by decide) a4 rfl (fun w51 hm52 => ?_))
  refine la 5 (J 20) ?_
  simp only [nz]
  refine wn (tj (hK50 _ _ (wp_ret (then_r ?_))))
  have he55 : rcommit_m d l = (d, 20) := by unfold rcommit_m; rw [if_neg hs12, if_neg hc21, if_neg hc30, if_neg hs42, if_pos hc49] <;> rfl
  exact ⟨rfl, .tuple #[.agg #[dv0, dv1, J (d.fuse), .bool (d.down)], J 20], Mem.res_ct rfl rfl (hm52.at 3 rfl) Tryd.underlying25 rfl (by exact sz_25) rfl, ⟨⟨_, rfl, dv0, dv1, (by rw [he55]), by rw [he55]; exact hm52.give (hm52.from 0 rfl)⟩, hm52.below⟩⟩
 refine wp_skip (tj (hK40 _ _ (wk (fun K56 hK56 => (wk (fun K57 hK57 => (wq ?_)))))))
 refine lm 36 (lv0) ?_
 refine lw 37 (J (l.length : Int)) (s_len ((hm39.see 1 rfl)) rfl Tryd.underlying23 rfl) ?_
 refine lw 38 (.bool (decide (l.length = 0))) (r_eql l.length 0 rfl rfl rfl) ?_
 simp only [nz]
 refine wn (tj (hK57 _ _ ?_))
 refine cond_d (l.length = 0) rfl (fun hc58 => ?_) (fun hc58 => ?_)
 ·refine wk (fun K59 hK59 => (wq ?_))
  refine lw 39 (.agg #[dv0, dv1, J (d.fuse), .bool (d.down)]) (r_whole (hm39.at 2 rfl) Tryd.underlying25 rfl (by exact sz_25) rfl rfl) ?_
  simp only [nz]
  have ho62 := (rd_one ((hm39.see 0 rfl).1))
  have ho63 := (rd_one ((hm39.see 0 rfl).2))
  refine lst rfl (m_store 3 25 _ _ 0 (.agg #[dv0, dv1, J (d.fuse), .bool (d.down)]) (old := #[.slice none 0 0, .slice none 0 0, J 0, .bool false]) (new := #[dv0, dv1, J (d.fuse), .bool (d.down)]) hm39 rfl rfl rfl rfl rfl (by exact sz_25) (show 0 + 4 ≤ 4 from by decide) a4 rfl (fun w60 hm61 => ?_))
  refine la 5 (J 0) ?_
  simp only [nz]
  refine wn (tj (hK59 _ _ (wp_ret (then_r ?_))))
  have he64 : rcommit_m d l = (d, 0) := by unfold rcommit_m; rw [if_neg hs12, if_neg hc21, if_neg hc30, if_neg hs42, if_neg hc49, if_pos hc58] <;> rfl
  exact ⟨rfl, .tuple #[.agg #[dv0, dv1, J (d.fuse), .bool (d.down)], J 0], Mem.res_ct rfl rfl (hm61.at 3 rfl) Tryd.underlying25 rfl (by exact sz_25) rfl, ⟨⟨_, rfl, dv0, dv1, (by rw [he64]), by rw [he64]; exact hm61.give (hm61.from 0 rfl)⟩, hm61.below⟩⟩
 refine wp_skip (tj (hK56 _ _ (wk (fun K65 hK65 => (wk (fun K66 hK66 => (wq ?_)))))))
 refine lw 40 (.agg #[dv0, dv1, J (d.fuse), .bool (d.down)]) (r_whole (hm39.at 2 rfl) Tryd.underlying25 rfl (by exact sz_25) rfl rfl) ?_
 refine lm 41 (lv0) ?_
 refine lw 42 (J (l.length : Int)) (s_len ((hm39.see 1 rfl)) rfl Tryd.underlying23 rfl) ?_
 simp only [nz]
 refine lst rfl (m_call hm39 43 (.bool (decide (((0 : Int) ≤ (l.length : Int) ∧ ((l.length : Int) : Int) ≤ (((d.safe).length : Nat) : Int) ∧ (((l.length : Int) : Int) + 60) / 61 + (l.length : Int) + 2 ≤ (((((d.safe).length / 4 : Nat)) : Int)))))) rfl (run_rfits rfl rfl rfl) (rfitsd_any d (l.length : Int) dv0 dv1 _ (hm39.see 0 rfl) (by omega) (by omega)) (fun w67 hm68 => ?_))
 simp only [nz]
 refine lw 44 (.bool (decide (¬ (((0 : Int) ≤ (l.length : Int) ∧ ((l.length : Int) : Int) ≤ (((d.safe).length : Nat) : Int) ∧ (((l.length : Int) : Int) + 60) / 61 + (l.length : Int) + 2 ≤ (((((d.safe).length / 4 : Nat)) : Int))))))) (r_notD (((0 : Int) ≤ (l.length : Int) ∧ ((l.length : Int) : Int) ≤ (((d.safe).length : Nat) : Int) ∧ (((l.length : Int) : Int) + 60) / 61 + (l.length : Int) + 2 ≤ (((((d.safe).length / 4 : Nat)) : Int)))) rfl rfl) ?_
 simp only [nz]
 refine wn (tj (hK66 _ _ ?_))
 refine cond_d (¬ (((0 : Int) ≤ (l.length : Int) ∧ ((l.length : Int) : Int) ≤ (((d.safe).length : Nat) : Int) ∧ (((l.length : Int) : Int) + 60) / 61 + (l.length : Int) + 2 ≤ (((((d.safe).length / 4 : Nat)) : Int))))) rfl (fun hc69 => ?_) (fun hc69 => ?_)
 ·refine wk (fun K70 hK70 => (wq ?_))
  refine lw 45 (.agg #[dv0, dv1, J (d.fuse), .bool (d.down)]) (r_whole (hm68.at 2 rfl) Tryd.underlying25 rfl (by exact sz_25) rfl rfl) ?_
  simp only [nz]
  have ho73 := (rd_one ((hm68.see 0 rfl).1))
  have ho74 := (rd_one ((hm68.see 0 rfl).2))
  refine lst rfl (m_store 3 25 _ _ 0 (.agg #[dv0, dv1, J (d.fuse), .bool (d.down)]) (old := #[.slice none 0 0, .slice none 0 0, J 0, .bool false]) (new := #[dv0, dv1, J (d.fuse), .bool (d.down)]) hm68 rfl rfl rfl rfl rfl (by exact sz_25) (show 0 + 4 ≤ 4 from by decide) a4 rfl (fun w71 hm72 => ?_))
  refine la 5 (J 10) ?_
  simp only [nz]
  refine wn (tj (hK70 _ _ (wp_ret (then_r ?_))))
  have he75 : rcommit_m d l = (d, 10) := by unfold rcommit_m; rw [if_neg hs12, if_neg hc21, if_neg hc30, if_neg hs42, if_neg hc49, if_neg hc58, if_pos hc69] <;> rfl
  exact ⟨rfl, .tuple #[.agg #[dv0, dv1, J (d.fuse), .bool (d.down)], J 10], Mem.res_ct rfl rfl (hm72.at 3 rfl) Tryd.underlying25 rfl (by exact sz_25) rfl, ⟨⟨_, rfl, dv0, dv1, (by rw [he75]), by rw [he75]; exact hm72.give (hm72.from 0 rfl)⟩, hm72.below⟩⟩
 refine wp_skip (tj (hK65 _ _ (wk (fun K76 hK76 => (wq ?_)))))
 refine lm 46 (J ((repoch_m d).1)) ?_
 refine lm 47 (lv0) ?_
 simp only [nz]
 refine lst rfl (m_callx hm68 48 rfl (run_rbody rfl rfl rfl) (rbody_any ((repoch_m d).1) l lv0 _ (hm68.see 1 rfl) (by have h2048 := rfew_of (d := d) (by assumption); first | omega | (simp only [List.length_cons, List.length_nil] at *; omega))) (fun v79 w77 hR81 hb82 hm78 => ?_))
 obtain ⟨_, rfl, ho84⟩ := hR81
 have hm83 : Mm none S w w77 [.see (DkR d dv0 dv1) Fd, .see (Rs eWr 2 l lv0) Fl, .blk g4 #[dv0, dv1, J (d.fuse), .bool (d.down)] 25, .blk g7 #[.slice none 0 0, .slice none 0 0, J 0, .bool false] 25, .row v79 (rbody_m ((repoch_m d).1) l).length ((rbody_m ((repoch_m d).1) l).flatMap eS) 9 1] := hm68.gained hb82 ho84
 clear hm78
 have hf85 : (rbody_m ((repoch_m d).1) l).length = (l.length + 60) / 61 + l.length := rbody_len ((repoch_m d).1) l
 simp only [nz]
 refine la 8 (v79) ?_
 simp only [nz]
 refine wn (tj (hK76 _ _ (wk (fun K86 hK86 => (wq ?_)))))
 refine lw 50 (.agg #[dv0, dv1, J (d.fuse), .bool (d.down)]) (r_whole (hm83.at 2 rfl) Tryd.underlying25 rfl (by exact sz_25) rfl rfl) ?_
 refine lm 51 (v79) ?_
 simp only [nz]
 have hm89 : Mm none S w w77 [.see (DkR d dv0 dv1) Fd, .see (Rs eWr 2 l lv0) Fl, .blk g4 #[dv0, dv1, J (d.fuse), .bool (d.down)] 25, .blk g7 #[.slice none 0 0, .slice none 0 0, J 0, .bool false] 25, .see (Rs eS 1 (rbody_m ((repoch_m d).1) l) v79) (fp v79 ((rbody_m ((repoch_m d).1) l).flatMap eS))] := hm83.freeze 4 rfl
 refine lst rfl (m_callx hm89 52 rfl (run_rall rfl rfl rfl rfl) (rall_any d 2 (rbody_m ((repoch_m d).1) l) dv0 dv1 v79 (seeS _) _ (hm89.from 0 rfl) (hm89.from 4 rfl) (by omega) (by omega) (by omega) (by have h2048 := rfew_of (d := d) (by assumption); first | omega | (simp only [List.length_cons, List.length_nil] at *; omega)) (by omega) (by omega)) (fun vv94 w87 hR95 hb96 hm88 => ?_))
 obtain ⟨v90, v91, rfl, hg97⟩ := hR95
 obtain ⟨F93, hm98⟩ : ∃ F93, Mm none S w w87 [.see (DkR d dv0 dv1) Fd, .see (Rs eWr 2 l lv0) Fl, .blk g4 #[dv0, dv1, J (d.fuse), .bool (d.down)] 25, .blk g7 #[.slice none 0 0, .slice none 0 0, J 0, .bool false] 25, .see (Rs eS 1 (rbody_m ((repoch_m d).1) l) v79) (fp v79 ((rbody_m ((repoch_m d).1) l).flatMap eS)), .see (DkR ((rall_m d 2 (rbody_m ((repoch_m d).1) l)).1) v90 v91) F93] := Mm.tookS hm89 hb96 hg97
 clear hm88 hg97 hb96
 have hf99 : (rall_m d 2 (rbody_m ((repoch_m d).1) l)).1.safe.length = d.safe.length := (rall_near d 2 (rbody_m ((repoch_m d).1) l)).1
 have hf100 : (rall_m d 2 (rbody_m ((repoch_m d).1) l)).1.loose.length ≤ d.loose.length + ((rbody_m ((repoch_m d).1) l) : List (List UInt8)).length := (rall_near d 2 (rbody_m ((repoch_m d).1) l)).2.1
 have hf101 : (rall_m d 2 (rbody_m ((repoch_m d).1) l)).1.fuse ≤ 9223372036854775807 := (rall_near d 2 (rbody_m ((repoch_m d).1) l)).2.2 (show d.fuse ≤ 9223372036854775807 from (by omega))
 simp only [nz]
 refine lm 49 (.tuple #[.agg #[v90, v91, J (((rall_m d 2 (rbody_m ((repoch_m d).1) l)).1).fuse), .bool (((rall_m d 2 (rbody_m ((repoch_m d).1) l)).1).down)], J ((rall_m d 2 (rbody_m ((repoch_m d).1) l)).2)]) ?_
 refine lw 53 (.agg #[v90, v91, J (((rall_m d 2 (rbody_m ((repoch_m d).1) l)).1).fuse), .bool (((rall_m d 2 (rbody_m ((repoch_m d).1) l)).1).down)]) (run_ex rfl rfl rfl) ?_
 refine lw 54 (J ((rall_m d 2 (rbody_m ((repoch_m d).1) l)).2)) (run_ex rfl rfl rfl) ?_
 simp only [nz]
 refine lst rfl (m_alloc (c := #[.slice none 0 0, .slice none 0 0, J 0, .bool false]) (T := 25) hm98 9 rfl (by unfold execOp; go_simp; try rfl) (fun g104 w102 hm103 => ?_))
 simp only [nz]
 have ho107 := (rd_one ((hm103.see 5 rfl).1))
 have ho108 := (rd_one ((hm103.see 5 rfl).2))
 refine lst rfl (m_store 6 25 _ _ 0 (.agg #[v90, v91, J (((rall_m d 2 (rbody_m ((repoch_m d).1) l)).1).fuse), .bool (((rall_m d 2 (rbody_m ((repoch_m d).1) l)).1).down)]) (old := #[.slice none 0 0, .slice none 0 0, J 0, .bool false]) (new := #[v90, v91, J (((rall_m d 2 (rbody_m ((repoch_m d).1) l)).1).fuse), .bool (((rall_m d 2 (rbody_m ((repoch_m d).1) l)).1).down)]) hm103 rfl rfl rfl rfl rfl (by exact sz_25) (show 0 + 4 ≤ 4 from by decide) a4 rfl (fun w105 hm106 => ?_))
 refine la 10 (J ((rall_m d 2 (rbody_m ((repoch_m d).1) l)).2)) ?_
 simp only [nz]
 refine wn (tj (hK86 _ _ (wk (fun K109 hK109 => (wk (fun K110 hK110 => (wq ?_)))))))
 refine lm 55 (J ((rall_m d 2 (rbody_m ((repoch_m d).1) l)).2)) ?_
 refine lw 56 (.bool (decide (¬ (rall_m d 2 (rbody_m ((repoch_m d).1) l)).2 = 0))) (z_neq ((rall_m d 2 (rbody_m ((repoch_m d).1) l)).2) 0 rfl rfl rfl) ?_
 simp only [nz]
 refine wn (tj (hK110 _ _ ?_))
 refine cond_d (¬ (rall_m d 2 (rbody_m ((repoch_m d).1) l)).2 = 0) rfl (fun hc111 => ?_) (fun hc111 => ?_)
 ·refine wk (fun K112 hK112 => (wq ?_))
  refine lw 57 (.agg #[v90, v91, J (((rall_m d 2 (rbody_m ((repoch_m d).1) l)).1).fuse), .bool (((rall_m d 2 (rbody_m ((repoch_m d).1) l)).1).down)]) (r_whole (hm106.at 6 rfl) Tryd.underlying25 rfl (by exact sz_25) rfl rfl) ?_
  refine lm 58 (J ((rall_m d 2 (rbody_m ((repoch_m d).1) l)).2)) ?_
  simp only [nz]
  have ho115 := (rd_one ((hm106.see 5 rfl).1))
  have ho116 := (rd_one ((hm106.see 5 rfl).2))
  refine lst rfl (m_store 3 25 _ _ 0 (.agg #[v90, v91, J (((rall_m d 2 (rbody_m ((repoch_m d).1) l)).1).fuse), .bool (((rall_m d 2 (rbody_m ((repoch_m d).1) l)).1).down)]) (old := #[.slice none 0 0, .slice none 0 0, J 0, .bool false]) (new := #[v90, v91, J (((rall_m d 2 (rbody_m ((repoch_m d).1) l)).1).fuse), .bool (((rall_m d 2 (rbody_m ((repoch_m d).1) l)).1).down)]) hm106 rfl rfl rfl rfl rfl (by exact sz_25) (show 0 + 4 ≤ 4 from by decide) a4 rfl (fun w113 hm114 => ?_))
  refine la 5 (J ((rall_m d 2 (rbody_m ((repoch_m d).1) l)).2)) ?_
  simp only [nz]
  refine wn (tj (hK112 _ _ (wp_ret (then_r ?_))))
  have he117 : rcommit_m d l = (((rall_m d 2 (rbody_m ((repoch_m d).1) l)).1), (rall_m d 2 (rbody_m ((repoch_m d).1) l)).2) := by unfold rcommit_m; rw [if_neg hs12, if_neg hc21, if_neg hc30, if_neg hs42, if_neg hc49, if_neg hc58, if_neg hc69, if_pos hc111] <;> rfl
  exact ⟨rfl, .tuple #[.agg #[v90, v91, J (((rall_m d 2 (rbody_m ((repoch_m d).1) l)).1).fuse), .bool (((rall_m d 2 (rbody_m ((repoch_m d).1) l)).1).down)], J ((rall_m d 2 (rbody_m ((repoch_m d).1) l)).2)], Mem.res_ct rfl rfl (hm114.at 3 rfl) Tryd.underlying25 rfl (by exact sz_25) rfl, ⟨⟨_, rfl, v90, v91, (by rw [he117]), by rw [he117]; exact hm114.give (hm114.from 5 rfl)⟩, hm114.below⟩⟩
 refine wp_skip (tj (hK109 _ _ (wk (fun K118 hK118 => ?_))))
 refine wp_mono (Q := fun e a' w' => e = Exit.normal ∧ ∃ (g126 : Nat) (v131 : Value) (v132 : Value) (F134 : Nat → Prop), a' = ⟨#[.agg #[dv0, dv1, J (d.fuse), .bool (d.down)], lv0, Pp g4 0, undef, Pp g7 0, J 0, J ((repoch_m d).1), .bool ((repoch_m d).2), v79, Pp g104 0, J ((QfI1 d l).2), .agg #[dv0, dv1, J (d.fuse), .bool (d.down)], .bool ((rright_m d)), .bool false, .bool false, .agg #[dv0, dv1, J (d.fuse), .bool (d.down)], lv0, .bool ((good_m d l)), .bool (!(good_m d l)), .bool (!(good_m d l)), undef, Pp g4 3, .bool (d.down), undef, .tuple #[J ((repoch_m d).1), .bool ((repoch_m d).2)], .agg #[dv0, dv1, J (d.fuse), .bool (d.down)], .tuple #[J ((repoch_m d).1), .bool ((repoch_m d).2)], J ((repoch_m d).1), .bool ((repoch_m d).2), .bool ((repoch_m d).2), .bool false, .bool false, J ((repoch_m d).1), .bool (decide (4611686018427387904 ≤ (repoch_m d).1)), .bool (decide (4611686018427387904 ≤ (repoch_m d).1)), undef, lv0, J (l.length : Int), .bool (decide (l.length = 0)), undef, .agg #[dv0, dv1, J (d.fuse), .bool (d.down)], lv0, J (l.length : Int), .bool (decide (((0 : Int) ≤ (l.length : Int) ∧ ((l.length : Int) : Int) ≤ (((d.safe).length : Nat) : Int) ∧ (((l.length : Int) : Int) + 60) / 61 + (l.length : Int) + 2 ≤ (((((d.safe).length / 4 : Nat)) : Int))))), .bool (decide (¬ (((0 : Int) ≤ (l.length : Int) ∧ ((l.length : Int) : Int) ≤ (((d.safe).length : Nat) : Int) ∧ (((l.length : Int) : Int) + 60) / 61 + (l.length : Int) + 2 ≤ (((((d.safe).length / 4 : Nat)) : Int)))))), undef, J ((repoch_m d).1), lv0, v79, .tuple #[.agg #[v90, v91, J (((rall_m d 2 (rbody_m ((repoch_m d).1) l)).1).fuse), .bool (((rall_m d 2 (rbody_m ((repoch_m d).1) l)).1).down)], J ((rall_m d 2 (rbody_m ((repoch_m d).1) l)).2)], .agg #[dv0, dv1, J (d.fuse), .bool (d.down)], v79, .tuple #[.agg #[v90, v91, J (((rall_m d 2 (rbody_m ((repoch_m d).1) l)).1).fuse), .bool (((rall_m d 2 (rbody_m ((repoch_m d).1) l)).1).down)], J ((rall_m d 2 (rbody_m ((repoch_m d).1) l)).2)], .agg #[v90, v91, J (((rall_m d 2 (rbody_m ((repoch_m d).1) l)).1).fuse), .bool (((rall_m d 2 (rbody_m ((repoch_m d).1) l)).1).down)], J ((rall_m d 2 (rbody_m ((repoch_m d).1) l)).2), J ((rall_m d 2 (rbody_m ((repoch_m d).1) l)).2), .bool (decide (¬ (rall_m d 2 (rbody_m ((repoch_m d).1) l)).2 = 0)), undef, undef, .tuple #[.agg #[v131, v132, J (((QfI1 d l).1).fuse), .bool (((QfI1 d l).1).down)], J ((QfI1 d l).2)], .agg #[v90, v91, J (((rall_m d 2 (rbody_m ((repoch_m d).1) l)).1).fuse), .bool (((rall_m d 2 (rbody_m ((repoch_m d).1) l)).1).down)], J ((repoch_m d).1), lv0, J (l.length : Int), v79, .string (tx (QfI2 d l)), Sl g126 0 1 1, .tuple #[.agg #[v131, v132, J (((QfI1 d l).1).fuse), .bool (((QfI1 d l).1).down)], J ((QfI1 d l).2)], .agg #[v131, v132, J (((QfI1 d l).1).fuse), .bool (((QfI1 d l).1).down)], J ((QfI1 d l).2), undef, undef, undef, undef, undef, undef, undef, undef, undef, undef], []⟩ ∧ Mm none S w w' [.see (DkR d dv0 dv1) Fd, .see (Rs eWr 2 l lv0) Fl, .blk g4 #[dv0, dv1, J (d.fuse), .bool (d.down)] 25, .blk g7 #[.slice none 0 0, .slice none 0 0, J 0, .bool false] 25, .see (Rs eS 1 (rbody_m ((repoch_m d).1) l) v79) (fp v79 ((rbody_m ((repoch_m d).1) l).flatMap eS)), .see (DkR ((rall_m d 2 (rbody_m ((repoch_m d).1) l)).1) v90 v91) F93, .blk g104 #[v131, v132, J (((QfI1 d l).1).fuse), .bool (((QfI1 d l).1).down)] 25, .see (Rs eS 1 ([(QfI2 d l)] : List (List UInt8)) (Sl g126 0 1 1)) (fp (Sl g126 0 1 1) (List.flatMap eS ([(QfI2 d l)] : List (List UInt8)))), .see (DkR ((QfI1 d l).1) v131 v132) F134]) ?_ ?_
 ·have hm119 := hm106.drew
  refine wp_region_held_drew (S := fun w' => True) (by kernel_rfl) (trivial) (fun _ => ?_)
  generalize w105.drew = w120 at *
  refine tn 1 61 (J ((repoch_m d).1)) rfl rfl (fun _ hw => run_mv rfl rfl) (trivial) ?_
  simp only [nz]
  refine tn 2 62 (lv0) rfl rfl (fun _ hw => run_mv rfl rfl) (trivial) ?_
  simp only [nz]
  refine tn 3 63 (J (l.length : Int)) rfl rfl (fun _ hw => s_len ((hm119.see 1 rfl)) rfl Tryd.underlying23 rfl) (trivial) ?_
  simp only [nz]
  refine tn 4 64 (v79) rfl rfl (fun _ hw => run_mv rfl rfl) (trivial) ?_
  simp only [nz]
  refine two_ready 0 5 (by kernel_rfl) ?_ ?_
  ·refine opd rfl rfl (w_value 60 (.agg #[v90, v91, J (((rall_m d 2 (rbody_m ((repoch_m d).1) l)).1).fuse), .bool (((rall_m d 2 (rbody_m ((repoch_m d).1) l)).1).down)]) rfl (r_whole (hm119.at 6 rfl) Tryd.underlying25 rfl (by exact sz_25) rfl rfl) ⟨trivial, ?_⟩)
   simp only [nz]
   refine one_ready 5 (by kernel_rfl) ?_
   refine opd rfl rfl (m_call hm119 65 (.string (tx (QfI2 d l))) rfl (run_done rfl rfl rfl rfl) (done_any ((repoch_m d).1) (l.length : Int) (rbody_m ((repoch_m d).1) l) v79 _ (hm119.see 4 rfl) (Laid2.below hT hm119.below) (by have h2048 := rfew_of (d := d) (by assumption); first | omega | (simp only [List.length_cons, List.length_nil] at *; omega)) (by exact good_body (d := d) (by assumption))) (fun w121 hm122 => ?_))
   have hf123 : (QfI2 d l).length = 256 := done_len ((repoch_m d).1) ((l.length : Nat) : Int) (rbody_m ((repoch_m d).1) l)
   refine ⟨trivial, ?_⟩
   simp only [nz]
   refine one_ready 6 (by kernel_rfl) ?_
   refine opd rfl rfl (m_make (c := #[.string (tx (QfI2 d l))]) (T := 9) (fun g => Sl g 0 1 1) hm122 66 rfl (by unfold execOp; go_simp; try rfl) (fun g126 w124 hm125 => ?_))
   refine ⟨trivial, ?_⟩
   simp only [nz]
   refine one_ready 7 (by kernel_rfl) ?_
   have hm129 : Mm none S w w124 [.see (DkR d dv0 dv1) Fd, .see (Rs eWr 2 l lv0) Fl, .blk g4 #[dv0, dv1, J (d.fuse), .bool (d.down)] 25, .blk g7 #[.slice none 0 0, .slice none 0 0, J 0, .bool false] 25, .see (Rs eS 1 (rbody_m ((repoch_m d).1) l) v79) (fp v79 ((rbody_m ((repoch_m d).1) l).flatMap eS)), .see (DkR ((rall_m d 2 (rbody_m ((repoch_m d).1) l)).1) v90 v91) F93, .blk g104 #[v90, v91, J (((rall_m d 2 (rbody_m ((repoch_m d).1) l)).1).fuse), .bool (((rall_m d 2 (rbody_m ((repoch_m d).1) l)).1).down)] 25, .see (Rs eS 1 ([(QfI2 d l)] : List (List UInt8)) (Sl g126 0 1 1)) (fp (Sl g126 0 1 1) (List.flatMap eS ([(QfI2 d l)] : List (List UInt8))))] := hm125.freezeB 7 rfl rfl rfl eS_len
   refine opd rfl rfl (m_callx hm129 67 rfl (run_rall rfl rfl rfl rfl) (rall_any ((rall_m d 2 (rbody_m ((repoch_m d).1) l)).1) 1 ([(QfI2 d l)] : List (List UInt8)) v90 v91 (Sl g126 0 1 1) (seeS _) _ (hm129.from 5 rfl) (hm129.from 7 rfl) (by omega) (by have h2048 := rfew_of (d := d) (by assumption); first | omega | (simp only [List.length_cons, List.length_nil] at *; omega)) (by omega) (by have h2048 := rfew_of (d := d) (by assumption); first | omega | (simp only [List.length_cons, List.length_nil] at *; omega)) (by omega) (by omega)) (fun vv135 w127 hR136 hb137 hm128 => ?_))
   obtain ⟨v131, v132, rfl, hg138⟩ := hR136
   obtain ⟨F134, hm139⟩ : ∃ F134, Mm none S w w127 [.see (DkR d dv0 dv1) Fd, .see (Rs eWr 2 l lv0) Fl, .blk g4 #[dv0, dv1, J (d.fuse), .bool (d.down)] 25, .blk g7 #[.slice none 0 0, .slice none 0 0, J 0, .bool false] 25, .see (Rs eS 1 (rbody_m ((repoch_m d).1) l) v79) (fp v79 ((rbody_m ((repoch_m d).1) l).flatMap eS)), .see (DkR ((rall_m d 2 (rbody_m ((repoch_m d).1) l)).1) v90 v91) F93, .blk g104 #[v90, v91, J (((rall_m d 2 (rbody_m ((repoch_m d).1) l)).1).fuse), .bool (((rall_m d 2 (rbody_m ((repoch_m d).1) l)).1).down)] 25, .see (Rs eS 1 ([(QfI2 d l)] : List (List UInt8)) (Sl g126 0 1 1)) (fp (Sl g126 0 1 1) (List.flatMap eS ([(QfI2 d l)] : List (List UInt8)))), .see (DkR ((QfI1 d l).1) v131 v132) F134] := Mm.tookS hm129 hb137 hg138
   clear hm128 hg138 hb137
   have hf140 : (QfI1 d l).1.safe.length = ((rall_m d 2 (rbody_m ((repoch_m d).1) l)).1).safe.length := (rall_near ((rall_m d 2 (rbody_m ((repoch_m d).1) l)).1) 1 ([(QfI2 d l)] : List (List UInt8))).1
   have hf141 : (QfI1 d l).1.loose.length ≤ ((rall_m d 2 (rbody_m ((repoch_m d).1) l)).1).loose.length + (([(QfI2 d l)] : List (List UInt8)) : List (List UInt8)).length := (rall_near ((rall_m d 2 (rbody_m ((repoch_m d).1) l)).1) 1 ([(QfI2 d l)] : List (List UInt8))).2.1
   have hf142 : (QfI1 d l).1.fuse ≤ 9223372036854775807 := (rall_near ((rall_m d 2 (rbody_m ((repoch_m d).1) l)).1) 1 ([(QfI2 d l)] : List (List UInt8))).2.2 (show ((rall_m d 2 (rbody_m ((repoch_m d).1) l)).1).fuse ≤ 9223372036854775807 from (by omega))
   refine ⟨trivial, ?_⟩
   simp only [nz]
   refine tn 8 59 (.tuple #[.agg #[v131, v132, J (((QfI1 d l).1).fuse), .bool (((QfI1 d l).1).down)], J ((QfI1 d l).2)]) rfl rfl (fun _ hw => run_mv rfl rfl) (trivial) ?_
   simp only [nz]
   refine tn 9 68 (.agg #[v131, v132, J (((QfI1 d l).1).fuse), .bool (((QfI1 d l).1).down)]) rfl rfl (fun _ hw => run_ex rfl rfl rfl) (trivial) ?_
   simp only [nz]
   refine tn 10 69 (J ((QfI1 d l).2)) rfl rfl (fun _ hw => run_ex rfl rfl rfl) (trivial) ?_
   simp only [nz]
   refine one_ready 11 (by kernel_rfl) ?_
   have ho145 := (rd_one ((hm139.see 8 rfl).1))
   have ho146 := (rd_one ((hm139.see 8 rfl).2))
   refine opd rfl rfl (m_store 6 25 _ _ 0 (.agg #[v131, v132, J (((QfI1 d l).1).fuse), .bool (((QfI1 d l).1).down)]) (old := #[v90, v91, J (((rall_m d 2 (rbody_m ((repoch_m d).1) l)).1).fuse), .bool (((rall_m d 2 (rbody_m ((repoch_m d).1) l)).1).down)]) (new := #[v131, v132, J (((QfI1 d l).1).fuse), .bool (((QfI1 d l).1).down)]) hm139 rfl rfl rfl rfl rfl (by exact sz_25) (show 0 + 4 ≤ 4 from by decide) a4 rfl (fun w143 hm144 => ?_))
   refine ⟨trivial, ?_⟩
   refine one_ready 12 (by kernel_rfl) ?_
   refine opd rfl rfl (w_value 10 (J ((QfI1 d l).2)) rfl (run_as rfl rfl) ⟨trivial, ?_⟩)
   simp only [nz]
   refine wpAnyH_done (by kernel_rfl) ?_ _
   exact ⟨rfl, g126, v131, v132, F134, rfl, hm144⟩
  refine opd rfl rfl (m_call hm119 65 (.string (tx (QfI2 d l))) rfl (run_done rfl rfl rfl rfl) (done_any ((repoch_m d).1) (l.length : Int) (rbody_m ((repoch_m d).1) l) v79 _ (hm119.see 4 rfl) (Laid2.below hT hm119.below) (by have h2048 := rfew_of (d := d) (by assumption); first | omega | (simp only [List.length_cons, List.length_nil] at *; omega)) (by exact good_body (d := d) (by assumption))) (fun w147 hm148 => ?_))
  have hf149 : (QfI2 d l).length = 256 := done_len ((repoch_m d).1) ((l.length : Nat) : Int) (rbody_m ((repoch_m d).1) l)
  refine ⟨trivial, ?_⟩
  simp only [nz]
  refine two_ready 0 6 (by kernel_rfl) ?_ ?_
  ·refine opd rfl rfl (w_value 60 (.agg #[v90, v91, J (((rall_m d 2 (rbody_m ((repoch_m d).1) l)).1).fuse), .bool (((rall_m d 2 (rbody_m ((repoch_m d).1) l)).1).down)]) rfl (r_whole (hm148.at 6 rfl) Tryd.underlying25 rfl (by exact sz_25) rfl rfl) ⟨trivial, ?_⟩)
   simp only [nz]
   refine one_ready 6 (by kernel_rfl) ?_
   refine opd rfl rfl (m_make (c := #[.string (tx (QfI2 d l))]) (T := 9) (fun g => Sl g 0 1 1) hm148 66 rfl (by unfold execOp; go_simp; try rfl) (fun g152 w150 hm151 => ?_))
   refine ⟨trivial, ?_⟩
   simp only [nz]
   refine one_ready 7 (by kernel_rfl) ?_
   have hm155 : Mm none S w w150 [.see (DkR d dv0 dv1) Fd, .see (Rs eWr 2 l lv0) Fl, .blk g4 #[dv0, dv1, J (d.fuse), .bool (d.down)] 25, .blk g7 #[.slice none 0 0, .slice none 0 0, J 0, .bool false] 25, .see (Rs eS 1 (rbody_m ((repoch_m d).1) l) v79) (fp v79 ((rbody_m ((repoch_m d).1) l).flatMap eS)), .see (DkR ((rall_m d 2 (rbody_m ((repoch_m d).1) l)).1) v90 v91) F93, .blk g104 #[v90, v91, J (((rall_m d 2 (rbody_m ((repoch_m d).1) l)).1).fuse), .bool (((rall_m d 2 (rbody_m ((repoch_m d).1) l)).1).down)] 25, .see (Rs eS 1 ([(QfI2 d l)] : List (List UInt8)) (Sl g152 0 1 1)) (fp (Sl g152 0 1 1) (List.flatMap eS ([(QfI2 d l)] : List (List UInt8))))] := hm151.freezeB 7 rfl rfl rfl eS_len
   refine opd rfl rfl (m_callx hm155 67 rfl (run_rall rfl rfl rfl rfl) (rall_any ((rall_m d 2 (rbody_m ((repoch_m d).1) l)).1) 1 ([(QfI2 d l)] : List (List UInt8)) v90 v91 (Sl g152 0 1 1) (seeS _) _ (hm155.from 5 rfl) (hm155.from 7 rfl) (by omega) (by have h2048 := rfew_of (d := d) (by assumption); first | omega | (simp only [List.length_cons, List.length_nil] at *; omega)) (by omega) (by have h2048 := rfew_of (d := d) (by assumption); first | omega | (simp only [List.length_cons, List.length_nil] at *; omega)) (by omega) (by omega)) (fun vv161 w153 hR162 hb163 hm154 => ?_))
   obtain ⟨v157, v158, rfl, hg164⟩ := hR162
   obtain ⟨F160, hm165⟩ : ∃ F160, Mm none S w w153 [.see (DkR d dv0 dv1) Fd, .see (Rs eWr 2 l lv0) Fl, .blk g4 #[dv0, dv1, J (d.fuse), .bool (d.down)] 25, .blk g7 #[.slice none 0 0, .slice none 0 0, J 0, .bool false] 25, .see (Rs eS 1 (rbody_m ((repoch_m d).1) l) v79) (fp v79 ((rbody_m ((repoch_m d).1) l).flatMap eS)), .see (DkR ((rall_m d 2 (rbody_m ((repoch_m d).1) l)).1) v90 v91) F93, .blk g104 #[v90, v91, J (((rall_m d 2 (rbody_m ((repoch_m d).1) l)).1).fuse), .bool (((rall_m d 2 (rbody_m ((repoch_m d).1) l)).1).down)] 25, .see (Rs eS 1 ([(QfI2 d l)] : List (List UInt8)) (Sl g152 0 1 1)) (fp (Sl g152 0 1 1) (List.flatMap eS ([(QfI2 d l)] : List (List UInt8)))), .see (DkR ((QfI1 d l).1) v157 v158) F160] := Mm.tookS hm155 hb163 hg164
   clear hm154 hg164 hb163
   have hf166 : (QfI1 d l).1.safe.length = ((rall_m d 2 (rbody_m ((repoch_m d).1) l)).1).safe.length := (rall_near ((rall_m d 2 (rbody_m ((repoch_m d).1) l)).1) 1 ([(QfI2 d l)] : List (List UInt8))).1
   have hf167 : (QfI1 d l).1.loose.length ≤ ((rall_m d 2 (rbody_m ((repoch_m d).1) l)).1).loose.length + (([(QfI2 d l)] : List (List UInt8)) : List (List UInt8)).length := (rall_near ((rall_m d 2 (rbody_m ((repoch_m d).1) l)).1) 1 ([(QfI2 d l)] : List (List UInt8))).2.1
   have hf168 : (QfI1 d l).1.fuse ≤ 9223372036854775807 := (rall_near ((rall_m d 2 (rbody_m ((repoch_m d).1) l)).1) 1 ([(QfI2 d l)] : List (List UInt8))).2.2 (show ((rall_m d 2 (rbody_m ((repoch_m d).1) l)).1).fuse ≤ 9223372036854775807 from (by omega))
   refine ⟨trivial, ?_⟩
   simp only [nz]
   refine tn 8 59 (.tuple #[.agg #[v157, v158, J (((QfI1 d l).1).fuse), .bool (((QfI1 d l).1).down)], J ((QfI1 d l).2)]) rfl rfl (fun _ hw => run_mv rfl rfl) (trivial) ?_
   simp only [nz]
   refine tn 9 68 (.agg #[v157, v158, J (((QfI1 d l).1).fuse), .bool (((QfI1 d l).1).down)]) rfl rfl (fun _ hw => run_ex rfl rfl rfl) (trivial) ?_
   simp only [nz]
   refine tn 10 69 (J ((QfI1 d l).2)) rfl rfl (fun _ hw => run_ex rfl rfl rfl) (trivial) ?_
   simp only [nz]
   refine one_ready 11 (by kernel_rfl) ?_
   have ho171 := (rd_one ((hm165.see 8 rfl).1))
   have ho172 := (rd_one ((hm165.see 8 rfl).2))
   refine opd rfl rfl (m_store 6 25 _ _ 0 (.agg #[v157, v158, J (((QfI1 d l).1).fuse), .bool (((QfI1 d l).1).down)]) (old := #[v90, v91, J (((rall_m d 2 (rbody_m ((repoch_m d).1) l)).1).fuse), .bool (((rall_m d 2 (rbody_m ((repoch_m d).1) l)).1).down)]) (new := #[v157, v158, J (((QfI1 d l).1).fuse), .bool (((QfI1 d l).1).down)]) hm165 rfl rfl rfl rfl rfl (by exact sz_25) (show 0 + 4 ≤ 4 from by decide) a4 rfl (fun w169 hm170 => ?_))
   refine ⟨trivial, ?_⟩
   refine one_ready 12 (by kernel_rfl) ?_
   refine opd rfl rfl (w_value 10 (J ((QfI1 d l).2)) rfl (run_as rfl rfl) ⟨trivial, ?_⟩)
   simp only [nz]
   refine wpAnyH_done (by kernel_rfl) ?_ _
   exact ⟨rfl, g152, v157, v158, F160, rfl, hm170⟩
  refine opd rfl rfl (m_make (c := #[.string (tx (QfI2 d l))]) (T := 9) (fun g => Sl g 0 1 1) hm148 66 rfl (by unfold execOp; go_simp; try rfl) (fun g175 w173 hm174 => ?_))
  refine ⟨trivial, ?_⟩
  simp only [nz]
  refine one_ready 0 (by kernel_rfl) ?_
  refine opd rfl rfl (w_value 60 (.agg #[v90, v91, J (((rall_m d 2 (rbody_m ((repoch_m d).1) l)).1).fuse), .bool (((rall_m d 2 (rbody_m ((repoch_m d).1) l)).1).down)]) rfl (r_whole (hm174.at 6 rfl) Tryd.underlying25 rfl (by exact sz_25) rfl rfl) ⟨trivial, ?_⟩)
  simp only [nz]
  refine one_ready 7 (by kernel_rfl) ?_
  have hm178 : Mm none S w w173 [.see (DkR d dv0 dv1) Fd, .see (Rs eWr 2 l lv0) Fl, .blk g4 #[dv0, dv1, J (d.fuse), .bool (d.down)] 25, .blk g7 #[.slice none 0 0, .slice none 0 0, J 0, .bool false] 25, .see (Rs eS 1 (rbody_m ((repoch_m d).1) l) v79) (fp v79 ((rbody_m ((repoch_m d).1) l).flatMap eS)), .see (DkR ((rall_m d 2 (rbody_m ((repoch_m d).1) l)).1) v90 v91) F93, .blk g104 #[v90, v91, J (((rall_m d 2 (rbody_m ((repoch_m d).1) l)).1).fuse), .bool (((rall_m d 2 (rbody_m ((repoch_m d).1) l)).1).down)] 25, .see (Rs eS 1 ([(QfI2 d l)] : List (List UInt8)) (Sl g175 0 1 1)) (fp (Sl g175 0 1 1) (List.flatMap eS ([(QfI2 d l)] : List (List UInt8))))] := hm174.freezeB 7 rfl rfl rfl eS_len
  refine opd rfl rfl (m_callx hm178 67 rfl (run_rall rfl rfl rfl rfl) (rall_any ((rall_m d 2 (rbody_m ((repoch_m d).1) l)).1) 1 ([(QfI2 d l)] : List (List UInt8)) v90 v91 (Sl g175 0 1 1) (seeS _) _ (hm178.from 5 rfl) (hm178.from 7 rfl) (by omega) (by have h2048 := rfew_of (d := d) (by assumption); first | omega | (simp only [List.length_cons, List.length_nil] at *; omega)) (by omega) (by have h2048 := rfew_of (d := d) (by assumption); first | omega | (simp only [List.length_cons, List.length_nil] at *; omega)) (by omega) (by omega)) (fun vv184 w176 hR185 hb186 hm177 => ?_))
  obtain ⟨v180, v181, rfl, hg187⟩ := hR185
  obtain ⟨F183, hm188⟩ : ∃ F183, Mm none S w w176 [.see (DkR d dv0 dv1) Fd, .see (Rs eWr 2 l lv0) Fl, .blk g4 #[dv0, dv1, J (d.fuse), .bool (d.down)] 25, .blk g7 #[.slice none 0 0, .slice none 0 0, J 0, .bool false] 25, .see (Rs eS 1 (rbody_m ((repoch_m d).1) l) v79) (fp v79 ((rbody_m ((repoch_m d).1) l).flatMap eS)), .see (DkR ((rall_m d 2 (rbody_m ((repoch_m d).1) l)).1) v90 v91) F93, .blk g104 #[v90, v91, J (((rall_m d 2 (rbody_m ((repoch_m d).1) l)).1).fuse), .bool (((rall_m d 2 (rbody_m ((repoch_m d).1) l)).1).down)] 25, .see (Rs eS 1 ([(QfI2 d l)] : List (List UInt8)) (Sl g175 0 1 1)) (fp (Sl g175 0 1 1) (List.flatMap eS ([(QfI2 d l)] : List (List UInt8)))), .see (DkR ((QfI1 d l).1) v180 v181) F183] := Mm.tookS hm178 hb186 hg187
  clear hm177 hg187 hb186
  have hf189 : (QfI1 d l).1.safe.length = ((rall_m d 2 (rbody_m ((repoch_m d).1) l)).1).safe.length := (rall_near ((rall_m d 2 (rbody_m ((repoch_m d).1) l)).1) 1 ([(QfI2 d l)] : List (List UInt8))).1
  have hf190 : (QfI1 d l).1.loose.length ≤ ((rall_m d 2 (rbody_m ((repoch_m d).1) l)).1).loose.length + (([(QfI2 d l)] : List (List UInt8)) : List (List UInt8)).length := (rall_near ((rall_m d 2 (rbody_m ((repoch_m d).1) l)).1) 1 ([(QfI2 d l)] : List (List UInt8))).2.1
  have hf191 : (QfI1 d l).1.fuse ≤ 9223372036854775807 := (rall_near ((rall_m d 2 (rbody_m ((repoch_m d).1) l)).1) 1 ([(QfI2 d l)] : List (List UInt8))).2.2 (show ((rall_m d 2 (rbody_m ((repoch_m d).1) l)).1).fuse ≤ 9223372036854775807 from (by omega))
  refine ⟨trivial, ?_⟩
  simp only [nz]
  refine tn 8 59 (.tuple #[.agg #[v180, v181, J (((QfI1 d l).1).fuse), .bool (((QfI1 d l).1).down)], J ((QfI1 d l).2)]) rfl rfl (fun _ hw => run_mv rfl rfl) (trivial) ?_
  simp only [nz]
  refine tn 9 68 (.agg #[v180, v181, J (((QfI1 d l).1).fuse), .bool (((QfI1 d l).1).down)]) rfl rfl (fun _ hw => run_ex rfl rfl rfl) (trivial) ?_
  simp only [nz]
  refine tn 10 69 (J ((QfI1 d l).2)) rfl rfl (fun _ hw => run_ex rfl rfl rfl) (trivial) ?_
  simp only [nz]
  refine one_ready 11 (by kernel_rfl) ?_
  have ho194 := (rd_one ((hm188.see 8 rfl).1))
  have ho195 := (rd_one ((hm188.see 8 rfl).2))
  refine opd rfl rfl (m_store 6 25 _ _ 0 (.agg #[v180, v181, J (((QfI1 d l).1).fuse), .bool (((QfI1 d l).1).down)]) (old := #[v90, v91, J (((rall_m d 2 (rbody_m ((repoch_m d).1) l)).1).fuse), .bool (((rall_m d 2 (rbody_m ((repoch_m d).1) l)).1).down)]) (new := #[v180, v181, J (((QfI1 d l).1).fuse), .bool (((QfI1 d l).1).down)]) hm188 rfl rfl rfl rfl rfl (by exact sz_25) (show 0 + 4 ≤ 4 from by decide) a4 rfl (fun w192 hm193 => ?_))
  refine ⟨trivial, ?_⟩
  refine one_ready 12 (by kernel_rfl) ?_
  refine opd rfl rfl (w_value 10 (J ((QfI1 d l).2)) rfl (run_as rfl rfl) ⟨trivial, ?_⟩)
  simp only [nz]
  refine wpAnyH_done (by kernel_rfl) ?_ _
  exact ⟨rfl, g175, v180, v181, F183, rfl, hm193⟩
 clear hm106
 rintro _ _ w196 ⟨rfl, g126, v131, v132, F134, rfl, hm197⟩
 have hf198 : (QfI2 d l).length = 256 := done_len ((repoch_m d).1) ((l.length : Nat) : Int) (rbody_m ((repoch_m d).1) l)
 have hf199 : (QfI1 d l).1.safe.length = ((rall_m d 2 (rbody_m ((repoch_m d).1) l)).1).safe.length := (rall_near ((rall_m d 2 (rbody_m ((repoch_m d).1) l)).1) 1 ([(QfI2 d l)] : List (List UInt8))).1
 have hf200 : (QfI1 d l).1.loose.length ≤ ((rall_m d 2 (rbody_m ((repoch_m d).1) l)).1).loose.length + (([(QfI2 d l)] : List (List UInt8)) : List (List UInt8)).length := (rall_near ((rall_m d 2 (rbody_m ((repoch_m d).1) l)).1) 1 ([(QfI2 d l)] : List (List UInt8))).2.1
 have hf201 : (QfI1 d l).1.fuse ≤ 9223372036854775807 := (rall_near ((rall_m d 2 (rbody_m ((repoch_m d).1) l)).1) 1 ([(QfI2 d l)] : List (List UInt8))).2.2 (show ((rall_m d 2 (rbody_m ((repoch_m d).1) l)).1).fuse ≤ 9223372036854775807 from (by omega))
 refine tj (hK118 _ _ (wk (fun K202 hK202 => (wk (fun K203 hK203 => (wq ?_))))))
 refine lm 70 (J ((QfI1 d l).2)) ?_
 refine lw 71 (.bool (decide (¬ (QfI1 d l).2 = 0))) (z_neq ((QfI1 d l).2) 0 rfl rfl rfl) ?_
 simp only [nz]
 refine wn (tj (hK203 _ _ ?_))
 refine cond_d (¬ (QfI1 d l).2 = 0) rfl (fun hc204 => ?_) (fun hc204 => ?_)
 ·refine wk (fun K205 hK205 => (wq ?_))
  refine lw 72 (.agg #[v131, v132, J (((QfI1 d l).1).fuse), .bool (((QfI1 d l).1).down)]) (r_whole (hm197.at 6 rfl) Tryd.underlying25 rfl (by exact sz_25) rfl rfl) ?_
  refine lm 73 (J ((QfI1 d l).2)) ?_
  simp only [nz]
  have ho208 := (rd_one ((hm197.see 8 rfl).1))
  have ho209 := (rd_one ((hm197.see 8 rfl).2))
  refine lst rfl (m_store 3 25 _ _ 0 (.agg #[v131, v132, J (((QfI1 d l).1).fuse), .bool (((QfI1 d l).1).down)]) (old := #[.slice none 0 0, .slice none 0 0, J 0, .bool false]) (new := #[v131, v132, J (((QfI1 d l).1).fuse), .bool (((QfI1 d l).1).down)]) hm197 rfl rfl rfl rfl rfl (by exact sz_25) (show 0 + 4 ≤ 4 from by decide) a4 rfl (fun w206 hm207 => ?_))
  refine la 5 (J ((QfI1 d l).2)) ?_
  simp only [nz]
  refine wn (tj (hK205 _ _ (wp_ret (then_r ?_))))
  have he210 : rcommit_m d l = (((QfI1 d l).1), (QfI1 d l).2) := by unfold rcommit_m; rw [if_neg hs12, if_neg hc21, if_neg hc30, if_neg hs42, if_neg hc49, if_neg hc58, if_neg hc69, if_neg hc111, if_pos hc204] <;> rfl
  exact ⟨rfl, .tuple #[.agg #[v131, v132, J (((QfI1 d l).1).fuse), .bool (((QfI1 d l).1).down)], J ((QfI1 d l).2)], Mem.res_ct rfl rfl (hm207.at 3 rfl) Tryd.underlying25 rfl (by exact sz_25) rfl, ⟨⟨_, rfl, v131, v132, (by rw [he210]), by rw [he210]; exact hm207.give (hm207.from 8 rfl)⟩, hm207.below⟩⟩
 refine wp_skip (tj (hK202 _ _ (wk (fun K211 hK211 => (wq ?_)))))
 refine lw 74 (.agg #[v131, v132, J (((QfI1 d l).1).fuse), .bool (((QfI1 d l).1).down)]) (r_whole (hm197.at 6 rfl) Tryd.underlying25 rfl (by exact sz_25) rfl rfl) ?_
 refine lm 75 (J ((repoch_m d).1)) ?_
 refine lm 76 (lv0) ?_
 simp only [nz]
 refine lst rfl (m_callx hm197 77 rfl (run_place rfl rfl rfl rfl) (place_any ((QfI1 d l).1) ((repoch_m d).1) l v131 v132 lv0 (seeS _) _ (hm197.from 8 rfl) (hm197.from 1 rfl) (by omega) (by have h2048 := rfew_of (d := d) (by assumption); first | omega | (simp only [List.length_cons, List.length_nil] at *; omega)) (by omega) (by have h2048 := rfew_of (d := d) (by assumption); first | omega | (simp only [List.length_cons, List.length_nil] at *; omega)) (by have hep := repoch_pos (d := d) (by assumption); omega) (by omega) (by exact good_ats (d := d) (by assumption) (by assumption))) (fun vv218 w212 hR219 hb220 hm213 => ?_))
 obtain ⟨v214, v215, rfl, hg221⟩ := hR219
 obtain ⟨F217, hm222⟩ : ∃ F217, Mm none S w w212 [.see (DkR d dv0 dv1) Fd, .see (Rs eWr 2 l lv0) Fl, .blk g4 #[dv0, dv1, J (d.fuse), .bool (d.down)] 25, .blk g7 #[.slice none 0 0, .slice none 0 0, J 0, .bool false] 25, .see (Rs eS 1 (rbody_m ((repoch_m d).1) l) v79) (fp v79 ((rbody_m ((repoch_m d).1) l).flatMap eS)), .see (DkR ((rall_m d 2 (rbody_m ((repoch_m d).1) l)).1) v90 v91) F93, .blk g104 #[v131, v132, J (((QfI1 d l).1).fuse), .bool (((QfI1 d l).1).down)] 25, .see (Rs eS 1 ([(QfI2 d l)] : List (List UInt8)) (Sl g126 0 1 1)) (fp (Sl g126 0 1 1) (List.flatMap eS ([(QfI2 d l)] : List (List UInt8)))), .see (DkR ((QfI1 d l).1) v131 v132) F134, .see (DkR ((place_m ((QfI1 d l).1) ((repoch_m d).1) l).1) v214 v215) F217] := Mm.tookS hm197 hb220 hg221
 clear hm213 hg221 hb220
 simp only [nz]
 refine lw 78 (.agg #[v214, v215, J (((place_m ((QfI1 d l).1) ((repoch_m d).1) l).1).fuse), .bool (((place_m ((QfI1 d l).1) ((repoch_m d).1) l).1).down)]) (run_ex rfl rfl rfl) ?_
 refine lw 79 (J ((place_m ((QfI1 d l).1) ((repoch_m d).1) l).2)) (run_ex rfl rfl rfl) ?_
 simp only [nz]
 have ho225 := (rd_one ((hm222.see 9 rfl).1))
 have ho226 := (rd_one ((hm222.see 9 rfl).2))
 refine lst rfl (m_store 3 25 _ _ 0 (.agg #[v214, v215, J (((place_m ((QfI1 d l).1) ((repoch_m d).1) l).1).fuse), .bool (((place_m ((QfI1 d l).1) ((repoch_m d).1) l).1).down)]) (old := #[.slice none 0 0, .slice none 0 0, J 0, .bool false]) (new := #[v214, v215, J (((place_m ((QfI1 d l).1) ((repoch_m d).1) l).1).fuse), .bool (((place_m ((QfI1 d l).1) ((repoch_m d).1) l).1).down)]) hm222 rfl rfl rfl rfl rfl (by exact sz_25) (show 0 + 4 ≤ 4 from by decide) a4 rfl (fun w223 hm224 => ?_))
 refine la 5 (J ((place_m ((QfI1 d l).1) ((repoch_m d).1) l).2)) ?_
 simp only [nz]
 refine wn (tj (hK211 _ _ (wp_ret ?_)))
 have he227 : rcommit_m d l = (((place_m ((QfI1 d l).1) ((repoch_m d).1) l).1), (place_m ((QfI1 d l).1) ((repoch_m d).1) l).2) := by unfold rcommit_m; rw [if_neg hs12, if_neg hc21, if_neg hc30, if_neg hs42, if_neg hc49, if_neg hc58, if_neg hc69, if_neg hc111, if_neg hc204] <;> rfl
 exact ⟨rfl, .tuple #[.agg #[v214, v215, J (((place_m ((QfI1 d l).1) ((repoch_m d).1) l).1).fuse), .bool (((place_m ((QfI1 d l).1) ((repoch_m d).1) l).1).down)], J ((place_m ((QfI1 d l).1) ((repoch_m d).1) l).2)], Mem.res_ct rfl rfl (hm224.at 3 rfl) Tryd.underlying25 rfl (by exact sz_25) rfl, ⟨⟨_, rfl, v214, v215, (by rw [he227]), by rw [he227]; exact hm224.give (hm224.from 9 rfl)⟩, hm224.below⟩⟩
theorem run_rcommit {o : Oper} {a : Act} {w : World} {x0 x1 : Operand} {v0 v1 : Value} (ho : o.op = .call { callee := .value (.func 21), args := #[x0, x1], argTypes := #[25, 23] }) (h0 : a.eval x0 = v0) (h1 : a.eval x1 = v1) :
  (execOp a.eval o).run Tryd.prog w = .ok (.enter 21 #[v0, v1]) w := by
 unfold execOp
 simp only [ho]
 have hf : a.eval (.func 21) = .func (.func 21) #[] #[] := rfl
 generalize a.eval = f at *
 go_simp
end Go.Proofs.YtnmaaijeamlplaaDoor.Bk
namespace Go.Proofs.YtnmaaijeamlplaaDoor.Sx
open Go.RowKit Go.ChangeShapes
theorem res_ttt {P : Program} {fn : Func} {p q r : Tmp} {tmps : Array Value} {w : World} {v v' v'' : Value} (h : fn.results = #[.tmp p, .tmp q, .tmp r]) (hp : tmps.getD p undef = v) (hq : tmps.getD q undef = v') (hr : tmps.getD r undef = v'') : (results fn tmps).run P w = .ok (.tuple #[v, v', v'']) w := by
 have hp' : tmps[p]?.getD undef = v := by simpa using hp
 have hq' : tmps[q]?.getD undef = v' := by simpa using hq
 have hr' : tmps[r]?.getD undef = v'' := by simpa using hr
 simp [results, h, hp', hq', hr']
end Go.Proofs.YtnmaaijeamlplaaDoor.Sx
namespace Go.Proofs.YtnmaaijeamlplaaDoor.Bk
open Go.RowKit Go.Proofs.YtnmaaijeamlplaaDoor.Mem
theorem reight_b {d : Dk} (h : rright_m d = true) : 8 ≤ d.safe.length ∧ d.safe.length ≤ 2048 := ⟨reight_of (by rw [h]; decide), rfew_of (by rw [h]; decide)⟩
theorem ready_b {d : Dk} (h : rright_m d = true) (hd : d.down = false) : ready_m d = 0 := by
 rw [rright_eq] at h
 unfold ready_m
 rw [h, if_neg (by decide), hd, if_neg (by decide)]
theorem rget_ok {d : Dk} {at_ : Int} (h : rright_m d = true) (hd : d.down = false) (h0 : 0 ≤ at_) (h1 : at_ < d.safe.length) : (rget_m d at_).2 = 0 := by
 rw [← get_eq, get_is, ready_b h hd, if_neg (by decide), if_neg (by omega), if_neg (by omega)]
theorem rget_full {d : Dk} {at_ : Int} (h : rright_m d = true) (hd : d.down = false) (h0 : 0 ≤ at_) (h1 : at_ < d.safe.length) : (rget_m d at_).1.length = 256 := by
 rcases rget_len d at_ with g | g
 ·exact absurd (rget_ok h hd h0 h1) g
 exact g
end Go.Proofs.YtnmaaijeamlplaaDoor.Bk
namespace Go.Proofs.YtnmaaijeamlplaaDoor.Bk
open Go.RowKit
open Go.Proofs.YtnmaaijeamlplaaDoor.Sym Go.Proofs.YtnmaaijeamlplaaDoor.Mem
open Go.Proofs.YtnmaaijeamlplaaDoor.Sx hiding Mm m_alloc m_store m_call m_callx
attribute [local irreducible] right_m rright_m ready_m rready_m copied_m burn_m put_m get_m flush_m spent_m rput_m rget_m rflush_m blank_m rnew_m same_m
attribute [local irreducible] number_m value_m fill_m beginning_m log_m fits_m lists_m epoch_m
attribute [local irreducible] home_m putall_m
attribute [local irreducible] putfl_m body_m rise_m sized_m current_m join_m sum_m
attribute [local irreducible] format_m rend_m bring_m
attribute [local irreducible] commit_m
attribute [local irreducible] rlog_m four_m eight_m rread_m rfull_m
attribute [local irreducible] rhead_m rlists_m rfits_m repoch_m rbody_m
attribute [local irreducible] rall_m done_m rformat_m place_m
attribute [local irreducible] good_m rcommit_m
attribute [local irreducible] wpList Oper.wp
def rsector_m (d : Dk) (at_ : Int) : (List UInt8) :=
 ((rget_m d at_).1)
theorem rsector_any (d : Dk) (at_ : Int) (dv0 : Value) (dv1 : Value) (w : World) (hd : DkR d dv0 dv1 w) (hp0 : d.safe.length ≤ 8796093022208) (hp1 : d.loose.length ≤ 5864070000000) : Calls Tryd.prog 76 #[.agg #[dv0, dv1, J (d.fuse), .bool (d.down)], J (at_)] w (fun e w' => e = .returned (.string (tx (rsector_m d at_))) ∧ Below w.heap.size w w') := by
 go_enter Tryd.func76, Tryd.ntmps76
 have hm00 := Mm.nil none (fun _ => True) w
 obtain ⟨Fd, hm01⟩ : ∃ Fd, Mm none (fun _ => True) w w [.see (DkR d dv0 dv1) Fd] := hm00.come (DkR_all hd)
 have hm0 := hm01
 refine wk (fun K1 hK1 => (wq ?_))
 refine lst rfl (m_alloc (c := #[dv0, dv1, J (d.fuse), .bool (d.down)]) (T := 25) hm0 2 rfl (run_box rfl rfl) (fun g4 w2 hm3 => ?_))
 simp only [nz]
 refine la 4 (.string (tx ([]))) ?_
 simp only [nz]
 refine wn (tj (hK1 _ _ (wk (fun K5 hK5 => (wq ?_)))))
 refine lw 8 (.agg #[dv0, dv1, J (d.fuse), .bool (d.down)]) (r_whole (hm3.at 1 rfl) Tryd.underlying25 rfl (by exact sz_25) rfl rfl) ?_
 refine lm 9 (J (at_)) ?_
 simp only [nz]
 refine lst rfl (m_call hm3 10 (.tuple #[.string (tx ((rget_m d at_).1)), J ((rget_m d at_).2)]) rfl (run_rget rfl rfl rfl) (rget_any d at_ dv0 dv1 _ (hm3.see 0 rfl) (by omega) (by omega)) (fun w6 hm7 => ?_))
 have hf8 : ¬ (rget_m d at_).2 = 0 ∨ (rget_m d at_).1.length = 256 := rget_len d at_
 simp only [nz]
 refine lm 7 (.tuple #[.string (tx ((rget_m d at_).1)), J ((rget_m d at_).2)]) ?_
 refine lw 11 (.string (tx ((rget_m d at_).1))) (run_ex rfl rfl rfl) ?_
 refine lw 12 (J ((rget_m d at_).2)) (run_ex rfl rfl rfl) ?_
 simp only [nz]
 refine la 5 (.string (tx ((rget_m d at_).1))) ?_
 refine la 6 (J ((rget_m d at_).2)) ?_
 simp only [nz]
 refine wn (tj (hK5 _ _ (wk (fun K9 hK9 => (wq ?_)))))
 refine lm 13 (.string (tx ((rget_m d at_).1))) ?_
 refine la 4 (.string (tx ((rget_m d at_).1))) ?_
 simp only [nz]
 refine wn (tj (hK9 _ _ (wp_ret ?_)))
 have he10 : rsector_m d at_ = ((rget_m d at_).1) := by unfold rsector_m; rfl
 exact ⟨rfl, .string (tx ((rget_m d at_).1)), res_t rfl rfl, ⟨by (rw [he10]; try rfl), hm7.below⟩⟩
theorem run_rsector {o : Oper} {a : Act} {w : World} {x0 x1 : Operand} {v0 v1 : Value} (ho : o.op = .call { callee := .value (.func 76), args := #[x0, x1], argTypes := #[25, 3] }) (h0 : a.eval x0 = v0) (h1 : a.eval x1 = v1) :
  (execOp a.eval o).run Tryd.prog w = .ok (.enter 76 #[v0, v1]) w := by
 unfold execOp
 simp only [ho]
 have hf : a.eval (.func 76) = .func (.func 76) #[] #[] := rfl
 generalize a.eval = f at *
 go_simp
theorem rsec_len {d : Dk} {at_ : Int} (h : rright_m d = true) (hd : d.down = false) (h0 : 0 ≤ at_) (h1 : at_ < d.safe.length) : (rsector_m d at_).length = 256 := rget_full h hd h0 h1
end Go.Proofs.YtnmaaijeamlplaaDoor.Bk
