import Derived.Test.YtnmaaijeamlplaaDoorRfT
import Derived.Test.YtnmaaijeamlplaaDoorReX
set_option linter.unusedVariables false
set_option linter.unusedSimpArgs false
namespace Go.Proofs.YtnmaaijeamlplaaDoor.Bk
open Go.RowKit Go.Proofs.YtnmaaijeamlplaaDoor.Mem
theorem recover_near (d : Dk) : near d (recover_m d).1 8192 := by
 unfold recover_m
 split
 ·exact near_refl d _
 next h1 =>
 split
 ·exact near_refl d _
 split
 ·exact near_refl d _
 split
 ·exact near_refl d _
 next h2 =>
 split
 ·exact near_refl d _
 split
 ·exact near_refl d _
 split
 ·exact near_refl d _
 have hf := ended_fit h1 h2
 exact near_le (bring_near d _ _) (by rw [writes_len]; omega)
theorem rformat_near (d : Dk) : near d (rformat_m d).1 2048 := by rw [rformat_eq]; exact format_near d
theorem rcommit_near (d : Dk) (l : List Wr) : near d (rcommit_m d l).1 8192 := by rw [rcommit_eq]; exact commit_near d l
theorem rrecover_near (d : Dk) : near d (rrecover_m d).1 8192 := by rw [rrecover_eq]; exact recover_near d
end Go.Proofs.YtnmaaijeamlplaaDoor.Bk
namespace Go.Proofs.YtnmaaijeamlplaaDoor.Bk
open Go.RowKit
open Go.Proofs.YtnmaaijeamlplaaDoor.Sym Go.Proofs.YtnmaaijeamlplaaDoor.Mem
open Go.Proofs.YtnmaaijeamlplaaDoor.Sx hiding Mm m_alloc m_store m_call m_callx
attribute [local irreducible] right_m rright_m ready_m rready_m copied_m burn_m put_m get_m flush_m spent_m rput_m rget_m rflush_m blank_m rnew_m same_m
attribute [local irreducible] number_m value_m fill_m beginning_m log_m fits_m lists_m epoch_m
attribute [local irreducible] home_m putall_m
attribute [local irreducible] putfl_m body_m rise_m sized_m current_m join_m sum_m
attribute [local irreducible] format_m rend_m bring_m
attribute [local irreducible] commit_m
attribute [local irreducible] rlog_m four_m eight_m rread_m rfull_m
attribute [local irreducible] rhead_m rlists_m rfits_m repoch_m rbody_m
attribute [local irreducible] rall_m done_m rformat_m place_m
attribute [local irreducible] good_m rcommit_m
attribute [local irreducible] recover_m rsector_m logged_m rrecover_m awake_m
attribute [local irreducible] wpList Oper.wp
def rdoes_m (d : Dk) (l : List Wr) : Bool :=
 if awake_m = true then
  if (same_m ((format_m d).1) ((rformat_m d).1)) = true then
   if (format_m d).2 = (rformat_m d).2 then
    if (same_m ((commit_m d l).1) ((rcommit_m d l).1)) = true then
     if (commit_m d l).2 = (rcommit_m d l).2 then
      if (same_m ((recover_m d).1) ((rrecover_m d).1)) = true then
       (decide ((recover_m d).2 = (rrecover_m d).2))
      else
       false
     else
      false
    else
     false
   else
    false
  else
   false
 else
  false
set_option maxHeartbeats 4000000 in
set_option maxRecDepth 100000 in
theorem rdoes_any (d : Dk) (l : List Wr) (dv0 : Value) (dv1 : Value) (lv0 : Value) (w : World) (hd : DkR d dv0 dv1 w) (hl : Rs eWr 2 l lv0 w) (hT : Laid2 w) (hp0 : d.safe.length ≤ 8796093021952) (hp1 : d.loose.length ≤ 5864063000000) (hp2 : d.fuse ≤ 9223372036854775807) (hp3 : l.length ≤ 5864070000000) : Calls Tryd.prog 4 #[.agg #[dv0, dv1, J (d.fuse), .bool (d.down)], lv0] w (fun e w' => e = .returned (.bool ((rdoes_m d l))) ∧ Below w.heap.size w w') := by
 go_enter Tryd.func4, Tryd.ntmps4
 have hm00 := Mm.nil none (fun _ => True) w
 obtain ⟨Fd, hm01⟩ : ∃ Fd, Mm none (fun _ => True) w w [.see (DkR d dv0 dv1) Fd] := hm00.come (DkR_all hd)
 obtain ⟨Fl, hm02⟩ : ∃ Fl, Mm none (fun _ => True) w w [.see (DkR d dv0 dv1) Fd, .see (Rs eWr 2 l lv0) Fl] := hm01.come (Rs.all hl)
 have hm0 := hm02
 refine wk (fun K1 hK1 => (wq ?_))
 refine lst rfl (m_alloc (c := #[dv0, dv1, J (d.fuse), .bool (d.down)]) (T := 25) hm0 2 rfl (run_box rfl rfl) (fun g4 w2 hm3 => ?_))
 simp only [nz]
 refine la 4 (.bool false) ?_
 simp only [nz]
 refine wn (tj (hK1 _ _ (wk (fun K5 hK5 => (wq ?_)))))
 refine lw 18 (.agg #[dv0, dv1, J (d.fuse), .bool (d.down)]) (r_whole (hm3.at 2 rfl) Tryd.underlying25 rfl (by exact sz_25) rfl rfl) ?_
 simp only [nz]
 refine lst rfl (m_callx hm3 19 rfl (run_format rfl rfl) (format_any d dv0 dv1 (seeS _) _ (hm3.from 0 rfl) (by omega) (by omega) (by omega)) (fun vv12 w6 hR13 hb14 hm7 => ?_))
 obtain ⟨v8, v9, rfl, hg15⟩ := hR13
 obtain ⟨F11, hm16⟩ : ∃ F11, Mm none (fun _ => True) w w6 [.see (DkR d dv0 dv1) Fd, .see (Rs eWr 2 l lv0) Fl, .blk g4 #[dv0, dv1, J (d.fuse), .bool (d.down)] 25, .see (DkR ((format_m d).1) v8 v9) F11] := Mm.tookS hm3 hb14 hg15
 clear hm7 hg15 hb14
 have hf17 : (format_m d).1.safe.length = d.safe.length := (format_near d).1
 have hf18 : (format_m d).1.loose.length ≤ d.loose.length + 2048 := (format_near d).2.1
 have hf19 : (format_m d).1.fuse ≤ 9223372036854775807 := (format_near d).2.2 (show d.fuse ≤ 9223372036854775807 from (by omega))
 simp only [nz]
 refine lm 17 (.tuple #[.agg #[v8, v9, J (((format_m d).1).fuse), .bool (((format_m d).1).down)], J ((format_m d).2)]) ?_
 refine lw 20 (.agg #[v8, v9, J (((format_m d).1).fuse), .bool (((format_m d).1).down)]) (run_ex rfl rfl rfl) ?_
 refine lw 21 (J ((format_m d).2)) (run_ex rfl rfl rfl) ?_
 simp only [nz]
 refine lst rfl (m_alloc (c := #[.slice none 0 0, .slice none 0 0, J 0, .bool false]) (T := 25) hm16 5 rfl (by unfold execOp; go_simp; try rfl) (fun g22 w20 hm21 => ?_))
 simp only [nz]
 have ho25 := (rd_one ((hm21.see 3 rfl).1))
 have ho26 := (rd_one ((hm21.see 3 rfl).2))
 refine lst rfl (m_store 4 25 _ _ 0 (.agg #[v8, v9, J (((format_m d).1).fuse), .bool (((format_m d).1).down)]) (old := #[.slice none 0 0, .slice none 0 0, J 0, .bool false]) (new := #[v8, v9, J (((format_m d).1).fuse), .bool (((format_m d).1).down)]) hm21 rfl rfl rfl rfl rfl (by exact sz_25) (show 0 + 4 ≤ 4 from by decide) a4 rfl (fun w23 hm24 => ?_))
 refine la 6 (J ((format_m d).2)) ?_
 simp only [nz]
 refine wn (tj (hK5 _ _ (wk (fun K27 hK27 => (wq ?_)))))
 refine lw 23 (.agg #[dv0, dv1, J (d.fuse), .bool (d.down)]) (r_whole (hm24.at 2 rfl) Tryd.underlying25 rfl (by exact sz_25) rfl rfl) ?_
 simp only [nz]
 refine lst rfl (m_callx hm24 24 rfl (run_rformat rfl rfl) (rformat_any d dv0 dv1 (seeS _) _ (hm24.from 0 rfl) (by omega) (by omega) (by omega)) (fun vv34 w28 hR35 hb36 hm29 => ?_))
 obtain ⟨v30, v31, rfl, hg37⟩ := hR35
 obtain ⟨F33, hm38⟩ : ∃ F33, Mm none (fun _ => True) w w28 [.see (DkR d dv0 dv1) Fd, .see (Rs eWr 2 l lv0) Fl, .blk g4 #[dv0, dv1, J (d.fuse), .bool (d.down)] 25, .see (DkR ((format_m d).1) v8 v9) F11, .blk g22 #[v8, v9, J (((format_m d).1).fuse), .bool (((format_m d).1).down)] 25, .see (DkR ((rformat_m d).1) v30 v31) F33] := Mm.tookS hm24 hb36 hg37
 clear hm29 hg37 hb36
 have hf39 : (rformat_m d).1.safe.length = d.safe.length := (rformat_near d).1
 have hf40 : (rformat_m d).1.loose.length ≤ d.loose.length + 2048 := (rformat_near d).2.1
 have hf41 : (rformat_m d).1.fuse ≤ 9223372036854775807 := (rformat_near d).2.2 (show d.fuse ≤ 9223372036854775807 from (by omega))
 simp only [nz]
 refine lm 22 (.tuple #[.agg #[v30, v31, J (((rformat_m d).1).fuse), .bool (((rformat_m d).1).down)], J ((rformat_m d).2)]) ?_
 refine lw 25 (.agg #[v30, v31, J (((rformat_m d).1).fuse), .bool (((rformat_m d).1).down)]) (run_ex rfl rfl rfl) ?_
 refine lw 26 (J ((rformat_m d).2)) (run_ex rfl rfl rfl) ?_
 simp only [nz]
 refine lst rfl (m_alloc (c := #[.slice none 0 0, .slice none 0 0, J 0, .bool false]) (T := 25) hm38 7 rfl (by unfold execOp; go_simp; try rfl) (fun g44 w42 hm43 => ?_))
 simp only [nz]
 have ho47 := (rd_one ((hm43.see 5 rfl).1))
 have ho48 := (rd_one ((hm43.see 5 rfl).2))
 refine lst rfl (m_store 6 25 _ _ 0 (.agg #[v30, v31, J (((rformat_m d).1).fuse), .bool (((rformat_m d).1).down)]) (old := #[.slice none 0 0, .slice none 0 0, J 0, .bool false]) (new := #[v30, v31, J (((rformat_m d).1).fuse), .bool (((rformat_m d).1).down)]) hm43 rfl rfl rfl rfl rfl (by exact sz_25) (show 0 + 4 ≤ 4 from by decide) a4 rfl (fun w45 hm46 => ?_))
 refine la 8 (J ((rformat_m d).2)) ?_
 simp only [nz]
 refine wn (tj (hK27 _ _ (wk (fun K49 hK49 => (wq ?_)))))
 refine lw 28 (.agg #[dv0, dv1, J (d.fuse), .bool (d.down)]) (r_whole (hm46.at 2 rfl) Tryd.underlying25 rfl (by exact sz_25) rfl rfl) ?_
 refine lm 29 (lv0) ?_
 simp only [nz]
 refine lst rfl (m_callx hm46 30 rfl (run_commit rfl rfl rfl) (commit_any d l dv0 dv1 lv0 (seeS _) _ (hm46.from 0 rfl) (hm46.from 1 rfl) (Laid.below hT.toLaid hm46.below) (by omega) (by omega) (by omega) (by omega)) (fun vv56 w50 hR57 hb58 hm51 => ?_))
 obtain ⟨v52, v53, rfl, hg59⟩ := hR57
 obtain ⟨F55, hm60⟩ : ∃ F55, Mm none (fun _ => True) w w50 [.see (DkR d dv0 dv1) Fd, .see (Rs eWr 2 l lv0) Fl, .blk g4 #[dv0, dv1, J (d.fuse), .bool (d.down)] 25, .see (DkR ((format_m d).1) v8 v9) F11, .blk g22 #[v8, v9, J (((format_m d).1).fuse), .bool (((format_m d).1).down)] 25, .see (DkR ((rformat_m d).1) v30 v31) F33, .blk g44 #[v30, v31, J (((rformat_m d).1).fuse), .bool (((rformat_m d).1).down)] 25, .see (DkR ((commit_m d l).1) v52 v53) F55] := Mm.tookS hm46 hb58 hg59
 clear hm51 hg59 hb58
 have hf61 : (commit_m d l).1.safe.length = d.safe.length := (commit_near d l).1
 have hf62 : (commit_m d l).1.loose.length ≤ d.loose.length + 8192 := (commit_near d l).2.1
 have hf63 : (commit_m d l).1.fuse ≤ 9223372036854775807 := (commit_near d l).2.2 (show d.fuse ≤ 9223372036854775807 from (by omega))
 simp only [nz]
 refine lm 27 (.tuple #[.agg #[v52, v53, J (((commit_m d l).1).fuse), .bool (((commit_m d l).1).down)], J ((commit_m d l).2)]) ?_
 refine lw 31 (.agg #[v52, v53, J (((commit_m d l).1).fuse), .bool (((commit_m d l).1).down)]) (run_ex rfl rfl rfl) ?_
 refine lw 32 (J ((commit_m d l).2)) (run_ex rfl rfl rfl) ?_
 simp only [nz]
 refine lst rfl (m_alloc (c := #[.slice none 0 0, .slice none 0 0, J 0, .bool false]) (T := 25) hm60 9 rfl (by unfold execOp; go_simp; try rfl) (fun g66 w64 hm65 => ?_))
 simp only [nz]
 have ho69 := (rd_one ((hm65.see 7 rfl).1))
 have ho70 := (rd_one ((hm65.see 7 rfl).2))
 refine lst rfl (m_store 8 25 _ _ 0 (.agg #[v52, v53, J (((commit_m d l).1).fuse), .bool (((commit_m d l).1).down)]) (old := #[.slice none 0 0, .slice none 0 0, J 0, .bool false]) (new := #[v52, v53, J (((commit_m d l).1).fuse), .bool (((commit_m d l).1).down)]) hm65 rfl rfl rfl rfl rfl (by exact sz_25) (show 0 + 4 ≤ 4 from by decide) a4 rfl (fun w67 hm68 => ?_))
 refine la 10 (J ((commit_m d l).2)) ?_
 simp only [nz]
 refine wn (tj (hK49 _ _ (wk (fun K71 hK71 => (wq ?_)))))
 refine lw 34 (.agg #[dv0, dv1, J (d.fuse), .bool (d.down)]) (r_whole (hm68.at 2 rfl) Tryd.underlying25 rfl (by exact sz_25) rfl rfl) ?_
 refine lm 35 (lv0) ?_
 simp only [nz]
 refine lst rfl (m_callx hm68 36 rfl (run_rcommit rfl rfl rfl) (rcommit_any d l dv0 dv1 lv0 (seeS _) _ (hm68.from 0 rfl) (hm68.from 1 rfl) (Laid2.below hT hm68.below) (by omega) (by omega) (by omega) (by omega)) (fun vv78 w72 hR79 hb80 hm73 => ?_))
 obtain ⟨v74, v75, rfl, hg81⟩ := hR79
 obtain ⟨F77, hm82⟩ : ∃ F77, Mm none (fun _ => True) w w72 [.see (DkR d dv0 dv1) Fd, .see (Rs eWr 2 l lv0) Fl, .blk g4 #[dv0, dv1, J (d.fuse), .bool (d.down)] 25, .see (DkR ((format_m d).1) v8 v9) F11, .blk g22 #[v8, v9, J (((format_m d).1).fuse), .bool (((format_m d).1).down)] 25, .see (DkR ((rformat_m d).1) v30 v31) F33, .blk g44 #[v30, v31, J (((rformat_m d).1).fuse), .bool (((rformat_m d).1).down)] 25, .see (DkR ((commit_m d l).1) v52 v53) F55, .blk g66 #[v52, v53, J (((commit_m d l).1).fuse), .bool (((commit_m d l).1).down)] 25, .see (DkR ((rcommit_m d l).1) v74 v75) F77] := Mm.tookS hm68 hb80 hg81
 clear hm73 hg81 hb80
 have hf83 : (rcommit_m d l).1.safe.length = d.safe.length := (rcommit_near d l).1
 have hf84 : (rcommit_m d l).1.loose.length ≤ d.loose.length + 8192 := (rcommit_near d l).2.1
 have hf85 : (rcommit_m d l).1.fuse ≤ 9223372036854775807 := (rcommit_near d l).2.2 (show d.fuse ≤ 9223372036854775807 from (by omega))
 simp only [nz]
 refine lm 33 (.tuple #[.agg #[v74, v75, J (((rcommit_m d l).1).fuse), .bool (((rcommit_m d l).1).down)], J ((rcommit_m d l).2)]) ?_
 refine lw 37 (.agg #[v74, v75, J (((rcommit_m d l).1).fuse), .bool (((rcommit_m d l).1).down)]) (run_ex rfl rfl rfl) ?_
 refine lw 38 (J ((rcommit_m d l).2)) (run_ex rfl rfl rfl) ?_
 simp only [nz]
 refine lst rfl (m_alloc (c := #[.slice none 0 0, .slice none 0 0, J 0, .bool false]) (T := 25) hm82 11 rfl (by unfold execOp; go_simp; try rfl) (fun g88 w86 hm87 => ?_))
 simp only [nz]
 have ho91 := (rd_one ((hm87.see 9 rfl).1))
 have ho92 := (rd_one ((hm87.see 9 rfl).2))
 refine lst rfl (m_store 10 25 _ _ 0 (.agg #[v74, v75, J (((rcommit_m d l).1).fuse), .bool (((rcommit_m d l).1).down)]) (old := #[.slice none 0 0, .slice none 0 0, J 0, .bool false]) (new := #[v74, v75, J (((rcommit_m d l).1).fuse), .bool (((rcommit_m d l).1).down)]) hm87 rfl rfl rfl rfl rfl (by exact sz_25) (show 0 + 4 ≤ 4 from by decide) a4 rfl (fun w89 hm90 => ?_))
 refine la 12 (J ((rcommit_m d l).2)) ?_
 simp only [nz]
 refine wn (tj (hK71 _ _ (wk (fun K93 hK93 => (wq ?_)))))
 refine lw 40 (.agg #[dv0, dv1, J (d.fuse), .bool (d.down)]) (r_whole (hm90.at 2 rfl) Tryd.underlying25 rfl (by exact sz_25) rfl rfl) ?_
 simp only [nz]
 refine lst rfl (m_callx hm90 41 rfl (run_recover rfl rfl) (recover_any d dv0 dv1 (seeS _) _ (hm90.from 0 rfl) (Laid.below hT.toLaid hm90.below) (by omega) (by omega) (by omega)) (fun vv100 w94 hR101 hb102 hm95 => ?_))
 obtain ⟨v96, v97, rfl, hg103⟩ := hR101
 obtain ⟨F99, hm104⟩ : ∃ F99, Mm none (fun _ => True) w w94 [.see (DkR d dv0 dv1) Fd, .see (Rs eWr 2 l lv0) Fl, .blk g4 #[dv0, dv1, J (d.fuse), .bool (d.down)] 25, .see (DkR ((format_m d).1) v8 v9) F11, .blk g22 #[v8, v9, J (((format_m d).1).fuse), .bool (((format_m d).1).down)] 25, .see (DkR ((rformat_m d).1) v30 v31) F33, .blk g44 #[v30, v31, J (((rformat_m d).1).fuse), .bool (((rformat_m d).1).down)] 25, .see (DkR ((commit_m d l).1) v52 v53) F55, .blk g66 #[v52, v53, J (((commit_m d l).1).fuse), .bool (((commit_m d l).1).down)] 25, .see (DkR ((rcommit_m d l).1) v74 v75) F77, .blk g88 #[v74, v75, J (((rcommit_m d l).1).fuse), .bool (((rcommit_m d l).1).down)] 25, .see (DkR ((recover_m d).1) v96 v97) F99] := Mm.tookS hm90 hb102 hg103
 clear hm95 hg103 hb102
 have hf105 : (recover_m d).1.safe.length = d.safe.length := (recover_near d).1
 have hf106 : (recover_m d).1.loose.length ≤ d.loose.length + 8192 := (recover_near d).2.1
 have hf107 : (recover_m d).1.fuse ≤ 9223372036854775807 := (recover_near d).2.2 (show d.fuse ≤ 9223372036854775807 from (by omega))
 simp only [nz]
 refine lm 39 (.tuple #[.agg #[v96, v97, J (((recover_m d).1).fuse), .bool (((recover_m d).1).down)], J ((recover_m d).2)]) ?_
 refine lw 42 (.agg #[v96, v97, J (((recover_m d).1).fuse), .bool (((recover_m d).1).down)]) (run_ex rfl rfl rfl) ?_
 refine lw 43 (J ((recover_m d).2)) (run_ex rfl rfl rfl) ?_
 simp only [nz]
 refine lst rfl (m_alloc (c := #[.slice none 0 0, .slice none 0 0, J 0, .bool false]) (T := 25) hm104 13 rfl (by unfold execOp; go_simp; try rfl) (fun g110 w108 hm109 => ?_))
 simp only [nz]
 have ho113 := (rd_one ((hm109.see 11 rfl).1))
 have ho114 := (rd_one ((hm109.see 11 rfl).2))
 refine lst rfl (m_store 12 25 _ _ 0 (.agg #[v96, v97, J (((recover_m d).1).fuse), .bool (((recover_m d).1).down)]) (old := #[.slice none 0 0, .slice none 0 0, J 0, .bool false]) (new := #[v96, v97, J (((recover_m d).1).fuse), .bool (((recover_m d).1).down)]) hm109 rfl rfl rfl rfl rfl (by exact sz_25) (show 0 + 4 ≤ 4 from by decide) a4 rfl (fun w111 hm112 => ?_))
 refine la 14 (J ((recover_m d).2)) ?_
 simp only [nz]
 refine wn (tj (hK93 _ _ (wk (fun K115 hK115 => (wq ?_)))))
 refine lw 45 (.agg #[dv0, dv1, J (d.fuse), .bool (d.down)]) (r_whole (hm112.at 2 rfl) Tryd.underlying25 rfl (by exact sz_25) rfl rfl) ?_
 simp only [nz]
 refine lst rfl (m_callx hm112 46 rfl (run_rrecover rfl rfl) (rrecover_any d dv0 dv1 (seeS _) _ (hm112.from 0 rfl) (Laid2.below hT hm112.below) (by omega) (by omega) (by omega)) (fun vv122 w116 hR123 hb124 hm117 => ?_))
 obtain ⟨v118, v119, rfl, hg125⟩ := hR123
 obtain ⟨F121, hm126⟩ : ∃ F121, Mm none (fun _ => True) w w116 [.see (DkR d dv0 dv1) Fd, .see (Rs eWr 2 l lv0) Fl, .blk g4 #[dv0, dv1, J (d.fuse), .bool (d.down)] 25, .see (DkR ((format_m d).1) v8 v9) F11, .blk g22 #[v8, v9, J (((format_m d).1).fuse), .bool (((format_m d).1).down)] 25, .see (DkR ((rformat_m d).1) v30 v31) F33, .blk g44 #[v30, v31, J (((rformat_m d).1).fuse), .bool (((rformat_m d).1).down)] 25, .see (DkR ((commit_m d l).1) v52 v53) F55, .blk g66 #[v52, v53, J (((commit_m d l).1).fuse), .bool (((commit_m d l).1).down)] 25, .see (DkR ((rcommit_m d l).1) v74 v75) F77, .blk g88 #[v74, v75, J (((rcommit_m d l).1).fuse), .bool (((rcommit_m d l).1).down)] 25, .see (DkR ((recover_m d).1) v96 v97) F99, .blk g110 #[v96, v97, J (((recover_m d).1).fuse), .bool (((recover_m d).1).down)] 25, .see (DkR ((rrecover_m d).1) v118 v119) F121] := Mm.tookS hm112 hb124 hg125
 clear hm117 hg125 hb124
 have hf127 : (rrecover_m d).1.safe.length = d.safe.length := (rrecover_near d).1
 have hf128 : (rrecover_m d).1.loose.length ≤ d.loose.length + 8192 := (rrecover_near d).2.1
 have hf129 : (rrecover_m d).1.fuse ≤ 9223372036854775807 := (rrecover_near d).2.2 (show d.fuse ≤ 9223372036854775807 from (by omega))
 simp only [nz]
 refine lm 44 (.tuple #[.agg #[v118, v119, J (((rrecover_m d).1).fuse), .bool (((rrecover_m d).1).down)], J ((rrecover_m d).2)]) ?_
 refine lw 47 (.agg #[v118, v119, J (((rrecover_m d).1).fuse), .bool (((rrecover_m d).1).down)]) (run_ex rfl rfl rfl) ?_
 refine lw 48 (J ((rrecover_m d).2)) (run_ex rfl rfl rfl) ?_
 simp only [nz]
 refine lst rfl (m_alloc (c := #[.slice none 0 0, .slice none 0 0, J 0, .bool false]) (T := 25) hm126 15 rfl (by unfold execOp; go_simp; try rfl) (fun g132 w130 hm131 => ?_))
 simp only [nz]
 have ho135 := (rd_one ((hm131.see 13 rfl).1))
 have ho136 := (rd_one ((hm131.see 13 rfl).2))
 refine lst rfl (m_store 14 25 _ _ 0 (.agg #[v118, v119, J (((rrecover_m d).1).fuse), .bool (((rrecover_m d).1).down)]) (old := #[.slice none 0 0, .slice none 0 0, J 0, .bool false]) (new := #[v118, v119, J (((rrecover_m d).1).fuse), .bool (((rrecover_m d).1).down)]) hm131 rfl rfl rfl rfl rfl (by exact sz_25) (show 0 + 4 ≤ 4 from by decide) a4 rfl (fun w133 hm134 => ?_))
 refine la 16 (J ((rrecover_m d).2)) ?_
 simp only [nz]
 refine wn (tj (hK115 _ _ (wk (fun K137 hK137 => (wq ?_)))))
 refine lst rfl (m_call hm134 49 (.bool (awake_m)) rfl (run_awake rfl) (awake_any   _  (Laid.below hT.toLaid hm134.below) ) (fun w138 hm139 => ?_))
 simp only [nz]
 by_cases hs140 : awake_m = true
 rotate_left
 ·rw [(Bool.eq_false_iff.2 hs140 : awake_m = false)]
  refine lm 50 (.bool false) ?_
  simp only [nz]
  refine lst_skip 51 rfl rfl ?_
  simp only [nz]
  refine lst_skip 52 rfl rfl ?_
  simp only [nz]
  refine lst_skip 53 rfl rfl ?_
  simp only [nz]
  refine lw 54 (.bool false) (run_pickf rfl rfl rfl) ?_
  refine lm 55 (.bool false) ?_
  simp only [nz]
  refine lst_skip 56 rfl rfl ?_
  simp only [nz]
  refine lst_skip 57 rfl rfl ?_
  simp only [nz]
  refine lst_skip 58 rfl rfl ?_
  simp only [nz]
  refine lw 59 (.bool false) (run_pickf rfl rfl rfl) ?_
  refine lm 60 (.bool false) ?_
  simp only [nz]
  refine lst_skip 61 rfl rfl ?_
  simp only [nz]
  refine lst_skip 62 rfl rfl ?_
  simp only [nz]
  refine lst_skip 63 rfl rfl ?_
  simp only [nz]
  refine lw 64 (.bool false) (run_pickf rfl rfl rfl) ?_
  refine lm 65 (.bool false) ?_
  simp only [nz]
  refine lst_skip 66 rfl rfl ?_
  simp only [nz]
  refine lst_skip 67 rfl rfl ?_
  simp only [nz]
  refine lst_skip 68 rfl rfl ?_
  simp only [nz]
  refine lw 69 (.bool false) (run_pickf rfl rfl rfl) ?_
  refine lm 70 (.bool false) ?_
  simp only [nz]
  refine lst_skip 71 rfl rfl ?_
  simp only [nz]
  refine lst_skip 72 rfl rfl ?_
  simp only [nz]
  refine lst_skip 73 rfl rfl ?_
  simp only [nz]
  refine lw 74 (.bool false) (run_pickf rfl rfl rfl) ?_
  refine lm 75 (.bool false) ?_
  simp only [nz]
  refine lst_skip 76 rfl rfl ?_
  simp only [nz]
  refine lst_skip 77 rfl rfl ?_
  simp only [nz]
  refine lst_skip 78 rfl rfl ?_
  simp only [nz]
  refine lw 79 (.bool false) (run_pickf rfl rfl rfl) ?_
  refine la 4 (.bool false) ?_
  simp only [nz]
  refine wn (tj (hK137 _ _ (wp_ret ?_)))
  have he158 : rdoes_m d l = false := by unfold rdoes_m; rw [if_neg hs140] <;> rfl
  exact ⟨rfl, .bool false, res_t rfl rfl, ⟨by (rw [he158]; try rfl), hm139.below⟩⟩
 rw [(hs140 : awake_m = true)]
 refine lm 50 (.bool true) ?_
 refine lw 51 (.agg #[v8, v9, J (((format_m d).1).fuse), .bool (((format_m d).1).down)]) (r_whole (hm139.at 4 rfl) Tryd.underlying25 rfl (by exact sz_25) rfl rfl) ?_
 refine lw 52 (.agg #[v30, v31, J (((rformat_m d).1).fuse), .bool (((rformat_m d).1).down)]) (r_whole (hm139.at 6 rfl) Tryd.underlying25 rfl (by exact sz_25) rfl rfl) ?_
 simp only [nz]
 refine lst rfl (m_call hm139 53 (.bool ((same_m ((format_m d).1) ((rformat_m d).1)))) rfl (run_same rfl rfl rfl) (same_any ((format_m d).1) ((rformat_m d).1) v8 v9 v30 v31 _ (hm139.see 3 rfl) (hm139.see 5 rfl) (by omega) (by omega)) (fun w141 hm142 => ?_))
 simp only [nz]
 by_cases hs143 : (same_m ((format_m d).1) ((rformat_m d).1)) = true
 rotate_left
 ·rw [(Bool.eq_false_iff.2 hs143 : (same_m ((format_m d).1) ((rformat_m d).1)) = false)]
  refine lw 54 (.bool false) (run_pick rfl rfl rfl) ?_
  refine lm 55 (.bool false) ?_
  simp only [nz]
  refine lst_skip 56 rfl rfl ?_
  simp only [nz]
  refine lst_skip 57 rfl rfl ?_
  simp only [nz]
  refine lst_skip 58 rfl rfl ?_
  simp only [nz]
  refine lw 59 (.bool false) (run_pickf rfl rfl rfl) ?_
  refine lm 60 (.bool false) ?_
  simp only [nz]
  refine lst_skip 61 rfl rfl ?_
  simp only [nz]
  refine lst_skip 62 rfl rfl ?_
  simp only [nz]
  refine lst_skip 63 rfl rfl ?_
  simp only [nz]
  refine lw 64 (.bool false) (run_pickf rfl rfl rfl) ?_
  refine lm 65 (.bool false) ?_
  simp only [nz]
  refine lst_skip 66 rfl rfl ?_
  simp only [nz]
  refine lst_skip 67 rfl rfl ?_
  simp only [nz]
  refine lst_skip 68 rfl rfl ?_
  simp only [nz]
  refine lw 69 (.bool false) (run_pickf rfl rfl rfl) ?_
  refine lm 70 (.bool false) ?_
  simp only [nz]
  refine lst_skip 71 rfl rfl ?_
  simp only [nz]
  refine lst_skip 72 rfl rfl ?_
  simp only [nz]
  refine lst_skip 73 rfl rfl ?_
  simp only [nz]
  refine lw 74 (.bool false) (run_pickf rfl rfl rfl) ?_
  refine lm 75 (.bool false) ?_
  simp only [nz]
  refine lst_skip 76 rfl rfl ?_
  simp only [nz]
  refine lst_skip 77 rfl rfl ?_
  simp only [nz]
  refine lst_skip 78 rfl rfl ?_
  simp only [nz]
  refine lw 79 (.bool false) (run_pickf rfl rfl rfl) ?_
  refine la 4 (.bool false) ?_
  simp only [nz]
  refine wn (tj (hK137 _ _ (wp_ret ?_)))
  have he157 : rdoes_m d l = false := by unfold rdoes_m; rw [if_pos hs140, if_neg hs143] <;> rfl
  exact ⟨rfl, .bool false, res_t rfl rfl, ⟨by (rw [he157]; try rfl), hm142.below⟩⟩
 rw [(hs143 : (same_m ((format_m d).1) ((rformat_m d).1)) = true)]
 refine lw 54 (.bool true) (run_pick rfl rfl rfl) ?_
 refine lm 55 (.bool true) ?_
 refine lm 56 (J ((format_m d).2)) ?_
 simp only [nz]
 refine lm 57 (J ((rformat_m d).2)) ?_
 simp only [nz]
 refine lvb 58 ((format_m d).2 = (rformat_m d).2) rfl rfl (z_eql ((format_m d).2) ((rformat_m d).2) rfl rfl rfl) (fun hs144 => ?_) (fun hs144 => ?_)
 rotate_left
 ·simp only [nz]
  refine lw 59 (.bool false) (run_pick rfl rfl rfl) ?_
  refine lm 60 (.bool false) ?_
  simp only [nz]
  refine lst_skip 61 rfl rfl ?_
  simp only [nz]
  refine lst_skip 62 rfl rfl ?_
  simp only [nz]
  refine lst_skip 63 rfl rfl ?_
  simp only [nz]
  refine lw 64 (.bool false) (run_pickf rfl rfl rfl) ?_
  refine lm 65 (.bool false) ?_
  simp only [nz]
  refine lst_skip 66 rfl rfl ?_
  simp only [nz]
  refine lst_skip 67 rfl rfl ?_
  simp only [nz]
  refine lst_skip 68 rfl rfl ?_
  simp only [nz]
  refine lw 69 (.bool false) (run_pickf rfl rfl rfl) ?_
  refine lm 70 (.bool false) ?_
  simp only [nz]
  refine lst_skip 71 rfl rfl ?_
  simp only [nz]
  refine lst_skip 72 rfl rfl ?_
  simp only [nz]
  refine lst_skip 73 rfl rfl ?_
  simp only [nz]
  refine lw 74 (.bool false) (run_pickf rfl rfl rfl) ?_
  refine lm 75 (.bool false) ?_
  simp only [nz]
  refine lst_skip 76 rfl rfl ?_
  simp only [nz]
  refine lst_skip 77 rfl rfl ?_
  simp only [nz]
  refine lst_skip 78 rfl rfl ?_
  simp only [nz]
  refine lw 79 (.bool false) (run_pickf rfl rfl rfl) ?_
  refine la 4 (.bool false) ?_
  simp only [nz]
  refine wn (tj (hK137 _ _ (wp_ret ?_)))
  have he156 : rdoes_m d l = false := by unfold rdoes_m; rw [if_pos hs140, if_pos hs143, if_neg hs144] <;> rfl
  exact ⟨rfl, .bool false, res_t rfl rfl, ⟨by (rw [he156]; try rfl), hm142.below⟩⟩
 simp only [nz]
 refine lw 59 (.bool true) (run_pick rfl rfl rfl) ?_
 refine lm 60 (.bool true) ?_
 refine lw 61 (.agg #[v52, v53, J (((commit_m d l).1).fuse), .bool (((commit_m d l).1).down)]) (r_whole (hm142.at 8 rfl) Tryd.underlying25 rfl (by exact sz_25) rfl rfl) ?_
 simp only [nz]
 refine lw 62 (.agg #[v74, v75, J (((rcommit_m d l).1).fuse), .bool (((rcommit_m d l).1).down)]) (r_whole (hm142.at 10 rfl) Tryd.underlying25 rfl (by exact sz_25) rfl rfl) ?_
 simp only [nz]
 refine lst rfl (m_call hm142 63 (.bool ((same_m ((commit_m d l).1) ((rcommit_m d l).1)))) rfl (run_same rfl rfl rfl) (same_any ((commit_m d l).1) ((rcommit_m d l).1) v52 v53 v74 v75 _ (hm142.see 7 rfl) (hm142.see 9 rfl) (by omega) (by omega)) (fun w145 hm146 => ?_))
 simp only [nz]
 by_cases hs147 : (same_m ((commit_m d l).1) ((rcommit_m d l).1)) = true
 rotate_left
 ·rw [(Bool.eq_false_iff.2 hs147 : (same_m ((commit_m d l).1) ((rcommit_m d l).1)) = false)]
  refine lw 64 (.bool false) (run_pick rfl rfl rfl) ?_
  refine lm 65 (.bool false) ?_
  simp only [nz]
  refine lst_skip 66 rfl rfl ?_
  simp only [nz]
  refine lst_skip 67 rfl rfl ?_
  simp only [nz]
  refine lst_skip 68 rfl rfl ?_
  simp only [nz]
  refine lw 69 (.bool false) (run_pickf rfl rfl rfl) ?_
  refine lm 70 (.bool false) ?_
  simp only [nz]
  refine lst_skip 71 rfl rfl ?_
  simp only [nz]
  refine lst_skip 72 rfl rfl ?_
  simp only [nz]
  refine lst_skip 73 rfl rfl ?_
  simp only [nz]
  refine lw 74 (.bool false) (run_pickf rfl rfl rfl) ?_
  refine lm 75 (.bool false) ?_
  simp only [nz]
  refine lst_skip 76 rfl rfl ?_
  simp only [nz]
  refine lst_skip 77 rfl rfl ?_
  simp only [nz]
  refine lst_skip 78 rfl rfl ?_
  simp only [nz]
  refine lw 79 (.bool false) (run_pickf rfl rfl rfl) ?_
  refine la 4 (.bool false) ?_
  simp only [nz]
  refine wn (tj (hK137 _ _ (wp_ret ?_)))
  have he155 : rdoes_m d l = false := by unfold rdoes_m; rw [if_pos hs140, if_pos hs143, if_pos hs144, if_neg hs147] <;> rfl
  exact ⟨rfl, .bool false, res_t rfl rfl, ⟨by (rw [he155]; try rfl), hm146.below⟩⟩
 rw [(hs147 : (same_m ((commit_m d l).1) ((rcommit_m d l).1)) = true)]
 refine lw 64 (.bool true) (run_pick rfl rfl rfl) ?_
 refine lm 65 (.bool true) ?_
 refine lm 66 (J ((commit_m d l).2)) ?_
 simp only [nz]
 refine lm 67 (J ((rcommit_m d l).2)) ?_
 simp only [nz]
 refine lvb 68 ((commit_m d l).2 = (rcommit_m d l).2) rfl rfl (z_eql ((commit_m d l).2) ((rcommit_m d l).2) rfl rfl rfl) (fun hs148 => ?_) (fun hs148 => ?_)
 rotate_left
 ·simp only [nz]
  refine lw 69 (.bool false) (run_pick rfl rfl rfl) ?_
  refine lm 70 (.bool false) ?_
  simp only [nz]
  refine lst_skip 71 rfl rfl ?_
  simp only [nz]
  refine lst_skip 72 rfl rfl ?_
  simp only [nz]
  refine lst_skip 73 rfl rfl ?_
  simp only [nz]
  refine lw 74 (.bool false) (run_pickf rfl rfl rfl) ?_
  refine lm 75 (.bool false) ?_
  simp only [nz]
  refine lst_skip 76 rfl rfl ?_
  simp only [nz]
  refine lst_skip 77 rfl rfl ?_
  simp only [nz]
  refine lst_skip 78 rfl rfl ?_
  simp only [nz]
  refine lw 79 (.bool false) (run_pickf rfl rfl rfl) ?_
  refine la 4 (.bool false) ?_
  simp only [nz]
  refine wn (tj (hK137 _ _ (wp_ret ?_)))
  have he154 : rdoes_m d l = false := by unfold rdoes_m; rw [if_pos hs140, if_pos hs143, if_pos hs144, if_pos hs147, if_neg hs148] <;> rfl
  exact ⟨rfl, .bool false, res_t rfl rfl, ⟨by (rw [he154]; try rfl), hm146.below⟩⟩
 simp only [nz]
 refine lw 69 (.bool true) (run_pick rfl rfl rfl) ?_
 refine lm 70 (.bool true) ?_
 refine lw 71 (.agg #[v96, v97, J (((recover_m d).1).fuse), .bool (((recover_m d).1).down)]) (r_whole (hm146.at 12 rfl) Tryd.underlying25 rfl (by exact sz_25) rfl rfl) ?_
 simp only [nz]
 refine lw 72 (.agg #[v118, v119, J (((rrecover_m d).1).fuse), .bool (((rrecover_m d).1).down)]) (r_whole (hm146.at 14 rfl) Tryd.underlying25 rfl (by exact sz_25) rfl rfl) ?_
 simp only [nz]
 refine lst rfl (m_call hm146 73 (.bool ((same_m ((recover_m d).1) ((rrecover_m d).1)))) rfl (run_same rfl rfl rfl) (same_any ((recover_m d).1) ((rrecover_m d).1) v96 v97 v118 v119 _ (hm146.see 11 rfl) (hm146.see 13 rfl) (by omega) (by omega)) (fun w149 hm150 => ?_))
 simp only [nz]
 by_cases hs151 : (same_m ((recover_m d).1) ((rrecover_m d).1)) = true
 ·rw [(hs151 : (same_m ((recover_m d).1) ((rrecover_m d).1)) = true)]
  refine lw 74 (.bool true) (run_pick rfl rfl rfl) ?_
  refine lm 75 (.bool true) ?_
  refine lm 76 (J ((recover_m d).2)) ?_
  simp only [nz]
  refine lm 77 (J ((rrecover_m d).2)) ?_
  refine lw 78 (.bool (decide ((recover_m d).2 = (rrecover_m d).2))) (z_eql ((recover_m d).2) ((rrecover_m d).2) rfl rfl rfl) ?_
  refine lw 79 (.bool (decide ((recover_m d).2 = (rrecover_m d).2))) (run_pick rfl rfl rfl) ?_
  simp only [nz]
  refine la 4 (.bool (decide ((recover_m d).2 = (rrecover_m d).2))) ?_
  simp only [nz]
  refine wn (tj (hK137 _ _ (wp_ret ?_)))
  have he152 : rdoes_m d l = (decide ((recover_m d).2 = (rrecover_m d).2)) := by unfold rdoes_m; rw [if_pos hs140, if_pos hs143, if_pos hs144, if_pos hs147, if_pos hs148, if_pos hs151] <;> rfl
  exact ⟨rfl, .bool (decide ((recover_m d).2 = (rrecover_m d).2)), res_t rfl rfl, ⟨by (rw [he152]; try rfl), hm150.below⟩⟩
 rw [(Bool.eq_false_iff.2 hs151 : (same_m ((recover_m d).1) ((rrecover_m d).1)) = false)]
 refine lw 74 (.bool false) (run_pick rfl rfl rfl) ?_
 refine lm 75 (.bool false) ?_
 simp only [nz]
 refine lst_skip 76 rfl rfl ?_
 simp only [nz]
 refine lst_skip 77 rfl rfl ?_
 simp only [nz]
 refine lst_skip 78 rfl rfl ?_
 simp only [nz]
 refine lw 79 (.bool false) (run_pickf rfl rfl rfl) ?_
 refine la 4 (.bool false) ?_
 simp only [nz]
 refine wn (tj (hK137 _ _ (wp_ret ?_)))
 have he153 : rdoes_m d l = false := by unfold rdoes_m; rw [if_pos hs140, if_pos hs143, if_pos hs144, if_pos hs147, if_pos hs148, if_neg hs151] <;> rfl
 exact ⟨rfl, .bool false, res_t rfl rfl, ⟨by (rw [he153]; try rfl), hm150.below⟩⟩
end Go.Proofs.YtnmaaijeamlplaaDoor.Bk
namespace Go.Proofs.YtnmaaijeamlplaaDoor.Bk
open Go.RowKit Go.Proofs.YtnmaaijeamlplaaDoor.Mem
theorem rdoes_true (d : Dk) (l : List Wr) : rdoes_m d l = true := by
 unfold rdoes_m
 rw [if_pos awake_true, rformat_eq, if_pos (same_self _), if_pos rfl, rcommit_eq, if_pos (same_self _), if_pos rfl, rrecover_eq, if_pos (same_self _)]
 exact decide_eq_true rfl
end Go.Proofs.YtnmaaijeamlplaaDoor.Bk
