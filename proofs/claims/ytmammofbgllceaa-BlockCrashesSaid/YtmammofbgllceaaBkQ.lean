/- Layer 15: BlockCrashes. -/
import Derived.Test.YtmammofbgllceaaBkO
namespace Go.Proofs.Ytmammofbgllceaa.Bk
open Go.RowKit
open Go.Proofs.Ytmammofbgllceaa.Sym Go.Proofs.Ytmammofbgllceaa.Mem
open Go.Proofs.Ytmammofbgllceaa.Sx hiding Mm m_alloc m_store m_put m_call m_callx m_make m_append r_string r_ixS
set_option linter.unusedVariables false
attribute [local irreducible] wpList Oper.wp

def crashes_m (d : Dk) (fates : List UInt8) (fuse : Int) : Bool :=
  if awake_m = true then
    if (same_m ((crash_m d fates fuse).1) ((rcrash_m d fates fuse).1)) = true then
      if (crash_m d fates fuse).2 = (rcrash_m d fates fuse).2 then
        if (same_m ((new_m fuse).1) ((rnew_m fuse).1)) = true then
          (decide ((new_m fuse).2 = (rnew_m fuse).2))
        else
          false
      else
        false
    else
      false
  else
    false

set_option maxHeartbeats 4000000 in
set_option maxRecDepth 100000 in
theorem crashes_any (d : Dk) (fates : List UInt8) (fuse : Int) (dv0 dv1 fatesv0 : Value) (w : World) (hd : DkR d dv0 dv1 w) (hfates : Rs eB 1 fates fatesv0 w) (hp0 : d.safe.length ≤ 8796093021952) (hp1 : d.loose.length ≤ 5864062014634) (hp2 : fates.length ≤ 140737488351232) : Calls Try.prog 4 #[.agg #[dv0, dv1, .int .i64 (d.fuse), .bool (d.down)], fatesv0, .int .i64 (fuse)] w (fun e w' => e = .returned (.bool ((crashes_m d fates fuse))) ∧ Below w.heap.size w w') := by
  go_enter Try.func4, Try.ntmps4
  have hm00 := Mm.nil none (fun _ => True) w
  obtain ⟨Fd, hm01⟩ : ∃ Fd, Mm none (fun _ => True) w w [.see (DkR d dv0 dv1) Fd] := hm00.come (DkR_all hd)
  obtain ⟨Ffates, hm02⟩ : ∃ Ffates, Mm none (fun _ => True) w w [.see (DkR d dv0 dv1) Fd, .see (Rs eB 1 fates fatesv0) Ffates] := hm01.come (Rs.all hfates)
  have hm0 := hm02
  refine wp_seq_k (fun K1 hK1 => ?_)
  refine wp_region_lit ?_
  refine lst rfl (m_alloc (c := #[dv0, dv1, .int .i64 (d.fuse), .bool (d.down)]) (T := 25) hm0 3 rfl (run_box rfl rfl) (fun g4 w2 (hm3 : Mm none (fun _ => True) w w2 [.see (DkR d dv0 dv1) Fd, .see (Rs eB 1 fates fatesv0) Ffates, .blk g4 #[dv0, dv1, .int .i64 (d.fuse), .bool (d.down)] 25]) => ?_))
  simp only [nz1, nz2, nz3]
  refine lvw 6 (.bool false) rfl rfl (run_as rfl rfl) ?_
  simp only [nz1, nz2, nz3]
  refine wpList_nil ?_
  refine then_n (hK1 _ _ ?_)
  refine wp_seq_k (fun K5 hK5 => ?_)
  refine wp_region_lit ?_
  refine lvw 16 (.agg #[dv0, dv1, .int .i64 (d.fuse), .bool (d.down)]) rfl rfl (r_whole (hm3.at 2 rfl) Try.underlying25 rfl (by exact sz_25) rfl rfl) ?_
  simp only [nz1, nz2, nz3]
  refine lvw 17 (fatesv0) rfl rfl (run_mv rfl rfl) ?_
  simp only [nz1, nz2, nz3]
  refine lvw 18 (.int .i64 (fuse)) rfl rfl (run_mv rfl rfl) ?_
  simp only [nz1, nz2, nz3]
  refine lst rfl (m_callx hm3 19 rfl (run_crash rfl rfl rfl rfl) (crash_any d fates fuse dv0 dv1 fatesv0 (seeS _) _ (hm3.from 0 rfl) (hm3.from 1 rfl) (by first | omega | assumption | decide | (simp; done) | (simp; omega)) (by first | omega | assumption | decide | (simp; done) | (simp; omega)) (by first | omega | assumption | decide | (simp; done) | (simp; omega))) (fun vv12 w6 hR13 hb14 hm7 => ?_))
  obtain ⟨v8, v9, rfl, hg15⟩ := hR13
  obtain ⟨F11, hm16⟩ : ∃ F11, Mm none (fun _ => True) w w6 [.see (DkR d dv0 dv1) Fd, .see (Rs eB 1 fates fatesv0) Ffates, .blk g4 #[dv0, dv1, .int .i64 (d.fuse), .bool (d.down)] 25, .see (DkR ((crash_m d fates fuse).1) v8 v9) F11] := Mm.tookS hm3 hb14 hg15
  clear hm7 hg15 hb14
  have hf17 : (crash_m d fates fuse).1.safe.length = d.safe.length := (crash_near d fates fuse).1
  have hf18 : (crash_m d fates fuse).1.loose.length ≤ d.loose.length := (crash_near d fates fuse).2
  simp only [nz1, nz2, nz3]
  refine lvw 15 (.tuple #[.agg #[v8, v9, .int .i64 (((crash_m d fates fuse).1).fuse), .bool (((crash_m d fates fuse).1).down)], .int .i64 ((crash_m d fates fuse).2)]) rfl rfl (run_mv rfl rfl) ?_
  simp only [nz1, nz2, nz3]
  refine lvw 20 (.agg #[v8, v9, .int .i64 (((crash_m d fates fuse).1).fuse), .bool (((crash_m d fates fuse).1).down)]) rfl rfl (run_ex rfl rfl rfl) ?_
  simp only [nz1, nz2, nz3]
  refine lvw 21 (.int .i64 ((crash_m d fates fuse).2)) rfl rfl (run_ex rfl rfl rfl) ?_
  simp only [nz1, nz2, nz3]
  refine lst rfl (m_alloc (c := #[.slice none 0 0, .slice none 0 0, .int .i64 0, .bool false]) (T := 25) hm16 7 rfl (by unfold execOp; go_simp; try rfl) (fun g21 w19 (hm20 : Mm none (fun _ => True) w w19 [.see (DkR d dv0 dv1) Fd, .see (Rs eB 1 fates fatesv0) Ffates, .blk g4 #[dv0, dv1, .int .i64 (d.fuse), .bool (d.down)] 25, .see (DkR ((crash_m d fates fuse).1) v8 v9) F11, .blk g21 #[.slice none 0 0, .slice none 0 0, .int .i64 0, .bool false] 25]) => ?_))
  simp only [nz1, nz2, nz3]
  have ho24 := (rd_one ((hm20.see 3 rfl).1))
  have ho25 := (rd_one ((hm20.see 3 rfl).2))
  refine lst rfl (m_store 4 25 _ _ 0 (.agg #[v8, v9, .int .i64 (((crash_m d fates fuse).1).fuse), .bool (((crash_m d fates fuse).1).down)]) (old := #[.slice none 0 0, .slice none 0 0, .int .i64 0, .bool false]) (new := #[v8, v9, .int .i64 (((crash_m d fates fuse).1).fuse), .bool (((crash_m d fates fuse).1).down)]) hm20 rfl rfl rfl rfl rfl (by exact sz_25) (show 0 + 4 ≤ 4 from by decide) (by rw [Array.all_eq_true_iff_forall_mem]; intro x hx; simp only [Value.cells, List.mem_toArray, List.mem_cons, List.not_mem_nil, or_false] at hx; rcases hx with rfl | rfl | rfl | rfl <;> first | rfl | assumption) rfl (fun w22 (hm23 : Mm none (fun _ => True) w w22 [.see (DkR d dv0 dv1) Fd, .see (Rs eB 1 fates fatesv0) Ffates, .blk g4 #[dv0, dv1, .int .i64 (d.fuse), .bool (d.down)] 25, .see (DkR ((crash_m d fates fuse).1) v8 v9) F11, .blk g21 #[v8, v9, .int .i64 (((crash_m d fates fuse).1).fuse), .bool (((crash_m d fates fuse).1).down)] 25]) => ?_))
  refine lvw 8 (.int .i64 ((crash_m d fates fuse).2)) rfl rfl (run_as rfl rfl) ?_
  simp only [nz1, nz2, nz3]
  refine wpList_nil ?_
  refine then_n (hK5 _ _ ?_)
  refine wp_seq_k (fun K26 hK26 => ?_)
  refine wp_region_lit ?_
  refine lvw 23 (.agg #[dv0, dv1, .int .i64 (d.fuse), .bool (d.down)]) rfl rfl (r_whole (hm23.at 2 rfl) Try.underlying25 rfl (by exact sz_25) rfl rfl) ?_
  simp only [nz1, nz2, nz3]
  refine lvw 24 (fatesv0) rfl rfl (run_mv rfl rfl) ?_
  simp only [nz1, nz2, nz3]
  refine lvw 25 (.int .i64 (fuse)) rfl rfl (run_mv rfl rfl) ?_
  simp only [nz1, nz2, nz3]
  refine lst rfl (m_callx hm23 26 rfl (run_rcrash rfl rfl rfl rfl) (rcrash_any d fates fuse dv0 dv1 fatesv0 (seeS _) _ (hm23.from 0 rfl) (hm23.from 1 rfl) (by first | omega | assumption | decide | (simp; done) | (simp; omega)) (by first | omega | assumption | decide | (simp; done) | (simp; omega)) (by first | omega | assumption | decide | (simp; done) | (simp; omega))) (fun vv33 w27 hR34 hb35 hm28 => ?_))
  obtain ⟨v29, v30, rfl, hg36⟩ := hR34
  obtain ⟨F32, hm37⟩ : ∃ F32, Mm none (fun _ => True) w w27 [.see (DkR d dv0 dv1) Fd, .see (Rs eB 1 fates fatesv0) Ffates, .blk g4 #[dv0, dv1, .int .i64 (d.fuse), .bool (d.down)] 25, .see (DkR ((crash_m d fates fuse).1) v8 v9) F11, .blk g21 #[v8, v9, .int .i64 (((crash_m d fates fuse).1).fuse), .bool (((crash_m d fates fuse).1).down)] 25, .see (DkR ((rcrash_m d fates fuse).1) v29 v30) F32] := Mm.tookS hm23 hb35 hg36
  clear hm28 hg36 hb35
  have hf38 : (rcrash_m d fates fuse).1.safe.length = d.safe.length := (rcrash_near d fates fuse).1
  have hf39 : (rcrash_m d fates fuse).1.loose.length ≤ d.loose.length := (rcrash_near d fates fuse).2
  simp only [nz1, nz2, nz3]
  refine lvw 22 (.tuple #[.agg #[v29, v30, .int .i64 (((rcrash_m d fates fuse).1).fuse), .bool (((rcrash_m d fates fuse).1).down)], .int .i64 ((rcrash_m d fates fuse).2)]) rfl rfl (run_mv rfl rfl) ?_
  simp only [nz1, nz2, nz3]
  refine lvw 27 (.agg #[v29, v30, .int .i64 (((rcrash_m d fates fuse).1).fuse), .bool (((rcrash_m d fates fuse).1).down)]) rfl rfl (run_ex rfl rfl rfl) ?_
  simp only [nz1, nz2, nz3]
  refine lvw 28 (.int .i64 ((rcrash_m d fates fuse).2)) rfl rfl (run_ex rfl rfl rfl) ?_
  simp only [nz1, nz2, nz3]
  refine lst rfl (m_alloc (c := #[.slice none 0 0, .slice none 0 0, .int .i64 0, .bool false]) (T := 25) hm37 9 rfl (by unfold execOp; go_simp; try rfl) (fun g42 w40 (hm41 : Mm none (fun _ => True) w w40 [.see (DkR d dv0 dv1) Fd, .see (Rs eB 1 fates fatesv0) Ffates, .blk g4 #[dv0, dv1, .int .i64 (d.fuse), .bool (d.down)] 25, .see (DkR ((crash_m d fates fuse).1) v8 v9) F11, .blk g21 #[v8, v9, .int .i64 (((crash_m d fates fuse).1).fuse), .bool (((crash_m d fates fuse).1).down)] 25, .see (DkR ((rcrash_m d fates fuse).1) v29 v30) F32, .blk g42 #[.slice none 0 0, .slice none 0 0, .int .i64 0, .bool false] 25]) => ?_))
  simp only [nz1, nz2, nz3]
  have ho45 := (rd_one ((hm41.see 5 rfl).1))
  have ho46 := (rd_one ((hm41.see 5 rfl).2))
  refine lst rfl (m_store 6 25 _ _ 0 (.agg #[v29, v30, .int .i64 (((rcrash_m d fates fuse).1).fuse), .bool (((rcrash_m d fates fuse).1).down)]) (old := #[.slice none 0 0, .slice none 0 0, .int .i64 0, .bool false]) (new := #[v29, v30, .int .i64 (((rcrash_m d fates fuse).1).fuse), .bool (((rcrash_m d fates fuse).1).down)]) hm41 rfl rfl rfl rfl rfl (by exact sz_25) (show 0 + 4 ≤ 4 from by decide) (by rw [Array.all_eq_true_iff_forall_mem]; intro x hx; simp only [Value.cells, List.mem_toArray, List.mem_cons, List.not_mem_nil, or_false] at hx; rcases hx with rfl | rfl | rfl | rfl <;> first | rfl | assumption) rfl (fun w43 (hm44 : Mm none (fun _ => True) w w43 [.see (DkR d dv0 dv1) Fd, .see (Rs eB 1 fates fatesv0) Ffates, .blk g4 #[dv0, dv1, .int .i64 (d.fuse), .bool (d.down)] 25, .see (DkR ((crash_m d fates fuse).1) v8 v9) F11, .blk g21 #[v8, v9, .int .i64 (((crash_m d fates fuse).1).fuse), .bool (((crash_m d fates fuse).1).down)] 25, .see (DkR ((rcrash_m d fates fuse).1) v29 v30) F32, .blk g42 #[v29, v30, .int .i64 (((rcrash_m d fates fuse).1).fuse), .bool (((rcrash_m d fates fuse).1).down)] 25]) => ?_))
  refine lvw 10 (.int .i64 ((rcrash_m d fates fuse).2)) rfl rfl (run_as rfl rfl) ?_
  simp only [nz1, nz2, nz3]
  refine wpList_nil ?_
  refine then_n (hK26 _ _ ?_)
  refine wp_seq_k (fun K47 hK47 => ?_)
  refine wp_region_lit ?_
  refine lvw 30 (.int .i64 (fuse)) rfl rfl (run_mv rfl rfl) ?_
  simp only [nz1, nz2, nz3]
  refine lst rfl (m_callx hm44 31 rfl (run_new rfl rfl) (new_any fuse  (seeS [.see (DkR d dv0 dv1) Fd, .see (Rs eB 1 fates fatesv0) Ffates, .blk g4 #[dv0, dv1, .int .i64 (d.fuse), .bool (d.down)] 25, .see (DkR ((crash_m d fates fuse).1) v8 v9) F11, .blk g21 #[v8, v9, .int .i64 (((crash_m d fates fuse).1).fuse), .bool (((crash_m d fates fuse).1).down)] 25, .see (DkR ((rcrash_m d fates fuse).1) v29 v30) F32, .blk g42 #[v29, v30, .int .i64 (((rcrash_m d fates fuse).1).fuse), .bool (((rcrash_m d fates fuse).1).down)] 25]) _  ) (fun vv54 w48 hR55 hb56 hm49 => ?_))
  obtain ⟨v50, v51, rfl, hg57⟩ := hR55
  obtain ⟨F53, hm58⟩ : ∃ F53, Mm none (fun _ => True) w w48 [.see (DkR d dv0 dv1) Fd, .see (Rs eB 1 fates fatesv0) Ffates, .blk g4 #[dv0, dv1, .int .i64 (d.fuse), .bool (d.down)] 25, .see (DkR ((crash_m d fates fuse).1) v8 v9) F11, .blk g21 #[v8, v9, .int .i64 (((crash_m d fates fuse).1).fuse), .bool (((crash_m d fates fuse).1).down)] 25, .see (DkR ((rcrash_m d fates fuse).1) v29 v30) F32, .blk g42 #[v29, v30, .int .i64 (((rcrash_m d fates fuse).1).fuse), .bool (((rcrash_m d fates fuse).1).down)] 25, .see (DkR ((new_m fuse).1) v50 v51) F53] := Mm.tookS hm44 hb56 hg57
  clear hm49 hg57 hb56
  have hf59 : (new_m fuse).1.safe.length ≤ 2048 := (new_near fuse).1
  have hf60 : (new_m fuse).1.loose.length ≤ 0 := (new_near fuse).2
  simp only [nz1, nz2, nz3]
  refine lvw 29 (.tuple #[.agg #[v50, v51, .int .i64 (((new_m fuse).1).fuse), .bool (((new_m fuse).1).down)], .int .i64 ((new_m fuse).2)]) rfl rfl (run_mv rfl rfl) ?_
  simp only [nz1, nz2, nz3]
  refine lvw 32 (.agg #[v50, v51, .int .i64 (((new_m fuse).1).fuse), .bool (((new_m fuse).1).down)]) rfl rfl (run_ex rfl rfl rfl) ?_
  simp only [nz1, nz2, nz3]
  refine lvw 33 (.int .i64 ((new_m fuse).2)) rfl rfl (run_ex rfl rfl rfl) ?_
  simp only [nz1, nz2, nz3]
  refine lst rfl (m_alloc (c := #[.slice none 0 0, .slice none 0 0, .int .i64 0, .bool false]) (T := 25) hm58 11 rfl (by unfold execOp; go_simp; try rfl) (fun g63 w61 (hm62 : Mm none (fun _ => True) w w61 [.see (DkR d dv0 dv1) Fd, .see (Rs eB 1 fates fatesv0) Ffates, .blk g4 #[dv0, dv1, .int .i64 (d.fuse), .bool (d.down)] 25, .see (DkR ((crash_m d fates fuse).1) v8 v9) F11, .blk g21 #[v8, v9, .int .i64 (((crash_m d fates fuse).1).fuse), .bool (((crash_m d fates fuse).1).down)] 25, .see (DkR ((rcrash_m d fates fuse).1) v29 v30) F32, .blk g42 #[v29, v30, .int .i64 (((rcrash_m d fates fuse).1).fuse), .bool (((rcrash_m d fates fuse).1).down)] 25, .see (DkR ((new_m fuse).1) v50 v51) F53, .blk g63 #[.slice none 0 0, .slice none 0 0, .int .i64 0, .bool false] 25]) => ?_))
  simp only [nz1, nz2, nz3]
  have ho66 := (rd_one ((hm62.see 7 rfl).1))
  have ho67 := (rd_one ((hm62.see 7 rfl).2))
  refine lst rfl (m_store 8 25 _ _ 0 (.agg #[v50, v51, .int .i64 (((new_m fuse).1).fuse), .bool (((new_m fuse).1).down)]) (old := #[.slice none 0 0, .slice none 0 0, .int .i64 0, .bool false]) (new := #[v50, v51, .int .i64 (((new_m fuse).1).fuse), .bool (((new_m fuse).1).down)]) hm62 rfl rfl rfl rfl rfl (by exact sz_25) (show 0 + 4 ≤ 4 from by decide) (by rw [Array.all_eq_true_iff_forall_mem]; intro x hx; simp only [Value.cells, List.mem_toArray, List.mem_cons, List.not_mem_nil, or_false] at hx; rcases hx with rfl | rfl | rfl | rfl <;> first | rfl | assumption) rfl (fun w64 (hm65 : Mm none (fun _ => True) w w64 [.see (DkR d dv0 dv1) Fd, .see (Rs eB 1 fates fatesv0) Ffates, .blk g4 #[dv0, dv1, .int .i64 (d.fuse), .bool (d.down)] 25, .see (DkR ((crash_m d fates fuse).1) v8 v9) F11, .blk g21 #[v8, v9, .int .i64 (((crash_m d fates fuse).1).fuse), .bool (((crash_m d fates fuse).1).down)] 25, .see (DkR ((rcrash_m d fates fuse).1) v29 v30) F32, .blk g42 #[v29, v30, .int .i64 (((rcrash_m d fates fuse).1).fuse), .bool (((rcrash_m d fates fuse).1).down)] 25, .see (DkR ((new_m fuse).1) v50 v51) F53, .blk g63 #[v50, v51, .int .i64 (((new_m fuse).1).fuse), .bool (((new_m fuse).1).down)] 25]) => ?_))
  refine lvw 12 (.int .i64 ((new_m fuse).2)) rfl rfl (run_as rfl rfl) ?_
  simp only [nz1, nz2, nz3]
  refine wpList_nil ?_
  refine then_n (hK47 _ _ ?_)
  refine wp_seq_k (fun K68 hK68 => ?_)
  refine wp_region_lit ?_
  refine lvw 35 (.int .i64 (fuse)) rfl rfl (run_mv rfl rfl) ?_
  simp only [nz1, nz2, nz3]
  refine lst rfl (m_callx hm65 36 rfl (run_rnew rfl rfl) (rnew_any fuse  (seeS [.see (DkR d dv0 dv1) Fd, .see (Rs eB 1 fates fatesv0) Ffates, .blk g4 #[dv0, dv1, .int .i64 (d.fuse), .bool (d.down)] 25, .see (DkR ((crash_m d fates fuse).1) v8 v9) F11, .blk g21 #[v8, v9, .int .i64 (((crash_m d fates fuse).1).fuse), .bool (((crash_m d fates fuse).1).down)] 25, .see (DkR ((rcrash_m d fates fuse).1) v29 v30) F32, .blk g42 #[v29, v30, .int .i64 (((rcrash_m d fates fuse).1).fuse), .bool (((rcrash_m d fates fuse).1).down)] 25, .see (DkR ((new_m fuse).1) v50 v51) F53, .blk g63 #[v50, v51, .int .i64 (((new_m fuse).1).fuse), .bool (((new_m fuse).1).down)] 25]) _  ) (fun vv75 w69 hR76 hb77 hm70 => ?_))
  obtain ⟨v71, v72, rfl, hg78⟩ := hR76
  obtain ⟨F74, hm79⟩ : ∃ F74, Mm none (fun _ => True) w w69 [.see (DkR d dv0 dv1) Fd, .see (Rs eB 1 fates fatesv0) Ffates, .blk g4 #[dv0, dv1, .int .i64 (d.fuse), .bool (d.down)] 25, .see (DkR ((crash_m d fates fuse).1) v8 v9) F11, .blk g21 #[v8, v9, .int .i64 (((crash_m d fates fuse).1).fuse), .bool (((crash_m d fates fuse).1).down)] 25, .see (DkR ((rcrash_m d fates fuse).1) v29 v30) F32, .blk g42 #[v29, v30, .int .i64 (((rcrash_m d fates fuse).1).fuse), .bool (((rcrash_m d fates fuse).1).down)] 25, .see (DkR ((new_m fuse).1) v50 v51) F53, .blk g63 #[v50, v51, .int .i64 (((new_m fuse).1).fuse), .bool (((new_m fuse).1).down)] 25, .see (DkR ((rnew_m fuse).1) v71 v72) F74] := Mm.tookS hm65 hb77 hg78
  clear hm70 hg78 hb77
  have hf80 : (rnew_m fuse).1.safe.length ≤ 2048 := (rnew_near fuse).1
  have hf81 : (rnew_m fuse).1.loose.length ≤ 0 := (rnew_near fuse).2
  simp only [nz1, nz2, nz3]
  refine lvw 34 (.tuple #[.agg #[v71, v72, .int .i64 (((rnew_m fuse).1).fuse), .bool (((rnew_m fuse).1).down)], .int .i64 ((rnew_m fuse).2)]) rfl rfl (run_mv rfl rfl) ?_
  simp only [nz1, nz2, nz3]
  refine lvw 37 (.agg #[v71, v72, .int .i64 (((rnew_m fuse).1).fuse), .bool (((rnew_m fuse).1).down)]) rfl rfl (run_ex rfl rfl rfl) ?_
  simp only [nz1, nz2, nz3]
  refine lvw 38 (.int .i64 ((rnew_m fuse).2)) rfl rfl (run_ex rfl rfl rfl) ?_
  simp only [nz1, nz2, nz3]
  refine lst rfl (m_alloc (c := #[.slice none 0 0, .slice none 0 0, .int .i64 0, .bool false]) (T := 25) hm79 13 rfl (by unfold execOp; go_simp; try rfl) (fun g84 w82 (hm83 : Mm none (fun _ => True) w w82 [.see (DkR d dv0 dv1) Fd, .see (Rs eB 1 fates fatesv0) Ffates, .blk g4 #[dv0, dv1, .int .i64 (d.fuse), .bool (d.down)] 25, .see (DkR ((crash_m d fates fuse).1) v8 v9) F11, .blk g21 #[v8, v9, .int .i64 (((crash_m d fates fuse).1).fuse), .bool (((crash_m d fates fuse).1).down)] 25, .see (DkR ((rcrash_m d fates fuse).1) v29 v30) F32, .blk g42 #[v29, v30, .int .i64 (((rcrash_m d fates fuse).1).fuse), .bool (((rcrash_m d fates fuse).1).down)] 25, .see (DkR ((new_m fuse).1) v50 v51) F53, .blk g63 #[v50, v51, .int .i64 (((new_m fuse).1).fuse), .bool (((new_m fuse).1).down)] 25, .see (DkR ((rnew_m fuse).1) v71 v72) F74, .blk g84 #[.slice none 0 0, .slice none 0 0, .int .i64 0, .bool false] 25]) => ?_))
  simp only [nz1, nz2, nz3]
  have ho87 := (rd_one ((hm83.see 9 rfl).1))
  have ho88 := (rd_one ((hm83.see 9 rfl).2))
  refine lst rfl (m_store 10 25 _ _ 0 (.agg #[v71, v72, .int .i64 (((rnew_m fuse).1).fuse), .bool (((rnew_m fuse).1).down)]) (old := #[.slice none 0 0, .slice none 0 0, .int .i64 0, .bool false]) (new := #[v71, v72, .int .i64 (((rnew_m fuse).1).fuse), .bool (((rnew_m fuse).1).down)]) hm83 rfl rfl rfl rfl rfl (by exact sz_25) (show 0 + 4 ≤ 4 from by decide) (by rw [Array.all_eq_true_iff_forall_mem]; intro x hx; simp only [Value.cells, List.mem_toArray, List.mem_cons, List.not_mem_nil, or_false] at hx; rcases hx with rfl | rfl | rfl | rfl <;> first | rfl | assumption) rfl (fun w85 (hm86 : Mm none (fun _ => True) w w85 [.see (DkR d dv0 dv1) Fd, .see (Rs eB 1 fates fatesv0) Ffates, .blk g4 #[dv0, dv1, .int .i64 (d.fuse), .bool (d.down)] 25, .see (DkR ((crash_m d fates fuse).1) v8 v9) F11, .blk g21 #[v8, v9, .int .i64 (((crash_m d fates fuse).1).fuse), .bool (((crash_m d fates fuse).1).down)] 25, .see (DkR ((rcrash_m d fates fuse).1) v29 v30) F32, .blk g42 #[v29, v30, .int .i64 (((rcrash_m d fates fuse).1).fuse), .bool (((rcrash_m d fates fuse).1).down)] 25, .see (DkR ((new_m fuse).1) v50 v51) F53, .blk g63 #[v50, v51, .int .i64 (((new_m fuse).1).fuse), .bool (((new_m fuse).1).down)] 25, .see (DkR ((rnew_m fuse).1) v71 v72) F74, .blk g84 #[v71, v72, .int .i64 (((rnew_m fuse).1).fuse), .bool (((rnew_m fuse).1).down)] 25]) => ?_))
  refine lvw 14 (.int .i64 ((rnew_m fuse).2)) rfl rfl (run_as rfl rfl) ?_
  simp only [nz1, nz2, nz3]
  refine wpList_nil ?_
  refine then_n (hK68 _ _ ?_)
  refine wp_seq_k (fun K89 hK89 => ?_)
  refine wp_region_lit ?_
  refine lst rfl (m_call hm86 39 (.bool (awake_m)) rfl (run_awake rfl) (awake_any   _  ) (fun w90 (hm91 : Mm none (fun _ => True) w w90 [.see (DkR d dv0 dv1) Fd, .see (Rs eB 1 fates fatesv0) Ffates, .blk g4 #[dv0, dv1, .int .i64 (d.fuse), .bool (d.down)] 25, .see (DkR ((crash_m d fates fuse).1) v8 v9) F11, .blk g21 #[v8, v9, .int .i64 (((crash_m d fates fuse).1).fuse), .bool (((crash_m d fates fuse).1).down)] 25, .see (DkR ((rcrash_m d fates fuse).1) v29 v30) F32, .blk g42 #[v29, v30, .int .i64 (((rcrash_m d fates fuse).1).fuse), .bool (((rcrash_m d fates fuse).1).down)] 25, .see (DkR ((new_m fuse).1) v50 v51) F53, .blk g63 #[v50, v51, .int .i64 (((new_m fuse).1).fuse), .bool (((new_m fuse).1).down)] 25, .see (DkR ((rnew_m fuse).1) v71 v72) F74, .blk g84 #[v71, v72, .int .i64 (((rnew_m fuse).1).fuse), .bool (((rnew_m fuse).1).down)] 25]) => ?_))
  simp only [nz1, nz2, nz3]
  by_cases hs92 : awake_m = true
  rotate_left
  · rw [(Bool.eq_false_iff.2 hs92 : awake_m = false)]
    refine lvw 40 (.bool false) rfl rfl (run_mv rfl rfl) ?_
    simp only [nz1, nz2, nz3]
    refine lst_skip 41 rfl rfl ?_
    simp only [nz1, nz2, nz3]
    refine lst_skip 42 rfl rfl ?_
    simp only [nz1, nz2, nz3]
    refine lst_skip 43 rfl rfl ?_
    simp only [nz1, nz2, nz3]
    refine lvw 44 (.bool false) rfl rfl (run_pickf rfl rfl rfl) ?_
    simp only [nz1, nz2, nz3]
    refine lvw 45 (.bool false) rfl rfl (run_mv rfl rfl) ?_
    simp only [nz1, nz2, nz3]
    refine lst_skip 46 rfl rfl ?_
    simp only [nz1, nz2, nz3]
    refine lst_skip 47 rfl rfl ?_
    simp only [nz1, nz2, nz3]
    refine lst_skip 48 rfl rfl ?_
    simp only [nz1, nz2, nz3]
    refine lvw 49 (.bool false) rfl rfl (run_pickf rfl rfl rfl) ?_
    simp only [nz1, nz2, nz3]
    refine lvw 50 (.bool false) rfl rfl (run_mv rfl rfl) ?_
    simp only [nz1, nz2, nz3]
    refine lst_skip 51 rfl rfl ?_
    simp only [nz1, nz2, nz3]
    refine lst_skip 52 rfl rfl ?_
    simp only [nz1, nz2, nz3]
    refine lst_skip 53 rfl rfl ?_
    simp only [nz1, nz2, nz3]
    refine lvw 54 (.bool false) rfl rfl (run_pickf rfl rfl rfl) ?_
    simp only [nz1, nz2, nz3]
    refine lvw 55 (.bool false) rfl rfl (run_mv rfl rfl) ?_
    simp only [nz1, nz2, nz3]
    refine lst_skip 56 rfl rfl ?_
    simp only [nz1, nz2, nz3]
    refine lst_skip 57 rfl rfl ?_
    simp only [nz1, nz2, nz3]
    refine lst_skip 58 rfl rfl ?_
    simp only [nz1, nz2, nz3]
    refine lvw 59 (.bool false) rfl rfl (run_pickf rfl rfl rfl) ?_
    simp only [nz1, nz2, nz3]
    refine lvw 6 (.bool false) rfl rfl (run_as rfl rfl) ?_
    simp only [nz1, nz2, nz3]
    refine wpList_nil ?_
    refine then_n (hK89 _ _ ?_)
    refine wp_ret ?_
    have he104 : crashes_m d fates fuse = false := (show crashes_m d fates fuse = false from by unfold crashes_m; rw [if_neg hs92] <;> rfl)
    exact ⟨rfl, .bool false, res_t rfl rfl, ⟨by rw [he104], hm91.below⟩⟩
  rw [(hs92 : awake_m = true)]
  refine lvw 40 (.bool true) rfl rfl (run_mv rfl rfl) ?_
  simp only [nz1, nz2, nz3]
  refine lvw 41 (.agg #[v8, v9, .int .i64 (((crash_m d fates fuse).1).fuse), .bool (((crash_m d fates fuse).1).down)]) rfl rfl (r_whole (hm91.at 4 rfl) Try.underlying25 rfl (by exact sz_25) rfl rfl) ?_
  simp only [nz1, nz2, nz3]
  refine lvw 42 (.agg #[v29, v30, .int .i64 (((rcrash_m d fates fuse).1).fuse), .bool (((rcrash_m d fates fuse).1).down)]) rfl rfl (r_whole (hm91.at 6 rfl) Try.underlying25 rfl (by exact sz_25) rfl rfl) ?_
  simp only [nz1, nz2, nz3]
  refine lst rfl (m_call hm91 43 (.bool ((same_m ((crash_m d fates fuse).1) ((rcrash_m d fates fuse).1)))) rfl (run_same rfl rfl rfl) (same_any ((crash_m d fates fuse).1) ((rcrash_m d fates fuse).1) v8 v9 v29 v30 _ (hm91.see 3 rfl) (hm91.see 5 rfl) (by first | omega | assumption | decide | (simp; done) | (simp; omega)) (by first | omega | assumption | decide | (simp; done) | (simp; omega))) (fun w93 (hm94 : Mm none (fun _ => True) w w93 [.see (DkR d dv0 dv1) Fd, .see (Rs eB 1 fates fatesv0) Ffates, .blk g4 #[dv0, dv1, .int .i64 (d.fuse), .bool (d.down)] 25, .see (DkR ((crash_m d fates fuse).1) v8 v9) F11, .blk g21 #[v8, v9, .int .i64 (((crash_m d fates fuse).1).fuse), .bool (((crash_m d fates fuse).1).down)] 25, .see (DkR ((rcrash_m d fates fuse).1) v29 v30) F32, .blk g42 #[v29, v30, .int .i64 (((rcrash_m d fates fuse).1).fuse), .bool (((rcrash_m d fates fuse).1).down)] 25, .see (DkR ((new_m fuse).1) v50 v51) F53, .blk g63 #[v50, v51, .int .i64 (((new_m fuse).1).fuse), .bool (((new_m fuse).1).down)] 25, .see (DkR ((rnew_m fuse).1) v71 v72) F74, .blk g84 #[v71, v72, .int .i64 (((rnew_m fuse).1).fuse), .bool (((rnew_m fuse).1).down)] 25]) => ?_))
  simp only [nz1, nz2, nz3]
  by_cases hs95 : (same_m ((crash_m d fates fuse).1) ((rcrash_m d fates fuse).1)) = true
  rotate_left
  · rw [(Bool.eq_false_iff.2 hs95 : (same_m ((crash_m d fates fuse).1) ((rcrash_m d fates fuse).1)) = false)]
    refine lvw 44 (.bool false) rfl rfl (run_pick rfl rfl rfl) ?_
    simp only [nz1, nz2, nz3]
    refine lvw 45 (.bool false) rfl rfl (run_mv rfl rfl) ?_
    simp only [nz1, nz2, nz3]
    refine lst_skip 46 rfl rfl ?_
    simp only [nz1, nz2, nz3]
    refine lst_skip 47 rfl rfl ?_
    simp only [nz1, nz2, nz3]
    refine lst_skip 48 rfl rfl ?_
    simp only [nz1, nz2, nz3]
    refine lvw 49 (.bool false) rfl rfl (run_pickf rfl rfl rfl) ?_
    simp only [nz1, nz2, nz3]
    refine lvw 50 (.bool false) rfl rfl (run_mv rfl rfl) ?_
    simp only [nz1, nz2, nz3]
    refine lst_skip 51 rfl rfl ?_
    simp only [nz1, nz2, nz3]
    refine lst_skip 52 rfl rfl ?_
    simp only [nz1, nz2, nz3]
    refine lst_skip 53 rfl rfl ?_
    simp only [nz1, nz2, nz3]
    refine lvw 54 (.bool false) rfl rfl (run_pickf rfl rfl rfl) ?_
    simp only [nz1, nz2, nz3]
    refine lvw 55 (.bool false) rfl rfl (run_mv rfl rfl) ?_
    simp only [nz1, nz2, nz3]
    refine lst_skip 56 rfl rfl ?_
    simp only [nz1, nz2, nz3]
    refine lst_skip 57 rfl rfl ?_
    simp only [nz1, nz2, nz3]
    refine lst_skip 58 rfl rfl ?_
    simp only [nz1, nz2, nz3]
    refine lvw 59 (.bool false) rfl rfl (run_pickf rfl rfl rfl) ?_
    simp only [nz1, nz2, nz3]
    refine lvw 6 (.bool false) rfl rfl (run_as rfl rfl) ?_
    simp only [nz1, nz2, nz3]
    refine wpList_nil ?_
    refine then_n (hK89 _ _ ?_)
    refine wp_ret ?_
    have he103 : crashes_m d fates fuse = false := (show crashes_m d fates fuse = false from by unfold crashes_m; rw [if_pos hs92, if_neg hs95] <;> rfl)
    exact ⟨rfl, .bool false, res_t rfl rfl, ⟨by rw [he103], hm94.below⟩⟩
  rw [(hs95 : (same_m ((crash_m d fates fuse).1) ((rcrash_m d fates fuse).1)) = true)]
  refine lvw 44 (.bool true) rfl rfl (run_pick rfl rfl rfl) ?_
  simp only [nz1, nz2, nz3]
  refine lvw 45 (.bool true) rfl rfl (run_mv rfl rfl) ?_
  simp only [nz1, nz2, nz3]
  refine lvw 46 (.int .i64 ((crash_m d fates fuse).2)) rfl rfl (run_mv rfl rfl) ?_
  simp only [nz1, nz2, nz3]
  refine lvw 47 (.int .i64 ((rcrash_m d fates fuse).2)) rfl rfl (run_mv rfl rfl) ?_
  simp only [nz1, nz2, nz3]
  refine lvb 48 ((crash_m d fates fuse).2 = (rcrash_m d fates fuse).2) rfl rfl (z_eql ((crash_m d fates fuse).2) ((rcrash_m d fates fuse).2) rfl rfl rfl) (fun hs96 => ?_) (fun hs96 => ?_)
  rotate_left
  · simp only [nz1, nz2, nz3]
    refine lvw 49 (.bool false) rfl rfl (run_pick rfl rfl rfl) ?_
    simp only [nz1, nz2, nz3]
    refine lvw 50 (.bool false) rfl rfl (run_mv rfl rfl) ?_
    simp only [nz1, nz2, nz3]
    refine lst_skip 51 rfl rfl ?_
    simp only [nz1, nz2, nz3]
    refine lst_skip 52 rfl rfl ?_
    simp only [nz1, nz2, nz3]
    refine lst_skip 53 rfl rfl ?_
    simp only [nz1, nz2, nz3]
    refine lvw 54 (.bool false) rfl rfl (run_pickf rfl rfl rfl) ?_
    simp only [nz1, nz2, nz3]
    refine lvw 55 (.bool false) rfl rfl (run_mv rfl rfl) ?_
    simp only [nz1, nz2, nz3]
    refine lst_skip 56 rfl rfl ?_
    simp only [nz1, nz2, nz3]
    refine lst_skip 57 rfl rfl ?_
    simp only [nz1, nz2, nz3]
    refine lst_skip 58 rfl rfl ?_
    simp only [nz1, nz2, nz3]
    refine lvw 59 (.bool false) rfl rfl (run_pickf rfl rfl rfl) ?_
    simp only [nz1, nz2, nz3]
    refine lvw 6 (.bool false) rfl rfl (run_as rfl rfl) ?_
    simp only [nz1, nz2, nz3]
    refine wpList_nil ?_
    refine then_n (hK89 _ _ ?_)
    refine wp_ret ?_
    have he102 : crashes_m d fates fuse = false := (show crashes_m d fates fuse = false from by unfold crashes_m; rw [if_pos hs92, if_pos hs95, if_neg hs96] <;> rfl)
    exact ⟨rfl, .bool false, res_t rfl rfl, ⟨by rw [he102], hm94.below⟩⟩
  simp only [nz1, nz2, nz3]
  refine lvw 49 (.bool true) rfl rfl (run_pick rfl rfl rfl) ?_
  simp only [nz1, nz2, nz3]
  refine lvw 50 (.bool true) rfl rfl (run_mv rfl rfl) ?_
  simp only [nz1, nz2, nz3]
  refine lvw 51 (.agg #[v50, v51, .int .i64 (((new_m fuse).1).fuse), .bool (((new_m fuse).1).down)]) rfl rfl (r_whole (hm94.at 8 rfl) Try.underlying25 rfl (by exact sz_25) rfl rfl) ?_
  simp only [nz1, nz2, nz3]
  refine lvw 52 (.agg #[v71, v72, .int .i64 (((rnew_m fuse).1).fuse), .bool (((rnew_m fuse).1).down)]) rfl rfl (r_whole (hm94.at 10 rfl) Try.underlying25 rfl (by exact sz_25) rfl rfl) ?_
  simp only [nz1, nz2, nz3]
  refine lst rfl (m_call hm94 53 (.bool ((same_m ((new_m fuse).1) ((rnew_m fuse).1)))) rfl (run_same rfl rfl rfl) (same_any ((new_m fuse).1) ((rnew_m fuse).1) v50 v51 v71 v72 _ (hm94.see 7 rfl) (hm94.see 9 rfl) (by first | omega | assumption | decide | (simp; done) | (simp; omega)) (by first | omega | assumption | decide | (simp; done) | (simp; omega))) (fun w97 (hm98 : Mm none (fun _ => True) w w97 [.see (DkR d dv0 dv1) Fd, .see (Rs eB 1 fates fatesv0) Ffates, .blk g4 #[dv0, dv1, .int .i64 (d.fuse), .bool (d.down)] 25, .see (DkR ((crash_m d fates fuse).1) v8 v9) F11, .blk g21 #[v8, v9, .int .i64 (((crash_m d fates fuse).1).fuse), .bool (((crash_m d fates fuse).1).down)] 25, .see (DkR ((rcrash_m d fates fuse).1) v29 v30) F32, .blk g42 #[v29, v30, .int .i64 (((rcrash_m d fates fuse).1).fuse), .bool (((rcrash_m d fates fuse).1).down)] 25, .see (DkR ((new_m fuse).1) v50 v51) F53, .blk g63 #[v50, v51, .int .i64 (((new_m fuse).1).fuse), .bool (((new_m fuse).1).down)] 25, .see (DkR ((rnew_m fuse).1) v71 v72) F74, .blk g84 #[v71, v72, .int .i64 (((rnew_m fuse).1).fuse), .bool (((rnew_m fuse).1).down)] 25]) => ?_))
  simp only [nz1, nz2, nz3]
  by_cases hs99 : (same_m ((new_m fuse).1) ((rnew_m fuse).1)) = true
  · rw [(hs99 : (same_m ((new_m fuse).1) ((rnew_m fuse).1)) = true)]
    refine lvw 54 (.bool true) rfl rfl (run_pick rfl rfl rfl) ?_
    simp only [nz1, nz2, nz3]
    refine lvw 55 (.bool true) rfl rfl (run_mv rfl rfl) ?_
    simp only [nz1, nz2, nz3]
    refine lvw 56 (.int .i64 ((new_m fuse).2)) rfl rfl (run_mv rfl rfl) ?_
    simp only [nz1, nz2, nz3]
    refine lvw 57 (.int .i64 ((rnew_m fuse).2)) rfl rfl (run_mv rfl rfl) ?_
    simp only [nz1, nz2, nz3]
    refine lvw 58 (.bool (decide ((new_m fuse).2 = (rnew_m fuse).2))) rfl rfl (z_eql ((new_m fuse).2) ((rnew_m fuse).2) rfl rfl rfl) ?_
    simp only [nz1, nz2, nz3]
    refine lvw 59 (.bool (decide ((new_m fuse).2 = (rnew_m fuse).2))) rfl rfl (run_pick rfl rfl rfl) ?_
    simp only [nz1, nz2, nz3]
    refine lvw 6 (.bool (decide ((new_m fuse).2 = (rnew_m fuse).2))) rfl rfl (run_as rfl rfl) ?_
    simp only [nz1, nz2, nz3]
    refine wpList_nil ?_
    refine then_n (hK89 _ _ ?_)
    refine wp_ret ?_
    have he100 : crashes_m d fates fuse = (decide ((new_m fuse).2 = (rnew_m fuse).2)) := (show crashes_m d fates fuse = (decide ((new_m fuse).2 = (rnew_m fuse).2)) from by unfold crashes_m; rw [if_pos hs92, if_pos hs95, if_pos hs96, if_pos hs99] <;> rfl)
    exact ⟨rfl, .bool (decide ((new_m fuse).2 = (rnew_m fuse).2)), res_t rfl rfl, ⟨by rw [he100], hm98.below⟩⟩
  rw [(Bool.eq_false_iff.2 hs99 : (same_m ((new_m fuse).1) ((rnew_m fuse).1)) = false)]
  refine lvw 54 (.bool false) rfl rfl (run_pick rfl rfl rfl) ?_
  simp only [nz1, nz2, nz3]
  refine lvw 55 (.bool false) rfl rfl (run_mv rfl rfl) ?_
  simp only [nz1, nz2, nz3]
  refine lst_skip 56 rfl rfl ?_
  simp only [nz1, nz2, nz3]
  refine lst_skip 57 rfl rfl ?_
  simp only [nz1, nz2, nz3]
  refine lst_skip 58 rfl rfl ?_
  simp only [nz1, nz2, nz3]
  refine lvw 59 (.bool false) rfl rfl (run_pickf rfl rfl rfl) ?_
  simp only [nz1, nz2, nz3]
  refine lvw 6 (.bool false) rfl rfl (run_as rfl rfl) ?_
  simp only [nz1, nz2, nz3]
  refine wpList_nil ?_
  refine then_n (hK89 _ _ ?_)
  refine wp_ret ?_
  have he101 : crashes_m d fates fuse = false := (show crashes_m d fates fuse = false from by unfold crashes_m; rw [if_pos hs92, if_pos hs95, if_pos hs96, if_neg hs99] <;> rfl)
  exact ⟨rfl, .bool false, res_t rfl rfl, ⟨by rw [he101], hm98.below⟩⟩
theorem run_crashes {o : Oper} {a : Act} {w : World} {x0 x1 x2 : Operand} {v0 v1 v2 : Value} (ho : o.op = .call { callee := .value (.func 4), args := #[x0, x1, x2], argTypes := #[25, 37, 3] }) (h0 : a.eval x0 = v0) (h1 : a.eval x1 = v1) (h2 : a.eval x2 = v2) :
    (execOp a.eval o).run Try.prog w = .ok (.enter 4 #[v0, v1, v2]) w := by
  unfold execOp
  simp only [ho]
  have hf : a.eval (.func 4) = .func (.func 4) #[] #[] := rfl
  generalize a.eval = f at *
  go_simp
end Go.Proofs.Ytmammofbgllceaa.Bk
