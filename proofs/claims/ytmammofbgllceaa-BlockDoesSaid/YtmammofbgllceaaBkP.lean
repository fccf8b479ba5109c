/- Layer 15: BlockDoes. -/
import Derived.Test.YtmammofbgllceaaBkO
namespace Go.Proofs.Ytmammofbgllceaa.Bk
open Go.RowKit
open Go.Proofs.Ytmammofbgllceaa.Sym Go.Proofs.Ytmammofbgllceaa.Mem
open Go.Proofs.Ytmammofbgllceaa.Sx hiding Mm m_alloc m_store m_put m_call m_callx m_make m_append r_string r_ixS
set_option linter.unusedVariables false
attribute [local irreducible] wpList Oper.wp

def does_m (d : Dk) (at_ : Int) (data : List UInt8) : Bool :=
  if awake_m = true then
    if (same_m ((put_m d at_ data).1) ((rput_m (lcop_m d) at_ data).1)) = true then
      if (put_m d at_ data).2 = (rput_m (lcop_m d) at_ data).2 then
        if (get_m d at_).1 = (rget_m (lcop_m d) at_).1 then
          if (get_m d at_).2 = (rget_m (lcop_m d) at_).2 then
            if (same_m ((flush_m d).1) ((rflush_m (lcop_m d)).1)) = true then
              if (flush_m d).2 = (rflush_m (lcop_m d)).2 then
                if ((right_m d) == (rright_m (lcop_m d))) = true then
                  (same_m d (lcop_m d))
                else
                  false
              else
                false
            else
              false
          else
            false
        else
          false
      else
        false
    else
      false
  else
    false

set_option maxHeartbeats 4000000 in
set_option maxRecDepth 100000 in
theorem does_any (d : Dk) (at_ : Int) (data : List UInt8) (dv0 dv1 : Value) (w : World) (hd : DkR d dv0 dv1 w) (hp0 : d.safe.length ≤ 8796093021952) (hp1 : d.loose.length ≤ 5864062014634) (hp2 : d.fuse ≤ 9223372036854775807) : Calls Try.prog 3 #[.agg #[dv0, dv1, .int .i64 (d.fuse), .bool (d.down)], .int .i64 (at_), .string (tx data)] w (fun e w' => e = .returned (.bool ((does_m d at_ data))) ∧ Below w.heap.size w w') := by
  go_enter Try.func3, Try.ntmps3
  have hm00 := Mm.nil none (fun _ => True) w
  obtain ⟨Fd, hm01⟩ : ∃ Fd, Mm none (fun _ => True) w w [.see (DkR d dv0 dv1) Fd] := hm00.come (DkR_all hd)
  have hm0 := hm01
  refine wp_seq_k (fun K1 hK1 => ?_)
  refine wp_region_lit ?_
  refine lst rfl (m_alloc (c := #[dv0, dv1, .int .i64 (d.fuse), .bool (d.down)]) (T := 25) hm0 3 rfl (run_box rfl rfl) (fun g4 w2 (hm3 : Mm none (fun _ => True) w w2 [.see (DkR d dv0 dv1) Fd, .blk g4 #[dv0, dv1, .int .i64 (d.fuse), .bool (d.down)] 25]) => ?_))
  simp only [nz1, nz2, nz3]
  refine lvw 6 (.bool false) rfl rfl (run_as rfl rfl) ?_
  simp only [nz1, nz2, nz3]
  refine wpList_nil ?_
  refine then_n (hK1 _ _ ?_)
  refine wp_seq_k (fun K5 hK5 => ?_)
  refine wp_region_lit ?_
  refine lvw 20 (.agg #[dv0, dv1, .int .i64 (d.fuse), .bool (d.down)]) rfl rfl (r_whole (hm3.at 1 rfl) Try.underlying25 rfl (by exact sz_25) rfl rfl) ?_
  simp only [nz1, nz2, nz3]
  refine lst rfl (m_callx hm3 21 rfl (run_lcop rfl rfl) (lcop_any d dv0 dv1 (seeS _) _ (hm3.from 0 rfl) (by first | omega | assumption | decide | (simp; done) | (simp; omega)) (by first | omega | assumption | decide | (simp; done) | (simp; omega))) (fun vv12 w6 hR13 hb14 hm7 => ?_))
  obtain ⟨v8, v9, rfl, hg15⟩ := hR13
  obtain ⟨F11, hm16⟩ : ∃ F11, Mm none (fun _ => True) w w6 [.see (DkR d dv0 dv1) Fd, .blk g4 #[dv0, dv1, .int .i64 (d.fuse), .bool (d.down)] 25, .see (DkR (lcop_m d) v8 v9) F11] := Mm.tookS hm3 hb14 hg15
  clear hm7 hg15 hb14
  have hf17 : (lcop_m d).safe.length = d.safe.length := congrArg (fun x : Dk => x.safe.length) (lcop_eq d)
  have hf18 : (lcop_m d).loose.length = d.loose.length := congrArg (fun x : Dk => x.loose.length) (lcop_eq d)
  have hf19 : (lcop_m d).fuse = d.fuse := congrArg Dk.fuse (lcop_eq d)
  simp only [nz1, nz2, nz3]
  refine lst rfl (m_alloc (c := #[.slice none 0 0, .slice none 0 0, .int .i64 0, .bool false]) (T := 25) hm16 7 rfl (by unfold execOp; go_simp; try rfl) (fun g22 w20 (hm21 : Mm none (fun _ => True) w w20 [.see (DkR d dv0 dv1) Fd, .blk g4 #[dv0, dv1, .int .i64 (d.fuse), .bool (d.down)] 25, .see (DkR (lcop_m d) v8 v9) F11, .blk g22 #[.slice none 0 0, .slice none 0 0, .int .i64 0, .bool false] 25]) => ?_))
  simp only [nz1, nz2, nz3]
  have ho25 := (rd_one ((hm21.see 2 rfl).1))
  have ho26 := (rd_one ((hm21.see 2 rfl).2))
  refine lst rfl (m_store 3 25 _ _ 0 (.agg #[v8, v9, .int .i64 ((lcop_m d).fuse), .bool ((lcop_m d).down)]) (old := #[.slice none 0 0, .slice none 0 0, .int .i64 0, .bool false]) (new := #[v8, v9, .int .i64 ((lcop_m d).fuse), .bool ((lcop_m d).down)]) hm21 rfl rfl rfl rfl rfl (by exact sz_25) (show 0 + 4 ≤ 4 from by decide) (by rw [Array.all_eq_true_iff_forall_mem]; intro x hx; simp only [Value.cells, List.mem_toArray, List.mem_cons, List.not_mem_nil, or_false] at hx; rcases hx with rfl | rfl | rfl | rfl <;> first | rfl | assumption) rfl (fun w23 (hm24 : Mm none (fun _ => True) w w23 [.see (DkR d dv0 dv1) Fd, .blk g4 #[dv0, dv1, .int .i64 (d.fuse), .bool (d.down)] 25, .see (DkR (lcop_m d) v8 v9) F11, .blk g22 #[v8, v9, .int .i64 ((lcop_m d).fuse), .bool ((lcop_m d).down)] 25]) => ?_))
  refine wpList_nil ?_
  refine then_n (hK5 _ _ ?_)
  refine wp_seq_k (fun K27 hK27 => ?_)
  refine wp_region_lit ?_
  refine lvw 23 (.agg #[dv0, dv1, .int .i64 (d.fuse), .bool (d.down)]) rfl rfl (r_whole (hm24.at 1 rfl) Try.underlying25 rfl (by exact sz_25) rfl rfl) ?_
  simp only [nz1, nz2, nz3]
  refine lvw 24 (.int .i64 (at_)) rfl rfl (run_mv rfl rfl) ?_
  simp only [nz1, nz2, nz3]
  refine lvw 25 (.string (tx data)) rfl rfl (run_mv rfl rfl) ?_
  simp only [nz1, nz2, nz3]
  refine lst rfl (m_callx hm24 26 rfl (run_put rfl rfl rfl rfl) (put_any d at_ data dv0 dv1 (seeS _) _ (hm24.from 0 rfl) (by first | omega | assumption | decide | (simp; done) | (simp; omega)) (by first | omega | assumption | decide | (simp; done) | (simp; omega)) (by first | omega | assumption | decide | (simp; done) | (simp; omega))) (fun vv34 w28 hR35 hb36 hm29 => ?_))
  obtain ⟨v30, v31, rfl, hg37⟩ := hR35
  obtain ⟨F33, hm38⟩ : ∃ F33, Mm none (fun _ => True) w w28 [.see (DkR d dv0 dv1) Fd, .blk g4 #[dv0, dv1, .int .i64 (d.fuse), .bool (d.down)] 25, .see (DkR (lcop_m d) v8 v9) F11, .blk g22 #[v8, v9, .int .i64 ((lcop_m d).fuse), .bool ((lcop_m d).down)] 25, .see (DkR ((put_m d at_ data).1) v30 v31) F33] := Mm.tookS hm24 hb36 hg37
  clear hm29 hg37 hb36
  have hf39 : (put_m d at_ data).1.safe.length = d.safe.length := (put_near d at_ data).1
  have hf40 : (put_m d at_ data).1.loose.length ≤ d.loose.length + 1 := (put_near d at_ data).2.1
  have hf41 : (put_m d at_ data).1.fuse ≤ 9223372036854775807 := (put_near d at_ data).2.2 (by first | omega | (simp; done) | (simp; omega))
  simp only [nz1, nz2, nz3]
  refine lvw 22 (.tuple #[.agg #[v30, v31, .int .i64 (((put_m d at_ data).1).fuse), .bool (((put_m d at_ data).1).down)], .int .i64 ((put_m d at_ data).2)]) rfl rfl (run_mv rfl rfl) ?_
  simp only [nz1, nz2, nz3]
  refine lvw 27 (.agg #[v30, v31, .int .i64 (((put_m d at_ data).1).fuse), .bool (((put_m d at_ data).1).down)]) rfl rfl (run_ex rfl rfl rfl) ?_
  simp only [nz1, nz2, nz3]
  refine lvw 28 (.int .i64 ((put_m d at_ data).2)) rfl rfl (run_ex rfl rfl rfl) ?_
  simp only [nz1, nz2, nz3]
  refine lst rfl (m_alloc (c := #[.slice none 0 0, .slice none 0 0, .int .i64 0, .bool false]) (T := 25) hm38 8 rfl (by unfold execOp; go_simp; try rfl) (fun g44 w42 (hm43 : Mm none (fun _ => True) w w42 [.see (DkR d dv0 dv1) Fd, .blk g4 #[dv0, dv1, .int .i64 (d.fuse), .bool (d.down)] 25, .see (DkR (lcop_m d) v8 v9) F11, .blk g22 #[v8, v9, .int .i64 ((lcop_m d).fuse), .bool ((lcop_m d).down)] 25, .see (DkR ((put_m d at_ data).1) v30 v31) F33, .blk g44 #[.slice none 0 0, .slice none 0 0, .int .i64 0, .bool false] 25]) => ?_))
  simp only [nz1, nz2, nz3]
  have ho47 := (rd_one ((hm43.see 4 rfl).1))
  have ho48 := (rd_one ((hm43.see 4 rfl).2))
  refine lst rfl (m_store 5 25 _ _ 0 (.agg #[v30, v31, .int .i64 (((put_m d at_ data).1).fuse), .bool (((put_m d at_ data).1).down)]) (old := #[.slice none 0 0, .slice none 0 0, .int .i64 0, .bool false]) (new := #[v30, v31, .int .i64 (((put_m d at_ data).1).fuse), .bool (((put_m d at_ data).1).down)]) hm43 rfl rfl rfl rfl rfl (by exact sz_25) (show 0 + 4 ≤ 4 from by decide) (by rw [Array.all_eq_true_iff_forall_mem]; intro x hx; simp only [Value.cells, List.mem_toArray, List.mem_cons, List.not_mem_nil, or_false] at hx; rcases hx with rfl | rfl | rfl | rfl <;> first | rfl | assumption) rfl (fun w45 (hm46 : Mm none (fun _ => True) w w45 [.see (DkR d dv0 dv1) Fd, .blk g4 #[dv0, dv1, .int .i64 (d.fuse), .bool (d.down)] 25, .see (DkR (lcop_m d) v8 v9) F11, .blk g22 #[v8, v9, .int .i64 ((lcop_m d).fuse), .bool ((lcop_m d).down)] 25, .see (DkR ((put_m d at_ data).1) v30 v31) F33, .blk g44 #[v30, v31, .int .i64 (((put_m d at_ data).1).fuse), .bool (((put_m d at_ data).1).down)] 25]) => ?_))
  refine lvw 9 (.int .i64 ((put_m d at_ data).2)) rfl rfl (run_as rfl rfl) ?_
  simp only [nz1, nz2, nz3]
  refine wpList_nil ?_
  refine then_n (hK27 _ _ ?_)
  refine wp_seq_k (fun K49 hK49 => ?_)
  refine wp_region_lit ?_
  refine lvw 30 (.agg #[v8, v9, .int .i64 ((lcop_m d).fuse), .bool ((lcop_m d).down)]) rfl rfl (r_whole (hm46.at 3 rfl) Try.underlying25 rfl (by exact sz_25) rfl rfl) ?_
  simp only [nz1, nz2, nz3]
  refine lvw 31 (.int .i64 (at_)) rfl rfl (run_mv rfl rfl) ?_
  simp only [nz1, nz2, nz3]
  refine lvw 32 (.string (tx data)) rfl rfl (run_mv rfl rfl) ?_
  simp only [nz1, nz2, nz3]
  refine lst rfl (m_callx hm46 33 rfl (run_rput rfl rfl rfl rfl) (rput_any (lcop_m d) at_ data v8 v9 (seeS _) _ (hm46.from 2 rfl) (by first | omega | assumption | decide | (simp; done) | (simp; omega)) (by first | omega | assumption | decide | (simp; done) | (simp; omega)) (by first | omega | assumption | decide | (simp; done) | (simp; omega))) (fun vv56 w50 hR57 hb58 hm51 => ?_))
  obtain ⟨v52, v53, rfl, hg59⟩ := hR57
  obtain ⟨F55, hm60⟩ : ∃ F55, Mm none (fun _ => True) w w50 [.see (DkR d dv0 dv1) Fd, .blk g4 #[dv0, dv1, .int .i64 (d.fuse), .bool (d.down)] 25, .see (DkR (lcop_m d) v8 v9) F11, .blk g22 #[v8, v9, .int .i64 ((lcop_m d).fuse), .bool ((lcop_m d).down)] 25, .see (DkR ((put_m d at_ data).1) v30 v31) F33, .blk g44 #[v30, v31, .int .i64 (((put_m d at_ data).1).fuse), .bool (((put_m d at_ data).1).down)] 25, .see (DkR ((rput_m (lcop_m d) at_ data).1) v52 v53) F55] := Mm.tookS hm46 hb58 hg59
  clear hm51 hg59 hb58
  have hf61 : (rput_m (lcop_m d) at_ data).1.safe.length = (lcop_m d).safe.length := (rput_near (lcop_m d) at_ data).1
  have hf62 : (rput_m (lcop_m d) at_ data).1.loose.length ≤ (lcop_m d).loose.length + 1 := (rput_near (lcop_m d) at_ data).2.1
  have hf63 : (rput_m (lcop_m d) at_ data).1.fuse ≤ 9223372036854775807 := (rput_near (lcop_m d) at_ data).2.2 (by first | omega | (simp; done) | (simp; omega))
  simp only [nz1, nz2, nz3]
  refine lvw 29 (.tuple #[.agg #[v52, v53, .int .i64 (((rput_m (lcop_m d) at_ data).1).fuse), .bool (((rput_m (lcop_m d) at_ data).1).down)], .int .i64 ((rput_m (lcop_m d) at_ data).2)]) rfl rfl (run_mv rfl rfl) ?_
  simp only [nz1, nz2, nz3]
  refine lvw 34 (.agg #[v52, v53, .int .i64 (((rput_m (lcop_m d) at_ data).1).fuse), .bool (((rput_m (lcop_m d) at_ data).1).down)]) rfl rfl (run_ex rfl rfl rfl) ?_
  simp only [nz1, nz2, nz3]
  refine lvw 35 (.int .i64 ((rput_m (lcop_m d) at_ data).2)) rfl rfl (run_ex rfl rfl rfl) ?_
  simp only [nz1, nz2, nz3]
  refine lst rfl (m_alloc (c := #[.slice none 0 0, .slice none 0 0, .int .i64 0, .bool false]) (T := 25) hm60 10 rfl (by unfold execOp; go_simp; try rfl) (fun g66 w64 (hm65 : Mm none (fun _ => True) w w64 [.see (DkR d dv0 dv1) Fd, .blk g4 #[dv0, dv1, .int .i64 (d.fuse), .bool (d.down)] 25, .see (DkR (lcop_m d) v8 v9) F11, .blk g22 #[v8, v9, .int .i64 ((lcop_m d).fuse), .bool ((lcop_m d).down)] 25, .see (DkR ((put_m d at_ data).1) v30 v31) F33, .blk g44 #[v30, v31, .int .i64 (((put_m d at_ data).1).fuse), .bool (((put_m d at_ data).1).down)] 25, .see (DkR ((rput_m (lcop_m d) at_ data).1) v52 v53) F55, .blk g66 #[.slice none 0 0, .slice none 0 0, .int .i64 0, .bool false] 25]) => ?_))
  simp only [nz1, nz2, nz3]
  have ho69 := (rd_one ((hm65.see 6 rfl).1))
  have ho70 := (rd_one ((hm65.see 6 rfl).2))
  refine lst rfl (m_store 7 25 _ _ 0 (.agg #[v52, v53, .int .i64 (((rput_m (lcop_m d) at_ data).1).fuse), .bool (((rput_m (lcop_m d) at_ data).1).down)]) (old := #[.slice none 0 0, .slice none 0 0, .int .i64 0, .bool false]) (new := #[v52, v53, .int .i64 (((rput_m (lcop_m d) at_ data).1).fuse), .bool (((rput_m (lcop_m d) at_ data).1).down)]) hm65 rfl rfl rfl rfl rfl (by exact sz_25) (show 0 + 4 ≤ 4 from by decide) (by rw [Array.all_eq_true_iff_forall_mem]; intro x hx; simp only [Value.cells, List.mem_toArray, List.mem_cons, List.not_mem_nil, or_false] at hx; rcases hx with rfl | rfl | rfl | rfl <;> first | rfl | assumption) rfl (fun w67 (hm68 : Mm none (fun _ => True) w w67 [.see (DkR d dv0 dv1) Fd, .blk g4 #[dv0, dv1, .int .i64 (d.fuse), .bool (d.down)] 25, .see (DkR (lcop_m d) v8 v9) F11, .blk g22 #[v8, v9, .int .i64 ((lcop_m d).fuse), .bool ((lcop_m d).down)] 25, .see (DkR ((put_m d at_ data).1) v30 v31) F33, .blk g44 #[v30, v31, .int .i64 (((put_m d at_ data).1).fuse), .bool (((put_m d at_ data).1).down)] 25, .see (DkR ((rput_m (lcop_m d) at_ data).1) v52 v53) F55, .blk g66 #[v52, v53, .int .i64 (((rput_m (lcop_m d) at_ data).1).fuse), .bool (((rput_m (lcop_m d) at_ data).1).down)] 25]) => ?_))
  refine lvw 11 (.int .i64 ((rput_m (lcop_m d) at_ data).2)) rfl rfl (run_as rfl rfl) ?_
  simp only [nz1, nz2, nz3]
  refine wpList_nil ?_
  refine then_n (hK49 _ _ ?_)
  refine wp_seq_k (fun K71 hK71 => ?_)
  refine wp_region_lit ?_
  refine lvw 37 (.agg #[dv0, dv1, .int .i64 (d.fuse), .bool (d.down)]) rfl rfl (r_whole (hm68.at 1 rfl) Try.underlying25 rfl (by exact sz_25) rfl rfl) ?_
  simp only [nz1, nz2, nz3]
  refine lvw 38 (.int .i64 (at_)) rfl rfl (run_mv rfl rfl) ?_
  simp only [nz1, nz2, nz3]
  refine lst rfl (m_call hm68 39 (.tuple #[.string (tx ((get_m d at_).1)), .int .i64 ((get_m d at_).2)]) rfl (run_get rfl rfl rfl) (get_any d at_ dv0 dv1 _ (hm68.see 0 rfl) (by first | omega | assumption | decide | (simp; done) | (simp; omega)) (by first | omega | assumption | decide | (simp; done) | (simp; omega))) (fun w72 (hm73 : Mm none (fun _ => True) w w72 [.see (DkR d dv0 dv1) Fd, .blk g4 #[dv0, dv1, .int .i64 (d.fuse), .bool (d.down)] 25, .see (DkR (lcop_m d) v8 v9) F11, .blk g22 #[v8, v9, .int .i64 ((lcop_m d).fuse), .bool ((lcop_m d).down)] 25, .see (DkR ((put_m d at_ data).1) v30 v31) F33, .blk g44 #[v30, v31, .int .i64 (((put_m d at_ data).1).fuse), .bool (((put_m d at_ data).1).down)] 25, .see (DkR ((rput_m (lcop_m d) at_ data).1) v52 v53) F55, .blk g66 #[v52, v53, .int .i64 (((rput_m (lcop_m d) at_ data).1).fuse), .bool (((rput_m (lcop_m d) at_ data).1).down)] 25]) => ?_))
  simp only [nz1, nz2, nz3]
  refine lvw 36 (.tuple #[.string (tx ((get_m d at_).1)), .int .i64 ((get_m d at_).2)]) rfl rfl (run_mv rfl rfl) ?_
  simp only [nz1, nz2, nz3]
  refine lvw 40 (.string (tx ((get_m d at_).1))) rfl rfl (run_ex rfl rfl rfl) ?_
  simp only [nz1, nz2, nz3]
  refine lvw 41 (.int .i64 ((get_m d at_).2)) rfl rfl (run_ex rfl rfl rfl) ?_
  simp only [nz1, nz2, nz3]
  refine lvw 12 (.string (tx ((get_m d at_).1))) rfl rfl (run_as rfl rfl) ?_
  simp only [nz1, nz2, nz3]
  refine lvw 13 (.int .i64 ((get_m d at_).2)) rfl rfl (run_as rfl rfl) ?_
  simp only [nz1, nz2, nz3]
  refine wpList_nil ?_
  refine then_n (hK71 _ _ ?_)
  refine wp_seq_k (fun K74 hK74 => ?_)
  refine wp_region_lit ?_
  refine lvw 43 (.agg #[v8, v9, .int .i64 ((lcop_m d).fuse), .bool ((lcop_m d).down)]) rfl rfl (r_whole (hm73.at 3 rfl) Try.underlying25 rfl (by exact sz_25) rfl rfl) ?_
  simp only [nz1, nz2, nz3]
  refine lvw 44 (.int .i64 (at_)) rfl rfl (run_mv rfl rfl) ?_
  simp only [nz1, nz2, nz3]
  refine lst rfl (m_call hm73 45 (.tuple #[.string (tx ((rget_m (lcop_m d) at_).1)), .int .i64 ((rget_m (lcop_m d) at_).2)]) rfl (run_rget rfl rfl rfl) (rget_any (lcop_m d) at_ v8 v9 _ (hm73.see 2 rfl) (by first | omega | assumption | decide | (simp; done) | (simp; omega)) (by first | omega | assumption | decide | (simp; done) | (simp; omega))) (fun w75 (hm76 : Mm none (fun _ => True) w w75 [.see (DkR d dv0 dv1) Fd, .blk g4 #[dv0, dv1, .int .i64 (d.fuse), .bool (d.down)] 25, .see (DkR (lcop_m d) v8 v9) F11, .blk g22 #[v8, v9, .int .i64 ((lcop_m d).fuse), .bool ((lcop_m d).down)] 25, .see (DkR ((put_m d at_ data).1) v30 v31) F33, .blk g44 #[v30, v31, .int .i64 (((put_m d at_ data).1).fuse), .bool (((put_m d at_ data).1).down)] 25, .see (DkR ((rput_m (lcop_m d) at_ data).1) v52 v53) F55, .blk g66 #[v52, v53, .int .i64 (((rput_m (lcop_m d) at_ data).1).fuse), .bool (((rput_m (lcop_m d) at_ data).1).down)] 25]) => ?_))
  simp only [nz1, nz2, nz3]
  refine lvw 42 (.tuple #[.string (tx ((rget_m (lcop_m d) at_).1)), .int .i64 ((rget_m (lcop_m d) at_).2)]) rfl rfl (run_mv rfl rfl) ?_
  simp only [nz1, nz2, nz3]
  refine lvw 46 (.string (tx ((rget_m (lcop_m d) at_).1))) rfl rfl (run_ex rfl rfl rfl) ?_
  simp only [nz1, nz2, nz3]
  refine lvw 47 (.int .i64 ((rget_m (lcop_m d) at_).2)) rfl rfl (run_ex rfl rfl rfl) ?_
  simp only [nz1, nz2, nz3]
  refine lvw 14 (.string (tx ((rget_m (lcop_m d) at_).1))) rfl rfl (run_as rfl rfl) ?_
  simp only [nz1, nz2, nz3]
  refine lvw 15 (.int .i64 ((rget_m (lcop_m d) at_).2)) rfl rfl (run_as rfl rfl) ?_
  simp only [nz1, nz2, nz3]
  refine wpList_nil ?_
  refine then_n (hK74 _ _ ?_)
  refine wp_seq_k (fun K77 hK77 => ?_)
  refine wp_region_lit ?_
  refine lvw 49 (.agg #[dv0, dv1, .int .i64 (d.fuse), .bool (d.down)]) rfl rfl (r_whole (hm76.at 1 rfl) Try.underlying25 rfl (by exact sz_25) rfl rfl) ?_
  simp only [nz1, nz2, nz3]
  refine lst rfl (m_callx hm76 50 rfl (run_flush rfl rfl) (flush_any d dv0 dv1 (seeS _) _ (hm76.from 0 rfl) (by first | omega | assumption | decide | (simp; done) | (simp; omega)) (by first | omega | assumption | decide | (simp; done) | (simp; omega)) (by first | omega | assumption | decide | (simp; done) | (simp; omega))) (fun vv84 w78 hR85 hb86 hm79 => ?_))
  obtain ⟨v80, v81, rfl, hg87⟩ := hR85
  obtain ⟨F83, hm88⟩ : ∃ F83, Mm none (fun _ => True) w w78 [.see (DkR d dv0 dv1) Fd, .blk g4 #[dv0, dv1, .int .i64 (d.fuse), .bool (d.down)] 25, .see (DkR (lcop_m d) v8 v9) F11, .blk g22 #[v8, v9, .int .i64 ((lcop_m d).fuse), .bool ((lcop_m d).down)] 25, .see (DkR ((put_m d at_ data).1) v30 v31) F33, .blk g44 #[v30, v31, .int .i64 (((put_m d at_ data).1).fuse), .bool (((put_m d at_ data).1).down)] 25, .see (DkR ((rput_m (lcop_m d) at_ data).1) v52 v53) F55, .blk g66 #[v52, v53, .int .i64 (((rput_m (lcop_m d) at_ data).1).fuse), .bool (((rput_m (lcop_m d) at_ data).1).down)] 25, .see (DkR ((flush_m d).1) v80 v81) F83] := Mm.tookS hm76 hb86 hg87
  clear hm79 hg87 hb86
  have hf89 : (flush_m d).1.safe.length = d.safe.length := (flush_near d).1
  have hf90 : (flush_m d).1.loose.length ≤ d.loose.length + 0 := (flush_near d).2.1
  have hf91 : (flush_m d).1.fuse ≤ 9223372036854775807 := (flush_near d).2.2 (by first | omega | (simp; done) | (simp; omega))
  simp only [nz1, nz2, nz3]
  refine lvw 48 (.tuple #[.agg #[v80, v81, .int .i64 (((flush_m d).1).fuse), .bool (((flush_m d).1).down)], .int .i64 ((flush_m d).2)]) rfl rfl (run_mv rfl rfl) ?_
  simp only [nz1, nz2, nz3]
  refine lvw 51 (.agg #[v80, v81, .int .i64 (((flush_m d).1).fuse), .bool (((flush_m d).1).down)]) rfl rfl (run_ex rfl rfl rfl) ?_
  simp only [nz1, nz2, nz3]
  refine lvw 52 (.int .i64 ((flush_m d).2)) rfl rfl (run_ex rfl rfl rfl) ?_
  simp only [nz1, nz2, nz3]
  refine lst rfl (m_alloc (c := #[.slice none 0 0, .slice none 0 0, .int .i64 0, .bool false]) (T := 25) hm88 16 rfl (by unfold execOp; go_simp; try rfl) (fun g94 w92 (hm93 : Mm none (fun _ => True) w w92 [.see (DkR d dv0 dv1) Fd, .blk g4 #[dv0, dv1, .int .i64 (d.fuse), .bool (d.down)] 25, .see (DkR (lcop_m d) v8 v9) F11, .blk g22 #[v8, v9, .int .i64 ((lcop_m d).fuse), .bool ((lcop_m d).down)] 25, .see (DkR ((put_m d at_ data).1) v30 v31) F33, .blk g44 #[v30, v31, .int .i64 (((put_m d at_ data).1).fuse), .bool (((put_m d at_ data).1).down)] 25, .see (DkR ((rput_m (lcop_m d) at_ data).1) v52 v53) F55, .blk g66 #[v52, v53, .int .i64 (((rput_m (lcop_m d) at_ data).1).fuse), .bool (((rput_m (lcop_m d) at_ data).1).down)] 25, .see (DkR ((flush_m d).1) v80 v81) F83, .blk g94 #[.slice none 0 0, .slice none 0 0, .int .i64 0, .bool false] 25]) => ?_))
  simp only [nz1, nz2, nz3]
  have ho97 := (rd_one ((hm93.see 8 rfl).1))
  have ho98 := (rd_one ((hm93.see 8 rfl).2))
  refine lst rfl (m_store 9 25 _ _ 0 (.agg #[v80, v81, .int .i64 (((flush_m d).1).fuse), .bool (((flush_m d).1).down)]) (old := #[.slice none 0 0, .slice none 0 0, .int .i64 0, .bool false]) (new := #[v80, v81, .int .i64 (((flush_m d).1).fuse), .bool (((flush_m d).1).down)]) hm93 rfl rfl rfl rfl rfl (by exact sz_25) (show 0 + 4 ≤ 4 from by decide) (by rw [Array.all_eq_true_iff_forall_mem]; intro x hx; simp only [Value.cells, List.mem_toArray, List.mem_cons, List.not_mem_nil, or_false] at hx; rcases hx with rfl | rfl | rfl | rfl <;> first | rfl | assumption) rfl (fun w95 (hm96 : Mm none (fun _ => True) w w95 [.see (DkR d dv0 dv1) Fd, .blk g4 #[dv0, dv1, .int .i64 (d.fuse), .bool (d.down)] 25, .see (DkR (lcop_m d) v8 v9) F11, .blk g22 #[v8, v9, .int .i64 ((lcop_m d).fuse), .bool ((lcop_m d).down)] 25, .see (DkR ((put_m d at_ data).1) v30 v31) F33, .blk g44 #[v30, v31, .int .i64 (((put_m d at_ data).1).fuse), .bool (((put_m d at_ data).1).down)] 25, .see (DkR ((rput_m (lcop_m d) at_ data).1) v52 v53) F55, .blk g66 #[v52, v53, .int .i64 (((rput_m (lcop_m d) at_ data).1).fuse), .bool (((rput_m (lcop_m d) at_ data).1).down)] 25, .see (DkR ((flush_m d).1) v80 v81) F83, .blk g94 #[v80, v81, .int .i64 (((flush_m d).1).fuse), .bool (((flush_m d).1).down)] 25]) => ?_))
  refine lvw 17 (.int .i64 ((flush_m d).2)) rfl rfl (run_as rfl rfl) ?_
  simp only [nz1, nz2, nz3]
  refine wpList_nil ?_
  refine then_n (hK77 _ _ ?_)
  refine wp_seq_k (fun K99 hK99 => ?_)
  refine wp_region_lit ?_
  refine lvw 54 (.agg #[v8, v9, .int .i64 ((lcop_m d).fuse), .bool ((lcop_m d).down)]) rfl rfl (r_whole (hm96.at 3 rfl) Try.underlying25 rfl (by exact sz_25) rfl rfl) ?_
  simp only [nz1, nz2, nz3]
  refine lst rfl (m_callx hm96 55 rfl (run_rflush rfl rfl) (rflush_any (lcop_m d) v8 v9 (seeS _) _ (hm96.from 2 rfl) (by first | omega | assumption | decide | (simp; done) | (simp; omega)) (by first | omega | assumption | decide | (simp; done) | (simp; omega)) (by first | omega | assumption | decide | (simp; done) | (simp; omega))) (fun vv106 w100 hR107 hb108 hm101 => ?_))
  obtain ⟨v102, v103, rfl, hg109⟩ := hR107
  obtain ⟨F105, hm110⟩ : ∃ F105, Mm none (fun _ => True) w w100 [.see (DkR d dv0 dv1) Fd, .blk g4 #[dv0, dv1, .int .i64 (d.fuse), .bool (d.down)] 25, .see (DkR (lcop_m d) v8 v9) F11, .blk g22 #[v8, v9, .int .i64 ((lcop_m d).fuse), .bool ((lcop_m d).down)] 25, .see (DkR ((put_m d at_ data).1) v30 v31) F33, .blk g44 #[v30, v31, .int .i64 (((put_m d at_ data).1).fuse), .bool (((put_m d at_ data).1).down)] 25, .see (DkR ((rput_m (lcop_m d) at_ data).1) v52 v53) F55, .blk g66 #[v52, v53, .int .i64 (((rput_m (lcop_m d) at_ data).1).fuse), .bool (((rput_m (lcop_m d) at_ data).1).down)] 25, .see (DkR ((flush_m d).1) v80 v81) F83, .blk g94 #[v80, v81, .int .i64 (((flush_m d).1).fuse), .bool (((flush_m d).1).down)] 25, .see (DkR ((rflush_m (lcop_m d)).1) v102 v103) F105] := Mm.tookS hm96 hb108 hg109
  clear hm101 hg109 hb108
  have hf111 : (rflush_m (lcop_m d)).1.safe.length = (lcop_m d).safe.length := (rflush_near (lcop_m d)).1
  have hf112 : (rflush_m (lcop_m d)).1.loose.length ≤ (lcop_m d).loose.length + 0 := (rflush_near (lcop_m d)).2.1
  have hf113 : (rflush_m (lcop_m d)).1.fuse ≤ 9223372036854775807 := (rflush_near (lcop_m d)).2.2 (by first | omega | (simp; done) | (simp; omega))
  simp only [nz1, nz2, nz3]
  refine lvw 53 (.tuple #[.agg #[v102, v103, .int .i64 (((rflush_m (lcop_m d)).1).fuse), .bool (((rflush_m (lcop_m d)).1).down)], .int .i64 ((rflush_m (lcop_m d)).2)]) rfl rfl (run_mv rfl rfl) ?_
  simp only [nz1, nz2, nz3]
  refine lvw 56 (.agg #[v102, v103, .int .i64 (((rflush_m (lcop_m d)).1).fuse), .bool (((rflush_m (lcop_m d)).1).down)]) rfl rfl (run_ex rfl rfl rfl) ?_
  simp only [nz1, nz2, nz3]
  refine lvw 57 (.int .i64 ((rflush_m (lcop_m d)).2)) rfl rfl (run_ex rfl rfl rfl) ?_
  simp only [nz1, nz2, nz3]
  refine lst rfl (m_alloc (c := #[.slice none 0 0, .slice none 0 0, .int .i64 0, .bool false]) (T := 25) hm110 18 rfl (by unfold execOp; go_simp; try rfl) (fun g116 w114 (hm115 : Mm none (fun _ => True) w w114 [.see (DkR d dv0 dv1) Fd, .blk g4 #[dv0, dv1, .int .i64 (d.fuse), .bool (d.down)] 25, .see (DkR (lcop_m d) v8 v9) F11, .blk g22 #[v8, v9, .int .i64 ((lcop_m d).fuse), .bool ((lcop_m d).down)] 25, .see (DkR ((put_m d at_ data).1) v30 v31) F33, .blk g44 #[v30, v31, .int .i64 (((put_m d at_ data).1).fuse), .bool (((put_m d at_ data).1).down)] 25, .see (DkR ((rput_m (lcop_m d) at_ data).1) v52 v53) F55, .blk g66 #[v52, v53, .int .i64 (((rput_m (lcop_m d) at_ data).1).fuse), .bool (((rput_m (lcop_m d) at_ data).1).down)] 25, .see (DkR ((flush_m d).1) v80 v81) F83, .blk g94 #[v80, v81, .int .i64 (((flush_m d).1).fuse), .bool (((flush_m d).1).down)] 25, .see (DkR ((rflush_m (lcop_m d)).1) v102 v103) F105, .blk g116 #[.slice none 0 0, .slice none 0 0, .int .i64 0, .bool false] 25]) => ?_))
  simp only [nz1, nz2, nz3]
  have ho119 := (rd_one ((hm115.see 10 rfl).1))
  have ho120 := (rd_one ((hm115.see 10 rfl).2))
  refine lst rfl (m_store 11 25 _ _ 0 (.agg #[v102, v103, .int .i64 (((rflush_m (lcop_m d)).1).fuse), .bool (((rflush_m (lcop_m d)).1).down)]) (old := #[.slice none 0 0, .slice none 0 0, .int .i64 0, .bool false]) (new := #[v102, v103, .int .i64 (((rflush_m (lcop_m d)).1).fuse), .bool (((rflush_m (lcop_m d)).1).down)]) hm115 rfl rfl rfl rfl rfl (by exact sz_25) (show 0 + 4 ≤ 4 from by decide) (by rw [Array.all_eq_true_iff_forall_mem]; intro x hx; simp only [Value.cells, List.mem_toArray, List.mem_cons, List.not_mem_nil, or_false] at hx; rcases hx with rfl | rfl | rfl | rfl <;> first | rfl | assumption) rfl (fun w117 (hm118 : Mm none (fun _ => True) w w117 [.see (DkR d dv0 dv1) Fd, .blk g4 #[dv0, dv1, .int .i64 (d.fuse), .bool (d.down)] 25, .see (DkR (lcop_m d) v8 v9) F11, .blk g22 #[v8, v9, .int .i64 ((lcop_m d).fuse), .bool ((lcop_m d).down)] 25, .see (DkR ((put_m d at_ data).1) v30 v31) F33, .blk g44 #[v30, v31, .int .i64 (((put_m d at_ data).1).fuse), .bool (((put_m d at_ data).1).down)] 25, .see (DkR ((rput_m (lcop_m d) at_ data).1) v52 v53) F55, .blk g66 #[v52, v53, .int .i64 (((rput_m (lcop_m d) at_ data).1).fuse), .bool (((rput_m (lcop_m d) at_ data).1).down)] 25, .see (DkR ((flush_m d).1) v80 v81) F83, .blk g94 #[v80, v81, .int .i64 (((flush_m d).1).fuse), .bool (((flush_m d).1).down)] 25, .see (DkR ((rflush_m (lcop_m d)).1) v102 v103) F105, .blk g116 #[v102, v103, .int .i64 (((rflush_m (lcop_m d)).1).fuse), .bool (((rflush_m (lcop_m d)).1).down)] 25]) => ?_))
  refine lvw 19 (.int .i64 ((rflush_m (lcop_m d)).2)) rfl rfl (run_as rfl rfl) ?_
  simp only [nz1, nz2, nz3]
  refine wpList_nil ?_
  refine then_n (hK99 _ _ ?_)
  refine wp_seq_k (fun K121 hK121 => ?_)
  have hm122 := hm118.drew
  refine wp_region_held_drew (S := fun w' => Mem.Blk w' g44 (#[v30, v31, .int .i64 (((put_m d at_ data).1).fuse), .bool (((put_m d at_ data).1).down)]) 25 ∧ Mem.Blk w' g66 (#[v52, v53, .int .i64 (((rput_m (lcop_m d) at_ data).1).fuse), .bool (((rput_m (lcop_m d) at_ data).1).down)]) 25 ∧ Mem.Blk w' g94 (#[v80, v81, .int .i64 (((flush_m d).1).fuse), .bool (((flush_m d).1).down)]) 25 ∧ Mem.Blk w' g116 (#[v102, v103, .int .i64 (((rflush_m (lcop_m d)).1).fuse), .bool (((rflush_m (lcop_m d)).1).down)]) 25 ∧ Mem.Blk w' g4 (#[dv0, dv1, .int .i64 (d.fuse), .bool (d.down)]) 25 ∧ Mem.Blk w' g22 (#[v8, v9, .int .i64 ((lcop_m d).fuse), .bool ((lcop_m d).down)]) 25) (by kernel_rfl) (⟨hm122.at 5 rfl, hm122.at 7 rfl, hm122.at 9 rfl, hm122.at 11 rfl, hm122.at 1 rfl, hm122.at 3 rfl⟩) (fun _ => ?_)
  generalize w117.drew = w123 at *
  refine one_ready 0 (by kernel_rfl) ?_
  refine opd rfl (wanted_none rfl) (m_call hm122 58 (.bool (awake_m)) rfl (run_awake rfl) (awake_any   _  ) (fun w124 (hm125 : Mm none (fun _ => True) w w124 [.see (DkR d dv0 dv1) Fd, .blk g4 #[dv0, dv1, .int .i64 (d.fuse), .bool (d.down)] 25, .see (DkR (lcop_m d) v8 v9) F11, .blk g22 #[v8, v9, .int .i64 ((lcop_m d).fuse), .bool ((lcop_m d).down)] 25, .see (DkR ((put_m d at_ data).1) v30 v31) F33, .blk g44 #[v30, v31, .int .i64 (((put_m d at_ data).1).fuse), .bool (((put_m d at_ data).1).down)] 25, .see (DkR ((rput_m (lcop_m d) at_ data).1) v52 v53) F55, .blk g66 #[v52, v53, .int .i64 (((rput_m (lcop_m d) at_ data).1).fuse), .bool (((rput_m (lcop_m d) at_ data).1).down)] 25, .see (DkR ((flush_m d).1) v80 v81) F83, .blk g94 #[v80, v81, .int .i64 (((flush_m d).1).fuse), .bool (((flush_m d).1).down)] 25, .see (DkR ((rflush_m (lcop_m d)).1) v102 v103) F105, .blk g116 #[v102, v103, .int .i64 (((rflush_m (lcop_m d)).1).fuse), .bool (((rflush_m (lcop_m d)).1).down)] 25]) => ?_))
  refine ⟨⟨hm125.at 5 rfl, hm125.at 7 rfl, hm125.at 9 rfl, hm125.at 11 rfl, hm125.at 1 rfl, hm125.at 3 rfl⟩, ?_⟩
  simp only [nz1, nz2, nz3]
  by_cases hs126 : awake_m = true
  rotate_left
  · rw [(Bool.eq_false_iff.2 hs126 : awake_m = false)]
    refine tk 1 59 (.bool false) rfl rfl (fun _ hw => run_mv rfl rfl) (⟨hm125.at 5 rfl, hm125.at 7 rfl, hm125.at 9 rfl, hm125.at 11 rfl, hm125.at 1 rfl, hm125.at 3 rfl⟩) ?_
    simp only [nz1, nz2, nz3]
    refine skx 2 60 rfl rfl rfl (⟨hm125.at 5 rfl, hm125.at 7 rfl, hm125.at 9 rfl, hm125.at 11 rfl, hm125.at 1 rfl, hm125.at 3 rfl⟩) ?_
    simp only [nz1, nz2, nz3]
    refine skx 3 61 rfl rfl rfl (⟨hm125.at 5 rfl, hm125.at 7 rfl, hm125.at 9 rfl, hm125.at 11 rfl, hm125.at 1 rfl, hm125.at 3 rfl⟩) ?_
    simp only [nz1, nz2, nz3]
    refine skx 4 62 rfl rfl rfl (⟨hm125.at 5 rfl, hm125.at 7 rfl, hm125.at 9 rfl, hm125.at 11 rfl, hm125.at 1 rfl, hm125.at 3 rfl⟩) ?_
    simp only [nz1, nz2, nz3]
    refine tk 5 63 (.bool false) rfl rfl (fun _ hw => run_pickf rfl rfl rfl) (⟨hm125.at 5 rfl, hm125.at 7 rfl, hm125.at 9 rfl, hm125.at 11 rfl, hm125.at 1 rfl, hm125.at 3 rfl⟩) ?_
    simp only [nz1, nz2, nz3]
    refine tk 6 64 (.bool false) rfl rfl (fun _ hw => run_mv rfl rfl) (⟨hm125.at 5 rfl, hm125.at 7 rfl, hm125.at 9 rfl, hm125.at 11 rfl, hm125.at 1 rfl, hm125.at 3 rfl⟩) ?_
    simp only [nz1, nz2, nz3]
    refine skx 7 65 rfl rfl rfl (⟨hm125.at 5 rfl, hm125.at 7 rfl, hm125.at 9 rfl, hm125.at 11 rfl, hm125.at 1 rfl, hm125.at 3 rfl⟩) ?_
    simp only [nz1, nz2, nz3]
    refine skx 8 66 rfl rfl rfl (⟨hm125.at 5 rfl, hm125.at 7 rfl, hm125.at 9 rfl, hm125.at 11 rfl, hm125.at 1 rfl, hm125.at 3 rfl⟩) ?_
    simp only [nz1, nz2, nz3]
    refine skx 9 67 rfl rfl rfl (⟨hm125.at 5 rfl, hm125.at 7 rfl, hm125.at 9 rfl, hm125.at 11 rfl, hm125.at 1 rfl, hm125.at 3 rfl⟩) ?_
    simp only [nz1, nz2, nz3]
    refine tk 10 68 (.bool false) rfl rfl (fun _ hw => run_pickf rfl rfl rfl) (⟨hm125.at 5 rfl, hm125.at 7 rfl, hm125.at 9 rfl, hm125.at 11 rfl, hm125.at 1 rfl, hm125.at 3 rfl⟩) ?_
    simp only [nz1, nz2, nz3]
    refine tk 11 69 (.bool false) rfl rfl (fun _ hw => run_mv rfl rfl) (⟨hm125.at 5 rfl, hm125.at 7 rfl, hm125.at 9 rfl, hm125.at 11 rfl, hm125.at 1 rfl, hm125.at 3 rfl⟩) ?_
    simp only [nz1, nz2, nz3]
    refine skx 12 70 rfl rfl rfl (⟨hm125.at 5 rfl, hm125.at 7 rfl, hm125.at 9 rfl, hm125.at 11 rfl, hm125.at 1 rfl, hm125.at 3 rfl⟩) ?_
    simp only [nz1, nz2, nz3]
    refine skx 13 71 rfl rfl rfl (⟨hm125.at 5 rfl, hm125.at 7 rfl, hm125.at 9 rfl, hm125.at 11 rfl, hm125.at 1 rfl, hm125.at 3 rfl⟩) ?_
    simp only [nz1, nz2, nz3]
    refine skx 14 72 rfl rfl rfl (⟨hm125.at 5 rfl, hm125.at 7 rfl, hm125.at 9 rfl, hm125.at 11 rfl, hm125.at 1 rfl, hm125.at 3 rfl⟩) ?_
    simp only [nz1, nz2, nz3]
    refine tk 15 73 (.bool false) rfl rfl (fun _ hw => run_pickf rfl rfl rfl) (⟨hm125.at 5 rfl, hm125.at 7 rfl, hm125.at 9 rfl, hm125.at 11 rfl, hm125.at 1 rfl, hm125.at 3 rfl⟩) ?_
    simp only [nz1, nz2, nz3]
    refine tk 16 74 (.bool false) rfl rfl (fun _ hw => run_mv rfl rfl) (⟨hm125.at 5 rfl, hm125.at 7 rfl, hm125.at 9 rfl, hm125.at 11 rfl, hm125.at 1 rfl, hm125.at 3 rfl⟩) ?_
    simp only [nz1, nz2, nz3]
    refine skx 17 75 rfl rfl rfl (⟨hm125.at 5 rfl, hm125.at 7 rfl, hm125.at 9 rfl, hm125.at 11 rfl, hm125.at 1 rfl, hm125.at 3 rfl⟩) ?_
    simp only [nz1, nz2, nz3]
    refine skx 18 76 rfl rfl rfl (⟨hm125.at 5 rfl, hm125.at 7 rfl, hm125.at 9 rfl, hm125.at 11 rfl, hm125.at 1 rfl, hm125.at 3 rfl⟩) ?_
    simp only [nz1, nz2, nz3]
    refine skx 19 77 rfl rfl rfl (⟨hm125.at 5 rfl, hm125.at 7 rfl, hm125.at 9 rfl, hm125.at 11 rfl, hm125.at 1 rfl, hm125.at 3 rfl⟩) ?_
    simp only [nz1, nz2, nz3]
    refine tk 20 78 (.bool false) rfl rfl (fun _ hw => run_pickf rfl rfl rfl) (⟨hm125.at 5 rfl, hm125.at 7 rfl, hm125.at 9 rfl, hm125.at 11 rfl, hm125.at 1 rfl, hm125.at 3 rfl⟩) ?_
    simp only [nz1, nz2, nz3]
    refine tk 21 79 (.bool false) rfl rfl (fun _ hw => run_mv rfl rfl) (⟨hm125.at 5 rfl, hm125.at 7 rfl, hm125.at 9 rfl, hm125.at 11 rfl, hm125.at 1 rfl, hm125.at 3 rfl⟩) ?_
    simp only [nz1, nz2, nz3]
    refine skx 22 80 rfl rfl rfl (⟨hm125.at 5 rfl, hm125.at 7 rfl, hm125.at 9 rfl, hm125.at 11 rfl, hm125.at 1 rfl, hm125.at 3 rfl⟩) ?_
    simp only [nz1, nz2, nz3]
    refine skx 23 81 rfl rfl rfl (⟨hm125.at 5 rfl, hm125.at 7 rfl, hm125.at 9 rfl, hm125.at 11 rfl, hm125.at 1 rfl, hm125.at 3 rfl⟩) ?_
    simp only [nz1, nz2, nz3]
    refine skx 24 82 rfl rfl rfl (⟨hm125.at 5 rfl, hm125.at 7 rfl, hm125.at 9 rfl, hm125.at 11 rfl, hm125.at 1 rfl, hm125.at 3 rfl⟩) ?_
    simp only [nz1, nz2, nz3]
    refine tk 25 83 (.bool false) rfl rfl (fun _ hw => run_pickf rfl rfl rfl) (⟨hm125.at 5 rfl, hm125.at 7 rfl, hm125.at 9 rfl, hm125.at 11 rfl, hm125.at 1 rfl, hm125.at 3 rfl⟩) ?_
    simp only [nz1, nz2, nz3]
    refine tk 26 84 (.bool false) rfl rfl (fun _ hw => run_mv rfl rfl) (⟨hm125.at 5 rfl, hm125.at 7 rfl, hm125.at 9 rfl, hm125.at 11 rfl, hm125.at 1 rfl, hm125.at 3 rfl⟩) ?_
    simp only [nz1, nz2, nz3]
    refine skx 27 85 rfl rfl rfl (⟨hm125.at 5 rfl, hm125.at 7 rfl, hm125.at 9 rfl, hm125.at 11 rfl, hm125.at 1 rfl, hm125.at 3 rfl⟩) ?_
    simp only [nz1, nz2, nz3]
    refine skx 28 86 rfl rfl rfl (⟨hm125.at 5 rfl, hm125.at 7 rfl, hm125.at 9 rfl, hm125.at 11 rfl, hm125.at 1 rfl, hm125.at 3 rfl⟩) ?_
    simp only [nz1, nz2, nz3]
    refine skx 29 87 rfl rfl rfl (⟨hm125.at 5 rfl, hm125.at 7 rfl, hm125.at 9 rfl, hm125.at 11 rfl, hm125.at 1 rfl, hm125.at 3 rfl⟩) ?_
    simp only [nz1, nz2, nz3]
    refine tk 30 88 (.bool false) rfl rfl (fun _ hw => run_pickf rfl rfl rfl) (⟨hm125.at 5 rfl, hm125.at 7 rfl, hm125.at 9 rfl, hm125.at 11 rfl, hm125.at 1 rfl, hm125.at 3 rfl⟩) ?_
    simp only [nz1, nz2, nz3]
    refine tk 31 89 (.bool false) rfl rfl (fun _ hw => run_mv rfl rfl) (⟨hm125.at 5 rfl, hm125.at 7 rfl, hm125.at 9 rfl, hm125.at 11 rfl, hm125.at 1 rfl, hm125.at 3 rfl⟩) ?_
    simp only [nz1, nz2, nz3]
    refine skx 32 90 rfl rfl rfl (⟨hm125.at 5 rfl, hm125.at 7 rfl, hm125.at 9 rfl, hm125.at 11 rfl, hm125.at 1 rfl, hm125.at 3 rfl⟩) ?_
    simp only [nz1, nz2, nz3]
    refine skx 33 91 rfl rfl rfl (⟨hm125.at 5 rfl, hm125.at 7 rfl, hm125.at 9 rfl, hm125.at 11 rfl, hm125.at 1 rfl, hm125.at 3 rfl⟩) ?_
    simp only [nz1, nz2, nz3]
    refine skx 34 92 rfl rfl rfl (⟨hm125.at 5 rfl, hm125.at 7 rfl, hm125.at 9 rfl, hm125.at 11 rfl, hm125.at 1 rfl, hm125.at 3 rfl⟩) ?_
    simp only [nz1, nz2, nz3]
    refine skx 35 93 rfl rfl rfl (⟨hm125.at 5 rfl, hm125.at 7 rfl, hm125.at 9 rfl, hm125.at 11 rfl, hm125.at 1 rfl, hm125.at 3 rfl⟩) ?_
    simp only [nz1, nz2, nz3]
    refine skx 36 94 rfl rfl rfl (⟨hm125.at 5 rfl, hm125.at 7 rfl, hm125.at 9 rfl, hm125.at 11 rfl, hm125.at 1 rfl, hm125.at 3 rfl⟩) ?_
    simp only [nz1, nz2, nz3]
    refine tk 37 95 (.bool false) rfl rfl (fun _ hw => run_pickf rfl rfl rfl) (⟨hm125.at 5 rfl, hm125.at 7 rfl, hm125.at 9 rfl, hm125.at 11 rfl, hm125.at 1 rfl, hm125.at 3 rfl⟩) ?_
    simp only [nz1, nz2, nz3]
    refine tk 38 96 (.bool false) rfl rfl (fun _ hw => run_mv rfl rfl) (⟨hm125.at 5 rfl, hm125.at 7 rfl, hm125.at 9 rfl, hm125.at 11 rfl, hm125.at 1 rfl, hm125.at 3 rfl⟩) ?_
    simp only [nz1, nz2, nz3]
    refine skx 39 97 rfl rfl rfl (⟨hm125.at 5 rfl, hm125.at 7 rfl, hm125.at 9 rfl, hm125.at 11 rfl, hm125.at 1 rfl, hm125.at 3 rfl⟩) ?_
    simp only [nz1, nz2, nz3]
    refine skx 40 98 rfl rfl rfl (⟨hm125.at 5 rfl, hm125.at 7 rfl, hm125.at 9 rfl, hm125.at 11 rfl, hm125.at 1 rfl, hm125.at 3 rfl⟩) ?_
    simp only [nz1, nz2, nz3]
    refine skx 41 99 rfl rfl rfl (⟨hm125.at 5 rfl, hm125.at 7 rfl, hm125.at 9 rfl, hm125.at 11 rfl, hm125.at 1 rfl, hm125.at 3 rfl⟩) ?_
    simp only [nz1, nz2, nz3]
    refine tk 42 100 (.bool false) rfl rfl (fun _ hw => run_pickf rfl rfl rfl) (⟨hm125.at 5 rfl, hm125.at 7 rfl, hm125.at 9 rfl, hm125.at 11 rfl, hm125.at 1 rfl, hm125.at 3 rfl⟩) ?_
    simp only [nz1, nz2, nz3]
    refine one_ready 43 (by kernel_rfl) ?_
    refine opd rfl (wanted_none rfl) (w_value 6 (.bool false) rfl (run_as rfl rfl) ⟨⟨hm125.at 5 rfl, hm125.at 7 rfl, hm125.at 9 rfl, hm125.at 11 rfl, hm125.at 1 rfl, hm125.at 3 rfl⟩, ?_⟩)
    simp only [nz1, nz2, nz3]
    refine wpAnyH_done (by kernel_rfl) ?_ _
    refine then_n (hK121 _ _ ?_)
    refine wp_ret ?_
    have he152 : does_m d at_ data = false := (show does_m d at_ data = false from by unfold does_m; rw [if_neg hs126] <;> rfl)
    exact ⟨rfl, .bool false, res_t rfl rfl, ⟨by rw [he152], hm125.below⟩⟩
  rw [(hs126 : awake_m = true)]
  refine tk 1 59 (.bool true) rfl rfl (fun _ hw => run_mv rfl rfl) (⟨hm125.at 5 rfl, hm125.at 7 rfl, hm125.at 9 rfl, hm125.at 11 rfl, hm125.at 1 rfl, hm125.at 3 rfl⟩) ?_
  simp only [nz1, nz2, nz3]
  refine Sym.take_at 2 60 (.agg #[v30, v31, .int .i64 (((put_m d at_ data).1).fuse), .bool (((put_m d at_ data).1).down)]) rfl rfl (by kernel_rfl) (by kernel_rfl) (by kernel_rfl) (fun _ _ _ h => h) rfl (fun _ hw => r_whole hw.1 Try.underlying25 rfl (by exact sz_25) rfl rfl) (⟨hm125.at 5 rfl, hm125.at 7 rfl, hm125.at 9 rfl, hm125.at 11 rfl, hm125.at 1 rfl, hm125.at 3 rfl⟩) ?_
  simp only [nz1, nz2, nz3]
  refine Sym.take_at 3 61 (.agg #[v52, v53, .int .i64 (((rput_m (lcop_m d) at_ data).1).fuse), .bool (((rput_m (lcop_m d) at_ data).1).down)]) rfl rfl (by kernel_rfl) (by kernel_rfl) (by kernel_rfl) (fun _ _ _ h => h) rfl (fun _ hw => r_whole hw.2.1 Try.underlying25 rfl (by exact sz_25) rfl rfl) (⟨hm125.at 5 rfl, hm125.at 7 rfl, hm125.at 9 rfl, hm125.at 11 rfl, hm125.at 1 rfl, hm125.at 3 rfl⟩) ?_
  simp only [nz1, nz2, nz3]
  refine one_ready 4 (by kernel_rfl) ?_
  refine opd rfl rfl (m_call hm125 62 (.bool ((same_m ((put_m d at_ data).1) ((rput_m (lcop_m d) at_ data).1)))) rfl (run_same rfl rfl rfl) (same_any ((put_m d at_ data).1) ((rput_m (lcop_m d) at_ data).1) v30 v31 v52 v53 _ (hm125.see 4 rfl) (hm125.see 6 rfl) (by first | omega | assumption | decide | (simp; done) | (simp; omega)) (by first | omega | assumption | decide | (simp; done) | (simp; omega))) (fun w127 (hm128 : Mm none (fun _ => True) w w127 [.see (DkR d dv0 dv1) Fd, .blk g4 #[dv0, dv1, .int .i64 (d.fuse), .bool (d.down)] 25, .see (DkR (lcop_m d) v8 v9) F11, .blk g22 #[v8, v9, .int .i64 ((lcop_m d).fuse), .bool ((lcop_m d).down)] 25, .see (DkR ((put_m d at_ data).1) v30 v31) F33, .blk g44 #[v30, v31, .int .i64 (((put_m d at_ data).1).fuse), .bool (((put_m d at_ data).1).down)] 25, .see (DkR ((rput_m (lcop_m d) at_ data).1) v52 v53) F55, .blk g66 #[v52, v53, .int .i64 (((rput_m (lcop_m d) at_ data).1).fuse), .bool (((rput_m (lcop_m d) at_ data).1).down)] 25, .see (DkR ((flush_m d).1) v80 v81) F83, .blk g94 #[v80, v81, .int .i64 (((flush_m d).1).fuse), .bool (((flush_m d).1).down)] 25, .see (DkR ((rflush_m (lcop_m d)).1) v102 v103) F105, .blk g116 #[v102, v103, .int .i64 (((rflush_m (lcop_m d)).1).fuse), .bool (((rflush_m (lcop_m d)).1).down)] 25]) => ?_))
  refine ⟨⟨hm128.at 5 rfl, hm128.at 7 rfl, hm128.at 9 rfl, hm128.at 11 rfl, hm128.at 1 rfl, hm128.at 3 rfl⟩, ?_⟩
  simp only [nz1, nz2, nz3]
  by_cases hs129 : (same_m ((put_m d at_ data).1) ((rput_m (lcop_m d) at_ data).1)) = true
  rotate_left
  · rw [(Bool.eq_false_iff.2 hs129 : (same_m ((put_m d at_ data).1) ((rput_m (lcop_m d) at_ data).1)) = false)]
    refine tk 5 63 (.bool false) rfl rfl (fun _ hw => run_pick rfl rfl rfl) (⟨hm128.at 5 rfl, hm128.at 7 rfl, hm128.at 9 rfl, hm128.at 11 rfl, hm128.at 1 rfl, hm128.at 3 rfl⟩) ?_
    simp only [nz1, nz2, nz3]
    refine tk 6 64 (.bool false) rfl rfl (fun _ hw => run_mv rfl rfl) (⟨hm128.at 5 rfl, hm128.at 7 rfl, hm128.at 9 rfl, hm128.at 11 rfl, hm128.at 1 rfl, hm128.at 3 rfl⟩) ?_
    simp only [nz1, nz2, nz3]
    refine skx 7 65 rfl rfl rfl (⟨hm128.at 5 rfl, hm128.at 7 rfl, hm128.at 9 rfl, hm128.at 11 rfl, hm128.at 1 rfl, hm128.at 3 rfl⟩) ?_
    simp only [nz1, nz2, nz3]
    refine skx 8 66 rfl rfl rfl (⟨hm128.at 5 rfl, hm128.at 7 rfl, hm128.at 9 rfl, hm128.at 11 rfl, hm128.at 1 rfl, hm128.at 3 rfl⟩) ?_
    simp only [nz1, nz2, nz3]
    refine skx 9 67 rfl rfl rfl (⟨hm128.at 5 rfl, hm128.at 7 rfl, hm128.at 9 rfl, hm128.at 11 rfl, hm128.at 1 rfl, hm128.at 3 rfl⟩) ?_
    simp only [nz1, nz2, nz3]
    refine tk 10 68 (.bool false) rfl rfl (fun _ hw => run_pickf rfl rfl rfl) (⟨hm128.at 5 rfl, hm128.at 7 rfl, hm128.at 9 rfl, hm128.at 11 rfl, hm128.at 1 rfl, hm128.at 3 rfl⟩) ?_
    simp only [nz1, nz2, nz3]
    refine tk 11 69 (.bool false) rfl rfl (fun _ hw => run_mv rfl rfl) (⟨hm128.at 5 rfl, hm128.at 7 rfl, hm128.at 9 rfl, hm128.at 11 rfl, hm128.at 1 rfl, hm128.at 3 rfl⟩) ?_
    simp only [nz1, nz2, nz3]
    refine skx 12 70 rfl rfl rfl (⟨hm128.at 5 rfl, hm128.at 7 rfl, hm128.at 9 rfl, hm128.at 11 rfl, hm128.at 1 rfl, hm128.at 3 rfl⟩) ?_
    simp only [nz1, nz2, nz3]
    refine skx 13 71 rfl rfl rfl (⟨hm128.at 5 rfl, hm128.at 7 rfl, hm128.at 9 rfl, hm128.at 11 rfl, hm128.at 1 rfl, hm128.at 3 rfl⟩) ?_
    simp only [nz1, nz2, nz3]
    refine skx 14 72 rfl rfl rfl (⟨hm128.at 5 rfl, hm128.at 7 rfl, hm128.at 9 rfl, hm128.at 11 rfl, hm128.at 1 rfl, hm128.at 3 rfl⟩) ?_
    simp only [nz1, nz2, nz3]
    refine tk 15 73 (.bool false) rfl rfl (fun _ hw => run_pickf rfl rfl rfl) (⟨hm128.at 5 rfl, hm128.at 7 rfl, hm128.at 9 rfl, hm128.at 11 rfl, hm128.at 1 rfl, hm128.at 3 rfl⟩) ?_
    simp only [nz1, nz2, nz3]
    refine tk 16 74 (.bool false) rfl rfl (fun _ hw => run_mv rfl rfl) (⟨hm128.at 5 rfl, hm128.at 7 rfl, hm128.at 9 rfl, hm128.at 11 rfl, hm128.at 1 rfl, hm128.at 3 rfl⟩) ?_
    simp only [nz1, nz2, nz3]
    refine skx 17 75 rfl rfl rfl (⟨hm128.at 5 rfl, hm128.at 7 rfl, hm128.at 9 rfl, hm128.at 11 rfl, hm128.at 1 rfl, hm128.at 3 rfl⟩) ?_
    simp only [nz1, nz2, nz3]
    refine skx 18 76 rfl rfl rfl (⟨hm128.at 5 rfl, hm128.at 7 rfl, hm128.at 9 rfl, hm128.at 11 rfl, hm128.at 1 rfl, hm128.at 3 rfl⟩) ?_
    simp only [nz1, nz2, nz3]
    refine skx 19 77 rfl rfl rfl (⟨hm128.at 5 rfl, hm128.at 7 rfl, hm128.at 9 rfl, hm128.at 11 rfl, hm128.at 1 rfl, hm128.at 3 rfl⟩) ?_
    simp only [nz1, nz2, nz3]
    refine tk 20 78 (.bool false) rfl rfl (fun _ hw => run_pickf rfl rfl rfl) (⟨hm128.at 5 rfl, hm128.at 7 rfl, hm128.at 9 rfl, hm128.at 11 rfl, hm128.at 1 rfl, hm128.at 3 rfl⟩) ?_
    simp only [nz1, nz2, nz3]
    refine tk 21 79 (.bool false) rfl rfl (fun _ hw => run_mv rfl rfl) (⟨hm128.at 5 rfl, hm128.at 7 rfl, hm128.at 9 rfl, hm128.at 11 rfl, hm128.at 1 rfl, hm128.at 3 rfl⟩) ?_
    simp only [nz1, nz2, nz3]
    refine skx 22 80 rfl rfl rfl (⟨hm128.at 5 rfl, hm128.at 7 rfl, hm128.at 9 rfl, hm128.at 11 rfl, hm128.at 1 rfl, hm128.at 3 rfl⟩) ?_
    simp only [nz1, nz2, nz3]
    refine skx 23 81 rfl rfl rfl (⟨hm128.at 5 rfl, hm128.at 7 rfl, hm128.at 9 rfl, hm128.at 11 rfl, hm128.at 1 rfl, hm128.at 3 rfl⟩) ?_
    simp only [nz1, nz2, nz3]
    refine skx 24 82 rfl rfl rfl (⟨hm128.at 5 rfl, hm128.at 7 rfl, hm128.at 9 rfl, hm128.at 11 rfl, hm128.at 1 rfl, hm128.at 3 rfl⟩) ?_
    simp only [nz1, nz2, nz3]
    refine tk 25 83 (.bool false) rfl rfl (fun _ hw => run_pickf rfl rfl rfl) (⟨hm128.at 5 rfl, hm128.at 7 rfl, hm128.at 9 rfl, hm128.at 11 rfl, hm128.at 1 rfl, hm128.at 3 rfl⟩) ?_
    simp only [nz1, nz2, nz3]
    refine tk 26 84 (.bool false) rfl rfl (fun _ hw => run_mv rfl rfl) (⟨hm128.at 5 rfl, hm128.at 7 rfl, hm128.at 9 rfl, hm128.at 11 rfl, hm128.at 1 rfl, hm128.at 3 rfl⟩) ?_
    simp only [nz1, nz2, nz3]
    refine skx 27 85 rfl rfl rfl (⟨hm128.at 5 rfl, hm128.at 7 rfl, hm128.at 9 rfl, hm128.at 11 rfl, hm128.at 1 rfl, hm128.at 3 rfl⟩) ?_
    simp only [nz1, nz2, nz3]
    refine skx 28 86 rfl rfl rfl (⟨hm128.at 5 rfl, hm128.at 7 rfl, hm128.at 9 rfl, hm128.at 11 rfl, hm128.at 1 rfl, hm128.at 3 rfl⟩) ?_
    simp only [nz1, nz2, nz3]
    refine skx 29 87 rfl rfl rfl (⟨hm128.at 5 rfl, hm128.at 7 rfl, hm128.at 9 rfl, hm128.at 11 rfl, hm128.at 1 rfl, hm128.at 3 rfl⟩) ?_
    simp only [nz1, nz2, nz3]
    refine tk 30 88 (.bool false) rfl rfl (fun _ hw => run_pickf rfl rfl rfl) (⟨hm128.at 5 rfl, hm128.at 7 rfl, hm128.at 9 rfl, hm128.at 11 rfl, hm128.at 1 rfl, hm128.at 3 rfl⟩) ?_
    simp only [nz1, nz2, nz3]
    refine tk 31 89 (.bool false) rfl rfl (fun _ hw => run_mv rfl rfl) (⟨hm128.at 5 rfl, hm128.at 7 rfl, hm128.at 9 rfl, hm128.at 11 rfl, hm128.at 1 rfl, hm128.at 3 rfl⟩) ?_
    simp only [nz1, nz2, nz3]
    refine skx 32 90 rfl rfl rfl (⟨hm128.at 5 rfl, hm128.at 7 rfl, hm128.at 9 rfl, hm128.at 11 rfl, hm128.at 1 rfl, hm128.at 3 rfl⟩) ?_
    simp only [nz1, nz2, nz3]
    refine skx 33 91 rfl rfl rfl (⟨hm128.at 5 rfl, hm128.at 7 rfl, hm128.at 9 rfl, hm128.at 11 rfl, hm128.at 1 rfl, hm128.at 3 rfl⟩) ?_
    simp only [nz1, nz2, nz3]
    refine skx 34 92 rfl rfl rfl (⟨hm128.at 5 rfl, hm128.at 7 rfl, hm128.at 9 rfl, hm128.at 11 rfl, hm128.at 1 rfl, hm128.at 3 rfl⟩) ?_
    simp only [nz1, nz2, nz3]
    refine skx 35 93 rfl rfl rfl (⟨hm128.at 5 rfl, hm128.at 7 rfl, hm128.at 9 rfl, hm128.at 11 rfl, hm128.at 1 rfl, hm128.at 3 rfl⟩) ?_
    simp only [nz1, nz2, nz3]
    refine skx 36 94 rfl rfl rfl (⟨hm128.at 5 rfl, hm128.at 7 rfl, hm128.at 9 rfl, hm128.at 11 rfl, hm128.at 1 rfl, hm128.at 3 rfl⟩) ?_
    simp only [nz1, nz2, nz3]
    refine tk 37 95 (.bool false) rfl rfl (fun _ hw => run_pickf rfl rfl rfl) (⟨hm128.at 5 rfl, hm128.at 7 rfl, hm128.at 9 rfl, hm128.at 11 rfl, hm128.at 1 rfl, hm128.at 3 rfl⟩) ?_
    simp only [nz1, nz2, nz3]
    refine tk 38 96 (.bool false) rfl rfl (fun _ hw => run_mv rfl rfl) (⟨hm128.at 5 rfl, hm128.at 7 rfl, hm128.at 9 rfl, hm128.at 11 rfl, hm128.at 1 rfl, hm128.at 3 rfl⟩) ?_
    simp only [nz1, nz2, nz3]
    refine skx 39 97 rfl rfl rfl (⟨hm128.at 5 rfl, hm128.at 7 rfl, hm128.at 9 rfl, hm128.at 11 rfl, hm128.at 1 rfl, hm128.at 3 rfl⟩) ?_
    simp only [nz1, nz2, nz3]
    refine skx 40 98 rfl rfl rfl (⟨hm128.at 5 rfl, hm128.at 7 rfl, hm128.at 9 rfl, hm128.at 11 rfl, hm128.at 1 rfl, hm128.at 3 rfl⟩) ?_
    simp only [nz1, nz2, nz3]
    refine skx 41 99 rfl rfl rfl (⟨hm128.at 5 rfl, hm128.at 7 rfl, hm128.at 9 rfl, hm128.at 11 rfl, hm128.at 1 rfl, hm128.at 3 rfl⟩) ?_
    simp only [nz1, nz2, nz3]
    refine tk 42 100 (.bool false) rfl rfl (fun _ hw => run_pickf rfl rfl rfl) (⟨hm128.at 5 rfl, hm128.at 7 rfl, hm128.at 9 rfl, hm128.at 11 rfl, hm128.at 1 rfl, hm128.at 3 rfl⟩) ?_
    simp only [nz1, nz2, nz3]
    refine one_ready 43 (by kernel_rfl) ?_
    refine opd rfl (wanted_none rfl) (w_value 6 (.bool false) rfl (run_as rfl rfl) ⟨⟨hm128.at 5 rfl, hm128.at 7 rfl, hm128.at 9 rfl, hm128.at 11 rfl, hm128.at 1 rfl, hm128.at 3 rfl⟩, ?_⟩)
    simp only [nz1, nz2, nz3]
    refine wpAnyH_done (by kernel_rfl) ?_ _
    refine then_n (hK121 _ _ ?_)
    refine wp_ret ?_
    have he151 : does_m d at_ data = false := (show does_m d at_ data = false from by unfold does_m; rw [if_pos hs126, if_neg hs129] <;> rfl)
    exact ⟨rfl, .bool false, res_t rfl rfl, ⟨by rw [he151], hm128.below⟩⟩
  rw [(hs129 : (same_m ((put_m d at_ data).1) ((rput_m (lcop_m d) at_ data).1)) = true)]
  refine tk 5 63 (.bool true) rfl rfl (fun _ hw => run_pick rfl rfl rfl) (⟨hm128.at 5 rfl, hm128.at 7 rfl, hm128.at 9 rfl, hm128.at 11 rfl, hm128.at 1 rfl, hm128.at 3 rfl⟩) ?_
  simp only [nz1, nz2, nz3]
  refine tk 6 64 (.bool true) rfl rfl (fun _ hw => run_mv rfl rfl) (⟨hm128.at 5 rfl, hm128.at 7 rfl, hm128.at 9 rfl, hm128.at 11 rfl, hm128.at 1 rfl, hm128.at 3 rfl⟩) ?_
  simp only [nz1, nz2, nz3]
  refine Sym.take_at 7 65 (.int .i64 ((put_m d at_ data).2)) rfl rfl (by kernel_rfl) (by kernel_rfl) (by kernel_rfl) (fun _ _ _ h => h) rfl (fun _ hw => run_mv rfl rfl) (⟨hm128.at 5 rfl, hm128.at 7 rfl, hm128.at 9 rfl, hm128.at 11 rfl, hm128.at 1 rfl, hm128.at 3 rfl⟩) ?_
  simp only [nz1, nz2, nz3]
  refine Sym.take_at 8 66 (.int .i64 ((rput_m (lcop_m d) at_ data).2)) rfl rfl (by kernel_rfl) (by kernel_rfl) (by kernel_rfl) (fun _ _ _ h => h) rfl (fun _ hw => run_mv rfl rfl) (⟨hm128.at 5 rfl, hm128.at 7 rfl, hm128.at 9 rfl, hm128.at 11 rfl, hm128.at 1 rfl, hm128.at 3 rfl⟩) ?_
  simp only [nz1, nz2, nz3]
  refine tkb 9 67 ((put_m d at_ data).2 = (rput_m (lcop_m d) at_ data).2) rfl rfl rfl (fun _ hw => z_eql ((put_m d at_ data).2) ((rput_m (lcop_m d) at_ data).2) rfl rfl rfl) (⟨hm128.at 5 rfl, hm128.at 7 rfl, hm128.at 9 rfl, hm128.at 11 rfl, hm128.at 1 rfl, hm128.at 3 rfl⟩) (fun hs130 => ?_) (fun hs130 => ?_)
  rotate_left
  · simp only [nz1, nz2, nz3]
    refine tk 10 68 (.bool false) rfl rfl (fun _ hw => run_pick rfl rfl rfl) (⟨hm128.at 5 rfl, hm128.at 7 rfl, hm128.at 9 rfl, hm128.at 11 rfl, hm128.at 1 rfl, hm128.at 3 rfl⟩) ?_
    simp only [nz1, nz2, nz3]
    refine tk 11 69 (.bool false) rfl rfl (fun _ hw => run_mv rfl rfl) (⟨hm128.at 5 rfl, hm128.at 7 rfl, hm128.at 9 rfl, hm128.at 11 rfl, hm128.at 1 rfl, hm128.at 3 rfl⟩) ?_
    simp only [nz1, nz2, nz3]
    refine skx 12 70 rfl rfl rfl (⟨hm128.at 5 rfl, hm128.at 7 rfl, hm128.at 9 rfl, hm128.at 11 rfl, hm128.at 1 rfl, hm128.at 3 rfl⟩) ?_
    simp only [nz1, nz2, nz3]
    refine skx 13 71 rfl rfl rfl (⟨hm128.at 5 rfl, hm128.at 7 rfl, hm128.at 9 rfl, hm128.at 11 rfl, hm128.at 1 rfl, hm128.at 3 rfl⟩) ?_
    simp only [nz1, nz2, nz3]
    refine skx 14 72 rfl rfl rfl (⟨hm128.at 5 rfl, hm128.at 7 rfl, hm128.at 9 rfl, hm128.at 11 rfl, hm128.at 1 rfl, hm128.at 3 rfl⟩) ?_
    simp only [nz1, nz2, nz3]
    refine tk 15 73 (.bool false) rfl rfl (fun _ hw => run_pickf rfl rfl rfl) (⟨hm128.at 5 rfl, hm128.at 7 rfl, hm128.at 9 rfl, hm128.at 11 rfl, hm128.at 1 rfl, hm128.at 3 rfl⟩) ?_
    simp only [nz1, nz2, nz3]
    refine tk 16 74 (.bool false) rfl rfl (fun _ hw => run_mv rfl rfl) (⟨hm128.at 5 rfl, hm128.at 7 rfl, hm128.at 9 rfl, hm128.at 11 rfl, hm128.at 1 rfl, hm128.at 3 rfl⟩) ?_
    simp only [nz1, nz2, nz3]
    refine skx 17 75 rfl rfl rfl (⟨hm128.at 5 rfl, hm128.at 7 rfl, hm128.at 9 rfl, hm128.at 11 rfl, hm128.at 1 rfl, hm128.at 3 rfl⟩) ?_
    simp only [nz1, nz2, nz3]
    refine skx 18 76 rfl rfl rfl (⟨hm128.at 5 rfl, hm128.at 7 rfl, hm128.at 9 rfl, hm128.at 11 rfl, hm128.at 1 rfl, hm128.at 3 rfl⟩) ?_
    simp only [nz1, nz2, nz3]
    refine skx 19 77 rfl rfl rfl (⟨hm128.at 5 rfl, hm128.at 7 rfl, hm128.at 9 rfl, hm128.at 11 rfl, hm128.at 1 rfl, hm128.at 3 rfl⟩) ?_
    simp only [nz1, nz2, nz3]
    refine tk 20 78 (.bool false) rfl rfl (fun _ hw => run_pickf rfl rfl rfl) (⟨hm128.at 5 rfl, hm128.at 7 rfl, hm128.at 9 rfl, hm128.at 11 rfl, hm128.at 1 rfl, hm128.at 3 rfl⟩) ?_
    simp only [nz1, nz2, nz3]
    refine tk 21 79 (.bool false) rfl rfl (fun _ hw => run_mv rfl rfl) (⟨hm128.at 5 rfl, hm128.at 7 rfl, hm128.at 9 rfl, hm128.at 11 rfl, hm128.at 1 rfl, hm128.at 3 rfl⟩) ?_
    simp only [nz1, nz2, nz3]
    refine skx 22 80 rfl rfl rfl (⟨hm128.at 5 rfl, hm128.at 7 rfl, hm128.at 9 rfl, hm128.at 11 rfl, hm128.at 1 rfl, hm128.at 3 rfl⟩) ?_
    simp only [nz1, nz2, nz3]
    refine skx 23 81 rfl rfl rfl (⟨hm128.at 5 rfl, hm128.at 7 rfl, hm128.at 9 rfl, hm128.at 11 rfl, hm128.at 1 rfl, hm128.at 3 rfl⟩) ?_
    simp only [nz1, nz2, nz3]
    refine skx 24 82 rfl rfl rfl (⟨hm128.at 5 rfl, hm128.at 7 rfl, hm128.at 9 rfl, hm128.at 11 rfl, hm128.at 1 rfl, hm128.at 3 rfl⟩) ?_
    simp only [nz1, nz2, nz3]
    refine tk 25 83 (.bool false) rfl rfl (fun _ hw => run_pickf rfl rfl rfl) (⟨hm128.at 5 rfl, hm128.at 7 rfl, hm128.at 9 rfl, hm128.at 11 rfl, hm128.at 1 rfl, hm128.at 3 rfl⟩) ?_
    simp only [nz1, nz2, nz3]
    refine tk 26 84 (.bool false) rfl rfl (fun _ hw => run_mv rfl rfl) (⟨hm128.at 5 rfl, hm128.at 7 rfl, hm128.at 9 rfl, hm128.at 11 rfl, hm128.at 1 rfl, hm128.at 3 rfl⟩) ?_
    simp only [nz1, nz2, nz3]
    refine skx 27 85 rfl rfl rfl (⟨hm128.at 5 rfl, hm128.at 7 rfl, hm128.at 9 rfl, hm128.at 11 rfl, hm128.at 1 rfl, hm128.at 3 rfl⟩) ?_
    simp only [nz1, nz2, nz3]
    refine skx 28 86 rfl rfl rfl (⟨hm128.at 5 rfl, hm128.at 7 rfl, hm128.at 9 rfl, hm128.at 11 rfl, hm128.at 1 rfl, hm128.at 3 rfl⟩) ?_
    simp only [nz1, nz2, nz3]
    refine skx 29 87 rfl rfl rfl (⟨hm128.at 5 rfl, hm128.at 7 rfl, hm128.at 9 rfl, hm128.at 11 rfl, hm128.at 1 rfl, hm128.at 3 rfl⟩) ?_
    simp only [nz1, nz2, nz3]
    refine tk 30 88 (.bool false) rfl rfl (fun _ hw => run_pickf rfl rfl rfl) (⟨hm128.at 5 rfl, hm128.at 7 rfl, hm128.at 9 rfl, hm128.at 11 rfl, hm128.at 1 rfl, hm128.at 3 rfl⟩) ?_
    simp only [nz1, nz2, nz3]
    refine tk 31 89 (.bool false) rfl rfl (fun _ hw => run_mv rfl rfl) (⟨hm128.at 5 rfl, hm128.at 7 rfl, hm128.at 9 rfl, hm128.at 11 rfl, hm128.at 1 rfl, hm128.at 3 rfl⟩) ?_
    simp only [nz1, nz2, nz3]
    refine skx 32 90 rfl rfl rfl (⟨hm128.at 5 rfl, hm128.at 7 rfl, hm128.at 9 rfl, hm128.at 11 rfl, hm128.at 1 rfl, hm128.at 3 rfl⟩) ?_
    simp only [nz1, nz2, nz3]
    refine skx 33 91 rfl rfl rfl (⟨hm128.at 5 rfl, hm128.at 7 rfl, hm128.at 9 rfl, hm128.at 11 rfl, hm128.at 1 rfl, hm128.at 3 rfl⟩) ?_
    simp only [nz1, nz2, nz3]
    refine skx 34 92 rfl rfl rfl (⟨hm128.at 5 rfl, hm128.at 7 rfl, hm128.at 9 rfl, hm128.at 11 rfl, hm128.at 1 rfl, hm128.at 3 rfl⟩) ?_
    simp only [nz1, nz2, nz3]
    refine skx 35 93 rfl rfl rfl (⟨hm128.at 5 rfl, hm128.at 7 rfl, hm128.at 9 rfl, hm128.at 11 rfl, hm128.at 1 rfl, hm128.at 3 rfl⟩) ?_
    simp only [nz1, nz2, nz3]
    refine skx 36 94 rfl rfl rfl (⟨hm128.at 5 rfl, hm128.at 7 rfl, hm128.at 9 rfl, hm128.at 11 rfl, hm128.at 1 rfl, hm128.at 3 rfl⟩) ?_
    simp only [nz1, nz2, nz3]
    refine tk 37 95 (.bool false) rfl rfl (fun _ hw => run_pickf rfl rfl rfl) (⟨hm128.at 5 rfl, hm128.at 7 rfl, hm128.at 9 rfl, hm128.at 11 rfl, hm128.at 1 rfl, hm128.at 3 rfl⟩) ?_
    simp only [nz1, nz2, nz3]
    refine tk 38 96 (.bool false) rfl rfl (fun _ hw => run_mv rfl rfl) (⟨hm128.at 5 rfl, hm128.at 7 rfl, hm128.at 9 rfl, hm128.at 11 rfl, hm128.at 1 rfl, hm128.at 3 rfl⟩) ?_
    simp only [nz1, nz2, nz3]
    refine skx 39 97 rfl rfl rfl (⟨hm128.at 5 rfl, hm128.at 7 rfl, hm128.at 9 rfl, hm128.at 11 rfl, hm128.at 1 rfl, hm128.at 3 rfl⟩) ?_
    simp only [nz1, nz2, nz3]
    refine skx 40 98 rfl rfl rfl (⟨hm128.at 5 rfl, hm128.at 7 rfl, hm128.at 9 rfl, hm128.at 11 rfl, hm128.at 1 rfl, hm128.at 3 rfl⟩) ?_
    simp only [nz1, nz2, nz3]
    refine skx 41 99 rfl rfl rfl (⟨hm128.at 5 rfl, hm128.at 7 rfl, hm128.at 9 rfl, hm128.at 11 rfl, hm128.at 1 rfl, hm128.at 3 rfl⟩) ?_
    simp only [nz1, nz2, nz3]
    refine tk 42 100 (.bool false) rfl rfl (fun _ hw => run_pickf rfl rfl rfl) (⟨hm128.at 5 rfl, hm128.at 7 rfl, hm128.at 9 rfl, hm128.at 11 rfl, hm128.at 1 rfl, hm128.at 3 rfl⟩) ?_
    simp only [nz1, nz2, nz3]
    refine one_ready 43 (by kernel_rfl) ?_
    refine opd rfl (wanted_none rfl) (w_value 6 (.bool false) rfl (run_as rfl rfl) ⟨⟨hm128.at 5 rfl, hm128.at 7 rfl, hm128.at 9 rfl, hm128.at 11 rfl, hm128.at 1 rfl, hm128.at 3 rfl⟩, ?_⟩)
    simp only [nz1, nz2, nz3]
    refine wpAnyH_done (by kernel_rfl) ?_ _
    refine then_n (hK121 _ _ ?_)
    refine wp_ret ?_
    have he150 : does_m d at_ data = false := (show does_m d at_ data = false from by unfold does_m; rw [if_pos hs126, if_pos hs129, if_neg hs130] <;> rfl)
    exact ⟨rfl, .bool false, res_t rfl rfl, ⟨by rw [he150], hm128.below⟩⟩
  simp only [nz1, nz2, nz3]
  refine tk 10 68 (.bool true) rfl rfl (fun _ hw => run_pick rfl rfl rfl) (⟨hm128.at 5 rfl, hm128.at 7 rfl, hm128.at 9 rfl, hm128.at 11 rfl, hm128.at 1 rfl, hm128.at 3 rfl⟩) ?_
  simp only [nz1, nz2, nz3]
  refine tk 11 69 (.bool true) rfl rfl (fun _ hw => run_mv rfl rfl) (⟨hm128.at 5 rfl, hm128.at 7 rfl, hm128.at 9 rfl, hm128.at 11 rfl, hm128.at 1 rfl, hm128.at 3 rfl⟩) ?_
  simp only [nz1, nz2, nz3]
  refine Sym.take_at 12 70 (.string (tx ((get_m d at_).1))) rfl rfl (by kernel_rfl) (by kernel_rfl) (by kernel_rfl) (fun _ _ _ h => h) rfl (fun _ hw => run_mv rfl rfl) (⟨hm128.at 5 rfl, hm128.at 7 rfl, hm128.at 9 rfl, hm128.at 11 rfl, hm128.at 1 rfl, hm128.at 3 rfl⟩) ?_
  simp only [nz1, nz2, nz3]
  refine Sym.take_at 13 71 (.string (tx ((rget_m (lcop_m d) at_).1))) rfl rfl (by kernel_rfl) (by kernel_rfl) (by kernel_rfl) (fun _ _ _ h => h) rfl (fun _ hw => run_mv rfl rfl) (⟨hm128.at 5 rfl, hm128.at 7 rfl, hm128.at 9 rfl, hm128.at 11 rfl, hm128.at 1 rfl, hm128.at 3 rfl⟩) ?_
  simp only [nz1, nz2, nz3]
  refine tkb 14 72 ((get_m d at_).1 = (rget_m (lcop_m d) at_).1) rfl rfl rfl (fun _ hw => t_eql ((get_m d at_).1) ((rget_m (lcop_m d) at_).1) rfl rfl rfl) (⟨hm128.at 5 rfl, hm128.at 7 rfl, hm128.at 9 rfl, hm128.at 11 rfl, hm128.at 1 rfl, hm128.at 3 rfl⟩) (fun hs131 => ?_) (fun hs131 => ?_)
  rotate_left
  · simp only [nz1, nz2, nz3]
    refine tk 15 73 (.bool false) rfl rfl (fun _ hw => run_pick rfl rfl rfl) (⟨hm128.at 5 rfl, hm128.at 7 rfl, hm128.at 9 rfl, hm128.at 11 rfl, hm128.at 1 rfl, hm128.at 3 rfl⟩) ?_
    simp only [nz1, nz2, nz3]
    refine tk 16 74 (.bool false) rfl rfl (fun _ hw => run_mv rfl rfl) (⟨hm128.at 5 rfl, hm128.at 7 rfl, hm128.at 9 rfl, hm128.at 11 rfl, hm128.at 1 rfl, hm128.at 3 rfl⟩) ?_
    simp only [nz1, nz2, nz3]
    refine skx 17 75 rfl rfl rfl (⟨hm128.at 5 rfl, hm128.at 7 rfl, hm128.at 9 rfl, hm128.at 11 rfl, hm128.at 1 rfl, hm128.at 3 rfl⟩) ?_
    simp only [nz1, nz2, nz3]
    refine skx 18 76 rfl rfl rfl (⟨hm128.at 5 rfl, hm128.at 7 rfl, hm128.at 9 rfl, hm128.at 11 rfl, hm128.at 1 rfl, hm128.at 3 rfl⟩) ?_
    simp only [nz1, nz2, nz3]
    refine skx 19 77 rfl rfl rfl (⟨hm128.at 5 rfl, hm128.at 7 rfl, hm128.at 9 rfl, hm128.at 11 rfl, hm128.at 1 rfl, hm128.at 3 rfl⟩) ?_
    simp only [nz1, nz2, nz3]
    refine tk 20 78 (.bool false) rfl rfl (fun _ hw => run_pickf rfl rfl rfl) (⟨hm128.at 5 rfl, hm128.at 7 rfl, hm128.at 9 rfl, hm128.at 11 rfl, hm128.at 1 rfl, hm128.at 3 rfl⟩) ?_
    simp only [nz1, nz2, nz3]
    refine tk 21 79 (.bool false) rfl rfl (fun _ hw => run_mv rfl rfl) (⟨hm128.at 5 rfl, hm128.at 7 rfl, hm128.at 9 rfl, hm128.at 11 rfl, hm128.at 1 rfl, hm128.at 3 rfl⟩) ?_
    simp only [nz1, nz2, nz3]
    refine skx 22 80 rfl rfl rfl (⟨hm128.at 5 rfl, hm128.at 7 rfl, hm128.at 9 rfl, hm128.at 11 rfl, hm128.at 1 rfl, hm128.at 3 rfl⟩) ?_
    simp only [nz1, nz2, nz3]
    refine skx 23 81 rfl rfl rfl (⟨hm128.at 5 rfl, hm128.at 7 rfl, hm128.at 9 rfl, hm128.at 11 rfl, hm128.at 1 rfl, hm128.at 3 rfl⟩) ?_
    simp only [nz1, nz2, nz3]
    refine skx 24 82 rfl rfl rfl (⟨hm128.at 5 rfl, hm128.at 7 rfl, hm128.at 9 rfl, hm128.at 11 rfl, hm128.at 1 rfl, hm128.at 3 rfl⟩) ?_
    simp only [nz1, nz2, nz3]
    refine tk 25 83 (.bool false) rfl rfl (fun _ hw => run_pickf rfl rfl rfl) (⟨hm128.at 5 rfl, hm128.at 7 rfl, hm128.at 9 rfl, hm128.at 11 rfl, hm128.at 1 rfl, hm128.at 3 rfl⟩) ?_
    simp only [nz1, nz2, nz3]
    refine tk 26 84 (.bool false) rfl rfl (fun _ hw => run_mv rfl rfl) (⟨hm128.at 5 rfl, hm128.at 7 rfl, hm128.at 9 rfl, hm128.at 11 rfl, hm128.at 1 rfl, hm128.at 3 rfl⟩) ?_
    simp only [nz1, nz2, nz3]
    refine skx 27 85 rfl rfl rfl (⟨hm128.at 5 rfl, hm128.at 7 rfl, hm128.at 9 rfl, hm128.at 11 rfl, hm128.at 1 rfl, hm128.at 3 rfl⟩) ?_
    simp only [nz1, nz2, nz3]
    refine skx 28 86 rfl rfl rfl (⟨hm128.at 5 rfl, hm128.at 7 rfl, hm128.at 9 rfl, hm128.at 11 rfl, hm128.at 1 rfl, hm128.at 3 rfl⟩) ?_
    simp only [nz1, nz2, nz3]
    refine skx 29 87 rfl rfl rfl (⟨hm128.at 5 rfl, hm128.at 7 rfl, hm128.at 9 rfl, hm128.at 11 rfl, hm128.at 1 rfl, hm128.at 3 rfl⟩) ?_
    simp only [nz1, nz2, nz3]
    refine tk 30 88 (.bool false) rfl rfl (fun _ hw => run_pickf rfl rfl rfl) (⟨hm128.at 5 rfl, hm128.at 7 rfl, hm128.at 9 rfl, hm128.at 11 rfl, hm128.at 1 rfl, hm128.at 3 rfl⟩) ?_
    simp only [nz1, nz2, nz3]
    refine tk 31 89 (.bool false) rfl rfl (fun _ hw => run_mv rfl rfl) (⟨hm128.at 5 rfl, hm128.at 7 rfl, hm128.at 9 rfl, hm128.at 11 rfl, hm128.at 1 rfl, hm128.at 3 rfl⟩) ?_
    simp only [nz1, nz2, nz3]
    refine skx 32 90 rfl rfl rfl (⟨hm128.at 5 rfl, hm128.at 7 rfl, hm128.at 9 rfl, hm128.at 11 rfl, hm128.at 1 rfl, hm128.at 3 rfl⟩) ?_
    simp only [nz1, nz2, nz3]
    refine skx 33 91 rfl rfl rfl (⟨hm128.at 5 rfl, hm128.at 7 rfl, hm128.at 9 rfl, hm128.at 11 rfl, hm128.at 1 rfl, hm128.at 3 rfl⟩) ?_
    simp only [nz1, nz2, nz3]
    refine skx 34 92 rfl rfl rfl (⟨hm128.at 5 rfl, hm128.at 7 rfl, hm128.at 9 rfl, hm128.at 11 rfl, hm128.at 1 rfl, hm128.at 3 rfl⟩) ?_
    simp only [nz1, nz2, nz3]
    refine skx 35 93 rfl rfl rfl (⟨hm128.at 5 rfl, hm128.at 7 rfl, hm128.at 9 rfl, hm128.at 11 rfl, hm128.at 1 rfl, hm128.at 3 rfl⟩) ?_
    simp only [nz1, nz2, nz3]
    refine skx 36 94 rfl rfl rfl (⟨hm128.at 5 rfl, hm128.at 7 rfl, hm128.at 9 rfl, hm128.at 11 rfl, hm128.at 1 rfl, hm128.at 3 rfl⟩) ?_
    simp only [nz1, nz2, nz3]
    refine tk 37 95 (.bool false) rfl rfl (fun _ hw => run_pickf rfl rfl rfl) (⟨hm128.at 5 rfl, hm128.at 7 rfl, hm128.at 9 rfl, hm128.at 11 rfl, hm128.at 1 rfl, hm128.at 3 rfl⟩) ?_
    simp only [nz1, nz2, nz3]
    refine tk 38 96 (.bool false) rfl rfl (fun _ hw => run_mv rfl rfl) (⟨hm128.at 5 rfl, hm128.at 7 rfl, hm128.at 9 rfl, hm128.at 11 rfl, hm128.at 1 rfl, hm128.at 3 rfl⟩) ?_
    simp only [nz1, nz2, nz3]
    refine skx 39 97 rfl rfl rfl (⟨hm128.at 5 rfl, hm128.at 7 rfl, hm128.at 9 rfl, hm128.at 11 rfl, hm128.at 1 rfl, hm128.at 3 rfl⟩) ?_
    simp only [nz1, nz2, nz3]
    refine skx 40 98 rfl rfl rfl (⟨hm128.at 5 rfl, hm128.at 7 rfl, hm128.at 9 rfl, hm128.at 11 rfl, hm128.at 1 rfl, hm128.at 3 rfl⟩) ?_
    simp only [nz1, nz2, nz3]
    refine skx 41 99 rfl rfl rfl (⟨hm128.at 5 rfl, hm128.at 7 rfl, hm128.at 9 rfl, hm128.at 11 rfl, hm128.at 1 rfl, hm128.at 3 rfl⟩) ?_
    simp only [nz1, nz2, nz3]
    refine tk 42 100 (.bool false) rfl rfl (fun _ hw => run_pickf rfl rfl rfl) (⟨hm128.at 5 rfl, hm128.at 7 rfl, hm128.at 9 rfl, hm128.at 11 rfl, hm128.at 1 rfl, hm128.at 3 rfl⟩) ?_
    simp only [nz1, nz2, nz3]
    refine one_ready 43 (by kernel_rfl) ?_
    refine opd rfl (wanted_none rfl) (w_value 6 (.bool false) rfl (run_as rfl rfl) ⟨⟨hm128.at 5 rfl, hm128.at 7 rfl, hm128.at 9 rfl, hm128.at 11 rfl, hm128.at 1 rfl, hm128.at 3 rfl⟩, ?_⟩)
    simp only [nz1, nz2, nz3]
    refine wpAnyH_done (by kernel_rfl) ?_ _
    refine then_n (hK121 _ _ ?_)
    refine wp_ret ?_
    have he149 : does_m d at_ data = false := (show does_m d at_ data = false from by unfold does_m; rw [if_pos hs126, if_pos hs129, if_pos hs130, if_neg hs131] <;> rfl)
    exact ⟨rfl, .bool false, res_t rfl rfl, ⟨by rw [he149], hm128.below⟩⟩
  simp only [nz1, nz2, nz3]
  refine tk 15 73 (.bool true) rfl rfl (fun _ hw => run_pick rfl rfl rfl) (⟨hm128.at 5 rfl, hm128.at 7 rfl, hm128.at 9 rfl, hm128.at 11 rfl, hm128.at 1 rfl, hm128.at 3 rfl⟩) ?_
  simp only [nz1, nz2, nz3]
  refine tk 16 74 (.bool true) rfl rfl (fun _ hw => run_mv rfl rfl) (⟨hm128.at 5 rfl, hm128.at 7 rfl, hm128.at 9 rfl, hm128.at 11 rfl, hm128.at 1 rfl, hm128.at 3 rfl⟩) ?_
  simp only [nz1, nz2, nz3]
  refine Sym.take_at 17 75 (.int .i64 ((get_m d at_).2)) rfl rfl (by kernel_rfl) (by kernel_rfl) (by kernel_rfl) (fun _ _ _ h => h) rfl (fun _ hw => run_mv rfl rfl) (⟨hm128.at 5 rfl, hm128.at 7 rfl, hm128.at 9 rfl, hm128.at 11 rfl, hm128.at 1 rfl, hm128.at 3 rfl⟩) ?_
  simp only [nz1, nz2, nz3]
  refine Sym.take_at 18 76 (.int .i64 ((rget_m (lcop_m d) at_).2)) rfl rfl (by kernel_rfl) (by kernel_rfl) (by kernel_rfl) (fun _ _ _ h => h) rfl (fun _ hw => run_mv rfl rfl) (⟨hm128.at 5 rfl, hm128.at 7 rfl, hm128.at 9 rfl, hm128.at 11 rfl, hm128.at 1 rfl, hm128.at 3 rfl⟩) ?_
  simp only [nz1, nz2, nz3]
  refine tkb 19 77 ((get_m d at_).2 = (rget_m (lcop_m d) at_).2) rfl rfl rfl (fun _ hw => z_eql ((get_m d at_).2) ((rget_m (lcop_m d) at_).2) rfl rfl rfl) (⟨hm128.at 5 rfl, hm128.at 7 rfl, hm128.at 9 rfl, hm128.at 11 rfl, hm128.at 1 rfl, hm128.at 3 rfl⟩) (fun hs132 => ?_) (fun hs132 => ?_)
  rotate_left
  · simp only [nz1, nz2, nz3]
    refine tk 20 78 (.bool false) rfl rfl (fun _ hw => run_pick rfl rfl rfl) (⟨hm128.at 5 rfl, hm128.at 7 rfl, hm128.at 9 rfl, hm128.at 11 rfl, hm128.at 1 rfl, hm128.at 3 rfl⟩) ?_
    simp only [nz1, nz2, nz3]
    refine tk 21 79 (.bool false) rfl rfl (fun _ hw => run_mv rfl rfl) (⟨hm128.at 5 rfl, hm128.at 7 rfl, hm128.at 9 rfl, hm128.at 11 rfl, hm128.at 1 rfl, hm128.at 3 rfl⟩) ?_
    simp only [nz1, nz2, nz3]
    refine skx 22 80 rfl rfl rfl (⟨hm128.at 5 rfl, hm128.at 7 rfl, hm128.at 9 rfl, hm128.at 11 rfl, hm128.at 1 rfl, hm128.at 3 rfl⟩) ?_
    simp only [nz1, nz2, nz3]
    refine skx 23 81 rfl rfl rfl (⟨hm128.at 5 rfl, hm128.at 7 rfl, hm128.at 9 rfl, hm128.at 11 rfl, hm128.at 1 rfl, hm128.at 3 rfl⟩) ?_
    simp only [nz1, nz2, nz3]
    refine skx 24 82 rfl rfl rfl (⟨hm128.at 5 rfl, hm128.at 7 rfl, hm128.at 9 rfl, hm128.at 11 rfl, hm128.at 1 rfl, hm128.at 3 rfl⟩) ?_
    simp only [nz1, nz2, nz3]
    refine tk 25 83 (.bool false) rfl rfl (fun _ hw => run_pickf rfl rfl rfl) (⟨hm128.at 5 rfl, hm128.at 7 rfl, hm128.at 9 rfl, hm128.at 11 rfl, hm128.at 1 rfl, hm128.at 3 rfl⟩) ?_
    simp only [nz1, nz2, nz3]
    refine tk 26 84 (.bool false) rfl rfl (fun _ hw => run_mv rfl rfl) (⟨hm128.at 5 rfl, hm128.at 7 rfl, hm128.at 9 rfl, hm128.at 11 rfl, hm128.at 1 rfl, hm128.at 3 rfl⟩) ?_
    simp only [nz1, nz2, nz3]
    refine skx 27 85 rfl rfl rfl (⟨hm128.at 5 rfl, hm128.at 7 rfl, hm128.at 9 rfl, hm128.at 11 rfl, hm128.at 1 rfl, hm128.at 3 rfl⟩) ?_
    simp only [nz1, nz2, nz3]
    refine skx 28 86 rfl rfl rfl (⟨hm128.at 5 rfl, hm128.at 7 rfl, hm128.at 9 rfl, hm128.at 11 rfl, hm128.at 1 rfl, hm128.at 3 rfl⟩) ?_
    simp only [nz1, nz2, nz3]
    refine skx 29 87 rfl rfl rfl (⟨hm128.at 5 rfl, hm128.at 7 rfl, hm128.at 9 rfl, hm128.at 11 rfl, hm128.at 1 rfl, hm128.at 3 rfl⟩) ?_
    simp only [nz1, nz2, nz3]
    refine tk 30 88 (.bool false) rfl rfl (fun _ hw => run_pickf rfl rfl rfl) (⟨hm128.at 5 rfl, hm128.at 7 rfl, hm128.at 9 rfl, hm128.at 11 rfl, hm128.at 1 rfl, hm128.at 3 rfl⟩) ?_
    simp only [nz1, nz2, nz3]
    refine tk 31 89 (.bool false) rfl rfl (fun _ hw => run_mv rfl rfl) (⟨hm128.at 5 rfl, hm128.at 7 rfl, hm128.at 9 rfl, hm128.at 11 rfl, hm128.at 1 rfl, hm128.at 3 rfl⟩) ?_
    simp only [nz1, nz2, nz3]
    refine skx 32 90 rfl rfl rfl (⟨hm128.at 5 rfl, hm128.at 7 rfl, hm128.at 9 rfl, hm128.at 11 rfl, hm128.at 1 rfl, hm128.at 3 rfl⟩) ?_
    simp only [nz1, nz2, nz3]
    refine skx 33 91 rfl rfl rfl (⟨hm128.at 5 rfl, hm128.at 7 rfl, hm128.at 9 rfl, hm128.at 11 rfl, hm128.at 1 rfl, hm128.at 3 rfl⟩) ?_
    simp only [nz1, nz2, nz3]
    refine skx 34 92 rfl rfl rfl (⟨hm128.at 5 rfl, hm128.at 7 rfl, hm128.at 9 rfl, hm128.at 11 rfl, hm128.at 1 rfl, hm128.at 3 rfl⟩) ?_
    simp only [nz1, nz2, nz3]
    refine skx 35 93 rfl rfl rfl (⟨hm128.at 5 rfl, hm128.at 7 rfl, hm128.at 9 rfl, hm128.at 11 rfl, hm128.at 1 rfl, hm128.at 3 rfl⟩) ?_
    simp only [nz1, nz2, nz3]
    refine skx 36 94 rfl rfl rfl (⟨hm128.at 5 rfl, hm128.at 7 rfl, hm128.at 9 rfl, hm128.at 11 rfl, hm128.at 1 rfl, hm128.at 3 rfl⟩) ?_
    simp only [nz1, nz2, nz3]
    refine tk 37 95 (.bool false) rfl rfl (fun _ hw => run_pickf rfl rfl rfl) (⟨hm128.at 5 rfl, hm128.at 7 rfl, hm128.at 9 rfl, hm128.at 11 rfl, hm128.at 1 rfl, hm128.at 3 rfl⟩) ?_
    simp only [nz1, nz2, nz3]
    refine tk 38 96 (.bool false) rfl rfl (fun _ hw => run_mv rfl rfl) (⟨hm128.at 5 rfl, hm128.at 7 rfl, hm128.at 9 rfl, hm128.at 11 rfl, hm128.at 1 rfl, hm128.at 3 rfl⟩) ?_
    simp only [nz1, nz2, nz3]
    refine skx 39 97 rfl rfl rfl (⟨hm128.at 5 rfl, hm128.at 7 rfl, hm128.at 9 rfl, hm128.at 11 rfl, hm128.at 1 rfl, hm128.at 3 rfl⟩) ?_
    simp only [nz1, nz2, nz3]
    refine skx 40 98 rfl rfl rfl (⟨hm128.at 5 rfl, hm128.at 7 rfl, hm128.at 9 rfl, hm128.at 11 rfl, hm128.at 1 rfl, hm128.at 3 rfl⟩) ?_
    simp only [nz1, nz2, nz3]
    refine skx 41 99 rfl rfl rfl (⟨hm128.at 5 rfl, hm128.at 7 rfl, hm128.at 9 rfl, hm128.at 11 rfl, hm128.at 1 rfl, hm128.at 3 rfl⟩) ?_
    simp only [nz1, nz2, nz3]
    refine tk 42 100 (.bool false) rfl rfl (fun _ hw => run_pickf rfl rfl rfl) (⟨hm128.at 5 rfl, hm128.at 7 rfl, hm128.at 9 rfl, hm128.at 11 rfl, hm128.at 1 rfl, hm128.at 3 rfl⟩) ?_
    simp only [nz1, nz2, nz3]
    refine one_ready 43 (by kernel_rfl) ?_
    refine opd rfl (wanted_none rfl) (w_value 6 (.bool false) rfl (run_as rfl rfl) ⟨⟨hm128.at 5 rfl, hm128.at 7 rfl, hm128.at 9 rfl, hm128.at 11 rfl, hm128.at 1 rfl, hm128.at 3 rfl⟩, ?_⟩)
    simp only [nz1, nz2, nz3]
    refine wpAnyH_done (by kernel_rfl) ?_ _
    refine then_n (hK121 _ _ ?_)
    refine wp_ret ?_
    have he148 : does_m d at_ data = false := (show does_m d at_ data = false from by unfold does_m; rw [if_pos hs126, if_pos hs129, if_pos hs130, if_pos hs131, if_neg hs132] <;> rfl)
    exact ⟨rfl, .bool false, res_t rfl rfl, ⟨by rw [he148], hm128.below⟩⟩
  simp only [nz1, nz2, nz3]
  refine tk 20 78 (.bool true) rfl rfl (fun _ hw => run_pick rfl rfl rfl) (⟨hm128.at 5 rfl, hm128.at 7 rfl, hm128.at 9 rfl, hm128.at 11 rfl, hm128.at 1 rfl, hm128.at 3 rfl⟩) ?_
  simp only [nz1, nz2, nz3]
  refine tk 21 79 (.bool true) rfl rfl (fun _ hw => run_mv rfl rfl) (⟨hm128.at 5 rfl, hm128.at 7 rfl, hm128.at 9 rfl, hm128.at 11 rfl, hm128.at 1 rfl, hm128.at 3 rfl⟩) ?_
  simp only [nz1, nz2, nz3]
  refine Sym.take_at 22 80 (.agg #[v80, v81, .int .i64 (((flush_m d).1).fuse), .bool (((flush_m d).1).down)]) rfl rfl (by kernel_rfl) (by kernel_rfl) (by kernel_rfl) (fun _ _ _ h => h) rfl (fun _ hw => r_whole hw.2.2.1 Try.underlying25 rfl (by exact sz_25) rfl rfl) (⟨hm128.at 5 rfl, hm128.at 7 rfl, hm128.at 9 rfl, hm128.at 11 rfl, hm128.at 1 rfl, hm128.at 3 rfl⟩) ?_
  simp only [nz1, nz2, nz3]
  refine Sym.take_at 23 81 (.agg #[v102, v103, .int .i64 (((rflush_m (lcop_m d)).1).fuse), .bool (((rflush_m (lcop_m d)).1).down)]) rfl rfl (by kernel_rfl) (by kernel_rfl) (by kernel_rfl) (fun _ _ _ h => h) rfl (fun _ hw => r_whole hw.2.2.2.1 Try.underlying25 rfl (by exact sz_25) rfl rfl) (⟨hm128.at 5 rfl, hm128.at 7 rfl, hm128.at 9 rfl, hm128.at 11 rfl, hm128.at 1 rfl, hm128.at 3 rfl⟩) ?_
  simp only [nz1, nz2, nz3]
  refine one_ready 24 (by kernel_rfl) ?_
  refine opd rfl rfl (m_call hm128 82 (.bool ((same_m ((flush_m d).1) ((rflush_m (lcop_m d)).1)))) rfl (run_same rfl rfl rfl) (same_any ((flush_m d).1) ((rflush_m (lcop_m d)).1) v80 v81 v102 v103 _ (hm128.see 8 rfl) (hm128.see 10 rfl) (by first | omega | assumption | decide | (simp; done) | (simp; omega)) (by first | omega | assumption | decide | (simp; done) | (simp; omega))) (fun w133 (hm134 : Mm none (fun _ => True) w w133 [.see (DkR d dv0 dv1) Fd, .blk g4 #[dv0, dv1, .int .i64 (d.fuse), .bool (d.down)] 25, .see (DkR (lcop_m d) v8 v9) F11, .blk g22 #[v8, v9, .int .i64 ((lcop_m d).fuse), .bool ((lcop_m d).down)] 25, .see (DkR ((put_m d at_ data).1) v30 v31) F33, .blk g44 #[v30, v31, .int .i64 (((put_m d at_ data).1).fuse), .bool (((put_m d at_ data).1).down)] 25, .see (DkR ((rput_m (lcop_m d) at_ data).1) v52 v53) F55, .blk g66 #[v52, v53, .int .i64 (((rput_m (lcop_m d) at_ data).1).fuse), .bool (((rput_m (lcop_m d) at_ data).1).down)] 25, .see (DkR ((flush_m d).1) v80 v81) F83, .blk g94 #[v80, v81, .int .i64 (((flush_m d).1).fuse), .bool (((flush_m d).1).down)] 25, .see (DkR ((rflush_m (lcop_m d)).1) v102 v103) F105, .blk g116 #[v102, v103, .int .i64 (((rflush_m (lcop_m d)).1).fuse), .bool (((rflush_m (lcop_m d)).1).down)] 25]) => ?_))
  refine ⟨⟨hm134.at 5 rfl, hm134.at 7 rfl, hm134.at 9 rfl, hm134.at 11 rfl, hm134.at 1 rfl, hm134.at 3 rfl⟩, ?_⟩
  simp only [nz1, nz2, nz3]
  by_cases hs135 : (same_m ((flush_m d).1) ((rflush_m (lcop_m d)).1)) = true
  rotate_left
  · rw [(Bool.eq_false_iff.2 hs135 : (same_m ((flush_m d).1) ((rflush_m (lcop_m d)).1)) = false)]
    refine tk 25 83 (.bool false) rfl rfl (fun _ hw => run_pick rfl rfl rfl) (⟨hm134.at 5 rfl, hm134.at 7 rfl, hm134.at 9 rfl, hm134.at 11 rfl, hm134.at 1 rfl, hm134.at 3 rfl⟩) ?_
    simp only [nz1, nz2, nz3]
    refine tk 26 84 (.bool false) rfl rfl (fun _ hw => run_mv rfl rfl) (⟨hm134.at 5 rfl, hm134.at 7 rfl, hm134.at 9 rfl, hm134.at 11 rfl, hm134.at 1 rfl, hm134.at 3 rfl⟩) ?_
    simp only [nz1, nz2, nz3]
    refine skx 27 85 rfl rfl rfl (⟨hm134.at 5 rfl, hm134.at 7 rfl, hm134.at 9 rfl, hm134.at 11 rfl, hm134.at 1 rfl, hm134.at 3 rfl⟩) ?_
    simp only [nz1, nz2, nz3]
    refine skx 28 86 rfl rfl rfl (⟨hm134.at 5 rfl, hm134.at 7 rfl, hm134.at 9 rfl, hm134.at 11 rfl, hm134.at 1 rfl, hm134.at 3 rfl⟩) ?_
    simp only [nz1, nz2, nz3]
    refine skx 29 87 rfl rfl rfl (⟨hm134.at 5 rfl, hm134.at 7 rfl, hm134.at 9 rfl, hm134.at 11 rfl, hm134.at 1 rfl, hm134.at 3 rfl⟩) ?_
    simp only [nz1, nz2, nz3]
    refine tk 30 88 (.bool false) rfl rfl (fun _ hw => run_pickf rfl rfl rfl) (⟨hm134.at 5 rfl, hm134.at 7 rfl, hm134.at 9 rfl, hm134.at 11 rfl, hm134.at 1 rfl, hm134.at 3 rfl⟩) ?_
    simp only [nz1, nz2, nz3]
    refine tk 31 89 (.bool false) rfl rfl (fun _ hw => run_mv rfl rfl) (⟨hm134.at 5 rfl, hm134.at 7 rfl, hm134.at 9 rfl, hm134.at 11 rfl, hm134.at 1 rfl, hm134.at 3 rfl⟩) ?_
    simp only [nz1, nz2, nz3]
    refine skx 32 90 rfl rfl rfl (⟨hm134.at 5 rfl, hm134.at 7 rfl, hm134.at 9 rfl, hm134.at 11 rfl, hm134.at 1 rfl, hm134.at 3 rfl⟩) ?_
    simp only [nz1, nz2, nz3]
    refine skx 33 91 rfl rfl rfl (⟨hm134.at 5 rfl, hm134.at 7 rfl, hm134.at 9 rfl, hm134.at 11 rfl, hm134.at 1 rfl, hm134.at 3 rfl⟩) ?_
    simp only [nz1, nz2, nz3]
    refine skx 34 92 rfl rfl rfl (⟨hm134.at 5 rfl, hm134.at 7 rfl, hm134.at 9 rfl, hm134.at 11 rfl, hm134.at 1 rfl, hm134.at 3 rfl⟩) ?_
    simp only [nz1, nz2, nz3]
    refine skx 35 93 rfl rfl rfl (⟨hm134.at 5 rfl, hm134.at 7 rfl, hm134.at 9 rfl, hm134.at 11 rfl, hm134.at 1 rfl, hm134.at 3 rfl⟩) ?_
    simp only [nz1, nz2, nz3]
    refine skx 36 94 rfl rfl rfl (⟨hm134.at 5 rfl, hm134.at 7 rfl, hm134.at 9 rfl, hm134.at 11 rfl, hm134.at 1 rfl, hm134.at 3 rfl⟩) ?_
    simp only [nz1, nz2, nz3]
    refine tk 37 95 (.bool false) rfl rfl (fun _ hw => run_pickf rfl rfl rfl) (⟨hm134.at 5 rfl, hm134.at 7 rfl, hm134.at 9 rfl, hm134.at 11 rfl, hm134.at 1 rfl, hm134.at 3 rfl⟩) ?_
    simp only [nz1, nz2, nz3]
    refine tk 38 96 (.bool false) rfl rfl (fun _ hw => run_mv rfl rfl) (⟨hm134.at 5 rfl, hm134.at 7 rfl, hm134.at 9 rfl, hm134.at 11 rfl, hm134.at 1 rfl, hm134.at 3 rfl⟩) ?_
    simp only [nz1, nz2, nz3]
    refine skx 39 97 rfl rfl rfl (⟨hm134.at 5 rfl, hm134.at 7 rfl, hm134.at 9 rfl, hm134.at 11 rfl, hm134.at 1 rfl, hm134.at 3 rfl⟩) ?_
    simp only [nz1, nz2, nz3]
    refine skx 40 98 rfl rfl rfl (⟨hm134.at 5 rfl, hm134.at 7 rfl, hm134.at 9 rfl, hm134.at 11 rfl, hm134.at 1 rfl, hm134.at 3 rfl⟩) ?_
    simp only [nz1, nz2, nz3]
    refine skx 41 99 rfl rfl rfl (⟨hm134.at 5 rfl, hm134.at 7 rfl, hm134.at 9 rfl, hm134.at 11 rfl, hm134.at 1 rfl, hm134.at 3 rfl⟩) ?_
    simp only [nz1, nz2, nz3]
    refine tk 42 100 (.bool false) rfl rfl (fun _ hw => run_pickf rfl rfl rfl) (⟨hm134.at 5 rfl, hm134.at 7 rfl, hm134.at 9 rfl, hm134.at 11 rfl, hm134.at 1 rfl, hm134.at 3 rfl⟩) ?_
    simp only [nz1, nz2, nz3]
    refine one_ready 43 (by kernel_rfl) ?_
    refine opd rfl (wanted_none rfl) (w_value 6 (.bool false) rfl (run_as rfl rfl) ⟨⟨hm134.at 5 rfl, hm134.at 7 rfl, hm134.at 9 rfl, hm134.at 11 rfl, hm134.at 1 rfl, hm134.at 3 rfl⟩, ?_⟩)
    simp only [nz1, nz2, nz3]
    refine wpAnyH_done (by kernel_rfl) ?_ _
    refine then_n (hK121 _ _ ?_)
    refine wp_ret ?_
    have he147 : does_m d at_ data = false := (show does_m d at_ data = false from by unfold does_m; rw [if_pos hs126, if_pos hs129, if_pos hs130, if_pos hs131, if_pos hs132, if_neg hs135] <;> rfl)
    exact ⟨rfl, .bool false, res_t rfl rfl, ⟨by rw [he147], hm134.below⟩⟩
  rw [(hs135 : (same_m ((flush_m d).1) ((rflush_m (lcop_m d)).1)) = true)]
  refine tk 25 83 (.bool true) rfl rfl (fun _ hw => run_pick rfl rfl rfl) (⟨hm134.at 5 rfl, hm134.at 7 rfl, hm134.at 9 rfl, hm134.at 11 rfl, hm134.at 1 rfl, hm134.at 3 rfl⟩) ?_
  simp only [nz1, nz2, nz3]
  refine tk 26 84 (.bool true) rfl rfl (fun _ hw => run_mv rfl rfl) (⟨hm134.at 5 rfl, hm134.at 7 rfl, hm134.at 9 rfl, hm134.at 11 rfl, hm134.at 1 rfl, hm134.at 3 rfl⟩) ?_
  simp only [nz1, nz2, nz3]
  refine Sym.take_at 27 85 (.int .i64 ((flush_m d).2)) rfl rfl (by kernel_rfl) (by kernel_rfl) (by kernel_rfl) (fun _ _ _ h => h) rfl (fun _ hw => run_mv rfl rfl) (⟨hm134.at 5 rfl, hm134.at 7 rfl, hm134.at 9 rfl, hm134.at 11 rfl, hm134.at 1 rfl, hm134.at 3 rfl⟩) ?_
  simp only [nz1, nz2, nz3]
  refine Sym.take_at 28 86 (.int .i64 ((rflush_m (lcop_m d)).2)) rfl rfl (by kernel_rfl) (by kernel_rfl) (by kernel_rfl) (fun _ _ _ h => h) rfl (fun _ hw => run_mv rfl rfl) (⟨hm134.at 5 rfl, hm134.at 7 rfl, hm134.at 9 rfl, hm134.at 11 rfl, hm134.at 1 rfl, hm134.at 3 rfl⟩) ?_
  simp only [nz1, nz2, nz3]
  refine tkb 29 87 ((flush_m d).2 = (rflush_m (lcop_m d)).2) rfl rfl rfl (fun _ hw => z_eql ((flush_m d).2) ((rflush_m (lcop_m d)).2) rfl rfl rfl) (⟨hm134.at 5 rfl, hm134.at 7 rfl, hm134.at 9 rfl, hm134.at 11 rfl, hm134.at 1 rfl, hm134.at 3 rfl⟩) (fun hs136 => ?_) (fun hs136 => ?_)
  rotate_left
  · simp only [nz1, nz2, nz3]
    refine tk 30 88 (.bool false) rfl rfl (fun _ hw => run_pick rfl rfl rfl) (⟨hm134.at 5 rfl, hm134.at 7 rfl, hm134.at 9 rfl, hm134.at 11 rfl, hm134.at 1 rfl, hm134.at 3 rfl⟩) ?_
    simp only [nz1, nz2, nz3]
    refine tk 31 89 (.bool false) rfl rfl (fun _ hw => run_mv rfl rfl) (⟨hm134.at 5 rfl, hm134.at 7 rfl, hm134.at 9 rfl, hm134.at 11 rfl, hm134.at 1 rfl, hm134.at 3 rfl⟩) ?_
    simp only [nz1, nz2, nz3]
    refine skx 32 90 rfl rfl rfl (⟨hm134.at 5 rfl, hm134.at 7 rfl, hm134.at 9 rfl, hm134.at 11 rfl, hm134.at 1 rfl, hm134.at 3 rfl⟩) ?_
    simp only [nz1, nz2, nz3]
    refine skx 33 91 rfl rfl rfl (⟨hm134.at 5 rfl, hm134.at 7 rfl, hm134.at 9 rfl, hm134.at 11 rfl, hm134.at 1 rfl, hm134.at 3 rfl⟩) ?_
    simp only [nz1, nz2, nz3]
    refine skx 34 92 rfl rfl rfl (⟨hm134.at 5 rfl, hm134.at 7 rfl, hm134.at 9 rfl, hm134.at 11 rfl, hm134.at 1 rfl, hm134.at 3 rfl⟩) ?_
    simp only [nz1, nz2, nz3]
    refine skx 35 93 rfl rfl rfl (⟨hm134.at 5 rfl, hm134.at 7 rfl, hm134.at 9 rfl, hm134.at 11 rfl, hm134.at 1 rfl, hm134.at 3 rfl⟩) ?_
    simp only [nz1, nz2, nz3]
    refine skx 36 94 rfl rfl rfl (⟨hm134.at 5 rfl, hm134.at 7 rfl, hm134.at 9 rfl, hm134.at 11 rfl, hm134.at 1 rfl, hm134.at 3 rfl⟩) ?_
    simp only [nz1, nz2, nz3]
    refine tk 37 95 (.bool false) rfl rfl (fun _ hw => run_pickf rfl rfl rfl) (⟨hm134.at 5 rfl, hm134.at 7 rfl, hm134.at 9 rfl, hm134.at 11 rfl, hm134.at 1 rfl, hm134.at 3 rfl⟩) ?_
    simp only [nz1, nz2, nz3]
    refine tk 38 96 (.bool false) rfl rfl (fun _ hw => run_mv rfl rfl) (⟨hm134.at 5 rfl, hm134.at 7 rfl, hm134.at 9 rfl, hm134.at 11 rfl, hm134.at 1 rfl, hm134.at 3 rfl⟩) ?_
    simp only [nz1, nz2, nz3]
    refine skx 39 97 rfl rfl rfl (⟨hm134.at 5 rfl, hm134.at 7 rfl, hm134.at 9 rfl, hm134.at 11 rfl, hm134.at 1 rfl, hm134.at 3 rfl⟩) ?_
    simp only [nz1, nz2, nz3]
    refine skx 40 98 rfl rfl rfl (⟨hm134.at 5 rfl, hm134.at 7 rfl, hm134.at 9 rfl, hm134.at 11 rfl, hm134.at 1 rfl, hm134.at 3 rfl⟩) ?_
    simp only [nz1, nz2, nz3]
    refine skx 41 99 rfl rfl rfl (⟨hm134.at 5 rfl, hm134.at 7 rfl, hm134.at 9 rfl, hm134.at 11 rfl, hm134.at 1 rfl, hm134.at 3 rfl⟩) ?_
    simp only [nz1, nz2, nz3]
    refine tk 42 100 (.bool false) rfl rfl (fun _ hw => run_pickf rfl rfl rfl) (⟨hm134.at 5 rfl, hm134.at 7 rfl, hm134.at 9 rfl, hm134.at 11 rfl, hm134.at 1 rfl, hm134.at 3 rfl⟩) ?_
    simp only [nz1, nz2, nz3]
    refine one_ready 43 (by kernel_rfl) ?_
    refine opd rfl (wanted_none rfl) (w_value 6 (.bool false) rfl (run_as rfl rfl) ⟨⟨hm134.at 5 rfl, hm134.at 7 rfl, hm134.at 9 rfl, hm134.at 11 rfl, hm134.at 1 rfl, hm134.at 3 rfl⟩, ?_⟩)
    simp only [nz1, nz2, nz3]
    refine wpAnyH_done (by kernel_rfl) ?_ _
    refine then_n (hK121 _ _ ?_)
    refine wp_ret ?_
    have he146 : does_m d at_ data = false := (show does_m d at_ data = false from by unfold does_m; rw [if_pos hs126, if_pos hs129, if_pos hs130, if_pos hs131, if_pos hs132, if_pos hs135, if_neg hs136] <;> rfl)
    exact ⟨rfl, .bool false, res_t rfl rfl, ⟨by rw [he146], hm134.below⟩⟩
  simp only [nz1, nz2, nz3]
  refine tk 30 88 (.bool true) rfl rfl (fun _ hw => run_pick rfl rfl rfl) (⟨hm134.at 5 rfl, hm134.at 7 rfl, hm134.at 9 rfl, hm134.at 11 rfl, hm134.at 1 rfl, hm134.at 3 rfl⟩) ?_
  simp only [nz1, nz2, nz3]
  refine tk 31 89 (.bool true) rfl rfl (fun _ hw => run_mv rfl rfl) (⟨hm134.at 5 rfl, hm134.at 7 rfl, hm134.at 9 rfl, hm134.at 11 rfl, hm134.at 1 rfl, hm134.at 3 rfl⟩) ?_
  simp only [nz1, nz2, nz3]
  refine Sym.take_at 32 90 (.agg #[dv0, dv1, .int .i64 (d.fuse), .bool (d.down)]) rfl rfl (by kernel_rfl) (by kernel_rfl) (by kernel_rfl) (fun _ _ _ h => h) rfl (fun _ hw => r_whole hw.2.2.2.2.1 Try.underlying25 rfl (by exact sz_25) rfl rfl) (⟨hm134.at 5 rfl, hm134.at 7 rfl, hm134.at 9 rfl, hm134.at 11 rfl, hm134.at 1 rfl, hm134.at 3 rfl⟩) ?_
  simp only [nz1, nz2, nz3]
  refine Sym.take_at 34 92 (.agg #[v8, v9, .int .i64 ((lcop_m d).fuse), .bool ((lcop_m d).down)]) rfl rfl (by kernel_rfl) (by kernel_rfl) (by kernel_rfl) (fun _ _ _ h => h) rfl (fun _ hw => r_whole hw.2.2.2.2.2 Try.underlying25 rfl (by exact sz_25) rfl rfl) (⟨hm134.at 5 rfl, hm134.at 7 rfl, hm134.at 9 rfl, hm134.at 11 rfl, hm134.at 1 rfl, hm134.at 3 rfl⟩) ?_
  simp only [nz1, nz2, nz3]
  refine one_ready 33 (by kernel_rfl) ?_
  refine opd rfl rfl (m_call hm134 91 (.bool ((right_m d))) rfl (run_right rfl rfl) (right_any d dv0 dv1 _ (hm134.see 0 rfl) (by first | omega | assumption | decide | (simp; done) | (simp; omega))) (fun w137 (hm138 : Mm none (fun _ => True) w w137 [.see (DkR d dv0 dv1) Fd, .blk g4 #[dv0, dv1, .int .i64 (d.fuse), .bool (d.down)] 25, .see (DkR (lcop_m d) v8 v9) F11, .blk g22 #[v8, v9, .int .i64 ((lcop_m d).fuse), .bool ((lcop_m d).down)] 25, .see (DkR ((put_m d at_ data).1) v30 v31) F33, .blk g44 #[v30, v31, .int .i64 (((put_m d at_ data).1).fuse), .bool (((put_m d at_ data).1).down)] 25, .see (DkR ((rput_m (lcop_m d) at_ data).1) v52 v53) F55, .blk g66 #[v52, v53, .int .i64 (((rput_m (lcop_m d) at_ data).1).fuse), .bool (((rput_m (lcop_m d) at_ data).1).down)] 25, .see (DkR ((flush_m d).1) v80 v81) F83, .blk g94 #[v80, v81, .int .i64 (((flush_m d).1).fuse), .bool (((flush_m d).1).down)] 25, .see (DkR ((rflush_m (lcop_m d)).1) v102 v103) F105, .blk g116 #[v102, v103, .int .i64 (((rflush_m (lcop_m d)).1).fuse), .bool (((rflush_m (lcop_m d)).1).down)] 25]) => ?_))
  refine ⟨⟨hm138.at 5 rfl, hm138.at 7 rfl, hm138.at 9 rfl, hm138.at 11 rfl, hm138.at 1 rfl, hm138.at 3 rfl⟩, ?_⟩
  simp only [nz1, nz2, nz3]
  refine one_ready 35 (by kernel_rfl) ?_
  refine opd rfl rfl (m_call hm138 93 (.bool ((rright_m (lcop_m d)))) rfl (run_rright rfl rfl) (rright_any (lcop_m d) v8 v9 _ (hm138.see 2 rfl) (by first | omega | assumption | decide | (simp; done) | (simp; omega))) (fun w139 (hm140 : Mm none (fun _ => True) w w139 [.see (DkR d dv0 dv1) Fd, .blk g4 #[dv0, dv1, .int .i64 (d.fuse), .bool (d.down)] 25, .see (DkR (lcop_m d) v8 v9) F11, .blk g22 #[v8, v9, .int .i64 ((lcop_m d).fuse), .bool ((lcop_m d).down)] 25, .see (DkR ((put_m d at_ data).1) v30 v31) F33, .blk g44 #[v30, v31, .int .i64 (((put_m d at_ data).1).fuse), .bool (((put_m d at_ data).1).down)] 25, .see (DkR ((rput_m (lcop_m d) at_ data).1) v52 v53) F55, .blk g66 #[v52, v53, .int .i64 (((rput_m (lcop_m d) at_ data).1).fuse), .bool (((rput_m (lcop_m d) at_ data).1).down)] 25, .see (DkR ((flush_m d).1) v80 v81) F83, .blk g94 #[v80, v81, .int .i64 (((flush_m d).1).fuse), .bool (((flush_m d).1).down)] 25, .see (DkR ((rflush_m (lcop_m d)).1) v102 v103) F105, .blk g116 #[v102, v103, .int .i64 (((rflush_m (lcop_m d)).1).fuse), .bool (((rflush_m (lcop_m d)).1).down)] 25]) => ?_))
  refine ⟨⟨hm140.at 5 rfl, hm140.at 7 rfl, hm140.at 9 rfl, hm140.at 11 rfl, hm140.at 1 rfl, hm140.at 3 rfl⟩, ?_⟩
  simp only [nz1, nz2, nz3]
  refine tkb 36 94 (((right_m d) == (rright_m (lcop_m d))) = true) rfl rfl rfl (fun _ hw => (by rw [show decide (((right_m d) == (rright_m (lcop_m d))) = true) = ((right_m d) == (rright_m (lcop_m d))) from Bool.decide_eq_true]; exact b_eql (right_m d) (rright_m (lcop_m d)) rfl rfl rfl)) (⟨hm140.at 5 rfl, hm140.at 7 rfl, hm140.at 9 rfl, hm140.at 11 rfl, hm140.at 1 rfl, hm140.at 3 rfl⟩) (fun hs141 => ?_) (fun hs141 => ?_)
  rotate_left
  · simp only [nz1, nz2, nz3]
    refine tk 37 95 (.bool false) rfl rfl (fun _ hw => run_pick rfl rfl rfl) (⟨hm140.at 5 rfl, hm140.at 7 rfl, hm140.at 9 rfl, hm140.at 11 rfl, hm140.at 1 rfl, hm140.at 3 rfl⟩) ?_
    simp only [nz1, nz2, nz3]
    refine tk 38 96 (.bool false) rfl rfl (fun _ hw => run_mv rfl rfl) (⟨hm140.at 5 rfl, hm140.at 7 rfl, hm140.at 9 rfl, hm140.at 11 rfl, hm140.at 1 rfl, hm140.at 3 rfl⟩) ?_
    simp only [nz1, nz2, nz3]
    refine skx 39 97 rfl rfl rfl (⟨hm140.at 5 rfl, hm140.at 7 rfl, hm140.at 9 rfl, hm140.at 11 rfl, hm140.at 1 rfl, hm140.at 3 rfl⟩) ?_
    simp only [nz1, nz2, nz3]
    refine skx 40 98 rfl rfl rfl (⟨hm140.at 5 rfl, hm140.at 7 rfl, hm140.at 9 rfl, hm140.at 11 rfl, hm140.at 1 rfl, hm140.at 3 rfl⟩) ?_
    simp only [nz1, nz2, nz3]
    refine skx 41 99 rfl rfl rfl (⟨hm140.at 5 rfl, hm140.at 7 rfl, hm140.at 9 rfl, hm140.at 11 rfl, hm140.at 1 rfl, hm140.at 3 rfl⟩) ?_
    simp only [nz1, nz2, nz3]
    refine tk 42 100 (.bool false) rfl rfl (fun _ hw => run_pickf rfl rfl rfl) (⟨hm140.at 5 rfl, hm140.at 7 rfl, hm140.at 9 rfl, hm140.at 11 rfl, hm140.at 1 rfl, hm140.at 3 rfl⟩) ?_
    simp only [nz1, nz2, nz3]
    refine one_ready 43 (by kernel_rfl) ?_
    refine opd rfl (wanted_none rfl) (w_value 6 (.bool false) rfl (run_as rfl rfl) ⟨⟨hm140.at 5 rfl, hm140.at 7 rfl, hm140.at 9 rfl, hm140.at 11 rfl, hm140.at 1 rfl, hm140.at 3 rfl⟩, ?_⟩)
    simp only [nz1, nz2, nz3]
    refine wpAnyH_done (by kernel_rfl) ?_ _
    refine then_n (hK121 _ _ ?_)
    refine wp_ret ?_
    have he145 : does_m d at_ data = false := (show does_m d at_ data = false from by unfold does_m; rw [if_pos hs126, if_pos hs129, if_pos hs130, if_pos hs131, if_pos hs132, if_pos hs135, if_pos hs136, if_neg hs141] <;> rfl)
    exact ⟨rfl, .bool false, res_t rfl rfl, ⟨by rw [he145], hm140.below⟩⟩
  simp only [nz1, nz2, nz3]
  refine tk 37 95 (.bool true) rfl rfl (fun _ hw => run_pick rfl rfl rfl) (⟨hm140.at 5 rfl, hm140.at 7 rfl, hm140.at 9 rfl, hm140.at 11 rfl, hm140.at 1 rfl, hm140.at 3 rfl⟩) ?_
  simp only [nz1, nz2, nz3]
  refine tk 38 96 (.bool true) rfl rfl (fun _ hw => run_mv rfl rfl) (⟨hm140.at 5 rfl, hm140.at 7 rfl, hm140.at 9 rfl, hm140.at 11 rfl, hm140.at 1 rfl, hm140.at 3 rfl⟩) ?_
  simp only [nz1, nz2, nz3]
  refine Sym.take_at 39 97 (.agg #[dv0, dv1, .int .i64 (d.fuse), .bool (d.down)]) rfl rfl (by kernel_rfl) (by kernel_rfl) (by kernel_rfl) (fun _ _ _ h => h) rfl (fun _ hw => r_whole hw.2.2.2.2.1 Try.underlying25 rfl (by exact sz_25) rfl rfl) (⟨hm140.at 5 rfl, hm140.at 7 rfl, hm140.at 9 rfl, hm140.at 11 rfl, hm140.at 1 rfl, hm140.at 3 rfl⟩) ?_
  simp only [nz1, nz2, nz3]
  refine Sym.take_at 40 98 (.agg #[v8, v9, .int .i64 ((lcop_m d).fuse), .bool ((lcop_m d).down)]) rfl rfl (by kernel_rfl) (by kernel_rfl) (by kernel_rfl) (fun _ _ _ h => h) rfl (fun _ hw => r_whole hw.2.2.2.2.2 Try.underlying25 rfl (by exact sz_25) rfl rfl) (⟨hm140.at 5 rfl, hm140.at 7 rfl, hm140.at 9 rfl, hm140.at 11 rfl, hm140.at 1 rfl, hm140.at 3 rfl⟩) ?_
  simp only [nz1, nz2, nz3]
  refine one_ready 41 (by kernel_rfl) ?_
  refine opd rfl rfl (m_call hm140 99 (.bool ((same_m d (lcop_m d)))) rfl (run_same rfl rfl rfl) (same_any d (lcop_m d) dv0 dv1 v8 v9 _ (hm140.see 0 rfl) (hm140.see 2 rfl) (by first | omega | assumption | decide | (simp; done) | (simp; omega)) (by first | omega | assumption | decide | (simp; done) | (simp; omega))) (fun w142 (hm143 : Mm none (fun _ => True) w w142 [.see (DkR d dv0 dv1) Fd, .blk g4 #[dv0, dv1, .int .i64 (d.fuse), .bool (d.down)] 25, .see (DkR (lcop_m d) v8 v9) F11, .blk g22 #[v8, v9, .int .i64 ((lcop_m d).fuse), .bool ((lcop_m d).down)] 25, .see (DkR ((put_m d at_ data).1) v30 v31) F33, .blk g44 #[v30, v31, .int .i64 (((put_m d at_ data).1).fuse), .bool (((put_m d at_ data).1).down)] 25, .see (DkR ((rput_m (lcop_m d) at_ data).1) v52 v53) F55, .blk g66 #[v52, v53, .int .i64 (((rput_m (lcop_m d) at_ data).1).fuse), .bool (((rput_m (lcop_m d) at_ data).1).down)] 25, .see (DkR ((flush_m d).1) v80 v81) F83, .blk g94 #[v80, v81, .int .i64 (((flush_m d).1).fuse), .bool (((flush_m d).1).down)] 25, .see (DkR ((rflush_m (lcop_m d)).1) v102 v103) F105, .blk g116 #[v102, v103, .int .i64 (((rflush_m (lcop_m d)).1).fuse), .bool (((rflush_m (lcop_m d)).1).down)] 25]) => ?_))
  refine ⟨⟨hm143.at 5 rfl, hm143.at 7 rfl, hm143.at 9 rfl, hm143.at 11 rfl, hm143.at 1 rfl, hm143.at 3 rfl⟩, ?_⟩
  simp only [nz1, nz2, nz3]
  refine tk 42 100 (.bool ((same_m d (lcop_m d)))) rfl rfl (fun _ hw => run_pick rfl rfl rfl) (⟨hm143.at 5 rfl, hm143.at 7 rfl, hm143.at 9 rfl, hm143.at 11 rfl, hm143.at 1 rfl, hm143.at 3 rfl⟩) ?_
  simp only [nz1, nz2, nz3]
  refine one_ready 43 (by kernel_rfl) ?_
  refine opd rfl (wanted_none rfl) (w_value 6 (.bool ((same_m d (lcop_m d)))) rfl (run_as rfl rfl) ⟨⟨hm143.at 5 rfl, hm143.at 7 rfl, hm143.at 9 rfl, hm143.at 11 rfl, hm143.at 1 rfl, hm143.at 3 rfl⟩, ?_⟩)
  simp only [nz1, nz2, nz3]
  refine wpAnyH_done (by kernel_rfl) ?_ _
  refine then_n (hK121 _ _ ?_)
  refine wp_ret ?_
  have he144 : does_m d at_ data = (same_m d (lcop_m d)) := (show does_m d at_ data = (same_m d (lcop_m d)) from by unfold does_m; rw [if_pos hs126, if_pos hs129, if_pos hs130, if_pos hs131, if_pos hs132, if_pos hs135, if_pos hs136, if_pos hs141] <;> rfl)
  exact ⟨rfl, .bool ((same_m d (lcop_m d))), res_t rfl rfl, ⟨by rw [he144], hm143.below⟩⟩
theorem run_does {o : Oper} {a : Act} {w : World} {x0 x1 x2 : Operand} {v0 v1 v2 : Value} (ho : o.op = .call { callee := .value (.func 3), args := #[x0, x1, x2], argTypes := #[25, 3, 9] }) (h0 : a.eval x0 = v0) (h1 : a.eval x1 = v1) (h2 : a.eval x2 = v2) :
    (execOp a.eval o).run Try.prog w = .ok (.enter 3 #[v0, v1, v2]) w := by
  unfold execOp
  simp only [ho]
  have hf : a.eval (.func 3) = .func (.func 3) #[] #[] := rfl
  generalize a.eval = f at *
  go_simp
end Go.Proofs.Ytmammofbgllceaa.Bk
