/- Layer 15: the document's example. -/
import Derived.Test.YtmammofbgllceaaBkF
import Derived.Test.YtmammofbgllceaaBkG
namespace Go.Proofs.Ytmammofbgllceaa.Bk
open Go.RowKit
open Go.Proofs.Ytmammofbgllceaa.Sym Go.Proofs.Ytmammofbgllceaa.Mem
open Go.Proofs.Ytmammofbgllceaa.Sx hiding Mm m_alloc m_store m_put m_call m_callx m_make m_append r_string r_ixS
set_option linter.unusedVariables false
attribute [local irreducible] wpList Oper.wp

def awake_m : Bool :=
  if (new_m 32).2 = 0 then
    if (put_m ((new_m 32).1) 3 (sector_m (UInt8.ofNat 1))).2 = 0 then
      if (put_m ((put_m ((new_m 32).1) 3 (sector_m (UInt8.ofNat 1))).1) 3 (sector_m (UInt8.ofNat 2))).2 = 0 then
        if (get_m ((put_m ((put_m ((new_m 32).1) 3 (sector_m (UInt8.ofNat 1))).1) 3 (sector_m (UInt8.ofNat 2))).1) 3).2 = 0 then
          if (get_m ((crash_m ((put_m ((put_m ((new_m 32).1) 3 (sector_m (UInt8.ofNat 1))).1) 3 (sector_m (UInt8.ofNat 2))).1) ([(UInt8.ofNat 1)] : List UInt8) (-1)).1) 3).2 = 0 then
            if (get_m ((crash_m ((put_m ((put_m ((new_m 32).1) 3 (sector_m (UInt8.ofNat 1))).1) 3 (sector_m (UInt8.ofNat 2))).1) ([] : List UInt8) (-1)).1) 3).2 = 0 then
              if (get_m ((put_m ((put_m ((new_m 32).1) 3 (sector_m (UInt8.ofNat 1))).1) 3 (sector_m (UInt8.ofNat 2))).1) 3).1 = (sector_m (UInt8.ofNat 2)) then
                if (get_m ((crash_m ((put_m ((put_m ((new_m 32).1) 3 (sector_m (UInt8.ofNat 1))).1) 3 (sector_m (UInt8.ofNat 2))).1) ([(UInt8.ofNat 1)] : List UInt8) (-1)).1) 3).1 = (sector_m (UInt8.ofNat 1)) then
                  (decide ((get_m ((crash_m ((put_m ((put_m ((new_m 32).1) 3 (sector_m (UInt8.ofNat 1))).1) 3 (sector_m (UInt8.ofNat 2))).1) ([] : List UInt8) (-1)).1) 3).1 = (sector_m (UInt8.ofNat 0))))
                else
                  false
              else
                false
            else
              false
          else
            false
        else
          false
      else
        false
    else
      false
  else
    false

set_option maxHeartbeats 4000000 in
set_option maxRecDepth 100000 in
theorem awake_any (w : World)   : Calls Try.prog 19 #[] w (fun e w' => e = .returned (.bool (awake_m)) ∧ Below w.heap.size w w') := by
  go_enter Try.func19, Try.ntmps19
  have hm00 := Mm.nil none (fun _ => True) w
  have hm0 := hm00
  refine wp_seq_k (fun K1 hK1 => ?_)
  refine wp_region_lit ?_
  refine lvw 0 (.bool false) rfl rfl (run_as rfl rfl) ?_
  simp only [nz1, nz2]
  refine wpList_nil ?_
  refine then_n (hK1 _ _ ?_)
  refine wp_seq_k (fun K2 hK2 => ?_)
  refine wp_region_lit ?_
  refine lst rfl (m_callx hm0 16 rfl (run_new rfl rfl) (new_any 32  (seeS []) _  ) (fun vv9 w3 hR10 hb11 hm4 => ?_))
  obtain ⟨v5, v6, rfl, hg12⟩ := hR10
  obtain ⟨F8, hm13⟩ : ∃ F8, Mm none (fun _ => True) w w3 [.see (DkR ((new_m 32).1) v5 v6) F8] := Mm.tookS hm0 hb11 hg12
  clear hm4 hg12 hb11
  simp only [nz1, nz2, nz3]
  refine lvw 15 (.tuple #[.agg #[v5, v6, .int .i64 (((new_m 32).1).fuse), .bool (((new_m 32).1).down)], .int .i64 ((new_m 32).2)]) rfl rfl (run_mv rfl rfl) ?_
  simp only [nz1, nz2, nz3]
  refine lvw 17 (.agg #[v5, v6, .int .i64 (((new_m 32).1).fuse), .bool (((new_m 32).1).down)]) rfl rfl (run_ex rfl rfl rfl) ?_
  simp only [nz1, nz2, nz3]
  refine lvw 18 (.int .i64 ((new_m 32).2)) rfl rfl (run_ex rfl rfl rfl) ?_
  simp only [nz1, nz2, nz3]
  refine lst rfl (m_alloc (c := #[.slice none 0 0, .slice none 0 0, .int .i64 0, .bool false]) (T := 25) hm13 1 rfl (by unfold execOp; go_simp; try rfl) (fun g16 w14 (hm15 : Mm none (fun _ => True) w w14 [.see (DkR ((new_m 32).1) v5 v6) F8, .blk g16 #[.slice none 0 0, .slice none 0 0, .int .i64 0, .bool false] 25]) => ?_))
  simp only [nz1, nz2, nz3]
  have ho19 := (rd_one ((hm15.see 0 rfl).1))
  have ho20 := (rd_one ((hm15.see 0 rfl).2))
  refine lst rfl (m_store 1 25 _ _ 0 (.agg #[v5, v6, .int .i64 (((new_m 32).1).fuse), .bool (((new_m 32).1).down)]) (old := #[.slice none 0 0, .slice none 0 0, .int .i64 0, .bool false]) (new := #[v5, v6, .int .i64 (((new_m 32).1).fuse), .bool (((new_m 32).1).down)]) hm15 rfl rfl rfl rfl rfl (by exact sz_25) (show 0 + 4 ≤ 4 from by decide) (by rw [Array.all_eq_true_iff_forall_mem]; intro x hx; simp only [Value.cells, List.mem_toArray, List.mem_cons, List.not_mem_nil, or_false] at hx; rcases hx with rfl | rfl | rfl | rfl <;> first | rfl | assumption) rfl (fun w17 (hm18 : Mm none (fun _ => True) w w17 [.see (DkR ((new_m 32).1) v5 v6) F8, .blk g16 #[v5, v6, .int .i64 (((new_m 32).1).fuse), .bool (((new_m 32).1).down)] 25]) => ?_))
  refine lvw 2 (.int .i64 ((new_m 32).2)) rfl rfl (run_as rfl rfl) ?_
  simp only [nz1, nz2, nz3]
  refine wpList_nil ?_
  refine then_n (hK2 _ _ ?_)
  refine wp_seq_k (fun K21 hK21 => ?_)
  refine wp_mono (Q := fun e a' w' => e = Exit.normal ∧ ∃ (v28 : Value) (v29 : Value) (F31 : Nat → Prop), a' = ⟨#[.bool false, .pointer (some ⟨g16, 0, none⟩), .int .i64 ((new_m 32).2), .int .i64 ((put_m ((new_m 32).1) 3 (sector_m (UInt8.ofNat 1))).2), undef, undef, undef, undef, undef, undef, undef, undef, undef, undef, undef, .tuple #[.agg #[v5, v6, .int .i64 (((new_m 32).1).fuse), .bool (((new_m 32).1).down)], .int .i64 ((new_m 32).2)], .tuple #[.agg #[v5, v6, .int .i64 (((new_m 32).1).fuse), .bool (((new_m 32).1).down)], .int .i64 ((new_m 32).2)], .agg #[v5, v6, .int .i64 (((new_m 32).1).fuse), .bool (((new_m 32).1).down)], .int .i64 ((new_m 32).2), .tuple #[.agg #[v28, v29, .int .i64 (((put_m ((new_m 32).1) 3 (sector_m (UInt8.ofNat 1))).1).fuse), .bool (((put_m ((new_m 32).1) 3 (sector_m (UInt8.ofNat 1))).1).down)], .int .i64 ((put_m ((new_m 32).1) 3 (sector_m (UInt8.ofNat 1))).2)], .agg #[v5, v6, .int .i64 (((new_m 32).1).fuse), .bool (((new_m 32).1).down)], .string (tx (sector_m (UInt8.ofNat 1))), .tuple #[.agg #[v28, v29, .int .i64 (((put_m ((new_m 32).1) 3 (sector_m (UInt8.ofNat 1))).1).fuse), .bool (((put_m ((new_m 32).1) 3 (sector_m (UInt8.ofNat 1))).1).down)], .int .i64 ((put_m ((new_m 32).1) 3 (sector_m (UInt8.ofNat 1))).2)], .agg #[v28, v29, .int .i64 (((put_m ((new_m 32).1) 3 (sector_m (UInt8.ofNat 1))).1).fuse), .bool (((put_m ((new_m 32).1) 3 (sector_m (UInt8.ofNat 1))).1).down)], .int .i64 ((put_m ((new_m 32).1) 3 (sector_m (UInt8.ofNat 1))).2), undef, undef, undef, undef, undef, undef, undef, undef, undef, undef, undef, undef, undef, undef, undef, undef, undef, undef, undef, undef, undef, undef, undef, undef, undef, undef, undef, undef, undef, undef, undef, undef, undef, undef, undef, undef, undef, undef, undef, undef, undef, undef, undef, undef, undef, undef, undef, undef, undef, undef, undef, undef, undef, undef, undef, undef, undef, undef, undef, undef, undef, undef, undef, undef, undef, undef, undef, undef, undef], []⟩ ∧ Mm none (fun _ => True) w w' [.see (DkR ((new_m 32).1) v5 v6) F8, .blk g16 #[v28, v29, .int .i64 (((put_m ((new_m 32).1) 3 (sector_m (UInt8.ofNat 1))).1).fuse), .bool (((put_m ((new_m 32).1) 3 (sector_m (UInt8.ofNat 1))).1).down)] 25, .see (DkR ((put_m ((new_m 32).1) 3 (sector_m (UInt8.ofNat 1))).1) v28 v29) F31]) ?_ ?_
  · have hm22 := hm18.drew
    refine wp_region_held_drew (S := fun w' => True) (by kernel_rfl) (trivial) (fun _ => ?_)
    generalize w17.drew = w23 at *
    refine two_ready 0 1 (by kernel_rfl) ?_ ?_
    · refine opd rfl rfl (w_value 20 (.agg #[v5, v6, .int .i64 (((new_m 32).1).fuse), .bool (((new_m 32).1).down)]) rfl (r_whole (hm22.at 1 rfl) Try.underlying25 rfl (by exact sz_25) rfl rfl) ⟨trivial, ?_⟩)
      simp only [nz1, nz2, nz3]
      refine one_ready 1 (by kernel_rfl) ?_
      refine opd rfl rfl (m_call hm22 21 (.string (tx (sector_m (UInt8.ofNat 1)))) rfl (run_sector rfl rfl) (sector_any (UInt8.ofNat 1)  _  ) (fun w24 hm25 => ?_))
      refine ⟨trivial, ?_⟩
      simp only [nz1, nz2, nz3]
      refine one_ready 2 (by kernel_rfl) ?_
      refine opd rfl rfl (m_callx hm25 22 rfl (run_put rfl rfl rfl rfl) (put_any ((new_m 32).1) 3 (sector_m (UInt8.ofNat 1)) v5 v6 (seeS _) _ (hm25.from 0 rfl) (by first | omega | assumption | decide | (simp; done) | (simp; omega)) (by first | omega | assumption | decide | (simp; done) | (simp; omega)) (by first | omega | assumption | decide | (simp; done) | (simp; omega))) (fun vv32 w26 hR33 hb34 hm27 => ?_))
      obtain ⟨v28, v29, rfl, hg35⟩ := hR33
      obtain ⟨F31, hm36⟩ : ∃ F31, Mm none (fun _ => True) w w26 [.see (DkR ((new_m 32).1) v5 v6) F8, .blk g16 #[v5, v6, .int .i64 (((new_m 32).1).fuse), .bool (((new_m 32).1).down)] 25, .see (DkR ((put_m ((new_m 32).1) 3 (sector_m (UInt8.ofNat 1))).1) v28 v29) F31] := Mm.tookS hm25 hb34 hg35
      clear hm27 hg35 hb34
      refine ⟨trivial, ?_⟩
      simp only [nz1, nz2, nz3]
      refine Sym.take_at 3 19 (.tuple #[.agg #[v28, v29, .int .i64 (((put_m ((new_m 32).1) 3 (sector_m (UInt8.ofNat 1))).1).fuse), .bool (((put_m ((new_m 32).1) 3 (sector_m (UInt8.ofNat 1))).1).down)], .int .i64 ((put_m ((new_m 32).1) 3 (sector_m (UInt8.ofNat 1))).2)]) rfl rfl (by kernel_rfl) (by kernel_rfl) (by kernel_rfl) (fun _ _ _ h => nomatch h.1) rfl (fun _ hw => run_mv rfl rfl) (trivial) ?_
      simp only [nz1, nz2, nz3]
      refine Sym.take_at 4 23 (.agg #[v28, v29, .int .i64 (((put_m ((new_m 32).1) 3 (sector_m (UInt8.ofNat 1))).1).fuse), .bool (((put_m ((new_m 32).1) 3 (sector_m (UInt8.ofNat 1))).1).down)]) rfl rfl (by kernel_rfl) (by kernel_rfl) (by kernel_rfl) (fun _ _ _ h => nomatch h.1) rfl (fun _ hw => run_ex rfl rfl rfl) (trivial) ?_
      simp only [nz1, nz2, nz3]
      refine Sym.take_at 5 24 (.int .i64 ((put_m ((new_m 32).1) 3 (sector_m (UInt8.ofNat 1))).2)) rfl rfl (by kernel_rfl) (by kernel_rfl) (by kernel_rfl) (fun _ _ _ h => nomatch h.1) rfl (fun _ hw => run_ex rfl rfl rfl) (trivial) ?_
      simp only [nz1, nz2, nz3]
      refine one_ready 6 (by kernel_rfl) ?_
      have ho39 := (rd_one ((hm36.see 2 rfl).1))
      have ho40 := (rd_one ((hm36.see 2 rfl).2))
      refine opd rfl rfl (m_store 1 25 _ _ 0 (.agg #[v28, v29, .int .i64 (((put_m ((new_m 32).1) 3 (sector_m (UInt8.ofNat 1))).1).fuse), .bool (((put_m ((new_m 32).1) 3 (sector_m (UInt8.ofNat 1))).1).down)]) (old := #[v5, v6, .int .i64 (((new_m 32).1).fuse), .bool (((new_m 32).1).down)]) (new := #[v28, v29, .int .i64 (((put_m ((new_m 32).1) 3 (sector_m (UInt8.ofNat 1))).1).fuse), .bool (((put_m ((new_m 32).1) 3 (sector_m (UInt8.ofNat 1))).1).down)]) hm36 rfl rfl rfl rfl rfl (by exact sz_25) (show 0 + 4 ≤ 4 from by decide) (by rw [Array.all_eq_true_iff_forall_mem]; intro x hx; simp only [Value.cells, List.mem_toArray, List.mem_cons, List.not_mem_nil, or_false] at hx; rcases hx with rfl | rfl | rfl | rfl <;> first | rfl | assumption) rfl (fun w37 hm38 => ?_))
      refine ⟨trivial, ?_⟩
      refine one_ready 7 (by kernel_rfl) ?_
      refine opd rfl rfl (w_value 3 (.int .i64 ((put_m ((new_m 32).1) 3 (sector_m (UInt8.ofNat 1))).2)) rfl (run_as rfl rfl) ⟨trivial, ?_⟩)
      simp only [nz1, nz2, nz3]
      refine wpAnyH_done (by kernel_rfl) ?_ _
      exact ⟨rfl, v28, v29, F31, rfl, hm38⟩
    · refine opd rfl rfl (m_call hm22 21 (.string (tx (sector_m (UInt8.ofNat 1)))) rfl (run_sector rfl rfl) (sector_any (UInt8.ofNat 1)  _  ) (fun w41 hm42 => ?_))
      refine ⟨trivial, ?_⟩
      simp only [nz1, nz2, nz3]
      refine one_ready 0 (by kernel_rfl) ?_
      refine opd rfl rfl (w_value 20 (.agg #[v5, v6, .int .i64 (((new_m 32).1).fuse), .bool (((new_m 32).1).down)]) rfl (r_whole (hm42.at 1 rfl) Try.underlying25 rfl (by exact sz_25) rfl rfl) ⟨trivial, ?_⟩)
      simp only [nz1, nz2, nz3]
      refine one_ready 2 (by kernel_rfl) ?_
      refine opd rfl rfl (m_callx hm42 22 rfl (run_put rfl rfl rfl rfl) (put_any ((new_m 32).1) 3 (sector_m (UInt8.ofNat 1)) v5 v6 (seeS _) _ (hm42.from 0 rfl) (by first | omega | assumption | decide | (simp; done) | (simp; omega)) (by first | omega | assumption | decide | (simp; done) | (simp; omega)) (by first | omega | assumption | decide | (simp; done) | (simp; omega))) (fun vv49 w43 hR50 hb51 hm44 => ?_))
      obtain ⟨v45, v46, rfl, hg52⟩ := hR50
      obtain ⟨F48, hm53⟩ : ∃ F48, Mm none (fun _ => True) w w43 [.see (DkR ((new_m 32).1) v5 v6) F8, .blk g16 #[v5, v6, .int .i64 (((new_m 32).1).fuse), .bool (((new_m 32).1).down)] 25, .see (DkR ((put_m ((new_m 32).1) 3 (sector_m (UInt8.ofNat 1))).1) v45 v46) F48] := Mm.tookS hm42 hb51 hg52
      clear hm44 hg52 hb51
      refine ⟨trivial, ?_⟩
      simp only [nz1, nz2, nz3]
      refine Sym.take_at 3 19 (.tuple #[.agg #[v45, v46, .int .i64 (((put_m ((new_m 32).1) 3 (sector_m (UInt8.ofNat 1))).1).fuse), .bool (((put_m ((new_m 32).1) 3 (sector_m (UInt8.ofNat 1))).1).down)], .int .i64 ((put_m ((new_m 32).1) 3 (sector_m (UInt8.ofNat 1))).2)]) rfl rfl (by kernel_rfl) (by kernel_rfl) (by kernel_rfl) (fun _ _ _ h => nomatch h.1) rfl (fun _ hw => run_mv rfl rfl) (trivial) ?_
      simp only [nz1, nz2, nz3]
      refine Sym.take_at 4 23 (.agg #[v45, v46, .int .i64 (((put_m ((new_m 32).1) 3 (sector_m (UInt8.ofNat 1))).1).fuse), .bool (((put_m ((new_m 32).1) 3 (sector_m (UInt8.ofNat 1))).1).down)]) rfl rfl (by kernel_rfl) (by kernel_rfl) (by kernel_rfl) (fun _ _ _ h => nomatch h.1) rfl (fun _ hw => run_ex rfl rfl rfl) (trivial) ?_
      simp only [nz1, nz2, nz3]
      refine Sym.take_at 5 24 (.int .i64 ((put_m ((new_m 32).1) 3 (sector_m (UInt8.ofNat 1))).2)) rfl rfl (by kernel_rfl) (by kernel_rfl) (by kernel_rfl) (fun _ _ _ h => nomatch h.1) rfl (fun _ hw => run_ex rfl rfl rfl) (trivial) ?_
      simp only [nz1, nz2, nz3]
      refine one_ready 6 (by kernel_rfl) ?_
      have ho56 := (rd_one ((hm53.see 2 rfl).1))
      have ho57 := (rd_one ((hm53.see 2 rfl).2))
      refine opd rfl rfl (m_store 1 25 _ _ 0 (.agg #[v45, v46, .int .i64 (((put_m ((new_m 32).1) 3 (sector_m (UInt8.ofNat 1))).1).fuse), .bool (((put_m ((new_m 32).1) 3 (sector_m (UInt8.ofNat 1))).1).down)]) (old := #[v5, v6, .int .i64 (((new_m 32).1).fuse), .bool (((new_m 32).1).down)]) (new := #[v45, v46, .int .i64 (((put_m ((new_m 32).1) 3 (sector_m (UInt8.ofNat 1))).1).fuse), .bool (((put_m ((new_m 32).1) 3 (sector_m (UInt8.ofNat 1))).1).down)]) hm53 rfl rfl rfl rfl rfl (by exact sz_25) (show 0 + 4 ≤ 4 from by decide) (by rw [Array.all_eq_true_iff_forall_mem]; intro x hx; simp only [Value.cells, List.mem_toArray, List.mem_cons, List.not_mem_nil, or_false] at hx; rcases hx with rfl | rfl | rfl | rfl <;> first | rfl | assumption) rfl (fun w54 hm55 => ?_))
      refine ⟨trivial, ?_⟩
      refine one_ready 7 (by kernel_rfl) ?_
      refine opd rfl rfl (w_value 3 (.int .i64 ((put_m ((new_m 32).1) 3 (sector_m (UInt8.ofNat 1))).2)) rfl (run_as rfl rfl) ⟨trivial, ?_⟩)
      simp only [nz1, nz2, nz3]
      refine wpAnyH_done (by kernel_rfl) ?_ _
      exact ⟨rfl, v45, v46, F48, rfl, hm55⟩
  clear hm18
  rintro _ _ w58 ⟨rfl, v28, v29, F31, rfl, hm59⟩
  refine then_n (hK21 _ _ ?_)
  refine wp_seq_k (fun K60 hK60 => ?_)
  refine wp_mono (Q := fun e a' w' => e = Exit.normal ∧ ∃ (v67 : Value) (v68 : Value) (F70 : Nat → Prop), a' = ⟨#[.bool false, .pointer (some ⟨g16, 0, none⟩), .int .i64 ((new_m 32).2), .int .i64 ((put_m ((new_m 32).1) 3 (sector_m (UInt8.ofNat 1))).2), .int .i64 ((put_m ((put_m ((new_m 32).1) 3 (sector_m (UInt8.ofNat 1))).1) 3 (sector_m (UInt8.ofNat 2))).2), undef, undef, undef, undef, undef, undef, undef, undef, undef, undef, .tuple #[.agg #[v5, v6, .int .i64 (((new_m 32).1).fuse), .bool (((new_m 32).1).down)], .int .i64 ((new_m 32).2)], .tuple #[.agg #[v5, v6, .int .i64 (((new_m 32).1).fuse), .bool (((new_m 32).1).down)], .int .i64 ((new_m 32).2)], .agg #[v5, v6, .int .i64 (((new_m 32).1).fuse), .bool (((new_m 32).1).down)], .int .i64 ((new_m 32).2), .tuple #[.agg #[v28, v29, .int .i64 (((put_m ((new_m 32).1) 3 (sector_m (UInt8.ofNat 1))).1).fuse), .bool (((put_m ((new_m 32).1) 3 (sector_m (UInt8.ofNat 1))).1).down)], .int .i64 ((put_m ((new_m 32).1) 3 (sector_m (UInt8.ofNat 1))).2)], .agg #[v5, v6, .int .i64 (((new_m 32).1).fuse), .bool (((new_m 32).1).down)], .string (tx (sector_m (UInt8.ofNat 1))), .tuple #[.agg #[v28, v29, .int .i64 (((put_m ((new_m 32).1) 3 (sector_m (UInt8.ofNat 1))).1).fuse), .bool (((put_m ((new_m 32).1) 3 (sector_m (UInt8.ofNat 1))).1).down)], .int .i64 ((put_m ((new_m 32).1) 3 (sector_m (UInt8.ofNat 1))).2)], .agg #[v28, v29, .int .i64 (((put_m ((new_m 32).1) 3 (sector_m (UInt8.ofNat 1))).1).fuse), .bool (((put_m ((new_m 32).1) 3 (sector_m (UInt8.ofNat 1))).1).down)], .int .i64 ((put_m ((new_m 32).1) 3 (sector_m (UInt8.ofNat 1))).2), .tuple #[.agg #[v67, v68, .int .i64 (((put_m ((put_m ((new_m 32).1) 3 (sector_m (UInt8.ofNat 1))).1) 3 (sector_m (UInt8.ofNat 2))).1).fuse), .bool (((put_m ((put_m ((new_m 32).1) 3 (sector_m (UInt8.ofNat 1))).1) 3 (sector_m (UInt8.ofNat 2))).1).down)], .int .i64 ((put_m ((put_m ((new_m 32).1) 3 (sector_m (UInt8.ofNat 1))).1) 3 (sector_m (UInt8.ofNat 2))).2)], .agg #[v28, v29, .int .i64 (((put_m ((new_m 32).1) 3 (sector_m (UInt8.ofNat 1))).1).fuse), .bool (((put_m ((new_m 32).1) 3 (sector_m (UInt8.ofNat 1))).1).down)], .string (tx (sector_m (UInt8.ofNat 2))), .tuple #[.agg #[v67, v68, .int .i64 (((put_m ((put_m ((new_m 32).1) 3 (sector_m (UInt8.ofNat 1))).1) 3 (sector_m (UInt8.ofNat 2))).1).fuse), .bool (((put_m ((put_m ((new_m 32).1) 3 (sector_m (UInt8.ofNat 1))).1) 3 (sector_m (UInt8.ofNat 2))).1).down)], .int .i64 ((put_m ((put_m ((new_m 32).1) 3 (sector_m (UInt8.ofNat 1))).1) 3 (sector_m (UInt8.ofNat 2))).2)], .agg #[v67, v68, .int .i64 (((put_m ((put_m ((new_m 32).1) 3 (sector_m (UInt8.ofNat 1))).1) 3 (sector_m (UInt8.ofNat 2))).1).fuse), .bool (((put_m ((put_m ((new_m 32).1) 3 (sector_m (UInt8.ofNat 1))).1) 3 (sector_m (UInt8.ofNat 2))).1).down)], .int .i64 ((put_m ((put_m ((new_m 32).1) 3 (sector_m (UInt8.ofNat 1))).1) 3 (sector_m (UInt8.ofNat 2))).2), undef, undef, undef, undef, undef, undef, undef, undef, undef, undef, undef, undef, undef, undef, undef, undef, undef, undef, undef, undef, undef, undef, undef, undef, undef, undef, undef, undef, undef, undef, undef, undef, undef, undef, undef, undef, undef, undef, undef, undef, undef, undef, undef, undef, undef, undef, undef, undef, undef, undef, undef, undef, undef, undef, undef, undef, undef, undef, undef, undef, undef, undef, undef], []⟩ ∧ Mm none (fun _ => True) w w' [.see (DkR ((new_m 32).1) v5 v6) F8, .blk g16 #[v67, v68, .int .i64 (((put_m ((put_m ((new_m 32).1) 3 (sector_m (UInt8.ofNat 1))).1) 3 (sector_m (UInt8.ofNat 2))).1).fuse), .bool (((put_m ((put_m ((new_m 32).1) 3 (sector_m (UInt8.ofNat 1))).1) 3 (sector_m (UInt8.ofNat 2))).1).down)] 25, .see (DkR ((put_m ((new_m 32).1) 3 (sector_m (UInt8.ofNat 1))).1) v28 v29) F31, .see (DkR ((put_m ((put_m ((new_m 32).1) 3 (sector_m (UInt8.ofNat 1))).1) 3 (sector_m (UInt8.ofNat 2))).1) v67 v68) F70]) ?_ ?_
  · have hm61 := hm59.drew
    refine wp_region_held_drew (S := fun w' => True) (by kernel_rfl) (trivial) (fun _ => ?_)
    generalize w58.drew = w62 at *
    refine two_ready 0 1 (by kernel_rfl) ?_ ?_
    · refine opd rfl rfl (w_value 26 (.agg #[v28, v29, .int .i64 (((put_m ((new_m 32).1) 3 (sector_m (UInt8.ofNat 1))).1).fuse), .bool (((put_m ((new_m 32).1) 3 (sector_m (UInt8.ofNat 1))).1).down)]) rfl (r_whole (hm61.at 1 rfl) Try.underlying25 rfl (by exact sz_25) rfl rfl) ⟨trivial, ?_⟩)
      simp only [nz1, nz2, nz3]
      refine one_ready 1 (by kernel_rfl) ?_
      refine opd rfl rfl (m_call hm61 27 (.string (tx (sector_m (UInt8.ofNat 2)))) rfl (run_sector rfl rfl) (sector_any (UInt8.ofNat 2)  _  ) (fun w63 hm64 => ?_))
      refine ⟨trivial, ?_⟩
      simp only [nz1, nz2, nz3]
      refine one_ready 2 (by kernel_rfl) ?_
      refine opd rfl rfl (m_callx hm64 28 rfl (run_put rfl rfl rfl rfl) (put_any ((put_m ((new_m 32).1) 3 (sector_m (UInt8.ofNat 1))).1) 3 (sector_m (UInt8.ofNat 2)) v28 v29 (seeS _) _ (hm64.from 2 rfl) (by first | omega | assumption | decide | (simp; done) | (simp; omega)) (by first | omega | assumption | decide | (simp; done) | (simp; omega)) (by first | omega | assumption | decide | (simp; done) | (simp; omega))) (fun vv71 w65 hR72 hb73 hm66 => ?_))
      obtain ⟨v67, v68, rfl, hg74⟩ := hR72
      obtain ⟨F70, hm75⟩ : ∃ F70, Mm none (fun _ => True) w w65 [.see (DkR ((new_m 32).1) v5 v6) F8, .blk g16 #[v28, v29, .int .i64 (((put_m ((new_m 32).1) 3 (sector_m (UInt8.ofNat 1))).1).fuse), .bool (((put_m ((new_m 32).1) 3 (sector_m (UInt8.ofNat 1))).1).down)] 25, .see (DkR ((put_m ((new_m 32).1) 3 (sector_m (UInt8.ofNat 1))).1) v28 v29) F31, .see (DkR ((put_m ((put_m ((new_m 32).1) 3 (sector_m (UInt8.ofNat 1))).1) 3 (sector_m (UInt8.ofNat 2))).1) v67 v68) F70] := Mm.tookS hm64 hb73 hg74
      clear hm66 hg74 hb73
      refine ⟨trivial, ?_⟩
      simp only [nz1, nz2, nz3]
      refine Sym.take_at 3 25 (.tuple #[.agg #[v67, v68, .int .i64 (((put_m ((put_m ((new_m 32).1) 3 (sector_m (UInt8.ofNat 1))).1) 3 (sector_m (UInt8.ofNat 2))).1).fuse), .bool (((put_m ((put_m ((new_m 32).1) 3 (sector_m (UInt8.ofNat 1))).1) 3 (sector_m (UInt8.ofNat 2))).1).down)], .int .i64 ((put_m ((put_m ((new_m 32).1) 3 (sector_m (UInt8.ofNat 1))).1) 3 (sector_m (UInt8.ofNat 2))).2)]) rfl rfl (by kernel_rfl) (by kernel_rfl) (by kernel_rfl) (fun _ _ _ h => nomatch h.1) rfl (fun _ hw => run_mv rfl rfl) (trivial) ?_
      simp only [nz1, nz2, nz3]
      refine Sym.take_at 4 29 (.agg #[v67, v68, .int .i64 (((put_m ((put_m ((new_m 32).1) 3 (sector_m (UInt8.ofNat 1))).1) 3 (sector_m (UInt8.ofNat 2))).1).fuse), .bool (((put_m ((put_m ((new_m 32).1) 3 (sector_m (UInt8.ofNat 1))).1) 3 (sector_m (UInt8.ofNat 2))).1).down)]) rfl rfl (by kernel_rfl) (by kernel_rfl) (by kernel_rfl) (fun _ _ _ h => nomatch h.1) rfl (fun _ hw => run_ex rfl rfl rfl) (trivial) ?_
      simp only [nz1, nz2, nz3]
      refine Sym.take_at 5 30 (.int .i64 ((put_m ((put_m ((new_m 32).1) 3 (sector_m (UInt8.ofNat 1))).1) 3 (sector_m (UInt8.ofNat 2))).2)) rfl rfl (by kernel_rfl) (by kernel_rfl) (by kernel_rfl) (fun _ _ _ h => nomatch h.1) rfl (fun _ hw => run_ex rfl rfl rfl) (trivial) ?_
      simp only [nz1, nz2, nz3]
      refine one_ready 6 (by kernel_rfl) ?_
      have ho78 := (rd_one ((hm75.see 3 rfl).1))
      have ho79 := (rd_one ((hm75.see 3 rfl).2))
      refine opd rfl rfl (m_store 1 25 _ _ 0 (.agg #[v67, v68, .int .i64 (((put_m ((put_m ((new_m 32).1) 3 (sector_m (UInt8.ofNat 1))).1) 3 (sector_m (UInt8.ofNat 2))).1).fuse), .bool (((put_m ((put_m ((new_m 32).1) 3 (sector_m (UInt8.ofNat 1))).1) 3 (sector_m (UInt8.ofNat 2))).1).down)]) (old := #[v28, v29, .int .i64 (((put_m ((new_m 32).1) 3 (sector_m (UInt8.ofNat 1))).1).fuse), .bool (((put_m ((new_m 32).1) 3 (sector_m (UInt8.ofNat 1))).1).down)]) (new := #[v67, v68, .int .i64 (((put_m ((put_m ((new_m 32).1) 3 (sector_m (UInt8.ofNat 1))).1) 3 (sector_m (UInt8.ofNat 2))).1).fuse), .bool (((put_m ((put_m ((new_m 32).1) 3 (sector_m (UInt8.ofNat 1))).1) 3 (sector_m (UInt8.ofNat 2))).1).down)]) hm75 rfl rfl rfl rfl rfl (by exact sz_25) (show 0 + 4 ≤ 4 from by decide) (by rw [Array.all_eq_true_iff_forall_mem]; intro x hx; simp only [Value.cells, List.mem_toArray, List.mem_cons, List.not_mem_nil, or_false] at hx; rcases hx with rfl | rfl | rfl | rfl <;> first | rfl | assumption) rfl (fun w76 hm77 => ?_))
      refine ⟨trivial, ?_⟩
      refine one_ready 7 (by kernel_rfl) ?_
      refine opd rfl rfl (w_value 4 (.int .i64 ((put_m ((put_m ((new_m 32).1) 3 (sector_m (UInt8.ofNat 1))).1) 3 (sector_m (UInt8.ofNat 2))).2)) rfl (run_as rfl rfl) ⟨trivial, ?_⟩)
      simp only [nz1, nz2, nz3]
      refine wpAnyH_done (by kernel_rfl) ?_ _
      exact ⟨rfl, v67, v68, F70, rfl, hm77⟩
    · refine opd rfl rfl (m_call hm61 27 (.string (tx (sector_m (UInt8.ofNat 2)))) rfl (run_sector rfl rfl) (sector_any (UInt8.ofNat 2)  _  ) (fun w80 hm81 => ?_))
      refine ⟨trivial, ?_⟩
      simp only [nz1, nz2, nz3]
      refine one_ready 0 (by kernel_rfl) ?_
      refine opd rfl rfl (w_value 26 (.agg #[v28, v29, .int .i64 (((put_m ((new_m 32).1) 3 (sector_m (UInt8.ofNat 1))).1).fuse), .bool (((put_m ((new_m 32).1) 3 (sector_m (UInt8.ofNat 1))).1).down)]) rfl (r_whole (hm81.at 1 rfl) Try.underlying25 rfl (by exact sz_25) rfl rfl) ⟨trivial, ?_⟩)
      simp only [nz1, nz2, nz3]
      refine one_ready 2 (by kernel_rfl) ?_
      refine opd rfl rfl (m_callx hm81 28 rfl (run_put rfl rfl rfl rfl) (put_any ((put_m ((new_m 32).1) 3 (sector_m (UInt8.ofNat 1))).1) 3 (sector_m (UInt8.ofNat 2)) v28 v29 (seeS _) _ (hm81.from 2 rfl) (by first | omega | assumption | decide | (simp; done) | (simp; omega)) (by first | omega | assumption | decide | (simp; done) | (simp; omega)) (by first | omega | assumption | decide | (simp; done) | (simp; omega))) (fun vv88 w82 hR89 hb90 hm83 => ?_))
      obtain ⟨v84, v85, rfl, hg91⟩ := hR89
      obtain ⟨F87, hm92⟩ : ∃ F87, Mm none (fun _ => True) w w82 [.see (DkR ((new_m 32).1) v5 v6) F8, .blk g16 #[v28, v29, .int .i64 (((put_m ((new_m 32).1) 3 (sector_m (UInt8.ofNat 1))).1).fuse), .bool (((put_m ((new_m 32).1) 3 (sector_m (UInt8.ofNat 1))).1).down)] 25, .see (DkR ((put_m ((new_m 32).1) 3 (sector_m (UInt8.ofNat 1))).1) v28 v29) F31, .see (DkR ((put_m ((put_m ((new_m 32).1) 3 (sector_m (UInt8.ofNat 1))).1) 3 (sector_m (UInt8.ofNat 2))).1) v84 v85) F87] := Mm.tookS hm81 hb90 hg91
      clear hm83 hg91 hb90
      refine ⟨trivial, ?_⟩
      simp only [nz1, nz2, nz3]
      refine Sym.take_at 3 25 (.tuple #[.agg #[v84, v85, .int .i64 (((put_m ((put_m ((new_m 32).1) 3 (sector_m (UInt8.ofNat 1))).1) 3 (sector_m (UInt8.ofNat 2))).1).fuse), .bool (((put_m ((put_m ((new_m 32).1) 3 (sector_m (UInt8.ofNat 1))).1) 3 (sector_m (UInt8.ofNat 2))).1).down)], .int .i64 ((put_m ((put_m ((new_m 32).1) 3 (sector_m (UInt8.ofNat 1))).1) 3 (sector_m (UInt8.ofNat 2))).2)]) rfl rfl (by kernel_rfl) (by kernel_rfl) (by kernel_rfl) (fun _ _ _ h => nomatch h.1) rfl (fun _ hw => run_mv rfl rfl) (trivial) ?_
      simp only [nz1, nz2, nz3]
      refine Sym.take_at 4 29 (.agg #[v84, v85, .int .i64 (((put_m ((put_m ((new_m 32).1) 3 (sector_m (UInt8.ofNat 1))).1) 3 (sector_m (UInt8.ofNat 2))).1).fuse), .bool (((put_m ((put_m ((new_m 32).1) 3 (sector_m (UInt8.ofNat 1))).1) 3 (sector_m (UInt8.ofNat 2))).1).down)]) rfl rfl (by kernel_rfl) (by kernel_rfl) (by kernel_rfl) (fun _ _ _ h => nomatch h.1) rfl (fun _ hw => run_ex rfl rfl rfl) (trivial) ?_
      simp only [nz1, nz2, nz3]
      refine Sym.take_at 5 30 (.int .i64 ((put_m ((put_m ((new_m 32).1) 3 (sector_m (UInt8.ofNat 1))).1) 3 (sector_m (UInt8.ofNat 2))).2)) rfl rfl (by kernel_rfl) (by kernel_rfl) (by kernel_rfl) (fun _ _ _ h => nomatch h.1) rfl (fun _ hw => run_ex rfl rfl rfl) (trivial) ?_
      simp only [nz1, nz2, nz3]
      refine one_ready 6 (by kernel_rfl) ?_
      have ho95 := (rd_one ((hm92.see 3 rfl).1))
      have ho96 := (rd_one ((hm92.see 3 rfl).2))
      refine opd rfl rfl (m_store 1 25 _ _ 0 (.agg #[v84, v85, .int .i64 (((put_m ((put_m ((new_m 32).1) 3 (sector_m (UInt8.ofNat 1))).1) 3 (sector_m (UInt8.ofNat 2))).1).fuse), .bool (((put_m ((put_m ((new_m 32).1) 3 (sector_m (UInt8.ofNat 1))).1) 3 (sector_m (UInt8.ofNat 2))).1).down)]) (old := #[v28, v29, .int .i64 (((put_m ((new_m 32).1) 3 (sector_m (UInt8.ofNat 1))).1).fuse), .bool (((put_m ((new_m 32).1) 3 (sector_m (UInt8.ofNat 1))).1).down)]) (new := #[v84, v85, .int .i64 (((put_m ((put_m ((new_m 32).1) 3 (sector_m (UInt8.ofNat 1))).1) 3 (sector_m (UInt8.ofNat 2))).1).fuse), .bool (((put_m ((put_m ((new_m 32).1) 3 (sector_m (UInt8.ofNat 1))).1) 3 (sector_m (UInt8.ofNat 2))).1).down)]) hm92 rfl rfl rfl rfl rfl (by exact sz_25) (show 0 + 4 ≤ 4 from by decide) (by rw [Array.all_eq_true_iff_forall_mem]; intro x hx; simp only [Value.cells, List.mem_toArray, List.mem_cons, List.not_mem_nil, or_false] at hx; rcases hx with rfl | rfl | rfl | rfl <;> first | rfl | assumption) rfl (fun w93 hm94 => ?_))
      refine ⟨trivial, ?_⟩
      refine one_ready 7 (by kernel_rfl) ?_
      refine opd rfl rfl (w_value 4 (.int .i64 ((put_m ((put_m ((new_m 32).1) 3 (sector_m (UInt8.ofNat 1))).1) 3 (sector_m (UInt8.ofNat 2))).2)) rfl (run_as rfl rfl) ⟨trivial, ?_⟩)
      simp only [nz1, nz2, nz3]
      refine wpAnyH_done (by kernel_rfl) ?_ _
      exact ⟨rfl, v84, v85, F87, rfl, hm94⟩
  clear hm59
  rintro _ _ w97 ⟨rfl, v67, v68, F70, rfl, hm98⟩
  refine then_n (hK60 _ _ ?_)
  refine wp_seq_k (fun K99 hK99 => ?_)
  refine wp_region_lit ?_
  refine lvw 32 (.agg #[v67, v68, .int .i64 (((put_m ((put_m ((new_m 32).1) 3 (sector_m (UInt8.ofNat 1))).1) 3 (sector_m (UInt8.ofNat 2))).1).fuse), .bool (((put_m ((put_m ((new_m 32).1) 3 (sector_m (UInt8.ofNat 1))).1) 3 (sector_m (UInt8.ofNat 2))).1).down)]) rfl rfl (r_whole (hm98.at 1 rfl) Try.underlying25 rfl (by exact sz_25) rfl rfl) ?_
  simp only [nz1, nz2, nz3]
  refine lst rfl (m_make (c := #[.int .u8 1]) (T := 5) (fun g => .slice (some ⟨g, 0, none⟩) 1 1) hm98 33 rfl (by unfold execOp; go_simp; try rfl) (fun g102 w100 (hm101 : Mm none (fun _ => True) w w100 [.see (DkR ((new_m 32).1) v5 v6) F8, .blk g16 #[v67, v68, .int .i64 (((put_m ((put_m ((new_m 32).1) 3 (sector_m (UInt8.ofNat 1))).1) 3 (sector_m (UInt8.ofNat 2))).1).fuse), .bool (((put_m ((put_m ((new_m 32).1) 3 (sector_m (UInt8.ofNat 1))).1) 3 (sector_m (UInt8.ofNat 2))).1).down)] 25, .see (DkR ((put_m ((new_m 32).1) 3 (sector_m (UInt8.ofNat 1))).1) v28 v29) F31, .see (DkR ((put_m ((put_m ((new_m 32).1) 3 (sector_m (UInt8.ofNat 1))).1) 3 (sector_m (UInt8.ofNat 2))).1) v67 v68) F70, .blk g102 #[.int .u8 1] 5]) => ?_))
  simp only [nz1, nz2, nz3]
  have hm105 : Mm none (fun _ => True) w w100 [.see (DkR ((new_m 32).1) v5 v6) F8, .blk g16 #[v67, v68, .int .i64 (((put_m ((put_m ((new_m 32).1) 3 (sector_m (UInt8.ofNat 1))).1) 3 (sector_m (UInt8.ofNat 2))).1).fuse), .bool (((put_m ((put_m ((new_m 32).1) 3 (sector_m (UInt8.ofNat 1))).1) 3 (sector_m (UInt8.ofNat 2))).1).down)] 25, .see (DkR ((put_m ((new_m 32).1) 3 (sector_m (UInt8.ofNat 1))).1) v28 v29) F31, .see (DkR ((put_m ((put_m ((new_m 32).1) 3 (sector_m (UInt8.ofNat 1))).1) 3 (sector_m (UInt8.ofNat 2))).1) v67 v68) F70, .see (Rs eB 1 ([(UInt8.ofNat 1)] : List UInt8) (.slice (some ⟨g102, 0, none⟩) 1 1)) (fp (.slice (some ⟨g102, 0, none⟩) 1 1) (List.flatMap eB ([(UInt8.ofNat 1)] : List UInt8)))] := hm101.freezeB 4 rfl rfl rfl eB_len
  refine lst rfl (m_callx hm105 34 rfl (run_crash rfl rfl rfl rfl) (crash_any ((put_m ((put_m ((new_m 32).1) 3 (sector_m (UInt8.ofNat 1))).1) 3 (sector_m (UInt8.ofNat 2))).1) ([(UInt8.ofNat 1)] : List UInt8) (-1) v67 v68 (.slice (some ⟨g102, 0, none⟩) 1 1) (seeS _) _ (hm105.from 3 rfl) (hm105.from 4 rfl) (by first | omega | assumption | decide | (simp; done) | (simp; omega)) (by first | omega | assumption | decide | (simp; done) | (simp; omega)) (by first | omega | assumption | decide | (simp; done) | (simp; omega))) (fun vv111 w103 hR112 hb113 hm104 => ?_))
  obtain ⟨v107, v108, rfl, hg114⟩ := hR112
  obtain ⟨F110, hm115⟩ : ∃ F110, Mm none (fun _ => True) w w103 [.see (DkR ((new_m 32).1) v5 v6) F8, .blk g16 #[v67, v68, .int .i64 (((put_m ((put_m ((new_m 32).1) 3 (sector_m (UInt8.ofNat 1))).1) 3 (sector_m (UInt8.ofNat 2))).1).fuse), .bool (((put_m ((put_m ((new_m 32).1) 3 (sector_m (UInt8.ofNat 1))).1) 3 (sector_m (UInt8.ofNat 2))).1).down)] 25, .see (DkR ((put_m ((new_m 32).1) 3 (sector_m (UInt8.ofNat 1))).1) v28 v29) F31, .see (DkR ((put_m ((put_m ((new_m 32).1) 3 (sector_m (UInt8.ofNat 1))).1) 3 (sector_m (UInt8.ofNat 2))).1) v67 v68) F70, .see (Rs eB 1 ([(UInt8.ofNat 1)] : List UInt8) (.slice (some ⟨g102, 0, none⟩) 1 1)) (fp (.slice (some ⟨g102, 0, none⟩) 1 1) (List.flatMap eB ([(UInt8.ofNat 1)] : List UInt8))), .see (DkR ((crash_m ((put_m ((put_m ((new_m 32).1) 3 (sector_m (UInt8.ofNat 1))).1) 3 (sector_m (UInt8.ofNat 2))).1) ([(UInt8.ofNat 1)] : List UInt8) (-1)).1) v107 v108) F110] := Mm.tookS hm105 hb113 hg114
  clear hm104 hg114 hb113
  simp only [nz1, nz2, nz3]
  refine lvw 31 (.tuple #[.agg #[v107, v108, .int .i64 (((crash_m ((put_m ((put_m ((new_m 32).1) 3 (sector_m (UInt8.ofNat 1))).1) 3 (sector_m (UInt8.ofNat 2))).1) ([(UInt8.ofNat 1)] : List UInt8) (-1)).1).fuse), .bool (((crash_m ((put_m ((put_m ((new_m 32).1) 3 (sector_m (UInt8.ofNat 1))).1) 3 (sector_m (UInt8.ofNat 2))).1) ([(UInt8.ofNat 1)] : List UInt8) (-1)).1).down)], .int .i64 ((crash_m ((put_m ((put_m ((new_m 32).1) 3 (sector_m (UInt8.ofNat 1))).1) 3 (sector_m (UInt8.ofNat 2))).1) ([(UInt8.ofNat 1)] : List UInt8) (-1)).2)]) rfl rfl (run_mv rfl rfl) ?_
  simp only [nz1, nz2, nz3]
  refine lvw 35 (.agg #[v107, v108, .int .i64 (((crash_m ((put_m ((put_m ((new_m 32).1) 3 (sector_m (UInt8.ofNat 1))).1) 3 (sector_m (UInt8.ofNat 2))).1) ([(UInt8.ofNat 1)] : List UInt8) (-1)).1).fuse), .bool (((crash_m ((put_m ((put_m ((new_m 32).1) 3 (sector_m (UInt8.ofNat 1))).1) 3 (sector_m (UInt8.ofNat 2))).1) ([(UInt8.ofNat 1)] : List UInt8) (-1)).1).down)]) rfl rfl (run_ex rfl rfl rfl) ?_
  simp only [nz1, nz2, nz3]
  refine lvw 36 (.int .i64 ((crash_m ((put_m ((put_m ((new_m 32).1) 3 (sector_m (UInt8.ofNat 1))).1) 3 (sector_m (UInt8.ofNat 2))).1) ([(UInt8.ofNat 1)] : List UInt8) (-1)).2)) rfl rfl (run_ex rfl rfl rfl) ?_
  simp only [nz1, nz2, nz3]
  refine lst rfl (m_alloc (c := #[.slice none 0 0, .slice none 0 0, .int .i64 0, .bool false]) (T := 25) hm115 5 rfl (by unfold execOp; go_simp; try rfl) (fun g118 w116 (hm117 : Mm none (fun _ => True) w w116 [.see (DkR ((new_m 32).1) v5 v6) F8, .blk g16 #[v67, v68, .int .i64 (((put_m ((put_m ((new_m 32).1) 3 (sector_m (UInt8.ofNat 1))).1) 3 (sector_m (UInt8.ofNat 2))).1).fuse), .bool (((put_m ((put_m ((new_m 32).1) 3 (sector_m (UInt8.ofNat 1))).1) 3 (sector_m (UInt8.ofNat 2))).1).down)] 25, .see (DkR ((put_m ((new_m 32).1) 3 (sector_m (UInt8.ofNat 1))).1) v28 v29) F31, .see (DkR ((put_m ((put_m ((new_m 32).1) 3 (sector_m (UInt8.ofNat 1))).1) 3 (sector_m (UInt8.ofNat 2))).1) v67 v68) F70, .see (Rs eB 1 ([(UInt8.ofNat 1)] : List UInt8) (.slice (some ⟨g102, 0, none⟩) 1 1)) (fp (.slice (some ⟨g102, 0, none⟩) 1 1) (List.flatMap eB ([(UInt8.ofNat 1)] : List UInt8))), .see (DkR ((crash_m ((put_m ((put_m ((new_m 32).1) 3 (sector_m (UInt8.ofNat 1))).1) 3 (sector_m (UInt8.ofNat 2))).1) ([(UInt8.ofNat 1)] : List UInt8) (-1)).1) v107 v108) F110, .blk g118 #[.slice none 0 0, .slice none 0 0, .int .i64 0, .bool false] 25]) => ?_))
  simp only [nz1, nz2, nz3]
  have ho121 := (rd_one ((hm117.see 5 rfl).1))
  have ho122 := (rd_one ((hm117.see 5 rfl).2))
  refine lst rfl (m_store 6 25 _ _ 0 (.agg #[v107, v108, .int .i64 (((crash_m ((put_m ((put_m ((new_m 32).1) 3 (sector_m (UInt8.ofNat 1))).1) 3 (sector_m (UInt8.ofNat 2))).1) ([(UInt8.ofNat 1)] : List UInt8) (-1)).1).fuse), .bool (((crash_m ((put_m ((put_m ((new_m 32).1) 3 (sector_m (UInt8.ofNat 1))).1) 3 (sector_m (UInt8.ofNat 2))).1) ([(UInt8.ofNat 1)] : List UInt8) (-1)).1).down)]) (old := #[.slice none 0 0, .slice none 0 0, .int .i64 0, .bool false]) (new := #[v107, v108, .int .i64 (((crash_m ((put_m ((put_m ((new_m 32).1) 3 (sector_m (UInt8.ofNat 1))).1) 3 (sector_m (UInt8.ofNat 2))).1) ([(UInt8.ofNat 1)] : List UInt8) (-1)).1).fuse), .bool (((crash_m ((put_m ((put_m ((new_m 32).1) 3 (sector_m (UInt8.ofNat 1))).1) 3 (sector_m (UInt8.ofNat 2))).1) ([(UInt8.ofNat 1)] : List UInt8) (-1)).1).down)]) hm117 rfl rfl rfl rfl rfl (by exact sz_25) (show 0 + 4 ≤ 4 from by decide) (by rw [Array.all_eq_true_iff_forall_mem]; intro x hx; simp only [Value.cells, List.mem_toArray, List.mem_cons, List.not_mem_nil, or_false] at hx; rcases hx with rfl | rfl | rfl | rfl <;> first | rfl | assumption) rfl (fun w119 (hm120 : Mm none (fun _ => True) w w119 [.see (DkR ((new_m 32).1) v5 v6) F8, .blk g16 #[v67, v68, .int .i64 (((put_m ((put_m ((new_m 32).1) 3 (sector_m (UInt8.ofNat 1))).1) 3 (sector_m (UInt8.ofNat 2))).1).fuse), .bool (((put_m ((put_m ((new_m 32).1) 3 (sector_m (UInt8.ofNat 1))).1) 3 (sector_m (UInt8.ofNat 2))).1).down)] 25, .see (DkR ((put_m ((new_m 32).1) 3 (sector_m (UInt8.ofNat 1))).1) v28 v29) F31, .see (DkR ((put_m ((put_m ((new_m 32).1) 3 (sector_m (UInt8.ofNat 1))).1) 3 (sector_m (UInt8.ofNat 2))).1) v67 v68) F70, .see (Rs eB 1 ([(UInt8.ofNat 1)] : List UInt8) (.slice (some ⟨g102, 0, none⟩) 1 1)) (fp (.slice (some ⟨g102, 0, none⟩) 1 1) (List.flatMap eB ([(UInt8.ofNat 1)] : List UInt8))), .see (DkR ((crash_m ((put_m ((put_m ((new_m 32).1) 3 (sector_m (UInt8.ofNat 1))).1) 3 (sector_m (UInt8.ofNat 2))).1) ([(UInt8.ofNat 1)] : List UInt8) (-1)).1) v107 v108) F110, .blk g118 #[v107, v108, .int .i64 (((crash_m ((put_m ((put_m ((new_m 32).1) 3 (sector_m (UInt8.ofNat 1))).1) 3 (sector_m (UInt8.ofNat 2))).1) ([(UInt8.ofNat 1)] : List UInt8) (-1)).1).fuse), .bool (((crash_m ((put_m ((put_m ((new_m 32).1) 3 (sector_m (UInt8.ofNat 1))).1) 3 (sector_m (UInt8.ofNat 2))).1) ([(UInt8.ofNat 1)] : List UInt8) (-1)).1).down)] 25]) => ?_))
  refine lvw 6 (.int .i64 ((crash_m ((put_m ((put_m ((new_m 32).1) 3 (sector_m (UInt8.ofNat 1))).1) 3 (sector_m (UInt8.ofNat 2))).1) ([(UInt8.ofNat 1)] : List UInt8) (-1)).2)) rfl rfl (run_as rfl rfl) ?_
  simp only [nz1, nz2, nz3]
  refine wpList_nil ?_
  refine then_n (hK99 _ _ ?_)
  refine wp_seq_k (fun K123 hK123 => ?_)
  refine wp_region_lit ?_
  refine lvw 38 (.agg #[v67, v68, .int .i64 (((put_m ((put_m ((new_m 32).1) 3 (sector_m (UInt8.ofNat 1))).1) 3 (sector_m (UInt8.ofNat 2))).1).fuse), .bool (((put_m ((put_m ((new_m 32).1) 3 (sector_m (UInt8.ofNat 1))).1) 3 (sector_m (UInt8.ofNat 2))).1).down)]) rfl rfl (r_whole (hm120.at 1 rfl) Try.underlying25 rfl (by exact sz_25) rfl rfl) ?_
  simp only [nz1, nz2, nz3]
  refine lst rfl (m_callx hm120 39 rfl (run_crash rfl rfl rfl rfl) (crash_any ((put_m ((put_m ((new_m 32).1) 3 (sector_m (UInt8.ofNat 1))).1) 3 (sector_m (UInt8.ofNat 2))).1) ([] : List UInt8) (-1) v67 v68 (.slice none 0 0) (seeS _) _ (hm120.from 3 rfl) (From.pure (fun W => Rs.nil eB 1 W)) (by first | omega | assumption | decide | (simp; done) | (simp; omega)) (by first | omega | assumption | decide | (simp; done) | (simp; omega)) (by first | omega | assumption | decide | (simp; done) | (simp; omega))) (fun vv130 w124 hR131 hb132 hm125 => ?_))
  obtain ⟨v126, v127, rfl, hg133⟩ := hR131
  obtain ⟨F129, hm134⟩ : ∃ F129, Mm none (fun _ => True) w w124 [.see (DkR ((new_m 32).1) v5 v6) F8, .blk g16 #[v67, v68, .int .i64 (((put_m ((put_m ((new_m 32).1) 3 (sector_m (UInt8.ofNat 1))).1) 3 (sector_m (UInt8.ofNat 2))).1).fuse), .bool (((put_m ((put_m ((new_m 32).1) 3 (sector_m (UInt8.ofNat 1))).1) 3 (sector_m (UInt8.ofNat 2))).1).down)] 25, .see (DkR ((put_m ((new_m 32).1) 3 (sector_m (UInt8.ofNat 1))).1) v28 v29) F31, .see (DkR ((put_m ((put_m ((new_m 32).1) 3 (sector_m (UInt8.ofNat 1))).1) 3 (sector_m (UInt8.ofNat 2))).1) v67 v68) F70, .see (Rs eB 1 ([(UInt8.ofNat 1)] : List UInt8) (.slice (some ⟨g102, 0, none⟩) 1 1)) (fp (.slice (some ⟨g102, 0, none⟩) 1 1) (List.flatMap eB ([(UInt8.ofNat 1)] : List UInt8))), .see (DkR ((crash_m ((put_m ((put_m ((new_m 32).1) 3 (sector_m (UInt8.ofNat 1))).1) 3 (sector_m (UInt8.ofNat 2))).1) ([(UInt8.ofNat 1)] : List UInt8) (-1)).1) v107 v108) F110, .blk g118 #[v107, v108, .int .i64 (((crash_m ((put_m ((put_m ((new_m 32).1) 3 (sector_m (UInt8.ofNat 1))).1) 3 (sector_m (UInt8.ofNat 2))).1) ([(UInt8.ofNat 1)] : List UInt8) (-1)).1).fuse), .bool (((crash_m ((put_m ((put_m ((new_m 32).1) 3 (sector_m (UInt8.ofNat 1))).1) 3 (sector_m (UInt8.ofNat 2))).1) ([(UInt8.ofNat 1)] : List UInt8) (-1)).1).down)] 25, .see (DkR ((crash_m ((put_m ((put_m ((new_m 32).1) 3 (sector_m (UInt8.ofNat 1))).1) 3 (sector_m (UInt8.ofNat 2))).1) ([] : List UInt8) (-1)).1) v126 v127) F129] := Mm.tookS hm120 hb132 hg133
  clear hm125 hg133 hb132
  simp only [nz1, nz2, nz3]
  refine lvw 37 (.tuple #[.agg #[v126, v127, .int .i64 (((crash_m ((put_m ((put_m ((new_m 32).1) 3 (sector_m (UInt8.ofNat 1))).1) 3 (sector_m (UInt8.ofNat 2))).1) ([] : List UInt8) (-1)).1).fuse), .bool (((crash_m ((put_m ((put_m ((new_m 32).1) 3 (sector_m (UInt8.ofNat 1))).1) 3 (sector_m (UInt8.ofNat 2))).1) ([] : List UInt8) (-1)).1).down)], .int .i64 ((crash_m ((put_m ((put_m ((new_m 32).1) 3 (sector_m (UInt8.ofNat 1))).1) 3 (sector_m (UInt8.ofNat 2))).1) ([] : List UInt8) (-1)).2)]) rfl rfl (run_mv rfl rfl) ?_
  simp only [nz1, nz2, nz3]
  refine lvw 40 (.agg #[v126, v127, .int .i64 (((crash_m ((put_m ((put_m ((new_m 32).1) 3 (sector_m (UInt8.ofNat 1))).1) 3 (sector_m (UInt8.ofNat 2))).1) ([] : List UInt8) (-1)).1).fuse), .bool (((crash_m ((put_m ((put_m ((new_m 32).1) 3 (sector_m (UInt8.ofNat 1))).1) 3 (sector_m (UInt8.ofNat 2))).1) ([] : List UInt8) (-1)).1).down)]) rfl rfl (run_ex rfl rfl rfl) ?_
  simp only [nz1, nz2, nz3]
  refine lvw 41 (.int .i64 ((crash_m ((put_m ((put_m ((new_m 32).1) 3 (sector_m (UInt8.ofNat 1))).1) 3 (sector_m (UInt8.ofNat 2))).1) ([] : List UInt8) (-1)).2)) rfl rfl (run_ex rfl rfl rfl) ?_
  simp only [nz1, nz2, nz3]
  refine lst rfl (m_alloc (c := #[.slice none 0 0, .slice none 0 0, .int .i64 0, .bool false]) (T := 25) hm134 7 rfl (by unfold execOp; go_simp; try rfl) (fun g137 w135 (hm136 : Mm none (fun _ => True) w w135 [.see (DkR ((new_m 32).1) v5 v6) F8, .blk g16 #[v67, v68, .int .i64 (((put_m ((put_m ((new_m 32).1) 3 (sector_m (UInt8.ofNat 1))).1) 3 (sector_m (UInt8.ofNat 2))).1).fuse), .bool (((put_m ((put_m ((new_m 32).1) 3 (sector_m (UInt8.ofNat 1))).1) 3 (sector_m (UInt8.ofNat 2))).1).down)] 25, .see (DkR ((put_m ((new_m 32).1) 3 (sector_m (UInt8.ofNat 1))).1) v28 v29) F31, .see (DkR ((put_m ((put_m ((new_m 32).1) 3 (sector_m (UInt8.ofNat 1))).1) 3 (sector_m (UInt8.ofNat 2))).1) v67 v68) F70, .see (Rs eB 1 ([(UInt8.ofNat 1)] : List UInt8) (.slice (some ⟨g102, 0, none⟩) 1 1)) (fp (.slice (some ⟨g102, 0, none⟩) 1 1) (List.flatMap eB ([(UInt8.ofNat 1)] : List UInt8))), .see (DkR ((crash_m ((put_m ((put_m ((new_m 32).1) 3 (sector_m (UInt8.ofNat 1))).1) 3 (sector_m (UInt8.ofNat 2))).1) ([(UInt8.ofNat 1)] : List UInt8) (-1)).1) v107 v108) F110, .blk g118 #[v107, v108, .int .i64 (((crash_m ((put_m ((put_m ((new_m 32).1) 3 (sector_m (UInt8.ofNat 1))).1) 3 (sector_m (UInt8.ofNat 2))).1) ([(UInt8.ofNat 1)] : List UInt8) (-1)).1).fuse), .bool (((crash_m ((put_m ((put_m ((new_m 32).1) 3 (sector_m (UInt8.ofNat 1))).1) 3 (sector_m (UInt8.ofNat 2))).1) ([(UInt8.ofNat 1)] : List UInt8) (-1)).1).down)] 25, .see (DkR ((crash_m ((put_m ((put_m ((new_m 32).1) 3 (sector_m (UInt8.ofNat 1))).1) 3 (sector_m (UInt8.ofNat 2))).1) ([] : List UInt8) (-1)).1) v126 v127) F129, .blk g137 #[.slice none 0 0, .slice none 0 0, .int .i64 0, .bool false] 25]) => ?_))
  simp only [nz1, nz2, nz3]
  have ho140 := (rd_one ((hm136.see 7 rfl).1))
  have ho141 := (rd_one ((hm136.see 7 rfl).2))
  refine lst rfl (m_store 8 25 _ _ 0 (.agg #[v126, v127, .int .i64 (((crash_m ((put_m ((put_m ((new_m 32).1) 3 (sector_m (UInt8.ofNat 1))).1) 3 (sector_m (UInt8.ofNat 2))).1) ([] : List UInt8) (-1)).1).fuse), .bool (((crash_m ((put_m ((put_m ((new_m 32).1) 3 (sector_m (UInt8.ofNat 1))).1) 3 (sector_m (UInt8.ofNat 2))).1) ([] : List UInt8) (-1)).1).down)]) (old := #[.slice none 0 0, .slice none 0 0, .int .i64 0, .bool false]) (new := #[v126, v127, .int .i64 (((crash_m ((put_m ((put_m ((new_m 32).1) 3 (sector_m (UInt8.ofNat 1))).1) 3 (sector_m (UInt8.ofNat 2))).1) ([] : List UInt8) (-1)).1).fuse), .bool (((crash_m ((put_m ((put_m ((new_m 32).1) 3 (sector_m (UInt8.ofNat 1))).1) 3 (sector_m (UInt8.ofNat 2))).1) ([] : List UInt8) (-1)).1).down)]) hm136 rfl rfl rfl rfl rfl (by exact sz_25) (show 0 + 4 ≤ 4 from by decide) (by rw [Array.all_eq_true_iff_forall_mem]; intro x hx; simp only [Value.cells, List.mem_toArray, List.mem_cons, List.not_mem_nil, or_false] at hx; rcases hx with rfl | rfl | rfl | rfl <;> first | rfl | assumption) rfl (fun w138 (hm139 : Mm none (fun _ => True) w w138 [.see (DkR ((new_m 32).1) v5 v6) F8, .blk g16 #[v67, v68, .int .i64 (((put_m ((put_m ((new_m 32).1) 3 (sector_m (UInt8.ofNat 1))).1) 3 (sector_m (UInt8.ofNat 2))).1).fuse), .bool (((put_m ((put_m ((new_m 32).1) 3 (sector_m (UInt8.ofNat 1))).1) 3 (sector_m (UInt8.ofNat 2))).1).down)] 25, .see (DkR ((put_m ((new_m 32).1) 3 (sector_m (UInt8.ofNat 1))).1) v28 v29) F31, .see (DkR ((put_m ((put_m ((new_m 32).1) 3 (sector_m (UInt8.ofNat 1))).1) 3 (sector_m (UInt8.ofNat 2))).1) v67 v68) F70, .see (Rs eB 1 ([(UInt8.ofNat 1)] : List UInt8) (.slice (some ⟨g102, 0, none⟩) 1 1)) (fp (.slice (some ⟨g102, 0, none⟩) 1 1) (List.flatMap eB ([(UInt8.ofNat 1)] : List UInt8))), .see (DkR ((crash_m ((put_m ((put_m ((new_m 32).1) 3 (sector_m (UInt8.ofNat 1))).1) 3 (sector_m (UInt8.ofNat 2))).1) ([(UInt8.ofNat 1)] : List UInt8) (-1)).1) v107 v108) F110, .blk g118 #[v107, v108, .int .i64 (((crash_m ((put_m ((put_m ((new_m 32).1) 3 (sector_m (UInt8.ofNat 1))).1) 3 (sector_m (UInt8.ofNat 2))).1) ([(UInt8.ofNat 1)] : List UInt8) (-1)).1).fuse), .bool (((crash_m ((put_m ((put_m ((new_m 32).1) 3 (sector_m (UInt8.ofNat 1))).1) 3 (sector_m (UInt8.ofNat 2))).1) ([(UInt8.ofNat 1)] : List UInt8) (-1)).1).down)] 25, .see (DkR ((crash_m ((put_m ((put_m ((new_m 32).1) 3 (sector_m (UInt8.ofNat 1))).1) 3 (sector_m (UInt8.ofNat 2))).1) ([] : List UInt8) (-1)).1) v126 v127) F129, .blk g137 #[v126, v127, .int .i64 (((crash_m ((put_m ((put_m ((new_m 32).1) 3 (sector_m (UInt8.ofNat 1))).1) 3 (sector_m (UInt8.ofNat 2))).1) ([] : List UInt8) (-1)).1).fuse), .bool (((crash_m ((put_m ((put_m ((new_m 32).1) 3 (sector_m (UInt8.ofNat 1))).1) 3 (sector_m (UInt8.ofNat 2))).1) ([] : List UInt8) (-1)).1).down)] 25]) => ?_))
  refine lvw 8 (.int .i64 ((crash_m ((put_m ((put_m ((new_m 32).1) 3 (sector_m (UInt8.ofNat 1))).1) 3 (sector_m (UInt8.ofNat 2))).1) ([] : List UInt8) (-1)).2)) rfl rfl (run_as rfl rfl) ?_
  simp only [nz1, nz2, nz3]
  refine wpList_nil ?_
  refine then_n (hK123 _ _ ?_)
  refine wp_seq_k (fun K142 hK142 => ?_)
  refine wp_region_lit ?_
  refine lvw 43 (.agg #[v67, v68, .int .i64 (((put_m ((put_m ((new_m 32).1) 3 (sector_m (UInt8.ofNat 1))).1) 3 (sector_m (UInt8.ofNat 2))).1).fuse), .bool (((put_m ((put_m ((new_m 32).1) 3 (sector_m (UInt8.ofNat 1))).1) 3 (sector_m (UInt8.ofNat 2))).1).down)]) rfl rfl (r_whole (hm139.at 1 rfl) Try.underlying25 rfl (by exact sz_25) rfl rfl) ?_
  simp only [nz1, nz2, nz3]
  refine lst rfl (m_call hm139 44 (.tuple #[.string (tx ((get_m ((put_m ((put_m ((new_m 32).1) 3 (sector_m (UInt8.ofNat 1))).1) 3 (sector_m (UInt8.ofNat 2))).1) 3).1)), .int .i64 ((get_m ((put_m ((put_m ((new_m 32).1) 3 (sector_m (UInt8.ofNat 1))).1) 3 (sector_m (UInt8.ofNat 2))).1) 3).2)]) rfl (run_get rfl rfl rfl) (get_any ((put_m ((put_m ((new_m 32).1) 3 (sector_m (UInt8.ofNat 1))).1) 3 (sector_m (UInt8.ofNat 2))).1) 3 v67 v68 _ (hm139.see 3 rfl) (by first | omega | assumption | decide | (simp; done) | (simp; omega)) (by first | omega | assumption | decide | (simp; done) | (simp; omega))) (fun w143 (hm144 : Mm none (fun _ => True) w w143 [.see (DkR ((new_m 32).1) v5 v6) F8, .blk g16 #[v67, v68, .int .i64 (((put_m ((put_m ((new_m 32).1) 3 (sector_m (UInt8.ofNat 1))).1) 3 (sector_m (UInt8.ofNat 2))).1).fuse), .bool (((put_m ((put_m ((new_m 32).1) 3 (sector_m (UInt8.ofNat 1))).1) 3 (sector_m (UInt8.ofNat 2))).1).down)] 25, .see (DkR ((put_m ((new_m 32).1) 3 (sector_m (UInt8.ofNat 1))).1) v28 v29) F31, .see (DkR ((put_m ((put_m ((new_m 32).1) 3 (sector_m (UInt8.ofNat 1))).1) 3 (sector_m (UInt8.ofNat 2))).1) v67 v68) F70, .see (Rs eB 1 ([(UInt8.ofNat 1)] : List UInt8) (.slice (some ⟨g102, 0, none⟩) 1 1)) (fp (.slice (some ⟨g102, 0, none⟩) 1 1) (List.flatMap eB ([(UInt8.ofNat 1)] : List UInt8))), .see (DkR ((crash_m ((put_m ((put_m ((new_m 32).1) 3 (sector_m (UInt8.ofNat 1))).1) 3 (sector_m (UInt8.ofNat 2))).1) ([(UInt8.ofNat 1)] : List UInt8) (-1)).1) v107 v108) F110, .blk g118 #[v107, v108, .int .i64 (((crash_m ((put_m ((put_m ((new_m 32).1) 3 (sector_m (UInt8.ofNat 1))).1) 3 (sector_m (UInt8.ofNat 2))).1) ([(UInt8.ofNat 1)] : List UInt8) (-1)).1).fuse), .bool (((crash_m ((put_m ((put_m ((new_m 32).1) 3 (sector_m (UInt8.ofNat 1))).1) 3 (sector_m (UInt8.ofNat 2))).1) ([(UInt8.ofNat 1)] : List UInt8) (-1)).1).down)] 25, .see (DkR ((crash_m ((put_m ((put_m ((new_m 32).1) 3 (sector_m (UInt8.ofNat 1))).1) 3 (sector_m (UInt8.ofNat 2))).1) ([] : List UInt8) (-1)).1) v126 v127) F129, .blk g137 #[v126, v127, .int .i64 (((crash_m ((put_m ((put_m ((new_m 32).1) 3 (sector_m (UInt8.ofNat 1))).1) 3 (sector_m (UInt8.ofNat 2))).1) ([] : List UInt8) (-1)).1).fuse), .bool (((crash_m ((put_m ((put_m ((new_m 32).1) 3 (sector_m (UInt8.ofNat 1))).1) 3 (sector_m (UInt8.ofNat 2))).1) ([] : List UInt8) (-1)).1).down)] 25]) => ?_))
  simp only [nz1, nz2, nz3]
  refine lvw 42 (.tuple #[.string (tx ((get_m ((put_m ((put_m ((new_m 32).1) 3 (sector_m (UInt8.ofNat 1))).1) 3 (sector_m (UInt8.ofNat 2))).1) 3).1)), .int .i64 ((get_m ((put_m ((put_m ((new_m 32).1) 3 (sector_m (UInt8.ofNat 1))).1) 3 (sector_m (UInt8.ofNat 2))).1) 3).2)]) rfl rfl (run_mv rfl rfl) ?_
  simp only [nz1, nz2, nz3]
  refine lvw 45 (.string (tx ((get_m ((put_m ((put_m ((new_m 32).1) 3 (sector_m (UInt8.ofNat 1))).1) 3 (sector_m (UInt8.ofNat 2))).1) 3).1))) rfl rfl (run_ex rfl rfl rfl) ?_
  simp only [nz1, nz2, nz3]
  refine lvw 46 (.int .i64 ((get_m ((put_m ((put_m ((new_m 32).1) 3 (sector_m (UInt8.ofNat 1))).1) 3 (sector_m (UInt8.ofNat 2))).1) 3).2)) rfl rfl (run_ex rfl rfl rfl) ?_
  simp only [nz1, nz2, nz3]
  refine lvw 9 (.string (tx ((get_m ((put_m ((put_m ((new_m 32).1) 3 (sector_m (UInt8.ofNat 1))).1) 3 (sector_m (UInt8.ofNat 2))).1) 3).1))) rfl rfl (run_as rfl rfl) ?_
  simp only [nz1, nz2, nz3]
  refine lvw 10 (.int .i64 ((get_m ((put_m ((put_m ((new_m 32).1) 3 (sector_m (UInt8.ofNat 1))).1) 3 (sector_m (UInt8.ofNat 2))).1) 3).2)) rfl rfl (run_as rfl rfl) ?_
  simp only [nz1, nz2, nz3]
  refine wpList_nil ?_
  refine then_n (hK142 _ _ ?_)
  refine wp_seq_k (fun K145 hK145 => ?_)
  refine wp_region_lit ?_
  refine lvw 48 (.agg #[v107, v108, .int .i64 (((crash_m ((put_m ((put_m ((new_m 32).1) 3 (sector_m (UInt8.ofNat 1))).1) 3 (sector_m (UInt8.ofNat 2))).1) ([(UInt8.ofNat 1)] : List UInt8) (-1)).1).fuse), .bool (((crash_m ((put_m ((put_m ((new_m 32).1) 3 (sector_m (UInt8.ofNat 1))).1) 3 (sector_m (UInt8.ofNat 2))).1) ([(UInt8.ofNat 1)] : List UInt8) (-1)).1).down)]) rfl rfl (r_whole (hm144.at 6 rfl) Try.underlying25 rfl (by exact sz_25) rfl rfl) ?_
  simp only [nz1, nz2, nz3]
  refine lst rfl (m_call hm144 49 (.tuple #[.string (tx ((get_m ((crash_m ((put_m ((put_m ((new_m 32).1) 3 (sector_m (UInt8.ofNat 1))).1) 3 (sector_m (UInt8.ofNat 2))).1) ([(UInt8.ofNat 1)] : List UInt8) (-1)).1) 3).1)), .int .i64 ((get_m ((crash_m ((put_m ((put_m ((new_m 32).1) 3 (sector_m (UInt8.ofNat 1))).1) 3 (sector_m (UInt8.ofNat 2))).1) ([(UInt8.ofNat 1)] : List UInt8) (-1)).1) 3).2)]) rfl (run_get rfl rfl rfl) (get_any ((crash_m ((put_m ((put_m ((new_m 32).1) 3 (sector_m (UInt8.ofNat 1))).1) 3 (sector_m (UInt8.ofNat 2))).1) ([(UInt8.ofNat 1)] : List UInt8) (-1)).1) 3 v107 v108 _ (hm144.see 5 rfl) (by first | omega | assumption | decide | (simp; done) | (simp; omega)) (by first | omega | assumption | decide | (simp; done) | (simp; omega))) (fun w146 (hm147 : Mm none (fun _ => True) w w146 [.see (DkR ((new_m 32).1) v5 v6) F8, .blk g16 #[v67, v68, .int .i64 (((put_m ((put_m ((new_m 32).1) 3 (sector_m (UInt8.ofNat 1))).1) 3 (sector_m (UInt8.ofNat 2))).1).fuse), .bool (((put_m ((put_m ((new_m 32).1) 3 (sector_m (UInt8.ofNat 1))).1) 3 (sector_m (UInt8.ofNat 2))).1).down)] 25, .see (DkR ((put_m ((new_m 32).1) 3 (sector_m (UInt8.ofNat 1))).1) v28 v29) F31, .see (DkR ((put_m ((put_m ((new_m 32).1) 3 (sector_m (UInt8.ofNat 1))).1) 3 (sector_m (UInt8.ofNat 2))).1) v67 v68) F70, .see (Rs eB 1 ([(UInt8.ofNat 1)] : List UInt8) (.slice (some ⟨g102, 0, none⟩) 1 1)) (fp (.slice (some ⟨g102, 0, none⟩) 1 1) (List.flatMap eB ([(UInt8.ofNat 1)] : List UInt8))), .see (DkR ((crash_m ((put_m ((put_m ((new_m 32).1) 3 (sector_m (UInt8.ofNat 1))).1) 3 (sector_m (UInt8.ofNat 2))).1) ([(UInt8.ofNat 1)] : List UInt8) (-1)).1) v107 v108) F110, .blk g118 #[v107, v108, .int .i64 (((crash_m ((put_m ((put_m ((new_m 32).1) 3 (sector_m (UInt8.ofNat 1))).1) 3 (sector_m (UInt8.ofNat 2))).1) ([(UInt8.ofNat 1)] : List UInt8) (-1)).1).fuse), .bool (((crash_m ((put_m ((put_m ((new_m 32).1) 3 (sector_m (UInt8.ofNat 1))).1) 3 (sector_m (UInt8.ofNat 2))).1) ([(UInt8.ofNat 1)] : List UInt8) (-1)).1).down)] 25, .see (DkR ((crash_m ((put_m ((put_m ((new_m 32).1) 3 (sector_m (UInt8.ofNat 1))).1) 3 (sector_m (UInt8.ofNat 2))).1) ([] : List UInt8) (-1)).1) v126 v127) F129, .blk g137 #[v126, v127, .int .i64 (((crash_m ((put_m ((put_m ((new_m 32).1) 3 (sector_m (UInt8.ofNat 1))).1) 3 (sector_m (UInt8.ofNat 2))).1) ([] : List UInt8) (-1)).1).fuse), .bool (((crash_m ((put_m ((put_m ((new_m 32).1) 3 (sector_m (UInt8.ofNat 1))).1) 3 (sector_m (UInt8.ofNat 2))).1) ([] : List UInt8) (-1)).1).down)] 25]) => ?_))
  simp only [nz1, nz2, nz3]
  refine lvw 47 (.tuple #[.string (tx ((get_m ((crash_m ((put_m ((put_m ((new_m 32).1) 3 (sector_m (UInt8.ofNat 1))).1) 3 (sector_m (UInt8.ofNat 2))).1) ([(UInt8.ofNat 1)] : List UInt8) (-1)).1) 3).1)), .int .i64 ((get_m ((crash_m ((put_m ((put_m ((new_m 32).1) 3 (sector_m (UInt8.ofNat 1))).1) 3 (sector_m (UInt8.ofNat 2))).1) ([(UInt8.ofNat 1)] : List UInt8) (-1)).1) 3).2)]) rfl rfl (run_mv rfl rfl) ?_
  simp only [nz1, nz2, nz3]
  refine lvw 50 (.string (tx ((get_m ((crash_m ((put_m ((put_m ((new_m 32).1) 3 (sector_m (UInt8.ofNat 1))).1) 3 (sector_m (UInt8.ofNat 2))).1) ([(UInt8.ofNat 1)] : List UInt8) (-1)).1) 3).1))) rfl rfl (run_ex rfl rfl rfl) ?_
  simp only [nz1, nz2, nz3]
  refine lvw 51 (.int .i64 ((get_m ((crash_m ((put_m ((put_m ((new_m 32).1) 3 (sector_m (UInt8.ofNat 1))).1) 3 (sector_m (UInt8.ofNat 2))).1) ([(UInt8.ofNat 1)] : List UInt8) (-1)).1) 3).2)) rfl rfl (run_ex rfl rfl rfl) ?_
  simp only [nz1, nz2, nz3]
  refine lvw 11 (.string (tx ((get_m ((crash_m ((put_m ((put_m ((new_m 32).1) 3 (sector_m (UInt8.ofNat 1))).1) 3 (sector_m (UInt8.ofNat 2))).1) ([(UInt8.ofNat 1)] : List UInt8) (-1)).1) 3).1))) rfl rfl (run_as rfl rfl) ?_
  simp only [nz1, nz2, nz3]
  refine lvw 12 (.int .i64 ((get_m ((crash_m ((put_m ((put_m ((new_m 32).1) 3 (sector_m (UInt8.ofNat 1))).1) 3 (sector_m (UInt8.ofNat 2))).1) ([(UInt8.ofNat 1)] : List UInt8) (-1)).1) 3).2)) rfl rfl (run_as rfl rfl) ?_
  simp only [nz1, nz2, nz3]
  refine wpList_nil ?_
  refine then_n (hK145 _ _ ?_)
  refine wp_seq_k (fun K148 hK148 => ?_)
  refine wp_region_lit ?_
  refine lvw 53 (.agg #[v126, v127, .int .i64 (((crash_m ((put_m ((put_m ((new_m 32).1) 3 (sector_m (UInt8.ofNat 1))).1) 3 (sector_m (UInt8.ofNat 2))).1) ([] : List UInt8) (-1)).1).fuse), .bool (((crash_m ((put_m ((put_m ((new_m 32).1) 3 (sector_m (UInt8.ofNat 1))).1) 3 (sector_m (UInt8.ofNat 2))).1) ([] : List UInt8) (-1)).1).down)]) rfl rfl (r_whole (hm147.at 8 rfl) Try.underlying25 rfl (by exact sz_25) rfl rfl) ?_
  simp only [nz1, nz2, nz3]
  refine lst rfl (m_call hm147 54 (.tuple #[.string (tx ((get_m ((crash_m ((put_m ((put_m ((new_m 32).1) 3 (sector_m (UInt8.ofNat 1))).1) 3 (sector_m (UInt8.ofNat 2))).1) ([] : List UInt8) (-1)).1) 3).1)), .int .i64 ((get_m ((crash_m ((put_m ((put_m ((new_m 32).1) 3 (sector_m (UInt8.ofNat 1))).1) 3 (sector_m (UInt8.ofNat 2))).1) ([] : List UInt8) (-1)).1) 3).2)]) rfl (run_get rfl rfl rfl) (get_any ((crash_m ((put_m ((put_m ((new_m 32).1) 3 (sector_m (UInt8.ofNat 1))).1) 3 (sector_m (UInt8.ofNat 2))).1) ([] : List UInt8) (-1)).1) 3 v126 v127 _ (hm147.see 7 rfl) (by first | omega | assumption | decide | (simp; done) | (simp; omega)) (by first | omega | assumption | decide | (simp; done) | (simp; omega))) (fun w149 (hm150 : Mm none (fun _ => True) w w149 [.see (DkR ((new_m 32).1) v5 v6) F8, .blk g16 #[v67, v68, .int .i64 (((put_m ((put_m ((new_m 32).1) 3 (sector_m (UInt8.ofNat 1))).1) 3 (sector_m (UInt8.ofNat 2))).1).fuse), .bool (((put_m ((put_m ((new_m 32).1) 3 (sector_m (UInt8.ofNat 1))).1) 3 (sector_m (UInt8.ofNat 2))).1).down)] 25, .see (DkR ((put_m ((new_m 32).1) 3 (sector_m (UInt8.ofNat 1))).1) v28 v29) F31, .see (DkR ((put_m ((put_m ((new_m 32).1) 3 (sector_m (UInt8.ofNat 1))).1) 3 (sector_m (UInt8.ofNat 2))).1) v67 v68) F70, .see (Rs eB 1 ([(UInt8.ofNat 1)] : List UInt8) (.slice (some ⟨g102, 0, none⟩) 1 1)) (fp (.slice (some ⟨g102, 0, none⟩) 1 1) (List.flatMap eB ([(UInt8.ofNat 1)] : List UInt8))), .see (DkR ((crash_m ((put_m ((put_m ((new_m 32).1) 3 (sector_m (UInt8.ofNat 1))).1) 3 (sector_m (UInt8.ofNat 2))).1) ([(UInt8.ofNat 1)] : List UInt8) (-1)).1) v107 v108) F110, .blk g118 #[v107, v108, .int .i64 (((crash_m ((put_m ((put_m ((new_m 32).1) 3 (sector_m (UInt8.ofNat 1))).1) 3 (sector_m (UInt8.ofNat 2))).1) ([(UInt8.ofNat 1)] : List UInt8) (-1)).1).fuse), .bool (((crash_m ((put_m ((put_m ((new_m 32).1) 3 (sector_m (UInt8.ofNat 1))).1) 3 (sector_m (UInt8.ofNat 2))).1) ([(UInt8.ofNat 1)] : List UInt8) (-1)).1).down)] 25, .see (DkR ((crash_m ((put_m ((put_m ((new_m 32).1) 3 (sector_m (UInt8.ofNat 1))).1) 3 (sector_m (UInt8.ofNat 2))).1) ([] : List UInt8) (-1)).1) v126 v127) F129, .blk g137 #[v126, v127, .int .i64 (((crash_m ((put_m ((put_m ((new_m 32).1) 3 (sector_m (UInt8.ofNat 1))).1) 3 (sector_m (UInt8.ofNat 2))).1) ([] : List UInt8) (-1)).1).fuse), .bool (((crash_m ((put_m ((put_m ((new_m 32).1) 3 (sector_m (UInt8.ofNat 1))).1) 3 (sector_m (UInt8.ofNat 2))).1) ([] : List UInt8) (-1)).1).down)] 25]) => ?_))
  simp only [nz1, nz2, nz3]
  refine lvw 52 (.tuple #[.string (tx ((get_m ((crash_m ((put_m ((put_m ((new_m 32).1) 3 (sector_m (UInt8.ofNat 1))).1) 3 (sector_m (UInt8.ofNat 2))).1) ([] : List UInt8) (-1)).1) 3).1)), .int .i64 ((get_m ((crash_m ((put_m ((put_m ((new_m 32).1) 3 (sector_m (UInt8.ofNat 1))).1) 3 (sector_m (UInt8.ofNat 2))).1) ([] : List UInt8) (-1)).1) 3).2)]) rfl rfl (run_mv rfl rfl) ?_
  simp only [nz1, nz2, nz3]
  refine lvw 55 (.string (tx ((get_m ((crash_m ((put_m ((put_m ((new_m 32).1) 3 (sector_m (UInt8.ofNat 1))).1) 3 (sector_m (UInt8.ofNat 2))).1) ([] : List UInt8) (-1)).1) 3).1))) rfl rfl (run_ex rfl rfl rfl) ?_
  simp only [nz1, nz2, nz3]
  refine lvw 56 (.int .i64 ((get_m ((crash_m ((put_m ((put_m ((new_m 32).1) 3 (sector_m (UInt8.ofNat 1))).1) 3 (sector_m (UInt8.ofNat 2))).1) ([] : List UInt8) (-1)).1) 3).2)) rfl rfl (run_ex rfl rfl rfl) ?_
  simp only [nz1, nz2, nz3]
  refine lvw 13 (.string (tx ((get_m ((crash_m ((put_m ((put_m ((new_m 32).1) 3 (sector_m (UInt8.ofNat 1))).1) 3 (sector_m (UInt8.ofNat 2))).1) ([] : List UInt8) (-1)).1) 3).1))) rfl rfl (run_as rfl rfl) ?_
  simp only [nz1, nz2, nz3]
  refine lvw 14 (.int .i64 ((get_m ((crash_m ((put_m ((put_m ((new_m 32).1) 3 (sector_m (UInt8.ofNat 1))).1) 3 (sector_m (UInt8.ofNat 2))).1) ([] : List UInt8) (-1)).1) 3).2)) rfl rfl (run_as rfl rfl) ?_
  simp only [nz1, nz2, nz3]
  refine wpList_nil ?_
  refine then_n (hK148 _ _ ?_)
  refine wp_seq_k (fun K151 hK151 => ?_)
  refine wp_region_lit ?_
  refine lvw 57 (.int .i64 ((new_m 32).2)) rfl rfl (run_mv rfl rfl) ?_
  simp only [nz1, nz2, nz3]
  refine lvb 58 ((new_m 32).2 = 0) rfl rfl (z_eql ((new_m 32).2) 0 rfl rfl rfl) (fun hs152 => ?_) (fun hs152 => ?_)
  rotate_left
  · simp only [nz1, nz2, nz3]
    refine lvw 59 (.bool false) rfl rfl (run_mv rfl rfl) ?_
    simp only [nz1, nz2, nz3]
    refine lst_skip 60 rfl rfl ?_
    simp only [nz1, nz2, nz3]
    refine lst_skip 61 rfl rfl ?_
    simp only [nz1, nz2, nz3]
    refine lvw 62 (.bool false) rfl rfl (run_pickf rfl rfl rfl) ?_
    simp only [nz1, nz2, nz3]
    refine lvw 63 (.bool false) rfl rfl (run_mv rfl rfl) ?_
    simp only [nz1, nz2, nz3]
    refine lst_skip 64 rfl rfl ?_
    simp only [nz1, nz2, nz3]
    refine lst_skip 65 rfl rfl ?_
    simp only [nz1, nz2, nz3]
    refine lvw 66 (.bool false) rfl rfl (run_pickf rfl rfl rfl) ?_
    simp only [nz1, nz2, nz3]
    refine lvw 67 (.bool false) rfl rfl (run_mv rfl rfl) ?_
    simp only [nz1, nz2, nz3]
    refine lst_skip 68 rfl rfl ?_
    simp only [nz1, nz2, nz3]
    refine lst_skip 69 rfl rfl ?_
    simp only [nz1, nz2, nz3]
    refine lvw 70 (.bool false) rfl rfl (run_pickf rfl rfl rfl) ?_
    simp only [nz1, nz2, nz3]
    refine lvw 71 (.bool false) rfl rfl (run_mv rfl rfl) ?_
    simp only [nz1, nz2, nz3]
    refine lst_skip 72 rfl rfl ?_
    simp only [nz1, nz2, nz3]
    refine lst_skip 73 rfl rfl ?_
    simp only [nz1, nz2, nz3]
    refine lvw 74 (.bool false) rfl rfl (run_pickf rfl rfl rfl) ?_
    simp only [nz1, nz2, nz3]
    refine lvw 75 (.bool false) rfl rfl (run_mv rfl rfl) ?_
    simp only [nz1, nz2, nz3]
    refine lst_skip 76 rfl rfl ?_
    simp only [nz1, nz2, nz3]
    refine lst_skip 77 rfl rfl ?_
    simp only [nz1, nz2, nz3]
    refine lvw 78 (.bool false) rfl rfl (run_pickf rfl rfl rfl) ?_
    simp only [nz1, nz2, nz3]
    refine lvw 79 (.bool false) rfl rfl (run_mv rfl rfl) ?_
    simp only [nz1, nz2, nz3]
    refine lst_skip 80 rfl rfl ?_
    simp only [nz1, nz2, nz3]
    refine lst_skip 81 rfl rfl ?_
    simp only [nz1, nz2, nz3]
    refine lst_skip 82 rfl rfl ?_
    simp only [nz1, nz2, nz3]
    refine lvw 83 (.bool false) rfl rfl (run_pickf rfl rfl rfl) ?_
    simp only [nz1, nz2, nz3]
    refine lvw 84 (.bool false) rfl rfl (run_mv rfl rfl) ?_
    simp only [nz1, nz2, nz3]
    refine lst_skip 85 rfl rfl ?_
    simp only [nz1, nz2, nz3]
    refine lst_skip 86 rfl rfl ?_
    simp only [nz1, nz2, nz3]
    refine lst_skip 87 rfl rfl ?_
    simp only [nz1, nz2, nz3]
    refine lvw 88 (.bool false) rfl rfl (run_pickf rfl rfl rfl) ?_
    simp only [nz1, nz2, nz3]
    refine lvw 89 (.bool false) rfl rfl (run_mv rfl rfl) ?_
    simp only [nz1, nz2, nz3]
    refine lst_skip 90 rfl rfl ?_
    simp only [nz1, nz2, nz3]
    refine lst_skip 91 rfl rfl ?_
    simp only [nz1, nz2, nz3]
    refine lst_skip 92 rfl rfl ?_
    simp only [nz1, nz2, nz3]
    refine lvw 93 (.bool false) rfl rfl (run_pickf rfl rfl rfl) ?_
    simp only [nz1, nz2, nz3]
    refine lvw 0 (.bool false) rfl rfl (run_as rfl rfl) ?_
    simp only [nz1, nz2]
    refine wpList_nil ?_
    refine then_n (hK151 _ _ ?_)
    refine wp_ret ?_
    have he174 : awake_m = false := (show awake_m = false from by unfold awake_m; rw [if_neg hs152] <;> rfl)
    exact ⟨rfl, .bool false, res_t rfl rfl, ⟨by rw [he174], hm150.below⟩⟩
  simp only [nz1, nz2, nz3]
  refine lvw 59 (.bool true) rfl rfl (run_mv rfl rfl) ?_
  simp only [nz1, nz2, nz3]
  refine lvw 60 (.int .i64 ((put_m ((new_m 32).1) 3 (sector_m (UInt8.ofNat 1))).2)) rfl rfl (run_mv rfl rfl) ?_
  simp only [nz1, nz2, nz3]
  refine lvb 61 ((put_m ((new_m 32).1) 3 (sector_m (UInt8.ofNat 1))).2 = 0) rfl rfl (z_eql ((put_m ((new_m 32).1) 3 (sector_m (UInt8.ofNat 1))).2) 0 rfl rfl rfl) (fun hs153 => ?_) (fun hs153 => ?_)
  rotate_left
  · simp only [nz1, nz2, nz3]
    refine lvw 62 (.bool false) rfl rfl (run_pick rfl rfl rfl) ?_
    simp only [nz1, nz2, nz3]
    refine lvw 63 (.bool false) rfl rfl (run_mv rfl rfl) ?_
    simp only [nz1, nz2, nz3]
    refine lst_skip 64 rfl rfl ?_
    simp only [nz1, nz2, nz3]
    refine lst_skip 65 rfl rfl ?_
    simp only [nz1, nz2, nz3]
    refine lvw 66 (.bool false) rfl rfl (run_pickf rfl rfl rfl) ?_
    simp only [nz1, nz2, nz3]
    refine lvw 67 (.bool false) rfl rfl (run_mv rfl rfl) ?_
    simp only [nz1, nz2, nz3]
    refine lst_skip 68 rfl rfl ?_
    simp only [nz1, nz2, nz3]
    refine lst_skip 69 rfl rfl ?_
    simp only [nz1, nz2, nz3]
    refine lvw 70 (.bool false) rfl rfl (run_pickf rfl rfl rfl) ?_
    simp only [nz1, nz2, nz3]
    refine lvw 71 (.bool false) rfl rfl (run_mv rfl rfl) ?_
    simp only [nz1, nz2, nz3]
    refine lst_skip 72 rfl rfl ?_
    simp only [nz1, nz2, nz3]
    refine lst_skip 73 rfl rfl ?_
    simp only [nz1, nz2, nz3]
    refine lvw 74 (.bool false) rfl rfl (run_pickf rfl rfl rfl) ?_
    simp only [nz1, nz2, nz3]
    refine lvw 75 (.bool false) rfl rfl (run_mv rfl rfl) ?_
    simp only [nz1, nz2, nz3]
    refine lst_skip 76 rfl rfl ?_
    simp only [nz1, nz2, nz3]
    refine lst_skip 77 rfl rfl ?_
    simp only [nz1, nz2, nz3]
    refine lvw 78 (.bool false) rfl rfl (run_pickf rfl rfl rfl) ?_
    simp only [nz1, nz2, nz3]
    refine lvw 79 (.bool false) rfl rfl (run_mv rfl rfl) ?_
    simp only [nz1, nz2, nz3]
    refine lst_skip 80 rfl rfl ?_
    simp only [nz1, nz2, nz3]
    refine lst_skip 81 rfl rfl ?_
    simp only [nz1, nz2, nz3]
    refine lst_skip 82 rfl rfl ?_
    simp only [nz1, nz2, nz3]
    refine lvw 83 (.bool false) rfl rfl (run_pickf rfl rfl rfl) ?_
    simp only [nz1, nz2, nz3]
    refine lvw 84 (.bool false) rfl rfl (run_mv rfl rfl) ?_
    simp only [nz1, nz2, nz3]
    refine lst_skip 85 rfl rfl ?_
    simp only [nz1, nz2, nz3]
    refine lst_skip 86 rfl rfl ?_
    simp only [nz1, nz2, nz3]
    refine lst_skip 87 rfl rfl ?_
    simp only [nz1, nz2, nz3]
    refine lvw 88 (.bool false) rfl rfl (run_pickf rfl rfl rfl) ?_
    simp only [nz1, nz2, nz3]
    refine lvw 89 (.bool false) rfl rfl (run_mv rfl rfl) ?_
    simp only [nz1, nz2, nz3]
    refine lst_skip 90 rfl rfl ?_
    simp only [nz1, nz2, nz3]
    refine lst_skip 91 rfl rfl ?_
    simp only [nz1, nz2, nz3]
    refine lst_skip 92 rfl rfl ?_
    simp only [nz1, nz2, nz3]
    refine lvw 93 (.bool false) rfl rfl (run_pickf rfl rfl rfl) ?_
    simp only [nz1, nz2, nz3]
    refine lvw 0 (.bool false) rfl rfl (run_as rfl rfl) ?_
    simp only [nz1, nz2]
    refine wpList_nil ?_
    refine then_n (hK151 _ _ ?_)
    refine wp_ret ?_
    have he173 : awake_m = false := (show awake_m = false from by unfold awake_m; rw [if_pos hs152, if_neg hs153] <;> rfl)
    exact ⟨rfl, .bool false, res_t rfl rfl, ⟨by rw [he173], hm150.below⟩⟩
  simp only [nz1, nz2, nz3]
  refine lvw 62 (.bool true) rfl rfl (run_pick rfl rfl rfl) ?_
  simp only [nz1, nz2, nz3]
  refine lvw 63 (.bool true) rfl rfl (run_mv rfl rfl) ?_
  simp only [nz1, nz2, nz3]
  refine lvw 64 (.int .i64 ((put_m ((put_m ((new_m 32).1) 3 (sector_m (UInt8.ofNat 1))).1) 3 (sector_m (UInt8.ofNat 2))).2)) rfl rfl (run_mv rfl rfl) ?_
  simp only [nz1, nz2, nz3]
  refine lvb 65 ((put_m ((put_m ((new_m 32).1) 3 (sector_m (UInt8.ofNat 1))).1) 3 (sector_m (UInt8.ofNat 2))).2 = 0) rfl rfl (z_eql ((put_m ((put_m ((new_m 32).1) 3 (sector_m (UInt8.ofNat 1))).1) 3 (sector_m (UInt8.ofNat 2))).2) 0 rfl rfl rfl) (fun hs154 => ?_) (fun hs154 => ?_)
  rotate_left
  · simp only [nz1, nz2, nz3]
    refine lvw 66 (.bool false) rfl rfl (run_pick rfl rfl rfl) ?_
    simp only [nz1, nz2, nz3]
    refine lvw 67 (.bool false) rfl rfl (run_mv rfl rfl) ?_
    simp only [nz1, nz2, nz3]
    refine lst_skip 68 rfl rfl ?_
    simp only [nz1, nz2, nz3]
    refine lst_skip 69 rfl rfl ?_
    simp only [nz1, nz2, nz3]
    refine lvw 70 (.bool false) rfl rfl (run_pickf rfl rfl rfl) ?_
    simp only [nz1, nz2, nz3]
    refine lvw 71 (.bool false) rfl rfl (run_mv rfl rfl) ?_
    simp only [nz1, nz2, nz3]
    refine lst_skip 72 rfl rfl ?_
    simp only [nz1, nz2, nz3]
    refine lst_skip 73 rfl rfl ?_
    simp only [nz1, nz2, nz3]
    refine lvw 74 (.bool false) rfl rfl (run_pickf rfl rfl rfl) ?_
    simp only [nz1, nz2, nz3]
    refine lvw 75 (.bool false) rfl rfl (run_mv rfl rfl) ?_
    simp only [nz1, nz2, nz3]
    refine lst_skip 76 rfl rfl ?_
    simp only [nz1, nz2, nz3]
    refine lst_skip 77 rfl rfl ?_
    simp only [nz1, nz2, nz3]
    refine lvw 78 (.bool false) rfl rfl (run_pickf rfl rfl rfl) ?_
    simp only [nz1, nz2, nz3]
    refine lvw 79 (.bool false) rfl rfl (run_mv rfl rfl) ?_
    simp only [nz1, nz2, nz3]
    refine lst_skip 80 rfl rfl ?_
    simp only [nz1, nz2, nz3]
    refine lst_skip 81 rfl rfl ?_
    simp only [nz1, nz2, nz3]
    refine lst_skip 82 rfl rfl ?_
    simp only [nz1, nz2, nz3]
    refine lvw 83 (.bool false) rfl rfl (run_pickf rfl rfl rfl) ?_
    simp only [nz1, nz2, nz3]
    refine lvw 84 (.bool false) rfl rfl (run_mv rfl rfl) ?_
    simp only [nz1, nz2, nz3]
    refine lst_skip 85 rfl rfl ?_
    simp only [nz1, nz2, nz3]
    refine lst_skip 86 rfl rfl ?_
    simp only [nz1, nz2, nz3]
    refine lst_skip 87 rfl rfl ?_
    simp only [nz1, nz2, nz3]
    refine lvw 88 (.bool false) rfl rfl (run_pickf rfl rfl rfl) ?_
    simp only [nz1, nz2, nz3]
    refine lvw 89 (.bool false) rfl rfl (run_mv rfl rfl) ?_
    simp only [nz1, nz2, nz3]
    refine lst_skip 90 rfl rfl ?_
    simp only [nz1, nz2, nz3]
    refine lst_skip 91 rfl rfl ?_
    simp only [nz1, nz2, nz3]
    refine lst_skip 92 rfl rfl ?_
    simp only [nz1, nz2, nz3]
    refine lvw 93 (.bool false) rfl rfl (run_pickf rfl rfl rfl) ?_
    simp only [nz1, nz2, nz3]
    refine lvw 0 (.bool false) rfl rfl (run_as rfl rfl) ?_
    simp only [nz1, nz2]
    refine wpList_nil ?_
    refine then_n (hK151 _ _ ?_)
    refine wp_ret ?_
    have he172 : awake_m = false := (show awake_m = false from by unfold awake_m; rw [if_pos hs152, if_pos hs153, if_neg hs154] <;> rfl)
    exact ⟨rfl, .bool false, res_t rfl rfl, ⟨by rw [he172], hm150.below⟩⟩
  simp only [nz1, nz2, nz3]
  refine lvw 66 (.bool true) rfl rfl (run_pick rfl rfl rfl) ?_
  simp only [nz1, nz2, nz3]
  refine lvw 67 (.bool true) rfl rfl (run_mv rfl rfl) ?_
  simp only [nz1, nz2, nz3]
  refine lvw 68 (.int .i64 ((get_m ((put_m ((put_m ((new_m 32).1) 3 (sector_m (UInt8.ofNat 1))).1) 3 (sector_m (UInt8.ofNat 2))).1) 3).2)) rfl rfl (run_mv rfl rfl) ?_
  simp only [nz1, nz2, nz3]
  refine lvb 69 ((get_m ((put_m ((put_m ((new_m 32).1) 3 (sector_m (UInt8.ofNat 1))).1) 3 (sector_m (UInt8.ofNat 2))).1) 3).2 = 0) rfl rfl (z_eql ((get_m ((put_m ((put_m ((new_m 32).1) 3 (sector_m (UInt8.ofNat 1))).1) 3 (sector_m (UInt8.ofNat 2))).1) 3).2) 0 rfl rfl rfl) (fun hs155 => ?_) (fun hs155 => ?_)
  rotate_left
  · simp only [nz1, nz2, nz3]
    refine lvw 70 (.bool false) rfl rfl (run_pick rfl rfl rfl) ?_
    simp only [nz1, nz2, nz3]
    refine lvw 71 (.bool false) rfl rfl (run_mv rfl rfl) ?_
    simp only [nz1, nz2, nz3]
    refine lst_skip 72 rfl rfl ?_
    simp only [nz1, nz2, nz3]
    refine lst_skip 73 rfl rfl ?_
    simp only [nz1, nz2, nz3]
    refine lvw 74 (.bool false) rfl rfl (run_pickf rfl rfl rfl) ?_
    simp only [nz1, nz2, nz3]
    refine lvw 75 (.bool false) rfl rfl (run_mv rfl rfl) ?_
    simp only [nz1, nz2, nz3]
    refine lst_skip 76 rfl rfl ?_
    simp only [nz1, nz2, nz3]
    refine lst_skip 77 rfl rfl ?_
    simp only [nz1, nz2, nz3]
    refine lvw 78 (.bool false) rfl rfl (run_pickf rfl rfl rfl) ?_
    simp only [nz1, nz2, nz3]
    refine lvw 79 (.bool false) rfl rfl (run_mv rfl rfl) ?_
    simp only [nz1, nz2, nz3]
    refine lst_skip 80 rfl rfl ?_
    simp only [nz1, nz2, nz3]
    refine lst_skip 81 rfl rfl ?_
    simp only [nz1, nz2, nz3]
    refine lst_skip 82 rfl rfl ?_
    simp only [nz1, nz2, nz3]
    refine lvw 83 (.bool false) rfl rfl (run_pickf rfl rfl rfl) ?_
    simp only [nz1, nz2, nz3]
    refine lvw 84 (.bool false) rfl rfl (run_mv rfl rfl) ?_
    simp only [nz1, nz2, nz3]
    refine lst_skip 85 rfl rfl ?_
    simp only [nz1, nz2, nz3]
    refine lst_skip 86 rfl rfl ?_
    simp only [nz1, nz2, nz3]
    refine lst_skip 87 rfl rfl ?_
    simp only [nz1, nz2, nz3]
    refine lvw 88 (.bool false) rfl rfl (run_pickf rfl rfl rfl) ?_
    simp only [nz1, nz2, nz3]
    refine lvw 89 (.bool false) rfl rfl (run_mv rfl rfl) ?_
    simp only [nz1, nz2, nz3]
    refine lst_skip 90 rfl rfl ?_
    simp only [nz1, nz2, nz3]
    refine lst_skip 91 rfl rfl ?_
    simp only [nz1, nz2, nz3]
    refine lst_skip 92 rfl rfl ?_
    simp only [nz1, nz2, nz3]
    refine lvw 93 (.bool false) rfl rfl (run_pickf rfl rfl rfl) ?_
    simp only [nz1, nz2, nz3]
    refine lvw 0 (.bool false) rfl rfl (run_as rfl rfl) ?_
    simp only [nz1, nz2]
    refine wpList_nil ?_
    refine then_n (hK151 _ _ ?_)
    refine wp_ret ?_
    have he171 : awake_m = false := (show awake_m = false from by unfold awake_m; rw [if_pos hs152, if_pos hs153, if_pos hs154, if_neg hs155] <;> rfl)
    exact ⟨rfl, .bool false, res_t rfl rfl, ⟨by rw [he171], hm150.below⟩⟩
  simp only [nz1, nz2, nz3]
  refine lvw 70 (.bool true) rfl rfl (run_pick rfl rfl rfl) ?_
  simp only [nz1, nz2, nz3]
  refine lvw 71 (.bool true) rfl rfl (run_mv rfl rfl) ?_
  simp only [nz1, nz2, nz3]
  refine lvw 72 (.int .i64 ((get_m ((crash_m ((put_m ((put_m ((new_m 32).1) 3 (sector_m (UInt8.ofNat 1))).1) 3 (sector_m (UInt8.ofNat 2))).1) ([(UInt8.ofNat 1)] : List UInt8) (-1)).1) 3).2)) rfl rfl (run_mv rfl rfl) ?_
  simp only [nz1, nz2, nz3]
  refine lvb 73 ((get_m ((crash_m ((put_m ((put_m ((new_m 32).1) 3 (sector_m (UInt8.ofNat 1))).1) 3 (sector_m (UInt8.ofNat 2))).1) ([(UInt8.ofNat 1)] : List UInt8) (-1)).1) 3).2 = 0) rfl rfl (z_eql ((get_m ((crash_m ((put_m ((put_m ((new_m 32).1) 3 (sector_m (UInt8.ofNat 1))).1) 3 (sector_m (UInt8.ofNat 2))).1) ([(UInt8.ofNat 1)] : List UInt8) (-1)).1) 3).2) 0 rfl rfl rfl) (fun hs156 => ?_) (fun hs156 => ?_)
  rotate_left
  · simp only [nz1, nz2, nz3]
    refine lvw 74 (.bool false) rfl rfl (run_pick rfl rfl rfl) ?_
    simp only [nz1, nz2, nz3]
    refine lvw 75 (.bool false) rfl rfl (run_mv rfl rfl) ?_
    simp only [nz1, nz2, nz3]
    refine lst_skip 76 rfl rfl ?_
    simp only [nz1, nz2, nz3]
    refine lst_skip 77 rfl rfl ?_
    simp only [nz1, nz2, nz3]
    refine lvw 78 (.bool false) rfl rfl (run_pickf rfl rfl rfl) ?_
    simp only [nz1, nz2, nz3]
    refine lvw 79 (.bool false) rfl rfl (run_mv rfl rfl) ?_
    simp only [nz1, nz2, nz3]
    refine lst_skip 80 rfl rfl ?_
    simp only [nz1, nz2, nz3]
    refine lst_skip 81 rfl rfl ?_
    simp only [nz1, nz2, nz3]
    refine lst_skip 82 rfl rfl ?_
    simp only [nz1, nz2, nz3]
    refine lvw 83 (.bool false) rfl rfl (run_pickf rfl rfl rfl) ?_
    simp only [nz1, nz2, nz3]
    refine lvw 84 (.bool false) rfl rfl (run_mv rfl rfl) ?_
    simp only [nz1, nz2, nz3]
    refine lst_skip 85 rfl rfl ?_
    simp only [nz1, nz2, nz3]
    refine lst_skip 86 rfl rfl ?_
    simp only [nz1, nz2, nz3]
    refine lst_skip 87 rfl rfl ?_
    simp only [nz1, nz2, nz3]
    refine lvw 88 (.bool false) rfl rfl (run_pickf rfl rfl rfl) ?_
    simp only [nz1, nz2, nz3]
    refine lvw 89 (.bool false) rfl rfl (run_mv rfl rfl) ?_
    simp only [nz1, nz2, nz3]
    refine lst_skip 90 rfl rfl ?_
    simp only [nz1, nz2, nz3]
    refine lst_skip 91 rfl rfl ?_
    simp only [nz1, nz2, nz3]
    refine lst_skip 92 rfl rfl ?_
    simp only [nz1, nz2, nz3]
    refine lvw 93 (.bool false) rfl rfl (run_pickf rfl rfl rfl) ?_
    simp only [nz1, nz2, nz3]
    refine lvw 0 (.bool false) rfl rfl (run_as rfl rfl) ?_
    simp only [nz1, nz2]
    refine wpList_nil ?_
    refine then_n (hK151 _ _ ?_)
    refine wp_ret ?_
    have he170 : awake_m = false := (show awake_m = false from by unfold awake_m; rw [if_pos hs152, if_pos hs153, if_pos hs154, if_pos hs155, if_neg hs156] <;> rfl)
    exact ⟨rfl, .bool false, res_t rfl rfl, ⟨by rw [he170], hm150.below⟩⟩
  simp only [nz1, nz2, nz3]
  refine lvw 74 (.bool true) rfl rfl (run_pick rfl rfl rfl) ?_
  simp only [nz1, nz2, nz3]
  refine lvw 75 (.bool true) rfl rfl (run_mv rfl rfl) ?_
  simp only [nz1, nz2, nz3]
  refine lvw 76 (.int .i64 ((get_m ((crash_m ((put_m ((put_m ((new_m 32).1) 3 (sector_m (UInt8.ofNat 1))).1) 3 (sector_m (UInt8.ofNat 2))).1) ([] : List UInt8) (-1)).1) 3).2)) rfl rfl (run_mv rfl rfl) ?_
  simp only [nz1, nz2, nz3]
  refine lvb 77 ((get_m ((crash_m ((put_m ((put_m ((new_m 32).1) 3 (sector_m (UInt8.ofNat 1))).1) 3 (sector_m (UInt8.ofNat 2))).1) ([] : List UInt8) (-1)).1) 3).2 = 0) rfl rfl (z_eql ((get_m ((crash_m ((put_m ((put_m ((new_m 32).1) 3 (sector_m (UInt8.ofNat 1))).1) 3 (sector_m (UInt8.ofNat 2))).1) ([] : List UInt8) (-1)).1) 3).2) 0 rfl rfl rfl) (fun hs157 => ?_) (fun hs157 => ?_)
  rotate_left
  · simp only [nz1, nz2, nz3]
    refine lvw 78 (.bool false) rfl rfl (run_pick rfl rfl rfl) ?_
    simp only [nz1, nz2, nz3]
    refine lvw 79 (.bool false) rfl rfl (run_mv rfl rfl) ?_
    simp only [nz1, nz2, nz3]
    refine lst_skip 80 rfl rfl ?_
    simp only [nz1, nz2, nz3]
    refine lst_skip 81 rfl rfl ?_
    simp only [nz1, nz2, nz3]
    refine lst_skip 82 rfl rfl ?_
    simp only [nz1, nz2, nz3]
    refine lvw 83 (.bool false) rfl rfl (run_pickf rfl rfl rfl) ?_
    simp only [nz1, nz2, nz3]
    refine lvw 84 (.bool false) rfl rfl (run_mv rfl rfl) ?_
    simp only [nz1, nz2, nz3]
    refine lst_skip 85 rfl rfl ?_
    simp only [nz1, nz2, nz3]
    refine lst_skip 86 rfl rfl ?_
    simp only [nz1, nz2, nz3]
    refine lst_skip 87 rfl rfl ?_
    simp only [nz1, nz2, nz3]
    refine lvw 88 (.bool false) rfl rfl (run_pickf rfl rfl rfl) ?_
    simp only [nz1, nz2, nz3]
    refine lvw 89 (.bool false) rfl rfl (run_mv rfl rfl) ?_
    simp only [nz1, nz2, nz3]
    refine lst_skip 90 rfl rfl ?_
    simp only [nz1, nz2, nz3]
    refine lst_skip 91 rfl rfl ?_
    simp only [nz1, nz2, nz3]
    refine lst_skip 92 rfl rfl ?_
    simp only [nz1, nz2, nz3]
    refine lvw 93 (.bool false) rfl rfl (run_pickf rfl rfl rfl) ?_
    simp only [nz1, nz2, nz3]
    refine lvw 0 (.bool false) rfl rfl (run_as rfl rfl) ?_
    simp only [nz1, nz2]
    refine wpList_nil ?_
    refine then_n (hK151 _ _ ?_)
    refine wp_ret ?_
    have he169 : awake_m = false := (show awake_m = false from by unfold awake_m; rw [if_pos hs152, if_pos hs153, if_pos hs154, if_pos hs155, if_pos hs156, if_neg hs157] <;> rfl)
    exact ⟨rfl, .bool false, res_t rfl rfl, ⟨by rw [he169], hm150.below⟩⟩
  simp only [nz1, nz2, nz3]
  refine lvw 78 (.bool true) rfl rfl (run_pick rfl rfl rfl) ?_
  simp only [nz1, nz2, nz3]
  refine lvw 79 (.bool true) rfl rfl (run_mv rfl rfl) ?_
  simp only [nz1, nz2, nz3]
  refine lvw 80 (.string (tx ((get_m ((put_m ((put_m ((new_m 32).1) 3 (sector_m (UInt8.ofNat 1))).1) 3 (sector_m (UInt8.ofNat 2))).1) 3).1))) rfl rfl (run_mv rfl rfl) ?_
  simp only [nz1, nz2, nz3]
  refine lst rfl (m_call hm150 81 (.string (tx (sector_m (UInt8.ofNat 2)))) rfl (run_sector rfl rfl) (sector_any (UInt8.ofNat 2)  _  ) (fun w158 (hm159 : Mm none (fun _ => True) w w158 [.see (DkR ((new_m 32).1) v5 v6) F8, .blk g16 #[v67, v68, .int .i64 (((put_m ((put_m ((new_m 32).1) 3 (sector_m (UInt8.ofNat 1))).1) 3 (sector_m (UInt8.ofNat 2))).1).fuse), .bool (((put_m ((put_m ((new_m 32).1) 3 (sector_m (UInt8.ofNat 1))).1) 3 (sector_m (UInt8.ofNat 2))).1).down)] 25, .see (DkR ((put_m ((new_m 32).1) 3 (sector_m (UInt8.ofNat 1))).1) v28 v29) F31, .see (DkR ((put_m ((put_m ((new_m 32).1) 3 (sector_m (UInt8.ofNat 1))).1) 3 (sector_m (UInt8.ofNat 2))).1) v67 v68) F70, .see (Rs eB 1 ([(UInt8.ofNat 1)] : List UInt8) (.slice (some ⟨g102, 0, none⟩) 1 1)) (fp (.slice (some ⟨g102, 0, none⟩) 1 1) (List.flatMap eB ([(UInt8.ofNat 1)] : List UInt8))), .see (DkR ((crash_m ((put_m ((put_m ((new_m 32).1) 3 (sector_m (UInt8.ofNat 1))).1) 3 (sector_m (UInt8.ofNat 2))).1) ([(UInt8.ofNat 1)] : List UInt8) (-1)).1) v107 v108) F110, .blk g118 #[v107, v108, .int .i64 (((crash_m ((put_m ((put_m ((new_m 32).1) 3 (sector_m (UInt8.ofNat 1))).1) 3 (sector_m (UInt8.ofNat 2))).1) ([(UInt8.ofNat 1)] : List UInt8) (-1)).1).fuse), .bool (((crash_m ((put_m ((put_m ((new_m 32).1) 3 (sector_m (UInt8.ofNat 1))).1) 3 (sector_m (UInt8.ofNat 2))).1) ([(UInt8.ofNat 1)] : List UInt8) (-1)).1).down)] 25, .see (DkR ((crash_m ((put_m ((put_m ((new_m 32).1) 3 (sector_m (UInt8.ofNat 1))).1) 3 (sector_m (UInt8.ofNat 2))).1) ([] : List UInt8) (-1)).1) v126 v127) F129, .blk g137 #[v126, v127, .int .i64 (((crash_m ((put_m ((put_m ((new_m 32).1) 3 (sector_m (UInt8.ofNat 1))).1) 3 (sector_m (UInt8.ofNat 2))).1) ([] : List UInt8) (-1)).1).fuse), .bool (((crash_m ((put_m ((put_m ((new_m 32).1) 3 (sector_m (UInt8.ofNat 1))).1) 3 (sector_m (UInt8.ofNat 2))).1) ([] : List UInt8) (-1)).1).down)] 25]) => ?_))
  simp only [nz1, nz2, nz3]
  refine lvb 82 ((get_m ((put_m ((put_m ((new_m 32).1) 3 (sector_m (UInt8.ofNat 1))).1) 3 (sector_m (UInt8.ofNat 2))).1) 3).1 = (sector_m (UInt8.ofNat 2))) rfl rfl (t_eql ((get_m ((put_m ((put_m ((new_m 32).1) 3 (sector_m (UInt8.ofNat 1))).1) 3 (sector_m (UInt8.ofNat 2))).1) 3).1) (sector_m (UInt8.ofNat 2)) rfl rfl rfl) (fun hs160 => ?_) (fun hs160 => ?_)
  rotate_left
  · simp only [nz1, nz2, nz3]
    refine lvw 83 (.bool false) rfl rfl (run_pick rfl rfl rfl) ?_
    simp only [nz1, nz2, nz3]
    refine lvw 84 (.bool false) rfl rfl (run_mv rfl rfl) ?_
    simp only [nz1, nz2, nz3]
    refine lst_skip 85 rfl rfl ?_
    simp only [nz1, nz2, nz3]
    refine lst_skip 86 rfl rfl ?_
    simp only [nz1, nz2, nz3]
    refine lst_skip 87 rfl rfl ?_
    simp only [nz1, nz2, nz3]
    refine lvw 88 (.bool false) rfl rfl (run_pickf rfl rfl rfl) ?_
    simp only [nz1, nz2, nz3]
    refine lvw 89 (.bool false) rfl rfl (run_mv rfl rfl) ?_
    simp only [nz1, nz2, nz3]
    refine lst_skip 90 rfl rfl ?_
    simp only [nz1, nz2, nz3]
    refine lst_skip 91 rfl rfl ?_
    simp only [nz1, nz2, nz3]
    refine lst_skip 92 rfl rfl ?_
    simp only [nz1, nz2, nz3]
    refine lvw 93 (.bool false) rfl rfl (run_pickf rfl rfl rfl) ?_
    simp only [nz1, nz2, nz3]
    refine lvw 0 (.bool false) rfl rfl (run_as rfl rfl) ?_
    simp only [nz1, nz2]
    refine wpList_nil ?_
    refine then_n (hK151 _ _ ?_)
    refine wp_ret ?_
    have he168 : awake_m = false := (show awake_m = false from by unfold awake_m; rw [if_pos hs152, if_pos hs153, if_pos hs154, if_pos hs155, if_pos hs156, if_pos hs157, if_neg hs160] <;> rfl)
    exact ⟨rfl, .bool false, res_t rfl rfl, ⟨by rw [he168], hm159.below⟩⟩
  simp only [nz1, nz2, nz3]
  refine lvw 83 (.bool true) rfl rfl (run_pick rfl rfl rfl) ?_
  simp only [nz1, nz2, nz3]
  refine lvw 84 (.bool true) rfl rfl (run_mv rfl rfl) ?_
  simp only [nz1, nz2, nz3]
  refine lvw 85 (.string (tx ((get_m ((crash_m ((put_m ((put_m ((new_m 32).1) 3 (sector_m (UInt8.ofNat 1))).1) 3 (sector_m (UInt8.ofNat 2))).1) ([(UInt8.ofNat 1)] : List UInt8) (-1)).1) 3).1))) rfl rfl (run_mv rfl rfl) ?_
  simp only [nz1, nz2, nz3]
  refine lst rfl (m_call hm159 86 (.string (tx (sector_m (UInt8.ofNat 1)))) rfl (run_sector rfl rfl) (sector_any (UInt8.ofNat 1)  _  ) (fun w161 (hm162 : Mm none (fun _ => True) w w161 [.see (DkR ((new_m 32).1) v5 v6) F8, .blk g16 #[v67, v68, .int .i64 (((put_m ((put_m ((new_m 32).1) 3 (sector_m (UInt8.ofNat 1))).1) 3 (sector_m (UInt8.ofNat 2))).1).fuse), .bool (((put_m ((put_m ((new_m 32).1) 3 (sector_m (UInt8.ofNat 1))).1) 3 (sector_m (UInt8.ofNat 2))).1).down)] 25, .see (DkR ((put_m ((new_m 32).1) 3 (sector_m (UInt8.ofNat 1))).1) v28 v29) F31, .see (DkR ((put_m ((put_m ((new_m 32).1) 3 (sector_m (UInt8.ofNat 1))).1) 3 (sector_m (UInt8.ofNat 2))).1) v67 v68) F70, .see (Rs eB 1 ([(UInt8.ofNat 1)] : List UInt8) (.slice (some ⟨g102, 0, none⟩) 1 1)) (fp (.slice (some ⟨g102, 0, none⟩) 1 1) (List.flatMap eB ([(UInt8.ofNat 1)] : List UInt8))), .see (DkR ((crash_m ((put_m ((put_m ((new_m 32).1) 3 (sector_m (UInt8.ofNat 1))).1) 3 (sector_m (UInt8.ofNat 2))).1) ([(UInt8.ofNat 1)] : List UInt8) (-1)).1) v107 v108) F110, .blk g118 #[v107, v108, .int .i64 (((crash_m ((put_m ((put_m ((new_m 32).1) 3 (sector_m (UInt8.ofNat 1))).1) 3 (sector_m (UInt8.ofNat 2))).1) ([(UInt8.ofNat 1)] : List UInt8) (-1)).1).fuse), .bool (((crash_m ((put_m ((put_m ((new_m 32).1) 3 (sector_m (UInt8.ofNat 1))).1) 3 (sector_m (UInt8.ofNat 2))).1) ([(UInt8.ofNat 1)] : List UInt8) (-1)).1).down)] 25, .see (DkR ((crash_m ((put_m ((put_m ((new_m 32).1) 3 (sector_m (UInt8.ofNat 1))).1) 3 (sector_m (UInt8.ofNat 2))).1) ([] : List UInt8) (-1)).1) v126 v127) F129, .blk g137 #[v126, v127, .int .i64 (((crash_m ((put_m ((put_m ((new_m 32).1) 3 (sector_m (UInt8.ofNat 1))).1) 3 (sector_m (UInt8.ofNat 2))).1) ([] : List UInt8) (-1)).1).fuse), .bool (((crash_m ((put_m ((put_m ((new_m 32).1) 3 (sector_m (UInt8.ofNat 1))).1) 3 (sector_m (UInt8.ofNat 2))).1) ([] : List UInt8) (-1)).1).down)] 25]) => ?_))
  simp only [nz1, nz2, nz3]
  refine lvb 87 ((get_m ((crash_m ((put_m ((put_m ((new_m 32).1) 3 (sector_m (UInt8.ofNat 1))).1) 3 (sector_m (UInt8.ofNat 2))).1) ([(UInt8.ofNat 1)] : List UInt8) (-1)).1) 3).1 = (sector_m (UInt8.ofNat 1))) rfl rfl (t_eql ((get_m ((crash_m ((put_m ((put_m ((new_m 32).1) 3 (sector_m (UInt8.ofNat 1))).1) 3 (sector_m (UInt8.ofNat 2))).1) ([(UInt8.ofNat 1)] : List UInt8) (-1)).1) 3).1) (sector_m (UInt8.ofNat 1)) rfl rfl rfl) (fun hs163 => ?_) (fun hs163 => ?_)
  · simp only [nz1, nz2, nz3]
    refine lvw 88 (.bool true) rfl rfl (run_pick rfl rfl rfl) ?_
    simp only [nz1, nz2, nz3]
    refine lvw 89 (.bool true) rfl rfl (run_mv rfl rfl) ?_
    simp only [nz1, nz2, nz3]
    refine lvw 90 (.string (tx ((get_m ((crash_m ((put_m ((put_m ((new_m 32).1) 3 (sector_m (UInt8.ofNat 1))).1) 3 (sector_m (UInt8.ofNat 2))).1) ([] : List UInt8) (-1)).1) 3).1))) rfl rfl (run_mv rfl rfl) ?_
    simp only [nz1, nz2, nz3]
    refine lst rfl (m_call hm162 91 (.string (tx (sector_m (UInt8.ofNat 0)))) rfl (run_sector rfl rfl) (sector_any (UInt8.ofNat 0)  _  ) (fun w164 (hm165 : Mm none (fun _ => True) w w164 [.see (DkR ((new_m 32).1) v5 v6) F8, .blk g16 #[v67, v68, .int .i64 (((put_m ((put_m ((new_m 32).1) 3 (sector_m (UInt8.ofNat 1))).1) 3 (sector_m (UInt8.ofNat 2))).1).fuse), .bool (((put_m ((put_m ((new_m 32).1) 3 (sector_m (UInt8.ofNat 1))).1) 3 (sector_m (UInt8.ofNat 2))).1).down)] 25, .see (DkR ((put_m ((new_m 32).1) 3 (sector_m (UInt8.ofNat 1))).1) v28 v29) F31, .see (DkR ((put_m ((put_m ((new_m 32).1) 3 (sector_m (UInt8.ofNat 1))).1) 3 (sector_m (UInt8.ofNat 2))).1) v67 v68) F70, .see (Rs eB 1 ([(UInt8.ofNat 1)] : List UInt8) (.slice (some ⟨g102, 0, none⟩) 1 1)) (fp (.slice (some ⟨g102, 0, none⟩) 1 1) (List.flatMap eB ([(UInt8.ofNat 1)] : List UInt8))), .see (DkR ((crash_m ((put_m ((put_m ((new_m 32).1) 3 (sector_m (UInt8.ofNat 1))).1) 3 (sector_m (UInt8.ofNat 2))).1) ([(UInt8.ofNat 1)] : List UInt8) (-1)).1) v107 v108) F110, .blk g118 #[v107, v108, .int .i64 (((crash_m ((put_m ((put_m ((new_m 32).1) 3 (sector_m (UInt8.ofNat 1))).1) 3 (sector_m (UInt8.ofNat 2))).1) ([(UInt8.ofNat 1)] : List UInt8) (-1)).1).fuse), .bool (((crash_m ((put_m ((put_m ((new_m 32).1) 3 (sector_m (UInt8.ofNat 1))).1) 3 (sector_m (UInt8.ofNat 2))).1) ([(UInt8.ofNat 1)] : List UInt8) (-1)).1).down)] 25, .see (DkR ((crash_m ((put_m ((put_m ((new_m 32).1) 3 (sector_m (UInt8.ofNat 1))).1) 3 (sector_m (UInt8.ofNat 2))).1) ([] : List UInt8) (-1)).1) v126 v127) F129, .blk g137 #[v126, v127, .int .i64 (((crash_m ((put_m ((put_m ((new_m 32).1) 3 (sector_m (UInt8.ofNat 1))).1) 3 (sector_m (UInt8.ofNat 2))).1) ([] : List UInt8) (-1)).1).fuse), .bool (((crash_m ((put_m ((put_m ((new_m 32).1) 3 (sector_m (UInt8.ofNat 1))).1) 3 (sector_m (UInt8.ofNat 2))).1) ([] : List UInt8) (-1)).1).down)] 25]) => ?_))
    simp only [nz1, nz2, nz3]
    refine lvw 92 (.bool (decide ((get_m ((crash_m ((put_m ((put_m ((new_m 32).1) 3 (sector_m (UInt8.ofNat 1))).1) 3 (sector_m (UInt8.ofNat 2))).1) ([] : List UInt8) (-1)).1) 3).1 = (sector_m (UInt8.ofNat 0))))) rfl rfl (t_eql ((get_m ((crash_m ((put_m ((put_m ((new_m 32).1) 3 (sector_m (UInt8.ofNat 1))).1) 3 (sector_m (UInt8.ofNat 2))).1) ([] : List UInt8) (-1)).1) 3).1) (sector_m (UInt8.ofNat 0)) rfl rfl rfl) ?_
    simp only [nz1, nz2, nz3]
    refine lvw 93 (.bool (decide ((get_m ((crash_m ((put_m ((put_m ((new_m 32).1) 3 (sector_m (UInt8.ofNat 1))).1) 3 (sector_m (UInt8.ofNat 2))).1) ([] : List UInt8) (-1)).1) 3).1 = (sector_m (UInt8.ofNat 0))))) rfl rfl (run_pick rfl rfl rfl) ?_
    simp only [nz1, nz2, nz3]
    refine lvw 0 (.bool (decide ((get_m ((crash_m ((put_m ((put_m ((new_m 32).1) 3 (sector_m (UInt8.ofNat 1))).1) 3 (sector_m (UInt8.ofNat 2))).1) ([] : List UInt8) (-1)).1) 3).1 = (sector_m (UInt8.ofNat 0))))) rfl rfl (run_as rfl rfl) ?_
    simp only [nz1, nz2]
    refine wpList_nil ?_
    refine then_n (hK151 _ _ ?_)
    refine wp_ret ?_
    have he166 : awake_m = (decide ((get_m ((crash_m ((put_m ((put_m ((new_m 32).1) 3 (sector_m (UInt8.ofNat 1))).1) 3 (sector_m (UInt8.ofNat 2))).1) ([] : List UInt8) (-1)).1) 3).1 = (sector_m (UInt8.ofNat 0)))) := (show awake_m = (decide ((get_m ((crash_m ((put_m ((put_m ((new_m 32).1) 3 (sector_m (UInt8.ofNat 1))).1) 3 (sector_m (UInt8.ofNat 2))).1) ([] : List UInt8) (-1)).1) 3).1 = (sector_m (UInt8.ofNat 0)))) from by unfold awake_m; rw [if_pos hs152, if_pos hs153, if_pos hs154, if_pos hs155, if_pos hs156, if_pos hs157, if_pos hs160, if_pos hs163] <;> rfl)
    exact ⟨rfl, .bool (decide ((get_m ((crash_m ((put_m ((put_m ((new_m 32).1) 3 (sector_m (UInt8.ofNat 1))).1) 3 (sector_m (UInt8.ofNat 2))).1) ([] : List UInt8) (-1)).1) 3).1 = (sector_m (UInt8.ofNat 0)))), res_t rfl rfl, ⟨by rw [he166], hm165.below⟩⟩
  simp only [nz1, nz2, nz3]
  refine lvw 88 (.bool false) rfl rfl (run_pick rfl rfl rfl) ?_
  simp only [nz1, nz2, nz3]
  refine lvw 89 (.bool false) rfl rfl (run_mv rfl rfl) ?_
  simp only [nz1, nz2, nz3]
  refine lst_skip 90 rfl rfl ?_
  simp only [nz1, nz2, nz3]
  refine lst_skip 91 rfl rfl ?_
  simp only [nz1, nz2, nz3]
  refine lst_skip 92 rfl rfl ?_
  simp only [nz1, nz2, nz3]
  refine lvw 93 (.bool false) rfl rfl (run_pickf rfl rfl rfl) ?_
  simp only [nz1, nz2, nz3]
  refine lvw 0 (.bool false) rfl rfl (run_as rfl rfl) ?_
  simp only [nz1, nz2]
  refine wpList_nil ?_
  refine then_n (hK151 _ _ ?_)
  refine wp_ret ?_
  have he167 : awake_m = false := (show awake_m = false from by unfold awake_m; rw [if_pos hs152, if_pos hs153, if_pos hs154, if_pos hs155, if_pos hs156, if_pos hs157, if_pos hs160, if_neg hs163] <;> rfl)
  exact ⟨rfl, .bool false, res_t rfl rfl, ⟨by rw [he167], hm162.below⟩⟩
theorem run_awake {o : Oper} {a : Act} {w : World} (ho : o.op = .call { callee := .value (.func 19), args := #[], argTypes := #[] })  :
    (execOp a.eval o).run Try.prog w = .ok (.enter 19 #[]) w := by
  unfold execOp
  simp only [ho]
  have hf : a.eval (.func 19) = .func (.func 19) #[] #[] := rfl
  generalize a.eval = f at *
  go_simp
end Go.Proofs.Ytmammofbgllceaa.Bk
