/- Layer 17: a sector read. -/
import Derived.Test.YtmammofbgllceaaNodF
namespace Go.Proofs.Ytmammofbgllceaa.Nod
open Go.RowKit
open Go.Proofs.Ytmammofbgllceaa.Sym Go.Proofs.Ytmammofbgllceaa.Mem
open Go.Proofs.Ytmammofbgllceaa.Sx hiding Mm m_alloc m_store m_put m_call m_callx m_make m_append r_string r_ixS

set_option maxHeartbeats 4000000 in
set_option maxRecDepth 100000 in
theorem read_any (s : List UInt8) (w : World) : Calls Try.prog 29 #[.string (tx s)] w (fun e w' => (∃ v, e = .returned (.tuple #[ndVal (readN s) v, .int .i64 (errRd s)]) ∧ w'.ownsRow w.heap.size 3 1 v (readN s).blocks.length ((readN s).blocks.map iv)) ∧ Below w.heap.size w w') := by
  go_enter Try.func29, Try.ntmps29
  have hm0 := Mm.nil none w
  refine wp_seq_k (fun K1 hK1 => ?_)
  refine wp_region_lit ?_
  refine lst (wanted_none rfl) (m_alloc (c := #[.int .i64 0, .int .i64 0, .int .i64 0, .int .i64 0, .int .i64 0, .int .i64 0, .int .i64 0, .slice none 0 0]) (T := 48) hm0 2 rfl (by unfold execOp; go_simp; try rfl) (fun g4 w2 (hm3 : Mm none w w2 [.blk g4 #[.int .i64 0, .int .i64 0, .int .i64 0, .int .i64 0, .int .i64 0, .int .i64 0, .int .i64 0, .slice none 0 0] 48]) => ?_))
  simp only [nz1, nz2, nz3]
  refine lv 3 (.int .i64 0) rfl rfl (run_as rfl rfl) ?_
  simp only [nz1, nz2, nz3]
  refine wpList_nil ?_
  refine then_n (hK1 _ _ ?_)
  refine wp_seq_k (fun K5 hK5 => ?_)
  refine wp_seq_k (fun K6 hK6 => ?_)
  refine wp_region_lit ?_
  refine lv 9 (.string (tx s)) rfl rfl (run_mv rfl rfl) ?_
  simp only [nz1, nz2, nz3]
  refine lv 10 (.int .i64 ((s.length : Nat) : Int)) rfl rfl (t_len rfl Try.underlying9 rfl) ?_
  simp only [nz1, nz2, nz3]
  refine lv 11 (.bool (decide (¬ s.length = 256))) rfl rfl (r_neq s.length 256 rfl rfl rfl) ?_
  simp only [nz1, nz2, nz3]
  refine wpList_nil ?_
  refine then_n (hK6 _ _ ?_)
  refine cond_d (¬ s.length = 256) rfl (fun hc7 => ?_) (fun hc7 => ?_)
  · rw [decide_eq_true hc7]
    refine wp_seq_k (fun K8 hK8 => ?_)
    refine wp_region_lit ?_
    refine lv 12 (.agg #[.int .i64 0, .int .i64 0, .int .i64 0, .int .i64 0, .int .i64 0, .int .i64 0, .int .i64 0, .slice none 0 0]) rfl rfl (by unfold execOp; go_simp; try rfl) ?_
    simp only [nz1, nz2, nz3]
    refine lst (wanted_none rfl) (m_store 0 48 _ _ 0 (.agg #[.int .i64 0, .int .i64 0, .int .i64 0, .int .i64 0, .int .i64 0, .int .i64 0, .int .i64 0, .slice none 0 0]) (old := #[.int .i64 0, .int .i64 0, .int .i64 0, .int .i64 0, .int .i64 0, .int .i64 0, .int .i64 0, .slice none 0 0]) (new := #[.int .i64 0, .int .i64 0, .int .i64 0, .int .i64 0, .int .i64 0, .int .i64 0, .int .i64 0, .slice none 0 0]) hm3 rfl rfl rfl rfl rfl (by exact sz_node) (show 8 ≤ 8 from Nat.le_refl _) (by simp [Value.cells, Value.oneCell']) rfl (fun w9 (hm10 : Mm none w w9 [.blk g4 #[.int .i64 0, .int .i64 0, .int .i64 0, .int .i64 0, .int .i64 0, .int .i64 0, .int .i64 0, .slice none 0 0] 48]) => ?_))
    refine lv 3 (.int .i64 2) rfl rfl (run_as rfl rfl) ?_
    simp only [nz1, nz2, nz3]
    refine wpList_nil ?_
    refine then_n (hK8 _ _ ?_)
    refine wp_ret ?_
    refine then_r ?_
    exact ⟨rfl, .tuple #[.agg #[.int .i64 0, .int .i64 0, .int .i64 0, .int .i64 0, .int .i64 0, .int .i64 0, .int .i64 0, .slice none 0 0], .int .i64 2], Mem.res_ct rfl rfl (hm10.at 0 rfl) Try.underlying48 rfl (by exact sz_node) rfl, ⟨read_no (fun hg => hc7 hg.1), hm10.below⟩⟩
  rw [decide_eq_false hc7]
  have h256 : s.length = 256 := Classical.not_not.1 hc7
  refine wp_skip ?_
  refine then_n (hK5 _ _ ?_)
  refine wp_seq_k (fun K11 hK11 => ?_)
  refine wp_mono (Q := fun e a' w' => e = Exit.normal ∧ ∃ g30 : Nat, a' = ⟨#[.string (tx s), undef, .pointer (some ⟨g4, 0, none⟩), .int .i64 0, .pointer (some ⟨g30, 0, none⟩), undef, undef, undef, undef, .string (tx s), .int .i64 ((s.length : Nat) : Int), .bool false, undef, .string (tx s), .string (tx (s.take 1)), .int .i64 (getZ (s.take 1)), .string (tx s), .string (tx ((s.take 3).drop 1)), .int .i64 (getZ ((s.take 3).drop 1)), .string (tx s), .string (tx ((s.take 7).drop 3)), .int .i64 (getZ ((s.take 7).drop 3)), .string (tx s), .string (tx ((s.take 11).drop 7)), .int .i64 (getZ ((s.take 11).drop 7)), .string (tx s), .string (tx ((s.take 15).drop 11)), .int .i64 (getZ ((s.take 15).drop 11)), .string (tx s), .string (tx ((s.take 23).drop 15)), .int .i64 (getZ ((s.take 23).drop 15)), .string (tx s), .string (tx ((s.take 27).drop 23)), .int .i64 (getZ ((s.take 27).drop 23)), .agg #[.int .i64 (getZ (s.take 1)), .int .i64 (getZ ((s.take 3).drop 1)), .int .i64 (getZ ((s.take 11).drop 7)), .int .i64 (getZ ((s.take 15).drop 11)), .int .i64 (getZ ((s.take 23).drop 15)), .int .i64 (getZ ((s.take 7).drop 3)), .int .i64 (getZ ((s.take 27).drop 23)), .slice none 0 0], undef, undef, undef, undef, undef, undef, undef, undef, undef, undef, undef, undef, undef, undef, undef, undef, undef, undef, undef, undef, undef, undef, undef, undef, undef, undef, undef, undef, undef, undef, undef, undef, undef, undef, undef, undef, undef, undef, undef], []⟩ ∧ Mm none w w' [.blk g4 #[.int .i64 0, .int .i64 0, .int .i64 0, .int .i64 0, .int .i64 0, .int .i64 0, .int .i64 0, .slice none 0 0] 48, .blk g30 #[.int .i64 (getZ (s.take 1)), .int .i64 (getZ ((s.take 3).drop 1)), .int .i64 (getZ ((s.take 11).drop 7)), .int .i64 (getZ ((s.take 15).drop 11)), .int .i64 (getZ ((s.take 23).drop 15)), .int .i64 (getZ ((s.take 7).drop 3)), .int .i64 (getZ ((s.take 27).drop 23)), .slice none 0 0] 48]) ?_ ?_
  · have hm12 := hm3.drew
    refine wp_region_held_drew (S := fun w' => True) (by kernel_rfl) (trivial) (fun _ => ?_)
    generalize w2.drew = w13 at *
    refine Sym.take_at 0 13 (.string (tx s)) rfl rfl (by kernel_rfl) (by kernel_rfl) (by kernel_rfl) (fun _ _ _ h => nomatch h.1) rfl (fun _ hw => run_mv rfl rfl) (trivial) ?_
    simp only [nz1, nz2, nz3]
    refine Sym.take_at 1 14 (.string (tx (s.take 1))) rfl rfl (by kernel_rfl) (by kernel_rfl) (by kernel_rfl) (fun _ _ _ h => nomatch h.1) rfl (fun _ hw => t_to s 1 (by omega) Try.underlying9 rfl rfl rfl) (trivial) ?_
    simp only [nz1, nz2, nz3]
    refine Sym.take_at 3 16 (.string (tx s)) rfl rfl (by kernel_rfl) (by kernel_rfl) (by kernel_rfl) (fun _ _ _ h => nomatch h.1) rfl (fun _ hw => run_mv rfl rfl) (trivial) ?_
    simp only [nz1, nz2, nz3]
    refine Sym.take_at 4 17 (.string (tx ((s.take 3).drop 1))) rfl rfl (by kernel_rfl) (by kernel_rfl) (by kernel_rfl) (fun _ _ _ h => nomatch h.1) rfl (fun _ hw => t_cut s 1 3 (by omega) (by omega) Try.underlying9 rfl rfl rfl rfl) (trivial) ?_
    simp only [nz1, nz2, nz3]
    refine Sym.take_at 6 19 (.string (tx s)) rfl rfl (by kernel_rfl) (by kernel_rfl) (by kernel_rfl) (fun _ _ _ h => nomatch h.1) rfl (fun _ hw => run_mv rfl rfl) (trivial) ?_
    simp only [nz1, nz2, nz3]
    refine Sym.take_at 7 20 (.string (tx ((s.take 7).drop 3))) rfl rfl (by kernel_rfl) (by kernel_rfl) (by kernel_rfl) (fun _ _ _ h => nomatch h.1) rfl (fun _ hw => t_cut s 3 7 (by omega) (by omega) Try.underlying9 rfl rfl rfl rfl) (trivial) ?_
    simp only [nz1, nz2, nz3]
    refine Sym.take_at 9 22 (.string (tx s)) rfl rfl (by kernel_rfl) (by kernel_rfl) (by kernel_rfl) (fun _ _ _ h => nomatch h.1) rfl (fun _ hw => run_mv rfl rfl) (trivial) ?_
    simp only [nz1, nz2, nz3]
    refine Sym.take_at 10 23 (.string (tx ((s.take 11).drop 7))) rfl rfl (by kernel_rfl) (by kernel_rfl) (by kernel_rfl) (fun _ _ _ h => nomatch h.1) rfl (fun _ hw => t_cut s 7 11 (by omega) (by omega) Try.underlying9 rfl rfl rfl rfl) (trivial) ?_
    simp only [nz1, nz2, nz3]
    refine Sym.take_at 12 25 (.string (tx s)) rfl rfl (by kernel_rfl) (by kernel_rfl) (by kernel_rfl) (fun _ _ _ h => nomatch h.1) rfl (fun _ hw => run_mv rfl rfl) (trivial) ?_
    simp only [nz1, nz2, nz3]
    refine Sym.take_at 13 26 (.string (tx ((s.take 15).drop 11))) rfl rfl (by kernel_rfl) (by kernel_rfl) (by kernel_rfl) (fun _ _ _ h => nomatch h.1) rfl (fun _ hw => t_cut s 11 15 (by omega) (by omega) Try.underlying9 rfl rfl rfl rfl) (trivial) ?_
    simp only [nz1, nz2, nz3]
    refine Sym.take_at 15 28 (.string (tx s)) rfl rfl (by kernel_rfl) (by kernel_rfl) (by kernel_rfl) (fun _ _ _ h => nomatch h.1) rfl (fun _ hw => run_mv rfl rfl) (trivial) ?_
    simp only [nz1, nz2, nz3]
    refine Sym.take_at 16 29 (.string (tx ((s.take 23).drop 15))) rfl rfl (by kernel_rfl) (by kernel_rfl) (by kernel_rfl) (fun _ _ _ h => nomatch h.1) rfl (fun _ hw => t_cut s 15 23 (by omega) (by omega) Try.underlying9 rfl rfl rfl rfl) (trivial) ?_
    simp only [nz1, nz2, nz3]
    refine Sym.take_at 18 31 (.string (tx s)) rfl rfl (by kernel_rfl) (by kernel_rfl) (by kernel_rfl) (fun _ _ _ h => nomatch h.1) rfl (fun _ hw => run_mv rfl rfl) (trivial) ?_
    simp only [nz1, nz2, nz3]
    refine Sym.take_at 19 32 (.string (tx ((s.take 27).drop 23))) rfl rfl (by kernel_rfl) (by kernel_rfl) (by kernel_rfl) (fun _ _ _ h => nomatch h.1) rfl (fun _ hw => t_cut s 23 27 (by omega) (by omega) Try.underlying9 rfl rfl rfl rfl) (trivial) ?_
    simp only [nz1, nz2, nz3]
    refine two_ready 2 22 (by kernel_rfl) ?_ ?_
    · refine opd rfl rfl (m_call hm12 15 (.int .i64 (getZ (s.take 1))) rfl (run_get rfl rfl) (get_any (s.take 1) (by simp; omega) _) (fun w14 hm15 => ?_))
      refine ⟨trivial, ?_⟩
      simp only [nz1, nz2, nz3]
      refine two_ready 5 22 (by kernel_rfl) ?_ ?_
      · refine opd rfl rfl (m_call hm15 18 (.int .i64 (getZ ((s.take 3).drop 1))) rfl (run_get rfl rfl) (get_any ((s.take 3).drop 1) (by simp; omega) _) (fun w16 hm17 => ?_))
        refine ⟨trivial, ?_⟩
        simp only [nz1, nz2, nz3]
        refine two_ready 8 22 (by kernel_rfl) ?_ ?_
        · refine opd rfl rfl (m_call hm17 21 (.int .i64 (getZ ((s.take 7).drop 3))) rfl (run_get rfl rfl) (get_any ((s.take 7).drop 3) (by simp; omega) _) (fun w18 hm19 => ?_))
          refine ⟨trivial, ?_⟩
          simp only [nz1, nz2, nz3]
          refine two_ready 11 22 (by kernel_rfl) ?_ ?_
          · refine opd rfl rfl (m_call hm19 24 (.int .i64 (getZ ((s.take 11).drop 7))) rfl (run_get rfl rfl) (get_any ((s.take 11).drop 7) (by simp; omega) _) (fun w20 hm21 => ?_))
            refine ⟨trivial, ?_⟩
            simp only [nz1, nz2, nz3]
            refine two_ready 14 22 (by kernel_rfl) ?_ ?_
            · refine opd rfl rfl (m_call hm21 27 (.int .i64 (getZ ((s.take 15).drop 11))) rfl (run_get rfl rfl) (get_any ((s.take 15).drop 11) (by simp; omega) _) (fun w22 hm23 => ?_))
              refine ⟨trivial, ?_⟩
              simp only [nz1, nz2, nz3]
              refine two_ready 17 22 (by kernel_rfl) ?_ ?_
              · refine opd rfl rfl (m_call hm23 30 (.int .i64 (getZ ((s.take 23).drop 15))) rfl (run_get rfl rfl) (get_any ((s.take 23).drop 15) (by simp; omega) _) (fun w24 hm25 => ?_))
                refine ⟨trivial, ?_⟩
                simp only [nz1, nz2, nz3]
                refine two_ready 20 22 (by kernel_rfl) ?_ ?_
                · refine opd rfl rfl (m_call hm25 33 (.int .i64 (getZ ((s.take 27).drop 23))) rfl (run_get rfl rfl) (get_any ((s.take 27).drop 23) (by simp; omega) _) (fun w26 hm27 => ?_))
                  refine ⟨trivial, ?_⟩
                  simp only [nz1, nz2, nz3]
                  refine Sym.take_at 21 34 (.agg #[.int .i64 (getZ (s.take 1)), .int .i64 (getZ ((s.take 3).drop 1)), .int .i64 (getZ ((s.take 11).drop 7)), .int .i64 (getZ ((s.take 15).drop 11)), .int .i64 (getZ ((s.take 23).drop 15)), .int .i64 (getZ ((s.take 7).drop 3)), .int .i64 (getZ ((s.take 27).drop 23)), .slice none 0 0]) rfl rfl (by kernel_rfl) (by kernel_rfl) (by kernel_rfl) (fun _ _ _ h => nomatch h.1) rfl (fun _ hw => by unfold execOp; go_simp; try rfl) (trivial) ?_
                  simp only [nz1, nz2, nz3]
                  refine one_ready 22 (by kernel_rfl) ?_
                  refine opd rfl rfl (m_alloc (c := #[.int .i64 0, .int .i64 0, .int .i64 0, .int .i64 0, .int .i64 0, .int .i64 0, .int .i64 0, .slice none 0 0]) (T := 48) hm27 4 rfl (by unfold execOp; go_simp; try rfl) (fun g30 w28 hm29 => ?_))
                  refine ⟨trivial, ?_⟩
                  simp only [nz1, nz2, nz3]
                  refine one_ready 23 (by kernel_rfl) ?_
                  refine opd rfl rfl (m_store 1 48 _ _ 0 (.agg #[.int .i64 (getZ (s.take 1)), .int .i64 (getZ ((s.take 3).drop 1)), .int .i64 (getZ ((s.take 11).drop 7)), .int .i64 (getZ ((s.take 15).drop 11)), .int .i64 (getZ ((s.take 23).drop 15)), .int .i64 (getZ ((s.take 7).drop 3)), .int .i64 (getZ ((s.take 27).drop 23)), .slice none 0 0]) (old := #[.int .i64 0, .int .i64 0, .int .i64 0, .int .i64 0, .int .i64 0, .int .i64 0, .int .i64 0, .slice none 0 0]) (new := #[.int .i64 (getZ (s.take 1)), .int .i64 (getZ ((s.take 3).drop 1)), .int .i64 (getZ ((s.take 11).drop 7)), .int .i64 (getZ ((s.take 15).drop 11)), .int .i64 (getZ ((s.take 23).drop 15)), .int .i64 (getZ ((s.take 7).drop 3)), .int .i64 (getZ ((s.take 27).drop 23)), .slice none 0 0]) hm29 rfl rfl rfl rfl rfl (by exact sz_node) (show 8 ≤ 8 from Nat.le_refl _) (by simp [Value.cells, Value.oneCell']) rfl (fun w31 hm32 => ?_))
                  refine ⟨trivial, ?_⟩
                  refine wpAnyH_done (by kernel_rfl) ?_ _
                  exact ⟨rfl, g30, rfl, hm32⟩
                · refine opd rfl rfl (m_alloc (c := #[.int .i64 0, .int .i64 0, .int .i64 0, .int .i64 0, .int .i64 0, .int .i64 0, .int .i64 0, .slice none 0 0]) (T := 48) hm25 4 rfl (by unfold execOp; go_simp; try rfl) (fun g35 w33 hm34 => ?_))
                  refine ⟨trivial, ?_⟩
                  simp only [nz1, nz2, nz3]
                  refine one_ready 20 (by kernel_rfl) ?_
                  refine opd rfl rfl (m_call hm34 33 (.int .i64 (getZ ((s.take 27).drop 23))) rfl (run_get rfl rfl) (get_any ((s.take 27).drop 23) (by simp; omega) _) (fun w36 hm37 => ?_))
                  refine ⟨trivial, ?_⟩
                  simp only [nz1, nz2, nz3]
                  refine Sym.take_at 21 34 (.agg #[.int .i64 (getZ (s.take 1)), .int .i64 (getZ ((s.take 3).drop 1)), .int .i64 (getZ ((s.take 11).drop 7)), .int .i64 (getZ ((s.take 15).drop 11)), .int .i64 (getZ ((s.take 23).drop 15)), .int .i64 (getZ ((s.take 7).drop 3)), .int .i64 (getZ ((s.take 27).drop 23)), .slice none 0 0]) rfl rfl (by kernel_rfl) (by kernel_rfl) (by kernel_rfl) (fun _ _ _ h => nomatch h.1) rfl (fun _ hw => by unfold execOp; go_simp; try rfl) (trivial) ?_
                  simp only [nz1, nz2, nz3]
                  refine one_ready 23 (by kernel_rfl) ?_
                  refine opd rfl rfl (m_store 1 48 _ _ 0 (.agg #[.int .i64 (getZ (s.take 1)), .int .i64 (getZ ((s.take 3).drop 1)), .int .i64 (getZ ((s.take 11).drop 7)), .int .i64 (getZ ((s.take 15).drop 11)), .int .i64 (getZ ((s.take 23).drop 15)), .int .i64 (getZ ((s.take 7).drop 3)), .int .i64 (getZ ((s.take 27).drop 23)), .slice none 0 0]) (old := #[.int .i64 0, .int .i64 0, .int .i64 0, .int .i64 0, .int .i64 0, .int .i64 0, .int .i64 0, .slice none 0 0]) (new := #[.int .i64 (getZ (s.take 1)), .int .i64 (getZ ((s.take 3).drop 1)), .int .i64 (getZ ((s.take 11).drop 7)), .int .i64 (getZ ((s.take 15).drop 11)), .int .i64 (getZ ((s.take 23).drop 15)), .int .i64 (getZ ((s.take 7).drop 3)), .int .i64 (getZ ((s.take 27).drop 23)), .slice none 0 0]) hm37 rfl rfl rfl rfl rfl (by exact sz_node) (show 8 ≤ 8 from Nat.le_refl _) (by simp [Value.cells, Value.oneCell']) rfl (fun w38 hm39 => ?_))
                  refine ⟨trivial, ?_⟩
                  refine wpAnyH_done (by kernel_rfl) ?_ _
                  exact ⟨rfl, g35, rfl, hm39⟩
              · refine opd rfl rfl (m_alloc (c := #[.int .i64 0, .int .i64 0, .int .i64 0, .int .i64 0, .int .i64 0, .int .i64 0, .int .i64 0, .slice none 0 0]) (T := 48) hm23 4 rfl (by unfold execOp; go_simp; try rfl) (fun g42 w40 hm41 => ?_))
                refine ⟨trivial, ?_⟩
                simp only [nz1, nz2, nz3]
                refine one_ready 17 (by kernel_rfl) ?_
                refine opd rfl rfl (m_call hm41 30 (.int .i64 (getZ ((s.take 23).drop 15))) rfl (run_get rfl rfl) (get_any ((s.take 23).drop 15) (by simp; omega) _) (fun w43 hm44 => ?_))
                refine ⟨trivial, ?_⟩
                simp only [nz1, nz2, nz3]
                refine one_ready 20 (by kernel_rfl) ?_
                refine opd rfl rfl (m_call hm44 33 (.int .i64 (getZ ((s.take 27).drop 23))) rfl (run_get rfl rfl) (get_any ((s.take 27).drop 23) (by simp; omega) _) (fun w45 hm46 => ?_))
                refine ⟨trivial, ?_⟩
                simp only [nz1, nz2, nz3]
                refine Sym.take_at 21 34 (.agg #[.int .i64 (getZ (s.take 1)), .int .i64 (getZ ((s.take 3).drop 1)), .int .i64 (getZ ((s.take 11).drop 7)), .int .i64 (getZ ((s.take 15).drop 11)), .int .i64 (getZ ((s.take 23).drop 15)), .int .i64 (getZ ((s.take 7).drop 3)), .int .i64 (getZ ((s.take 27).drop 23)), .slice none 0 0]) rfl rfl (by kernel_rfl) (by kernel_rfl) (by kernel_rfl) (fun _ _ _ h => nomatch h.1) rfl (fun _ hw => by unfold execOp; go_simp; try rfl) (trivial) ?_
                simp only [nz1, nz2, nz3]
                refine one_ready 23 (by kernel_rfl) ?_
                refine opd rfl rfl (m_store 1 48 _ _ 0 (.agg #[.int .i64 (getZ (s.take 1)), .int .i64 (getZ ((s.take 3).drop 1)), .int .i64 (getZ ((s.take 11).drop 7)), .int .i64 (getZ ((s.take 15).drop 11)), .int .i64 (getZ ((s.take 23).drop 15)), .int .i64 (getZ ((s.take 7).drop 3)), .int .i64 (getZ ((s.take 27).drop 23)), .slice none 0 0]) (old := #[.int .i64 0, .int .i64 0, .int .i64 0, .int .i64 0, .int .i64 0, .int .i64 0, .int .i64 0, .slice none 0 0]) (new := #[.int .i64 (getZ (s.take 1)), .int .i64 (getZ ((s.take 3).drop 1)), .int .i64 (getZ ((s.take 11).drop 7)), .int .i64 (getZ ((s.take 15).drop 11)), .int .i64 (getZ ((s.take 23).drop 15)), .int .i64 (getZ ((s.take 7).drop 3)), .int .i64 (getZ ((s.take 27).drop 23)), .slice none 0 0]) hm46 rfl rfl rfl rfl rfl (by exact sz_node) (show 8 ≤ 8 from Nat.le_refl _) (by simp [Value.cells, Value.oneCell']) rfl (fun w47 hm48 => ?_))
                refine ⟨trivial, ?_⟩
                refine wpAnyH_done (by kernel_rfl) ?_ _
                exact ⟨rfl, g42, rfl, hm48⟩
            · refine opd rfl rfl (m_alloc (c := #[.int .i64 0, .int .i64 0, .int .i64 0, .int .i64 0, .int .i64 0, .int .i64 0, .int .i64 0, .slice none 0 0]) (T := 48) hm21 4 rfl (by unfold execOp; go_simp; try rfl) (fun g51 w49 hm50 => ?_))
              refine ⟨trivial, ?_⟩
              simp only [nz1, nz2, nz3]
              refine one_ready 14 (by kernel_rfl) ?_
              refine opd rfl rfl (m_call hm50 27 (.int .i64 (getZ ((s.take 15).drop 11))) rfl (run_get rfl rfl) (get_any ((s.take 15).drop 11) (by simp; omega) _) (fun w52 hm53 => ?_))
              refine ⟨trivial, ?_⟩
              simp only [nz1, nz2, nz3]
              refine one_ready 17 (by kernel_rfl) ?_
              refine opd rfl rfl (m_call hm53 30 (.int .i64 (getZ ((s.take 23).drop 15))) rfl (run_get rfl rfl) (get_any ((s.take 23).drop 15) (by simp; omega) _) (fun w54 hm55 => ?_))
              refine ⟨trivial, ?_⟩
              simp only [nz1, nz2, nz3]
              refine one_ready 20 (by kernel_rfl) ?_
              refine opd rfl rfl (m_call hm55 33 (.int .i64 (getZ ((s.take 27).drop 23))) rfl (run_get rfl rfl) (get_any ((s.take 27).drop 23) (by simp; omega) _) (fun w56 hm57 => ?_))
              refine ⟨trivial, ?_⟩
              simp only [nz1, nz2, nz3]
              refine Sym.take_at 21 34 (.agg #[.int .i64 (getZ (s.take 1)), .int .i64 (getZ ((s.take 3).drop 1)), .int .i64 (getZ ((s.take 11).drop 7)), .int .i64 (getZ ((s.take 15).drop 11)), .int .i64 (getZ ((s.take 23).drop 15)), .int .i64 (getZ ((s.take 7).drop 3)), .int .i64 (getZ ((s.take 27).drop 23)), .slice none 0 0]) rfl rfl (by kernel_rfl) (by kernel_rfl) (by kernel_rfl) (fun _ _ _ h => nomatch h.1) rfl (fun _ hw => by unfold execOp; go_simp; try rfl) (trivial) ?_
              simp only [nz1, nz2, nz3]
              refine one_ready 23 (by kernel_rfl) ?_
              refine opd rfl rfl (m_store 1 48 _ _ 0 (.agg #[.int .i64 (getZ (s.take 1)), .int .i64 (getZ ((s.take 3).drop 1)), .int .i64 (getZ ((s.take 11).drop 7)), .int .i64 (getZ ((s.take 15).drop 11)), .int .i64 (getZ ((s.take 23).drop 15)), .int .i64 (getZ ((s.take 7).drop 3)), .int .i64 (getZ ((s.take 27).drop 23)), .slice none 0 0]) (old := #[.int .i64 0, .int .i64 0, .int .i64 0, .int .i64 0, .int .i64 0, .int .i64 0, .int .i64 0, .slice none 0 0]) (new := #[.int .i64 (getZ (s.take 1)), .int .i64 (getZ ((s.take 3).drop 1)), .int .i64 (getZ ((s.take 11).drop 7)), .int .i64 (getZ ((s.take 15).drop 11)), .int .i64 (getZ ((s.take 23).drop 15)), .int .i64 (getZ ((s.take 7).drop 3)), .int .i64 (getZ ((s.take 27).drop 23)), .slice none 0 0]) hm57 rfl rfl rfl rfl rfl (by exact sz_node) (show 8 ≤ 8 from Nat.le_refl _) (by simp [Value.cells, Value.oneCell']) rfl (fun w58 hm59 => ?_))
              refine ⟨trivial, ?_⟩
              refine wpAnyH_done (by kernel_rfl) ?_ _
              exact ⟨rfl, g51, rfl, hm59⟩
          · refine opd rfl rfl (m_alloc (c := #[.int .i64 0, .int .i64 0, .int .i64 0, .int .i64 0, .int .i64 0, .int .i64 0, .int .i64 0, .slice none 0 0]) (T := 48) hm19 4 rfl (by unfold execOp; go_simp; try rfl) (fun g62 w60 hm61 => ?_))
            refine ⟨trivial, ?_⟩
            simp only [nz1, nz2, nz3]
            refine one_ready 11 (by kernel_rfl) ?_
            refine opd rfl rfl (m_call hm61 24 (.int .i64 (getZ ((s.take 11).drop 7))) rfl (run_get rfl rfl) (get_any ((s.take 11).drop 7) (by simp; omega) _) (fun w63 hm64 => ?_))
            refine ⟨trivial, ?_⟩
            simp only [nz1, nz2, nz3]
            refine one_ready 14 (by kernel_rfl) ?_
            refine opd rfl rfl (m_call hm64 27 (.int .i64 (getZ ((s.take 15).drop 11))) rfl (run_get rfl rfl) (get_any ((s.take 15).drop 11) (by simp; omega) _) (fun w65 hm66 => ?_))
            refine ⟨trivial, ?_⟩
            simp only [nz1, nz2, nz3]
            refine one_ready 17 (by kernel_rfl) ?_
            refine opd rfl rfl (m_call hm66 30 (.int .i64 (getZ ((s.take 23).drop 15))) rfl (run_get rfl rfl) (get_any ((s.take 23).drop 15) (by simp; omega) _) (fun w67 hm68 => ?_))
            refine ⟨trivial, ?_⟩
            simp only [nz1, nz2, nz3]
            refine one_ready 20 (by kernel_rfl) ?_
            refine opd rfl rfl (m_call hm68 33 (.int .i64 (getZ ((s.take 27).drop 23))) rfl (run_get rfl rfl) (get_any ((s.take 27).drop 23) (by simp; omega) _) (fun w69 hm70 => ?_))
            refine ⟨trivial, ?_⟩
            simp only [nz1, nz2, nz3]
            refine Sym.take_at 21 34 (.agg #[.int .i64 (getZ (s.take 1)), .int .i64 (getZ ((s.take 3).drop 1)), .int .i64 (getZ ((s.take 11).drop 7)), .int .i64 (getZ ((s.take 15).drop 11)), .int .i64 (getZ ((s.take 23).drop 15)), .int .i64 (getZ ((s.take 7).drop 3)), .int .i64 (getZ ((s.take 27).drop 23)), .slice none 0 0]) rfl rfl (by kernel_rfl) (by kernel_rfl) (by kernel_rfl) (fun _ _ _ h => nomatch h.1) rfl (fun _ hw => by unfold execOp; go_simp; try rfl) (trivial) ?_
            simp only [nz1, nz2, nz3]
            refine one_ready 23 (by kernel_rfl) ?_
            refine opd rfl rfl (m_store 1 48 _ _ 0 (.agg #[.int .i64 (getZ (s.take 1)), .int .i64 (getZ ((s.take 3).drop 1)), .int .i64 (getZ ((s.take 11).drop 7)), .int .i64 (getZ ((s.take 15).drop 11)), .int .i64 (getZ ((s.take 23).drop 15)), .int .i64 (getZ ((s.take 7).drop 3)), .int .i64 (getZ ((s.take 27).drop 23)), .slice none 0 0]) (old := #[.int .i64 0, .int .i64 0, .int .i64 0, .int .i64 0, .int .i64 0, .int .i64 0, .int .i64 0, .slice none 0 0]) (new := #[.int .i64 (getZ (s.take 1)), .int .i64 (getZ ((s.take 3).drop 1)), .int .i64 (getZ ((s.take 11).drop 7)), .int .i64 (getZ ((s.take 15).drop 11)), .int .i64 (getZ ((s.take 23).drop 15)), .int .i64 (getZ ((s.take 7).drop 3)), .int .i64 (getZ ((s.take 27).drop 23)), .slice none 0 0]) hm70 rfl rfl rfl rfl rfl (by exact sz_node) (show 8 ≤ 8 from Nat.le_refl _) (by simp [Value.cells, Value.oneCell']) rfl (fun w71 hm72 => ?_))
            refine ⟨trivial, ?_⟩
            refine wpAnyH_done (by kernel_rfl) ?_ _
            exact ⟨rfl, g62, rfl, hm72⟩
        · refine opd rfl rfl (m_alloc (c := #[.int .i64 0, .int .i64 0, .int .i64 0, .int .i64 0, .int .i64 0, .int .i64 0, .int .i64 0, .slice none 0 0]) (T := 48) hm17 4 rfl (by unfold execOp; go_simp; try rfl) (fun g75 w73 hm74 => ?_))
          refine ⟨trivial, ?_⟩
          simp only [nz1, nz2, nz3]
          refine one_ready 8 (by kernel_rfl) ?_
          refine opd rfl rfl (m_call hm74 21 (.int .i64 (getZ ((s.take 7).drop 3))) rfl (run_get rfl rfl) (get_any ((s.take 7).drop 3) (by simp; omega) _) (fun w76 hm77 => ?_))
          refine ⟨trivial, ?_⟩
          simp only [nz1, nz2, nz3]
          refine one_ready 11 (by kernel_rfl) ?_
          refine opd rfl rfl (m_call hm77 24 (.int .i64 (getZ ((s.take 11).drop 7))) rfl (run_get rfl rfl) (get_any ((s.take 11).drop 7) (by simp; omega) _) (fun w78 hm79 => ?_))
          refine ⟨trivial, ?_⟩
          simp only [nz1, nz2, nz3]
          refine one_ready 14 (by kernel_rfl) ?_
          refine opd rfl rfl (m_call hm79 27 (.int .i64 (getZ ((s.take 15).drop 11))) rfl (run_get rfl rfl) (get_any ((s.take 15).drop 11) (by simp; omega) _) (fun w80 hm81 => ?_))
          refine ⟨trivial, ?_⟩
          simp only [nz1, nz2, nz3]
          refine one_ready 17 (by kernel_rfl) ?_
          refine opd rfl rfl (m_call hm81 30 (.int .i64 (getZ ((s.take 23).drop 15))) rfl (run_get rfl rfl) (get_any ((s.take 23).drop 15) (by simp; omega) _) (fun w82 hm83 => ?_))
          refine ⟨trivial, ?_⟩
          simp only [nz1, nz2, nz3]
          refine one_ready 20 (by kernel_rfl) ?_
          refine opd rfl rfl (m_call hm83 33 (.int .i64 (getZ ((s.take 27).drop 23))) rfl (run_get rfl rfl) (get_any ((s.take 27).drop 23) (by simp; omega) _) (fun w84 hm85 => ?_))
          refine ⟨trivial, ?_⟩
          simp only [nz1, nz2, nz3]
          refine Sym.take_at 21 34 (.agg #[.int .i64 (getZ (s.take 1)), .int .i64 (getZ ((s.take 3).drop 1)), .int .i64 (getZ ((s.take 11).drop 7)), .int .i64 (getZ ((s.take 15).drop 11)), .int .i64 (getZ ((s.take 23).drop 15)), .int .i64 (getZ ((s.take 7).drop 3)), .int .i64 (getZ ((s.take 27).drop 23)), .slice none 0 0]) rfl rfl (by kernel_rfl) (by kernel_rfl) (by kernel_rfl) (fun _ _ _ h => nomatch h.1) rfl (fun _ hw => by unfold execOp; go_simp; try rfl) (trivial) ?_
          simp only [nz1, nz2, nz3]
          refine one_ready 23 (by kernel_rfl) ?_
          refine opd rfl rfl (m_store 1 48 _ _ 0 (.agg #[.int .i64 (getZ (s.take 1)), .int .i64 (getZ ((s.take 3).drop 1)), .int .i64 (getZ ((s.take 11).drop 7)), .int .i64 (getZ ((s.take 15).drop 11)), .int .i64 (getZ ((s.take 23).drop 15)), .int .i64 (getZ ((s.take 7).drop 3)), .int .i64 (getZ ((s.take 27).drop 23)), .slice none 0 0]) (old := #[.int .i64 0, .int .i64 0, .int .i64 0, .int .i64 0, .int .i64 0, .int .i64 0, .int .i64 0, .slice none 0 0]) (new := #[.int .i64 (getZ (s.take 1)), .int .i64 (getZ ((s.take 3).drop 1)), .int .i64 (getZ ((s.take 11).drop 7)), .int .i64 (getZ ((s.take 15).drop 11)), .int .i64 (getZ ((s.take 23).drop 15)), .int .i64 (getZ ((s.take 7).drop 3)), .int .i64 (getZ ((s.take 27).drop 23)), .slice none 0 0]) hm85 rfl rfl rfl rfl rfl (by exact sz_node) (show 8 ≤ 8 from Nat.le_refl _) (by simp [Value.cells, Value.oneCell']) rfl (fun w86 hm87 => ?_))
          refine ⟨trivial, ?_⟩
          refine wpAnyH_done (by kernel_rfl) ?_ _
          exact ⟨rfl, g75, rfl, hm87⟩
      · refine opd rfl rfl (m_alloc (c := #[.int .i64 0, .int .i64 0, .int .i64 0, .int .i64 0, .int .i64 0, .int .i64 0, .int .i64 0, .slice none 0 0]) (T := 48) hm15 4 rfl (by unfold execOp; go_simp; try rfl) (fun g90 w88 hm89 => ?_))
        refine ⟨trivial, ?_⟩
        simp only [nz1, nz2, nz3]
        refine one_ready 5 (by kernel_rfl) ?_
        refine opd rfl rfl (m_call hm89 18 (.int .i64 (getZ ((s.take 3).drop 1))) rfl (run_get rfl rfl) (get_any ((s.take 3).drop 1) (by simp; omega) _) (fun w91 hm92 => ?_))
        refine ⟨trivial, ?_⟩
        simp only [nz1, nz2, nz3]
        refine one_ready 8 (by kernel_rfl) ?_
        refine opd rfl rfl (m_call hm92 21 (.int .i64 (getZ ((s.take 7).drop 3))) rfl (run_get rfl rfl) (get_any ((s.take 7).drop 3) (by simp; omega) _) (fun w93 hm94 => ?_))
        refine ⟨trivial, ?_⟩
        simp only [nz1, nz2, nz3]
        refine one_ready 11 (by kernel_rfl) ?_
        refine opd rfl rfl (m_call hm94 24 (.int .i64 (getZ ((s.take 11).drop 7))) rfl (run_get rfl rfl) (get_any ((s.take 11).drop 7) (by simp; omega) _) (fun w95 hm96 => ?_))
        refine ⟨trivial, ?_⟩
        simp only [nz1, nz2, nz3]
        refine one_ready 14 (by kernel_rfl) ?_
        refine opd rfl rfl (m_call hm96 27 (.int .i64 (getZ ((s.take 15).drop 11))) rfl (run_get rfl rfl) (get_any ((s.take 15).drop 11) (by simp; omega) _) (fun w97 hm98 => ?_))
        refine ⟨trivial, ?_⟩
        simp only [nz1, nz2, nz3]
        refine one_ready 17 (by kernel_rfl) ?_
        refine opd rfl rfl (m_call hm98 30 (.int .i64 (getZ ((s.take 23).drop 15))) rfl (run_get rfl rfl) (get_any ((s.take 23).drop 15) (by simp; omega) _) (fun w99 hm100 => ?_))
        refine ⟨trivial, ?_⟩
        simp only [nz1, nz2, nz3]
        refine one_ready 20 (by kernel_rfl) ?_
        refine opd rfl rfl (m_call hm100 33 (.int .i64 (getZ ((s.take 27).drop 23))) rfl (run_get rfl rfl) (get_any ((s.take 27).drop 23) (by simp; omega) _) (fun w101 hm102 => ?_))
        refine ⟨trivial, ?_⟩
        simp only [nz1, nz2, nz3]
        refine Sym.take_at 21 34 (.agg #[.int .i64 (getZ (s.take 1)), .int .i64 (getZ ((s.take 3).drop 1)), .int .i64 (getZ ((s.take 11).drop 7)), .int .i64 (getZ ((s.take 15).drop 11)), .int .i64 (getZ ((s.take 23).drop 15)), .int .i64 (getZ ((s.take 7).drop 3)), .int .i64 (getZ ((s.take 27).drop 23)), .slice none 0 0]) rfl rfl (by kernel_rfl) (by kernel_rfl) (by kernel_rfl) (fun _ _ _ h => nomatch h.1) rfl (fun _ hw => by unfold execOp; go_simp; try rfl) (trivial) ?_
        simp only [nz1, nz2, nz3]
        refine one_ready 23 (by kernel_rfl) ?_
        refine opd rfl rfl (m_store 1 48 _ _ 0 (.agg #[.int .i64 (getZ (s.take 1)), .int .i64 (getZ ((s.take 3).drop 1)), .int .i64 (getZ ((s.take 11).drop 7)), .int .i64 (getZ ((s.take 15).drop 11)), .int .i64 (getZ ((s.take 23).drop 15)), .int .i64 (getZ ((s.take 7).drop 3)), .int .i64 (getZ ((s.take 27).drop 23)), .slice none 0 0]) (old := #[.int .i64 0, .int .i64 0, .int .i64 0, .int .i64 0, .int .i64 0, .int .i64 0, .int .i64 0, .slice none 0 0]) (new := #[.int .i64 (getZ (s.take 1)), .int .i64 (getZ ((s.take 3).drop 1)), .int .i64 (getZ ((s.take 11).drop 7)), .int .i64 (getZ ((s.take 15).drop 11)), .int .i64 (getZ ((s.take 23).drop 15)), .int .i64 (getZ ((s.take 7).drop 3)), .int .i64 (getZ ((s.take 27).drop 23)), .slice none 0 0]) hm102 rfl rfl rfl rfl rfl (by exact sz_node) (show 8 ≤ 8 from Nat.le_refl _) (by simp [Value.cells, Value.oneCell']) rfl (fun w103 hm104 => ?_))
        refine ⟨trivial, ?_⟩
        refine wpAnyH_done (by kernel_rfl) ?_ _
        exact ⟨rfl, g90, rfl, hm104⟩
    · refine opd rfl rfl (m_alloc (c := #[.int .i64 0, .int .i64 0, .int .i64 0, .int .i64 0, .int .i64 0, .int .i64 0, .int .i64 0, .slice none 0 0]) (T := 48) hm12 4 rfl (by unfold execOp; go_simp; try rfl) (fun g107 w105 hm106 => ?_))
      refine ⟨trivial, ?_⟩
      simp only [nz1, nz2, nz3]
      refine one_ready 2 (by kernel_rfl) ?_
      refine opd rfl rfl (m_call hm106 15 (.int .i64 (getZ (s.take 1))) rfl (run_get rfl rfl) (get_any (s.take 1) (by simp; omega) _) (fun w108 hm109 => ?_))
      refine ⟨trivial, ?_⟩
      simp only [nz1, nz2, nz3]
      refine one_ready 5 (by kernel_rfl) ?_
      refine opd rfl rfl (m_call hm109 18 (.int .i64 (getZ ((s.take 3).drop 1))) rfl (run_get rfl rfl) (get_any ((s.take 3).drop 1) (by simp; omega) _) (fun w110 hm111 => ?_))
      refine ⟨trivial, ?_⟩
      simp only [nz1, nz2, nz3]
      refine one_ready 8 (by kernel_rfl) ?_
      refine opd rfl rfl (m_call hm111 21 (.int .i64 (getZ ((s.take 7).drop 3))) rfl (run_get rfl rfl) (get_any ((s.take 7).drop 3) (by simp; omega) _) (fun w112 hm113 => ?_))
      refine ⟨trivial, ?_⟩
      simp only [nz1, nz2, nz3]
      refine one_ready 11 (by kernel_rfl) ?_
      refine opd rfl rfl (m_call hm113 24 (.int .i64 (getZ ((s.take 11).drop 7))) rfl (run_get rfl rfl) (get_any ((s.take 11).drop 7) (by simp; omega) _) (fun w114 hm115 => ?_))
      refine ⟨trivial, ?_⟩
      simp only [nz1, nz2, nz3]
      refine one_ready 14 (by kernel_rfl) ?_
      refine opd rfl rfl (m_call hm115 27 (.int .i64 (getZ ((s.take 15).drop 11))) rfl (run_get rfl rfl) (get_any ((s.take 15).drop 11) (by simp; omega) _) (fun w116 hm117 => ?_))
      refine ⟨trivial, ?_⟩
      simp only [nz1, nz2, nz3]
      refine one_ready 17 (by kernel_rfl) ?_
      refine opd rfl rfl (m_call hm117 30 (.int .i64 (getZ ((s.take 23).drop 15))) rfl (run_get rfl rfl) (get_any ((s.take 23).drop 15) (by simp; omega) _) (fun w118 hm119 => ?_))
      refine ⟨trivial, ?_⟩
      simp only [nz1, nz2, nz3]
      refine one_ready 20 (by kernel_rfl) ?_
      refine opd rfl rfl (m_call hm119 33 (.int .i64 (getZ ((s.take 27).drop 23))) rfl (run_get rfl rfl) (get_any ((s.take 27).drop 23) (by simp; omega) _) (fun w120 hm121 => ?_))
      refine ⟨trivial, ?_⟩
      simp only [nz1, nz2, nz3]
      refine Sym.take_at 21 34 (.agg #[.int .i64 (getZ (s.take 1)), .int .i64 (getZ ((s.take 3).drop 1)), .int .i64 (getZ ((s.take 11).drop 7)), .int .i64 (getZ ((s.take 15).drop 11)), .int .i64 (getZ ((s.take 23).drop 15)), .int .i64 (getZ ((s.take 7).drop 3)), .int .i64 (getZ ((s.take 27).drop 23)), .slice none 0 0]) rfl rfl (by kernel_rfl) (by kernel_rfl) (by kernel_rfl) (fun _ _ _ h => nomatch h.1) rfl (fun _ hw => by unfold execOp; go_simp; try rfl) (trivial) ?_
      simp only [nz1, nz2, nz3]
      refine one_ready 23 (by kernel_rfl) ?_
      refine opd rfl rfl (m_store 1 48 _ _ 0 (.agg #[.int .i64 (getZ (s.take 1)), .int .i64 (getZ ((s.take 3).drop 1)), .int .i64 (getZ ((s.take 11).drop 7)), .int .i64 (getZ ((s.take 15).drop 11)), .int .i64 (getZ ((s.take 23).drop 15)), .int .i64 (getZ ((s.take 7).drop 3)), .int .i64 (getZ ((s.take 27).drop 23)), .slice none 0 0]) (old := #[.int .i64 0, .int .i64 0, .int .i64 0, .int .i64 0, .int .i64 0, .int .i64 0, .int .i64 0, .slice none 0 0]) (new := #[.int .i64 (getZ (s.take 1)), .int .i64 (getZ ((s.take 3).drop 1)), .int .i64 (getZ ((s.take 11).drop 7)), .int .i64 (getZ ((s.take 15).drop 11)), .int .i64 (getZ ((s.take 23).drop 15)), .int .i64 (getZ ((s.take 7).drop 3)), .int .i64 (getZ ((s.take 27).drop 23)), .slice none 0 0]) hm121 rfl rfl rfl rfl rfl (by exact sz_node) (show 8 ≤ 8 from Nat.le_refl _) (by simp [Value.cells, Value.oneCell']) rfl (fun w122 hm123 => ?_))
      refine ⟨trivial, ?_⟩
      refine wpAnyH_done (by kernel_rfl) ?_ _
      exact ⟨rfl, g107, rfl, hm123⟩
  clear hm3
  rintro _ _ w124 ⟨rfl, g30, rfl, hm125⟩
  refine then_n (hK11 _ _ ?_)
  refine wp_seq_k (fun K126 hK126 => ?_)
  refine wp_seq_k (fun K127 hK127 => ?_)
  refine wp_region_lit ?_
  refine lv 35 (.pointer (some ⟨g30, 6, none⟩)) rfl rfl (r_fa48_6 g30 0 rfl rfl) ?_
  simp only [nz1, nz2, nz3]
  refine lv 36 (.int .i64 (getZ ((s.take 27).drop 23))) rfl rfl (r_load (hm125.at 1 rfl) rfl Try.underlying3 rfl rfl rfl) ?_
  simp only [nz1, nz2, nz3]
  refine lv 37 (.bool (decide (((14592 : Nat) : Int) < getZ ((s.take 27).drop 23)))) rfl rfl (z_gtr (getZ ((s.take 27).drop 23)) ((14592 : Nat) : Int) rfl rfl rfl) ?_
  simp only [nz1, nz2, nz3]
  refine wpList_nil ?_
  refine then_n (hK127 _ _ ?_)
  refine cond_d (((14592 : Nat) : Int) < getZ ((s.take 27).drop 23)) rfl (fun hc128 => ?_) (fun hc128 => ?_)
  · rw [decide_eq_true hc128]
    refine wp_seq_k (fun K129 hK129 => ?_)
    refine wp_region_lit ?_
    refine lv 38 (.agg #[.int .i64 0, .int .i64 0, .int .i64 0, .int .i64 0, .int .i64 0, .int .i64 0, .int .i64 0, .slice none 0 0]) rfl rfl (by unfold execOp; go_simp; try rfl) ?_
    simp only [nz1, nz2, nz3]
    refine lst (wanted_none rfl) (m_store 0 48 _ _ 0 (.agg #[.int .i64 0, .int .i64 0, .int .i64 0, .int .i64 0, .int .i64 0, .int .i64 0, .int .i64 0, .slice none 0 0]) (old := #[.int .i64 0, .int .i64 0, .int .i64 0, .int .i64 0, .int .i64 0, .int .i64 0, .int .i64 0, .slice none 0 0]) (new := #[.int .i64 0, .int .i64 0, .int .i64 0, .int .i64 0, .int .i64 0, .int .i64 0, .int .i64 0, .slice none 0 0]) hm125 rfl rfl rfl rfl rfl (by exact sz_node) (show 8 ≤ 8 from Nat.le_refl _) (by simp [Value.cells, Value.oneCell']) rfl (fun w130 (hm131 : Mm none w w130 [.blk g4 #[.int .i64 0, .int .i64 0, .int .i64 0, .int .i64 0, .int .i64 0, .int .i64 0, .int .i64 0, .slice none 0 0] 48, .blk g30 #[.int .i64 (getZ (s.take 1)), .int .i64 (getZ ((s.take 3).drop 1)), .int .i64 (getZ ((s.take 11).drop 7)), .int .i64 (getZ ((s.take 15).drop 11)), .int .i64 (getZ ((s.take 23).drop 15)), .int .i64 (getZ ((s.take 7).drop 3)), .int .i64 (getZ ((s.take 27).drop 23)), .slice none 0 0] 48]) => ?_))
    refine lv 3 (.int .i64 2) rfl rfl (run_as rfl rfl) ?_
    simp only [nz1, nz2, nz3]
    refine wpList_nil ?_
    refine then_n (hK129 _ _ ?_)
    refine wp_ret ?_
    refine then_r ?_
    exact ⟨rfl, .tuple #[.agg #[.int .i64 0, .int .i64 0, .int .i64 0, .int .i64 0, .int .i64 0, .int .i64 0, .int .i64 0, .slice none 0 0], .int .i64 2], Mem.res_ct rfl rfl (hm131.at 0 rfl) Try.underlying48 rfl (by exact sz_node) rfl, ⟨read_no (fun hg => absurd hg.2.1 (Int.not_le.2 hc128)), hm131.below⟩⟩
  rw [decide_eq_false hc128]
  have hsz : sizeN s ≤ 14592 := Int.not_lt.1 hc128
  have hnn := sizeN_nn s
  have hsec : secs (sizeN s).toNat ≤ 57 := by unfold secs; omega
  refine wp_skip ?_
  refine then_n (hK126 _ _ ?_)
  refine wp_seq_k (fun K132 hK132 => ?_)
  refine wp_seq_k (fun K133 hK133 => ?_)
  refine wp_region_lit ?_
  refine lv 39 (.pointer (some ⟨g30, 6, none⟩)) rfl rfl (r_fa48_6 g30 0 rfl rfl) ?_
  simp only [nz1, nz2, nz3]
  refine lv 40 (.int .i64 (getZ ((s.take 27).drop 23))) rfl rfl (r_load (hm125.at 1 rfl) rfl Try.underlying3 rfl rfl rfl) ?_
  simp only [nz1, nz2, nz3]
  refine lst (wanted_none rfl) (m_call hm125 41 (.int .i64 (((secs (sizeN s).toNat) : Nat) : Int)) rfl (run_Sectors rfl rfl) (sectors_any (sizeN s) hnn (by omega) _) (fun w134 (hm135 : Mm none w w134 [.blk g4 #[.int .i64 0, .int .i64 0, .int .i64 0, .int .i64 0, .int .i64 0, .int .i64 0, .int .i64 0, .slice none 0 0] 48, .blk g30 #[.int .i64 (getZ (s.take 1)), .int .i64 (getZ ((s.take 3).drop 1)), .int .i64 (getZ ((s.take 11).drop 7)), .int .i64 (getZ ((s.take 15).drop 11)), .int .i64 (getZ ((s.take 23).drop 15)), .int .i64 (getZ ((s.take 7).drop 3)), .int .i64 (getZ ((s.take 27).drop 23)), .slice none 0 0] 48]) => ?_))
  simp only [nz1, nz2, nz3]
  refine lv 42 (.int .i64 0) rfl rfl (run_mv rfl rfl) ?_
  simp only [nz1, nz2, nz3]
  refine wpList_nil ?_
  have hm136 : Mm none w w134 [.blk g4 #[.int .i64 0, .int .i64 0, .int .i64 0, .int .i64 0, .int .i64 0, .int .i64 0, .int .i64 0, .slice none 0 0] 48, .blk g30 #[.int .i64 (getZ (s.take 1)), .int .i64 (getZ ((s.take 3).drop 1)), .int .i64 (getZ ((s.take 11).drop 7)), .int .i64 (getZ ((s.take 15).drop 11)), .int .i64 (getZ ((s.take 23).drop 15)), .int .i64 (getZ ((s.take 7).drop 3)), .int .i64 (getZ ((s.take 27).drop 23)), .slice none 0 0] 48, .row (.slice none 0 0) 0 ([]) 3 1] := hm135.nilrow 3 1
  refine then_n (hK133 _ _ ?_)
  refine wp_block ?_
  refine wp_loop_n (fun n' a' w' => ∃ (i : Nat) (vv : Value) (u0 : Nat → Value), n' = secs (sizeN s).toNat - i ∧ (i ≤ secs (sizeN s).toNat) ∧ a' = ⟨#[.string (tx s), undef, .pointer (some ⟨g4, 0, none⟩), .int .i64 0, .pointer (some ⟨g30, 0, none⟩), u0 0, u0 1, undef, undef, .string (tx s), .int .i64 ((s.length : Nat) : Int), .bool false, undef, .string (tx s), .string (tx (s.take 1)), .int .i64 (getZ (s.take 1)), .string (tx s), .string (tx ((s.take 3).drop 1)), .int .i64 (getZ ((s.take 3).drop 1)), .string (tx s), .string (tx ((s.take 7).drop 3)), .int .i64 (getZ ((s.take 7).drop 3)), .string (tx s), .string (tx ((s.take 11).drop 7)), .int .i64 (getZ ((s.take 11).drop 7)), .string (tx s), .string (tx ((s.take 15).drop 11)), .int .i64 (getZ ((s.take 15).drop 11)), .string (tx s), .string (tx ((s.take 23).drop 15)), .int .i64 (getZ ((s.take 23).drop 15)), .string (tx s), .string (tx ((s.take 27).drop 23)), .int .i64 (getZ ((s.take 27).drop 23)), .agg #[.int .i64 (getZ (s.take 1)), .int .i64 (getZ ((s.take 3).drop 1)), .int .i64 (getZ ((s.take 11).drop 7)), .int .i64 (getZ ((s.take 15).drop 11)), .int .i64 (getZ ((s.take 23).drop 15)), .int .i64 (getZ ((s.take 7).drop 3)), .int .i64 (getZ ((s.take 27).drop 23)), .slice none 0 0], .pointer (some ⟨g30, 6, none⟩), .int .i64 (getZ ((s.take 27).drop 23)), .bool false, undef, .pointer (some ⟨g30, 6, none⟩), .int .i64 (getZ ((s.take 27).drop 23)), .int .i64 (((secs (sizeN s).toNat) : Nat) : Int), .int .i64 ((i : Nat) : Int), u0 2, u0 3, u0 4, u0 5, u0 6, u0 7, u0 8, u0 9, u0 10, u0 11, u0 12, u0 13, u0 14, u0 15, u0 16, u0 17, u0 18, undef, undef, undef, undef, undef, undef, undef, undef, undef, undef, undef, undef, undef, undef], []⟩ ∧ Mm none w w' [.blk g4 #[.int .i64 0, .int .i64 0, .int .i64 0, .int .i64 0, .int .i64 0, .int .i64 0, .int .i64 0, .slice none 0 0] 48, .blk g30 #[.int .i64 (getZ (s.take 1)), .int .i64 (getZ ((s.take 3).drop 1)), .int .i64 (getZ ((s.take 11).drop 7)), .int .i64 (getZ ((s.take 15).drop 11)), .int .i64 (getZ ((s.take 23).drop 15)), .int .i64 (getZ ((s.take 7).drop 3)), .int .i64 (getZ ((s.take 27).drop 23)), vv] 48, .row vv i ((blkN s i).map iv) 3 1]) ⟨0, _, (fun qq => List.getD [undef, undef, undef, undef, undef, undef, undef, undef, undef, undef, undef, undef, undef, undef, undef, undef, undef, undef, undef] qq undef), rfl, (Nat.zero_le _), rfl, hm136⟩ ?_
  clear hm136
  rintro _ _ w137 ⟨i, vv, u0, hn0, hi, rfl, hm138⟩ R139 hR139
  refine wp_seq_k (fun K140 hK140 => ?_)
  refine wp_region_lit ?_
  refine lv 43 (.bool (decide (i < (secs (sizeN s).toNat)))) rfl rfl (r_lss i (secs (sizeN s).toNat) rfl rfl rfl) ?_
  simp only [nz1, nz2, nz3]
  refine wpList_nil ?_
  refine then_n (hK140 _ _ ?_)
  refine wp_seq_k (fun K141 hK141 => ?_)
  refine cond_d (i < (secs (sizeN s).toNat)) rfl (fun hc142 => ?_) (fun hc142 => ?_)
  rotate_left
  · rw [decide_eq_false hc142]
    obtain rfl : i = secs (sizeN s).toNat := by omega
    refine wp_exit ?_
    refine then_x ?_
    refine then_x ?_
    refine blk_x ?_
    refine then_n (hK132 _ _ ?_)
    refine wp_seq_k (fun K183 hK183 => ?_)
    refine wp_region_lit ?_
    refine lv 61 (.agg #[.int .i64 (getZ (s.take 1)), .int .i64 (getZ ((s.take 3).drop 1)), .int .i64 (getZ ((s.take 11).drop 7)), .int .i64 (getZ ((s.take 15).drop 11)), .int .i64 (getZ ((s.take 23).drop 15)), .int .i64 (getZ ((s.take 7).drop 3)), .int .i64 (getZ ((s.take 27).drop 23)), vv]) rfl rfl (r_whole (hm138.at 1 rfl) Try.underlying48 rfl (by exact sz_node) rfl rfl) ?_
    simp only [nz1, nz2, nz3]
    refine lst (wanted_none rfl) (m_call hm138 62 (.tuple #[.string (tx (bytesR (rawN s))), .int .i64 (errR (rawN s))]) rfl (run_Bytes rfl rfl) (bytes_any (rawN s) vv _ (by have h := (Rd.of_row (hm138.row 2 rfl)); show Rd _ _ (blkN s _).length 1 _; rw [blkN_len]; exact h)) (fun w184 (hm185 : Mm none w w184 [.blk g4 #[.int .i64 0, .int .i64 0, .int .i64 0, .int .i64 0, .int .i64 0, .int .i64 0, .int .i64 0, .slice none 0 0] 48, .blk g30 #[.int .i64 (getZ (s.take 1)), .int .i64 (getZ ((s.take 3).drop 1)), .int .i64 (getZ ((s.take 11).drop 7)), .int .i64 (getZ ((s.take 15).drop 11)), .int .i64 (getZ ((s.take 23).drop 15)), .int .i64 (getZ ((s.take 7).drop 3)), .int .i64 (getZ ((s.take 27).drop 23)), vv] 48, .row vv (secs (sizeN s).toNat) ((blkN s (secs (sizeN s).toNat)).map iv) 3 1]) => ?_))
    simp only [nz1, nz2, nz3]
    refine lv 60 (.tuple #[.string (tx (bytesR (rawN s))), .int .i64 (errR (rawN s))]) rfl rfl (run_mv rfl rfl) ?_
    simp only [nz1, nz2, nz3]
    refine lv 63 (.string (tx (bytesR (rawN s)))) rfl rfl (run_ex rfl rfl rfl) ?_
    simp only [nz1, nz2, nz3]
    refine lv 64 (.int .i64 (errR (rawN s))) rfl rfl (run_ex rfl rfl rfl) ?_
    simp only [nz1, nz2, nz3]
    refine lv 7 (.string (tx (bytesR (rawN s)))) rfl rfl (run_as rfl rfl) ?_
    simp only [nz1, nz2, nz3]
    refine lv 8 (.int .i64 (errR (rawN s))) rfl rfl (run_as rfl rfl) ?_
    simp only [nz1, nz2, nz3]
    refine wpList_nil ?_
    refine then_n (hK183 _ _ ?_)
    refine wp_seq_k (fun K186 hK186 => ?_)
    refine wp_seq_k (fun K187 hK187 => ?_)
    refine wp_region_lit ?_
    refine lv 65 (.int .i64 (errR (rawN s))) rfl rfl (run_mv rfl rfl) ?_
    simp only [nz1, nz2, nz3]
    refine lvb 66 (¬ errR (rawN s) = ((0 : Nat) : Int)) rfl rfl (z_neq (errR (rawN s)) ((0 : Nat) : Int) rfl rfl rfl) (fun hs188 => ?_) (fun hs188 => ?_)
    · simp only [nz1, nz2, nz3]
      refine lv 67 (.bool true) rfl rfl (run_mv rfl rfl) ?_
      simp only [nz1, nz2, nz3]
      refine lst_skip 68 rfl rfl ?_
      simp only [nz1, nz2, nz3]
      refine lst_skip 69 rfl rfl ?_
      simp only [nz1, nz2, nz3]
      refine lst_skip 70 rfl rfl ?_
      simp only [nz1, nz2, nz3]
      refine lv 71 (.bool true) rfl rfl (run_pick rfl rfl rfl) ?_
      simp only [nz1, nz2, nz3]
      refine wpList_nil ?_
      refine then_n (hK187 _ _ ?_)
      refine cond_t rfl ?_
      refine wp_seq_k (fun K189 hK189 => ?_)
      refine wp_region_lit ?_
      refine lv 72 (.agg #[.int .i64 0, .int .i64 0, .int .i64 0, .int .i64 0, .int .i64 0, .int .i64 0, .int .i64 0, .slice none 0 0]) rfl rfl (by unfold execOp; go_simp; try rfl) ?_
      simp only [nz1, nz2, nz3]
      refine lst (wanted_none rfl) (m_store 0 48 _ _ 0 (.agg #[.int .i64 0, .int .i64 0, .int .i64 0, .int .i64 0, .int .i64 0, .int .i64 0, .int .i64 0, .slice none 0 0]) (old := #[.int .i64 0, .int .i64 0, .int .i64 0, .int .i64 0, .int .i64 0, .int .i64 0, .int .i64 0, .slice none 0 0]) (new := #[.int .i64 0, .int .i64 0, .int .i64 0, .int .i64 0, .int .i64 0, .int .i64 0, .int .i64 0, .slice none 0 0]) hm185 rfl rfl rfl rfl rfl (by exact sz_node) (show 8 ≤ 8 from Nat.le_refl _) (by simp [Value.cells, Value.oneCell']) rfl (fun w190 (hm191 : Mm none w w190 [.blk g4 #[.int .i64 0, .int .i64 0, .int .i64 0, .int .i64 0, .int .i64 0, .int .i64 0, .int .i64 0, .slice none 0 0] 48, .blk g30 #[.int .i64 (getZ (s.take 1)), .int .i64 (getZ ((s.take 3).drop 1)), .int .i64 (getZ ((s.take 11).drop 7)), .int .i64 (getZ ((s.take 15).drop 11)), .int .i64 (getZ ((s.take 23).drop 15)), .int .i64 (getZ ((s.take 7).drop 3)), .int .i64 (getZ ((s.take 27).drop 23)), vv] 48, .row vv (secs (sizeN s).toNat) ((blkN s (secs (sizeN s).toNat)).map iv) 3 1]) => ?_))
      refine lv 3 (.int .i64 2) rfl rfl (run_as rfl rfl) ?_
      simp only [nz1, nz2, nz3]
      refine wpList_nil ?_
      refine then_n (hK189 _ _ ?_)
      refine wp_ret ?_
      refine then_r ?_
      exact ⟨rfl, .tuple #[.agg #[.int .i64 0, .int .i64 0, .int .i64 0, .int .i64 0, .int .i64 0, .int .i64 0, .int .i64 0, .slice none 0 0], .int .i64 2], Mem.res_ct rfl rfl (hm191.at 0 rfl) Try.underlying48 rfl (by exact sz_node) rfl, ⟨read_no (fun hg => hs188 (if_pos hg.2.2.1)), hm191.below⟩⟩
    simp only [nz1, nz2, nz3]
    refine lv 67 (.bool false) rfl rfl (run_mv rfl rfl) ?_
    simp only [nz1, nz2, nz3]
    refine lst rfl (w_value 68 (.string (tx (bytesR (rawN s)))) rfl (run_mv rfl rfl) ?_)
    simp only [nz1, nz2, nz3]
    refine lst rfl (w_value 69 (.string (tx s)) rfl (run_mv rfl rfl) ?_)
    simp only [nz1, nz2, nz3]
    refine lst rfl (w_value 70 (.bool (decide (¬ (bytesR (rawN s)) = s))) rfl (t_neq (bytesR (rawN s)) s rfl rfl rfl) ?_)
    simp only [nz1, nz2, nz3]
    refine lv 71 (.bool (decide (¬ (bytesR (rawN s)) = s))) rfl rfl (run_pickf rfl rfl rfl) ?_
    simp only [nz1, nz2, nz3]
    refine wpList_nil ?_
    have hck : CheckP (rawN s) := errR_ok (Classical.not_not.1 hs188)
    refine then_n (hK187 _ _ ?_)
    refine cond_d (¬ (bytesR (rawN s)) = s) rfl (fun hc192 => ?_) (fun hc192 => ?_)
    · rw [decide_eq_true hc192]
      refine wp_seq_k (fun K193 hK193 => ?_)
      refine wp_region_lit ?_
      refine lv 72 (.agg #[.int .i64 0, .int .i64 0, .int .i64 0, .int .i64 0, .int .i64 0, .int .i64 0, .int .i64 0, .slice none 0 0]) rfl rfl (by unfold execOp; go_simp; try rfl) ?_
      simp only [nz1, nz2, nz3]
      refine lst (wanted_none rfl) (m_store 0 48 _ _ 0 (.agg #[.int .i64 0, .int .i64 0, .int .i64 0, .int .i64 0, .int .i64 0, .int .i64 0, .int .i64 0, .slice none 0 0]) (old := #[.int .i64 0, .int .i64 0, .int .i64 0, .int .i64 0, .int .i64 0, .int .i64 0, .int .i64 0, .slice none 0 0]) (new := #[.int .i64 0, .int .i64 0, .int .i64 0, .int .i64 0, .int .i64 0, .int .i64 0, .int .i64 0, .slice none 0 0]) hm185 rfl rfl rfl rfl rfl (by exact sz_node) (show 8 ≤ 8 from Nat.le_refl _) (by simp [Value.cells, Value.oneCell']) rfl (fun w194 (hm195 : Mm none w w194 [.blk g4 #[.int .i64 0, .int .i64 0, .int .i64 0, .int .i64 0, .int .i64 0, .int .i64 0, .int .i64 0, .slice none 0 0] 48, .blk g30 #[.int .i64 (getZ (s.take 1)), .int .i64 (getZ ((s.take 3).drop 1)), .int .i64 (getZ ((s.take 11).drop 7)), .int .i64 (getZ ((s.take 15).drop 11)), .int .i64 (getZ ((s.take 23).drop 15)), .int .i64 (getZ ((s.take 7).drop 3)), .int .i64 (getZ ((s.take 27).drop 23)), vv] 48, .row vv (secs (sizeN s).toNat) ((blkN s (secs (sizeN s).toNat)).map iv) 3 1]) => ?_))
      refine lv 3 (.int .i64 2) rfl rfl (run_as rfl rfl) ?_
      simp only [nz1, nz2, nz3]
      refine wpList_nil ?_
      refine then_n (hK193 _ _ ?_)
      refine wp_ret ?_
      refine then_r ?_
      exact ⟨rfl, .tuple #[.agg #[.int .i64 0, .int .i64 0, .int .i64 0, .int .i64 0, .int .i64 0, .int .i64 0, .int .i64 0, .slice none 0 0], .int .i64 2], Mem.res_ct rfl rfl (hm195.at 0 rfl) Try.underlying48 rfl (by exact sz_node) rfl, ⟨read_no (fun hg => hc192 (by rw [bytesR, if_pos hck]; exact hg.2.2.2)), hm195.below⟩⟩
    rw [decide_eq_false hc192]
    have hgood : goodR s := ⟨h256, hsz, hck, by have := Classical.not_not.1 hc192; rwa [bytesR, if_pos hck] at this⟩
    refine wp_skip ?_
    refine then_n (hK186 _ _ ?_)
    refine wp_seq_k (fun K196 hK196 => ?_)
    refine wp_region_lit ?_
    refine lv 73 (.agg #[.int .i64 (getZ (s.take 1)), .int .i64 (getZ ((s.take 3).drop 1)), .int .i64 (getZ ((s.take 11).drop 7)), .int .i64 (getZ ((s.take 15).drop 11)), .int .i64 (getZ ((s.take 23).drop 15)), .int .i64 (getZ ((s.take 7).drop 3)), .int .i64 (getZ ((s.take 27).drop 23)), vv]) rfl rfl (r_whole (hm185.at 1 rfl) Try.underlying48 rfl (by exact sz_node) rfl rfl) ?_
    simp only [nz1, nz2, nz3]
    have ho199 := own_one (hm185.row 2 rfl)
    refine lst (wanted_none rfl) (m_store 0 48 _ _ 0 (.agg #[.int .i64 (getZ (s.take 1)), .int .i64 (getZ ((s.take 3).drop 1)), .int .i64 (getZ ((s.take 11).drop 7)), .int .i64 (getZ ((s.take 15).drop 11)), .int .i64 (getZ ((s.take 23).drop 15)), .int .i64 (getZ ((s.take 7).drop 3)), .int .i64 (getZ ((s.take 27).drop 23)), vv]) (old := #[.int .i64 0, .int .i64 0, .int .i64 0, .int .i64 0, .int .i64 0, .int .i64 0, .int .i64 0, .slice none 0 0]) (new := #[.int .i64 (getZ (s.take 1)), .int .i64 (getZ ((s.take 3).drop 1)), .int .i64 (getZ ((s.take 11).drop 7)), .int .i64 (getZ ((s.take 15).drop 11)), .int .i64 (getZ ((s.take 23).drop 15)), .int .i64 (getZ ((s.take 7).drop 3)), .int .i64 (getZ ((s.take 27).drop 23)), vv]) hm185 rfl rfl rfl rfl rfl (by exact sz_node) (show 8 ≤ 8 from Nat.le_refl _) (by rw [Array.all_eq_true_iff_forall_mem]; intro x hx; simp only [Value.cells, List.mem_toArray, List.mem_cons, List.not_mem_nil, or_false] at hx; rcases hx with rfl | rfl | rfl | rfl | rfl | rfl | rfl | rfl <;> first | rfl | assumption) rfl (fun w197 (hm198 : Mm none w w197 [.blk g4 #[.int .i64 (getZ (s.take 1)), .int .i64 (getZ ((s.take 3).drop 1)), .int .i64 (getZ ((s.take 11).drop 7)), .int .i64 (getZ ((s.take 15).drop 11)), .int .i64 (getZ ((s.take 23).drop 15)), .int .i64 (getZ ((s.take 7).drop 3)), .int .i64 (getZ ((s.take 27).drop 23)), vv] 48, .blk g30 #[.int .i64 (getZ (s.take 1)), .int .i64 (getZ ((s.take 3).drop 1)), .int .i64 (getZ ((s.take 11).drop 7)), .int .i64 (getZ ((s.take 15).drop 11)), .int .i64 (getZ ((s.take 23).drop 15)), .int .i64 (getZ ((s.take 7).drop 3)), .int .i64 (getZ ((s.take 27).drop 23)), vv] 48, .row vv (secs (sizeN s).toNat) ((blkN s (secs (sizeN s).toNat)).map iv) 3 1]) => ?_))
    refine lv 3 (.int .i64 0) rfl rfl (run_as rfl rfl) ?_
    simp only [nz1, nz2, nz3]
    refine wpList_nil ?_
    refine then_n (hK196 _ _ ?_)
    refine wp_ret ?_
    exact ⟨rfl, .tuple #[.agg #[.int .i64 (getZ (s.take 1)), .int .i64 (getZ ((s.take 3).drop 1)), .int .i64 (getZ ((s.take 11).drop 7)), .int .i64 (getZ ((s.take 15).drop 11)), .int .i64 (getZ ((s.take 23).drop 15)), .int .i64 (getZ ((s.take 7).drop 3)), .int .i64 (getZ ((s.take 27).drop 23)), vv], .int .i64 0], Mem.res_ct rfl rfl (hm198.at 0 rfl) Try.underlying48 rfl (by exact sz_node) rfl, ⟨read_yes hgood (hm198.gives 2 rfl), hm198.below⟩⟩
  rw [decide_eq_true hc142]
  refine wp_skip ?_
  refine then_n (hK141 _ _ ?_)
  refine wp_seq_k (fun K143 hK143 => ?_)
  refine wp_block ?_
  refine wp_seq_k (fun K144 hK144 => ?_)
  refine wp_region_lit ?_
  refine lv 44 (.int .i64 ((i : Nat) : Int)) rfl rfl (run_mv rfl rfl) ?_
  simp only [nz1, nz2, nz3]
  refine lv 5 (.int .i64 ((i : Nat) : Int)) rfl rfl (run_as rfl rfl) ?_
  simp only [nz1, nz2, nz3]
  refine wpList_nil ?_
  refine then_n (hK144 _ _ ?_)
  refine wp_seq_k (fun K145 hK145 => ?_)
  refine wp_region_lit ?_
  refine lv 45 (.int .i64 ((i : Nat) : Int)) rfl rfl (run_mv rfl rfl) ?_
  simp only [nz1, nz2, nz3]
  refine lv 46 (.int .i64 (((4 * i) : Nat) : Int)) rfl rfl (r_mul 4 i (show _ < 9223372036854775808 from by omega) rfl rfl rfl) ?_
  simp only [nz1, nz2, nz3]
  refine lv 47 (.int .i64 (((28 + (4 * i)) : Nat) : Int)) rfl rfl (r_add 28 (4 * i) (show _ < 9223372036854775808 from by omega) rfl rfl rfl) ?_
  simp only [nz1, nz2, nz3]
  refine lv 6 (.int .i64 (((28 + (4 * i)) : Nat) : Int)) rfl rfl (run_as rfl rfl) ?_
  simp only [nz1, nz2, nz3]
  refine wpList_nil ?_
  refine then_n (hK145 _ _ ?_)
  refine wp_mono (Q := fun e a' w' => e = Exit.normal ∧ ∃ g152 : Nat, ∃ v155 : Value, a' = ⟨#[.string (tx s), undef, .pointer (some ⟨g4, 0, none⟩), .int .i64 0, .pointer (some ⟨g30, 0, none⟩), .int .i64 ((i : Nat) : Int), .int .i64 (((28 + (4 * i)) : Nat) : Int), undef, undef, .string (tx s), .int .i64 ((s.length : Nat) : Int), .bool false, undef, .string (tx s), .string (tx (s.take 1)), .int .i64 (getZ (s.take 1)), .string (tx s), .string (tx ((s.take 3).drop 1)), .int .i64 (getZ ((s.take 3).drop 1)), .string (tx s), .string (tx ((s.take 7).drop 3)), .int .i64 (getZ ((s.take 7).drop 3)), .string (tx s), .string (tx ((s.take 11).drop 7)), .int .i64 (getZ ((s.take 11).drop 7)), .string (tx s), .string (tx ((s.take 15).drop 11)), .int .i64 (getZ ((s.take 15).drop 11)), .string (tx s), .string (tx ((s.take 23).drop 15)), .int .i64 (getZ ((s.take 23).drop 15)), .string (tx s), .string (tx ((s.take 27).drop 23)), .int .i64 (getZ ((s.take 27).drop 23)), .agg #[.int .i64 (getZ (s.take 1)), .int .i64 (getZ ((s.take 3).drop 1)), .int .i64 (getZ ((s.take 11).drop 7)), .int .i64 (getZ ((s.take 15).drop 11)), .int .i64 (getZ ((s.take 23).drop 15)), .int .i64 (getZ ((s.take 7).drop 3)), .int .i64 (getZ ((s.take 27).drop 23)), .slice none 0 0], .pointer (some ⟨g30, 6, none⟩), .int .i64 (getZ ((s.take 27).drop 23)), .bool false, undef, .pointer (some ⟨g30, 6, none⟩), .int .i64 (getZ ((s.take 27).drop 23)), .int .i64 (((secs (sizeN s).toNat) : Nat) : Int), .int .i64 ((i : Nat) : Int), .bool true, .int .i64 ((i : Nat) : Int), .int .i64 ((i : Nat) : Int), .int .i64 (((4 * i) : Nat) : Int), .int .i64 (((28 + (4 * i)) : Nat) : Int), .pointer (some ⟨g30, 7, none⟩), vv, .string (tx s), .int .i64 (((28 + (4 * i)) : Nat) : Int), .int .i64 (((28 + (4 * i)) : Nat) : Int), .int .i64 ((((28 + (4 * i)) + 4) : Nat) : Int), .string (tx ((s.take ((28 + (4 * i)) + 4)).drop (28 + (4 * i)))), .int .i64 (getZ ((s.take ((28 + (4 * i)) + 4)).drop (28 + (4 * i)))), .slice (some ⟨g152, 0, none⟩) 1 1, v155, .pointer (some ⟨g30, 7, none⟩), u0 18, undef, undef, undef, undef, undef, undef, undef, undef, undef, undef, undef, undef, undef, undef], []⟩ ∧ Mm none w w' [.blk g4 #[.int .i64 0, .int .i64 0, .int .i64 0, .int .i64 0, .int .i64 0, .int .i64 0, .int .i64 0, .slice none 0 0] 48, .blk g30 #[.int .i64 (getZ (s.take 1)), .int .i64 (getZ ((s.take 3).drop 1)), .int .i64 (getZ ((s.take 11).drop 7)), .int .i64 (getZ ((s.take 15).drop 11)), .int .i64 (getZ ((s.take 23).drop 15)), .int .i64 (getZ ((s.take 7).drop 3)), .int .i64 (getZ ((s.take 27).drop 23)), v155] 48, .row v155 (i + 1) (((blkN s i).map iv) ++ [Value.int .i64 (getZ ((s.take ((28 + (4 * i)) + 4)).drop (28 + (4 * i))))]) 3 1, .blk g152 #[.int .i64 (getZ ((s.take ((28 + (4 * i)) + 4)).drop (28 + (4 * i))))] 3]) ?_ ?_
  · have hm146 := hm138.drew
    refine wp_region_held_drew (S := fun w' => True) (by kernel_rfl) (trivial) (fun _ => ?_)
    generalize w137.drew = w147 at *
    refine Sym.take_at 0 48 (.pointer (some ⟨g30, 7, none⟩)) rfl rfl (by kernel_rfl) (by kernel_rfl) (by kernel_rfl) (fun _ _ _ h => nomatch h.1) rfl (fun _ hw => r_fa48_7 g30 0 rfl rfl) (trivial) ?_
    simp only [nz1, nz2, nz3]
    refine Sym.take_at 2 50 (.string (tx s)) rfl rfl (by kernel_rfl) (by kernel_rfl) (by kernel_rfl) (fun _ _ _ h => nomatch h.1) rfl (fun _ hw => run_mv rfl rfl) (trivial) ?_
    simp only [nz1, nz2, nz3]
    refine Sym.take_at 3 51 (.int .i64 (((28 + (4 * i)) : Nat) : Int)) rfl rfl (by kernel_rfl) (by kernel_rfl) (by kernel_rfl) (fun _ _ _ h => nomatch h.1) rfl (fun _ hw => run_mv rfl rfl) (trivial) ?_
    simp only [nz1, nz2, nz3]
    refine Sym.take_at 4 52 (.int .i64 (((28 + (4 * i)) : Nat) : Int)) rfl rfl (by kernel_rfl) (by kernel_rfl) (by kernel_rfl) (fun _ _ _ h => nomatch h.1) rfl (fun _ hw => run_mv rfl rfl) (trivial) ?_
    simp only [nz1, nz2, nz3]
    refine Sym.take_at 5 53 (.int .i64 ((((28 + (4 * i)) + 4) : Nat) : Int)) rfl rfl (by kernel_rfl) (by kernel_rfl) (by kernel_rfl) (fun _ _ _ h => nomatch h.1) rfl (fun _ hw => r_add (28 + (4 * i)) 4 (show _ < 9223372036854775808 from by omega) rfl rfl rfl) (trivial) ?_
    simp only [nz1, nz2, nz3]
    refine Sym.take_at 6 54 (.string (tx ((s.take ((28 + (4 * i)) + 4)).drop (28 + (4 * i))))) rfl rfl (by kernel_rfl) (by kernel_rfl) (by kernel_rfl) (fun _ _ _ h => nomatch h.1) rfl (fun _ hw => t_cut s (28 + (4 * i)) ((28 + (4 * i)) + 4) (by omega) (by omega) Try.underlying9 rfl rfl rfl rfl) (trivial) ?_
    simp only [nz1, nz2, nz3]
    refine two_ready 1 7 (by kernel_rfl) ?_ ?_
    · refine opd rfl rfl (w_value 49 (vv) rfl (r_load (hm146.at 1 rfl) rfl Try.underlying46 rfl rfl rfl) ⟨trivial, ?_⟩)
      simp only [nz1, nz2, nz3]
      refine one_ready 7 (by kernel_rfl) ?_
      refine opd rfl rfl (m_call hm146 55 (.int .i64 (getZ ((s.take ((28 + (4 * i)) + 4)).drop (28 + (4 * i))))) rfl (run_get rfl rfl) (get_any ((s.take ((28 + (4 * i)) + 4)).drop (28 + (4 * i))) (by simp; omega) _) (fun w148 hm149 => ?_))
      refine ⟨trivial, ?_⟩
      simp only [nz1, nz2, nz3]
      refine one_ready 8 (by kernel_rfl) ?_
      refine opd rfl rfl (m_make (c := #[.int .i64 (getZ ((s.take ((28 + (4 * i)) + 4)).drop (28 + (4 * i))))]) (T := 3) (fun g => .slice (some ⟨g, 0, none⟩) 1 1) hm149 56 rfl (by unfold execOp; go_simp; try rfl) (fun g152 w150 hm151 => ?_))
      refine ⟨trivial, ?_⟩
      simp only [nz1, nz2, nz3]
      refine one_ready 9 (by kernel_rfl) ?_
      obtain ⟨iq, hiq, hz1, hz2, hz3⟩ := inf_int
      refine opd rfl rfl (m_append 2 (news := [Value.int .i64 (getZ ((s.take ((28 + (4 * i)) + 4)).drop (28 + (4 * i))))]) iq _ _ _ _ ⟨g152, 0, none⟩ hm151 rfl 57 rfl rfl Try.underlying46 hiq hz1 hz2 hz3 (by rfl) (by decide) rfl rfl rfl (hm151.at 3 rfl).news (by simp [Value.oneCell']) (by unfold maxLen; omega) (by omega) (fun v155 w153 _ hm154 => ?_))
      refine ⟨trivial, ?_⟩
      simp only [nz1, nz2, nz3]
      refine Sym.take_at 10 58 (.pointer (some ⟨g30, 7, none⟩)) rfl rfl (by kernel_rfl) (by kernel_rfl) (by kernel_rfl) (fun _ _ _ h => nomatch h.1) rfl (fun _ hw => r_fa48_7 g30 0 rfl rfl) (trivial) ?_
      simp only [nz1, nz2, nz3]
      refine one_ready 11 (by kernel_rfl) ?_
      have ho158 := own_one (hm154.row 2 rfl)
      refine opd rfl rfl (m_store 1 46 _ _ 7 (v155) (old := #[.int .i64 (getZ (s.take 1)), .int .i64 (getZ ((s.take 3).drop 1)), .int .i64 (getZ ((s.take 11).drop 7)), .int .i64 (getZ ((s.take 15).drop 11)), .int .i64 (getZ ((s.take 23).drop 15)), .int .i64 (getZ ((s.take 7).drop 3)), .int .i64 (getZ ((s.take 27).drop 23)), vv]) (new := #[.int .i64 (getZ (s.take 1)), .int .i64 (getZ ((s.take 3).drop 1)), .int .i64 (getZ ((s.take 11).drop 7)), .int .i64 (getZ ((s.take 15).drop 11)), .int .i64 (getZ ((s.take 23).drop 15)), .int .i64 (getZ ((s.take 7).drop 3)), .int .i64 (getZ ((s.take 27).drop 23)), v155]) hm154 rfl rfl rfl rfl rfl (by rw [cells_one ho158]; exact sz_ints) (by rw [cells_one ho158]; exact (show 7 + 1 ≤ 8 from by decide)) (one_all ho158) (by rw [cells_one ho158]; rfl) (fun w156 hm157 => ?_))
      refine ⟨trivial, ?_⟩
      refine wpAnyH_done (by kernel_rfl) ?_ _
      exact ⟨rfl, g152, v155, rfl, hm157⟩
    · refine opd rfl rfl (m_call hm146 55 (.int .i64 (getZ ((s.take ((28 + (4 * i)) + 4)).drop (28 + (4 * i))))) rfl (run_get rfl rfl) (get_any ((s.take ((28 + (4 * i)) + 4)).drop (28 + (4 * i))) (by simp; omega) _) (fun w159 hm160 => ?_))
      refine ⟨trivial, ?_⟩
      simp only [nz1, nz2, nz3]
      refine two_ready 1 8 (by kernel_rfl) ?_ ?_
      · refine opd rfl rfl (w_value 49 (vv) rfl (r_load (hm160.at 1 rfl) rfl Try.underlying46 rfl rfl rfl) ⟨trivial, ?_⟩)
        simp only [nz1, nz2, nz3]
        refine one_ready 8 (by kernel_rfl) ?_
        refine opd rfl rfl (m_make (c := #[.int .i64 (getZ ((s.take ((28 + (4 * i)) + 4)).drop (28 + (4 * i))))]) (T := 3) (fun g => .slice (some ⟨g, 0, none⟩) 1 1) hm160 56 rfl (by unfold execOp; go_simp; try rfl) (fun g163 w161 hm162 => ?_))
        refine ⟨trivial, ?_⟩
        simp only [nz1, nz2, nz3]
        refine one_ready 9 (by kernel_rfl) ?_
        obtain ⟨iq, hiq, hz1, hz2, hz3⟩ := inf_int
        refine opd rfl rfl (m_append 2 (news := [Value.int .i64 (getZ ((s.take ((28 + (4 * i)) + 4)).drop (28 + (4 * i))))]) iq _ _ _ _ ⟨g163, 0, none⟩ hm162 rfl 57 rfl rfl Try.underlying46 hiq hz1 hz2 hz3 (by rfl) (by decide) rfl rfl rfl (hm162.at 3 rfl).news (by simp [Value.oneCell']) (by unfold maxLen; omega) (by omega) (fun v166 w164 _ hm165 => ?_))
        refine ⟨trivial, ?_⟩
        simp only [nz1, nz2, nz3]
        refine Sym.take_at 10 58 (.pointer (some ⟨g30, 7, none⟩)) rfl rfl (by kernel_rfl) (by kernel_rfl) (by kernel_rfl) (fun _ _ _ h => nomatch h.1) rfl (fun _ hw => r_fa48_7 g30 0 rfl rfl) (trivial) ?_
        simp only [nz1, nz2, nz3]
        refine one_ready 11 (by kernel_rfl) ?_
        have ho169 := own_one (hm165.row 2 rfl)
        refine opd rfl rfl (m_store 1 46 _ _ 7 (v166) (old := #[.int .i64 (getZ (s.take 1)), .int .i64 (getZ ((s.take 3).drop 1)), .int .i64 (getZ ((s.take 11).drop 7)), .int .i64 (getZ ((s.take 15).drop 11)), .int .i64 (getZ ((s.take 23).drop 15)), .int .i64 (getZ ((s.take 7).drop 3)), .int .i64 (getZ ((s.take 27).drop 23)), vv]) (new := #[.int .i64 (getZ (s.take 1)), .int .i64 (getZ ((s.take 3).drop 1)), .int .i64 (getZ ((s.take 11).drop 7)), .int .i64 (getZ ((s.take 15).drop 11)), .int .i64 (getZ ((s.take 23).drop 15)), .int .i64 (getZ ((s.take 7).drop 3)), .int .i64 (getZ ((s.take 27).drop 23)), v166]) hm165 rfl rfl rfl rfl rfl (by rw [cells_one ho169]; exact sz_ints) (by rw [cells_one ho169]; exact (show 7 + 1 ≤ 8 from by decide)) (one_all ho169) (by rw [cells_one ho169]; rfl) (fun w167 hm168 => ?_))
        refine ⟨trivial, ?_⟩
        refine wpAnyH_done (by kernel_rfl) ?_ _
        exact ⟨rfl, g163, v166, rfl, hm168⟩
      · refine opd rfl rfl (m_make (c := #[.int .i64 (getZ ((s.take ((28 + (4 * i)) + 4)).drop (28 + (4 * i))))]) (T := 3) (fun g => .slice (some ⟨g, 0, none⟩) 1 1) hm160 56 rfl (by unfold execOp; go_simp; try rfl) (fun g172 w170 hm171 => ?_))
        refine ⟨trivial, ?_⟩
        simp only [nz1, nz2, nz3]
        refine one_ready 1 (by kernel_rfl) ?_
        refine opd rfl rfl (w_value 49 (vv) rfl (r_load (hm171.at 1 rfl) rfl Try.underlying46 rfl rfl rfl) ⟨trivial, ?_⟩)
        simp only [nz1, nz2, nz3]
        refine one_ready 9 (by kernel_rfl) ?_
        obtain ⟨iq, hiq, hz1, hz2, hz3⟩ := inf_int
        refine opd rfl rfl (m_append 2 (news := [Value.int .i64 (getZ ((s.take ((28 + (4 * i)) + 4)).drop (28 + (4 * i))))]) iq _ _ _ _ ⟨g172, 0, none⟩ hm171 rfl 57 rfl rfl Try.underlying46 hiq hz1 hz2 hz3 (by rfl) (by decide) rfl rfl rfl (hm171.at 3 rfl).news (by simp [Value.oneCell']) (by unfold maxLen; omega) (by omega) (fun v175 w173 _ hm174 => ?_))
        refine ⟨trivial, ?_⟩
        simp only [nz1, nz2, nz3]
        refine Sym.take_at 10 58 (.pointer (some ⟨g30, 7, none⟩)) rfl rfl (by kernel_rfl) (by kernel_rfl) (by kernel_rfl) (fun _ _ _ h => nomatch h.1) rfl (fun _ hw => r_fa48_7 g30 0 rfl rfl) (trivial) ?_
        simp only [nz1, nz2, nz3]
        refine one_ready 11 (by kernel_rfl) ?_
        have ho178 := own_one (hm174.row 2 rfl)
        refine opd rfl rfl (m_store 1 46 _ _ 7 (v175) (old := #[.int .i64 (getZ (s.take 1)), .int .i64 (getZ ((s.take 3).drop 1)), .int .i64 (getZ ((s.take 11).drop 7)), .int .i64 (getZ ((s.take 15).drop 11)), .int .i64 (getZ ((s.take 23).drop 15)), .int .i64 (getZ ((s.take 7).drop 3)), .int .i64 (getZ ((s.take 27).drop 23)), vv]) (new := #[.int .i64 (getZ (s.take 1)), .int .i64 (getZ ((s.take 3).drop 1)), .int .i64 (getZ ((s.take 11).drop 7)), .int .i64 (getZ ((s.take 15).drop 11)), .int .i64 (getZ ((s.take 23).drop 15)), .int .i64 (getZ ((s.take 7).drop 3)), .int .i64 (getZ ((s.take 27).drop 23)), v175]) hm174 rfl rfl rfl rfl rfl (by rw [cells_one ho178]; exact sz_ints) (by rw [cells_one ho178]; exact (show 7 + 1 ≤ 8 from by decide)) (one_all ho178) (by rw [cells_one ho178]; rfl) (fun w176 hm177 => ?_))
        refine ⟨trivial, ?_⟩
        refine wpAnyH_done (by kernel_rfl) ?_ _
        exact ⟨rfl, g172, v175, rfl, hm177⟩
  clear hm138
  rintro _ _ w179 ⟨rfl, g152, v155, rfl, hm180⟩
  have hm181 : Mm none w w179 [.blk g4 #[.int .i64 0, .int .i64 0, .int .i64 0, .int .i64 0, .int .i64 0, .int .i64 0, .int .i64 0, .slice none 0 0] 48, .blk g30 #[.int .i64 (getZ (s.take 1)), .int .i64 (getZ ((s.take 3).drop 1)), .int .i64 (getZ ((s.take 11).drop 7)), .int .i64 (getZ ((s.take 15).drop 11)), .int .i64 (getZ ((s.take 23).drop 15)), .int .i64 (getZ ((s.take 7).drop 3)), .int .i64 (getZ ((s.take 27).drop 23)), v155] 48, .row v155 (i + 1) ((blkN s (i + 1)).map iv) 3 1, .blk g152 #[.int .i64 (getZ ((s.take ((28 + (4 * i)) + 4)).drop (28 + (4 * i))))] 3] := by
    have e1 : ((i + 1) : Nat) = (i + 1) := rfl
    have e2 : (((blkN s (i + 1)).map iv) : List Value) = (((blkN s i).map iv) ++ [Value.int .i64 (getZ ((s.take ((28 + (4 * i)) + 4)).drop (28 + (4 * i))))]) := blkN_step s i
    rw [e1, e2]
    exact hm180
  refine blk_n ?_
  refine then_n (hK143 _ _ ?_)
  refine wp_region_lit ?_
  refine lv 59 (.int .i64 (((i + 1) : Nat) : Int)) rfl rfl (r_add i 1 (show (i + 1) < 9223372036854775808 from by omega) rfl rfl rfl) ?_
  simp only [nz1, nz2, nz3]
  refine lv 42 (.int .i64 (((i + 1) : Nat) : Int)) rfl rfl (run_mv rfl rfl) ?_
  simp only [nz1, nz2, nz3]
  refine wpList_nil ?_
  have hm182 : Mm none w w179 [.blk g4 #[.int .i64 0, .int .i64 0, .int .i64 0, .int .i64 0, .int .i64 0, .int .i64 0, .int .i64 0, .slice none 0 0] 48, .blk g30 #[.int .i64 (getZ (s.take 1)), .int .i64 (getZ ((s.take 3).drop 1)), .int .i64 (getZ ((s.take 11).drop 7)), .int .i64 (getZ ((s.take 15).drop 11)), .int .i64 (getZ ((s.take 23).drop 15)), .int .i64 (getZ ((s.take 7).drop 3)), .int .i64 (getZ ((s.take 27).drop 23)), v155] 48, .row v155 (i + 1) ((blkN s (i + 1)).map iv) 3 1] := Mm.pre (m := [.blk g152 #[.int .i64 (getZ ((s.take ((28 + (4 * i)) + 4)).drop (28 + (4 * i))))] 3]) hm181
  refine then_n (hR139 _ _ _ ⟨(i + 1), _, (fun qq => List.getD [.int .i64 ((i : Nat) : Int), .int .i64 (((28 + (4 * i)) : Nat) : Int), .bool true, .int .i64 ((i : Nat) : Int), .int .i64 ((i : Nat) : Int), .int .i64 (((4 * i) : Nat) : Int), .int .i64 (((28 + (4 * i)) : Nat) : Int), .pointer (some ⟨g30, 7, none⟩), vv, .string (tx s), .int .i64 (((28 + (4 * i)) : Nat) : Int), .int .i64 (((28 + (4 * i)) : Nat) : Int), .int .i64 ((((28 + (4 * i)) + 4) : Nat) : Int), .string (tx ((s.take ((28 + (4 * i)) + 4)).drop (28 + (4 * i)))), .int .i64 (getZ ((s.take ((28 + (4 * i)) + 4)).drop (28 + (4 * i)))), .slice (some ⟨g152, 0, none⟩) 1 1, v155, .pointer (some ⟨g30, 7, none⟩), .int .i64 (((i + 1) : Nat) : Int)] qq undef), rfl, (by omega), rfl, hm182⟩ ?_)
  omega
end Go.Proofs.Ytmammofbgllceaa.Nod
