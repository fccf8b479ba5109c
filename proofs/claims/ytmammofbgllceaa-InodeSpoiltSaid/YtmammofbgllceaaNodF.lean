/- Layer 17: a node's sector. -/
import Derived.Test.YtmammofbgllceaaNodC
import Derived.Test.YtmammofbgllceaaShelf
namespace Go.Proofs.Ytmammofbgllceaa.Nod
open Go.RowKit
open Go.Proofs.Ytmammofbgllceaa.Sym Go.Proofs.Ytmammofbgllceaa.Mem
open Go.Proofs.Ytmammofbgllceaa.Sx hiding Mm m_alloc m_store m_put m_call m_callx m_make m_append r_string r_ixS

theorem repeat_any (c : Nat) (hc : c ≤ 1000) (w : World) : Calls Try.prog 47 #[.string (tx [0]), .int .i64 ((c : Nat) : Int)] w (fun e w' => e = .returned (.string (tx (List.replicate c 0))) ∧ Below w.heap.size w w') := by
  have h := Go.Proofs.Try.strings_Repeat (tx [0]) c w (by omega) (by rw [tx_size, List.length_singleton]; omega)
  have e : ∀ c, Lib.repeatL (tx [0]).data.toList c = List.replicate c 0 := by
    intro c
    induction c with
    | zero => rfl
    | succ c ih => rw [Lib.repeatL, ih]; rfl
  rw [e] at h
  exact h
set_option maxHeartbeats 4000000 in
set_option maxRecDepth 100000 in
theorem bytes_any (x : Nd) (v : Value) (w : World) (hb : Rd w v x.blocks.length 1 (x.blocks.map iv)) : Calls Try.prog 27 #[.agg #[.int .i64 (x.kind), .int .i64 (x.mode), .int .i64 (x.uid), .int .i64 (x.gid), .int .i64 (x.time), .int .i64 (x.links), .int .i64 (x.size), v]] w (fun e w' => e = .returned (.tuple #[.string (tx (bytesR x)), .int .i64 (errR x)]) ∧ Below w.heap.size w w') := by
  go_enter Try.func27, Try.ntmps27
  have hm0 := Mm.nil none w
  refine wp_seq_k (fun K1 hK1 => ?_)
  refine wp_region_lit ?_
  refine lst (wanted_none rfl) (m_alloc (c := #[.int .i64 (x.kind), .int .i64 (x.mode), .int .i64 (x.uid), .int .i64 (x.gid), .int .i64 (x.time), .int .i64 (x.links), .int .i64 (x.size), v]) (T := 48) hm0 1 rfl (run_box rfl rfl) (fun g4 w2 (hm3 : Mm none w w2 [.blk g4 #[.int .i64 (x.kind), .int .i64 (x.mode), .int .i64 (x.uid), .int .i64 (x.gid), .int .i64 (x.time), .int .i64 (x.links), .int .i64 (x.size), v] 48]) => ?_))
  simp only [nz1, nz2, nz3]
  refine lv 2 (.string (tx ([]))) rfl rfl (run_as rfl rfl) ?_
  simp only [nz1, nz2, nz3]
  refine lv 3 (.int .i64 0) rfl rfl (run_as rfl rfl) ?_
  simp only [nz1, nz2, nz3]
  refine wpList_nil ?_
  refine then_n (hK1 _ _ ?_)
  refine wp_seq_k (fun K5 hK5 => ?_)
  refine wp_seq_k (fun K6 hK6 => ?_)
  refine wp_region_lit ?_
  refine lv 7 (.agg #[.int .i64 (x.kind), .int .i64 (x.mode), .int .i64 (x.uid), .int .i64 (x.gid), .int .i64 (x.time), .int .i64 (x.links), .int .i64 (x.size), v]) rfl rfl (r_whole (hm3.at 0 rfl) Try.underlying48 rfl (by exact sz_node) rfl rfl) ?_
  simp only [nz1, nz2, nz3]
  refine lst (wanted_none rfl) (m_call hm3 8 (.bool (decide (CheckP x))) rfl (run_Check rfl rfl) (check_any x v _ (hb.below hm3.below)) (fun w7 (hm8 : Mm none w w7 [.blk g4 #[.int .i64 (x.kind), .int .i64 (x.mode), .int .i64 (x.uid), .int .i64 (x.gid), .int .i64 (x.time), .int .i64 (x.links), .int .i64 (x.size), v] 48]) => ?_))
  simp only [nz1, nz2, nz3]
  refine lv 9 (.bool (decide (¬ (CheckP x)))) rfl rfl (r_notD (CheckP x) rfl rfl) ?_
  simp only [nz1, nz2, nz3]
  refine wpList_nil ?_
  refine then_n (hK6 _ _ ?_)
  refine cond_d (¬ (CheckP x)) rfl (fun hc9 => ?_) (fun hc9 => ?_)
  · rw [decide_eq_true hc9]
    refine wp_seq_k (fun K10 hK10 => ?_)
    refine wp_region_lit ?_
    refine lv 2 (.string (tx ([]))) rfl rfl (run_as rfl rfl) ?_
    simp only [nz1, nz2, nz3]
    refine lv 3 (.int .i64 1) rfl rfl (run_as rfl rfl) ?_
    simp only [nz1, nz2, nz3]
    refine wpList_nil ?_
    refine then_n (hK10 _ _ ?_)
    refine wp_ret ?_
    refine then_r ?_
    exact ⟨rfl, .tuple #[.string (tx ([])), .int .i64 1], res_tt rfl rfl rfl, ⟨by rw [show bytesR x = [] from if_neg hc9, show errR x = 1 from if_neg hc9], hm8.below⟩⟩
  rw [decide_eq_false hc9]
  have hck : CheckP x := Classical.not_not.1 hc9
  have hlen := check_len hck
  have hbl := body_len x
  refine wp_skip ?_
  refine then_n (hK5 _ _ ?_)
  refine wp_seq_k (fun K11 hK11 => ?_)
  refine wp_region_lit ?_
  refine lv 10 (.pointer (some ⟨g4, 0, none⟩)) rfl rfl (r_fa48_0 g4 0 rfl rfl) ?_
  simp only [nz1, nz2, nz3]
  refine lv 11 (.int .i64 (x.kind)) rfl rfl (r_load (hm8.at 0 rfl) rfl Try.underlying3 rfl rfl rfl) ?_
  simp only [nz1, nz2, nz3]
  have hm14 : Mm none w w7 [.blk g4 #[.int .i64 (x.kind), .int .i64 (x.mode), .int .i64 (x.uid), .int .i64 (x.gid), .int .i64 (x.time), .int .i64 (x.links), .int .i64 (x.size), v] 48, .row (.slice none 0 0) 0 ([]) 5 1] := hm8.nilrow 5 1
  refine lst (wanted_none rfl) (m_callg 1 hm14 rfl 12 rfl (run_put rfl rfl rfl rfl) (put_any (.slice none 0 0) 0 ([]) x.kind 1 (by decide) (by omega) _ (hm14.row 1 rfl)) (fun v15 w12 (hm13 : Mm none w w12 [.blk g4 #[.int .i64 (x.kind), .int .i64 (x.mode), .int .i64 (x.uid), .int .i64 (x.gid), .int .i64 (x.time), .int .i64 (x.links), .int .i64 (x.size), v] 48, .row v15 (0 + 1) ([] ++ (putL x.kind 1).map bv) 5 1]) => ?_))
  simp only [nz1, nz2, nz3]
  refine lv 4 (v15) rfl rfl (run_as rfl rfl) ?_
  simp only [nz1, nz2, nz3]
  refine wpList_nil ?_
  refine then_n (hK11 _ _ ?_)
  refine wp_seq_k (fun K16 hK16 => ?_)
  refine wp_region_lit ?_
  refine lv 13 (v15) rfl rfl (run_mv rfl rfl) ?_
  simp only [nz1, nz2, nz3]
  refine lv 14 (.pointer (some ⟨g4, 1, none⟩)) rfl rfl (r_fa48_1 g4 0 rfl rfl) ?_
  simp only [nz1, nz2, nz3]
  refine lv 15 (.int .i64 (x.mode)) rfl rfl (r_load (hm13.at 0 rfl) rfl Try.underlying3 rfl rfl rfl) ?_
  simp only [nz1, nz2, nz3]
  refine lst (wanted_none rfl) (m_callg 1 hm13 rfl 16 rfl (run_put rfl rfl rfl rfl) (put_any v15 (0 + 1) ([] ++ (putL x.kind 1).map bv) x.mode 2 (by decide) (by omega) _ (hm13.row 1 rfl)) (fun v19 w17 (hm18 : Mm none w w17 [.blk g4 #[.int .i64 (x.kind), .int .i64 (x.mode), .int .i64 (x.uid), .int .i64 (x.gid), .int .i64 (x.time), .int .i64 (x.links), .int .i64 (x.size), v] 48, .row v19 ((0 + 1) + 2) (([] ++ (putL x.kind 1).map bv) ++ (putL x.mode 2).map bv) 5 1]) => ?_))
  simp only [nz1, nz2, nz3]
  refine lv 4 (v19) rfl rfl (run_as rfl rfl) ?_
  simp only [nz1, nz2, nz3]
  refine wpList_nil ?_
  refine then_n (hK16 _ _ ?_)
  refine wp_seq_k (fun K20 hK20 => ?_)
  refine wp_region_lit ?_
  refine lv 17 (v19) rfl rfl (run_mv rfl rfl) ?_
  simp only [nz1, nz2, nz3]
  refine lv 18 (.pointer (some ⟨g4, 5, none⟩)) rfl rfl (r_fa48_5 g4 0 rfl rfl) ?_
  simp only [nz1, nz2, nz3]
  refine lv 19 (.int .i64 (x.links)) rfl rfl (r_load (hm18.at 0 rfl) rfl Try.underlying3 rfl rfl rfl) ?_
  simp only [nz1, nz2, nz3]
  refine lst (wanted_none rfl) (m_callg 1 hm18 rfl 20 rfl (run_put rfl rfl rfl rfl) (put_any v19 ((0 + 1) + 2) (([] ++ (putL x.kind 1).map bv) ++ (putL x.mode 2).map bv) x.links 4 (by decide) (by omega) _ (hm18.row 1 rfl)) (fun v23 w21 (hm22 : Mm none w w21 [.blk g4 #[.int .i64 (x.kind), .int .i64 (x.mode), .int .i64 (x.uid), .int .i64 (x.gid), .int .i64 (x.time), .int .i64 (x.links), .int .i64 (x.size), v] 48, .row v23 (((0 + 1) + 2) + 4) ((([] ++ (putL x.kind 1).map bv) ++ (putL x.mode 2).map bv) ++ (putL x.links 4).map bv) 5 1]) => ?_))
  simp only [nz1, nz2, nz3]
  refine lv 4 (v23) rfl rfl (run_as rfl rfl) ?_
  simp only [nz1, nz2, nz3]
  refine wpList_nil ?_
  refine then_n (hK20 _ _ ?_)
  refine wp_seq_k (fun K24 hK24 => ?_)
  refine wp_region_lit ?_
  refine lv 21 (v23) rfl rfl (run_mv rfl rfl) ?_
  simp only [nz1, nz2, nz3]
  refine lv 22 (.pointer (some ⟨g4, 2, none⟩)) rfl rfl (r_fa48_2 g4 0 rfl rfl) ?_
  simp only [nz1, nz2, nz3]
  refine lv 23 (.int .i64 (x.uid)) rfl rfl (r_load (hm22.at 0 rfl) rfl Try.underlying3 rfl rfl rfl) ?_
  simp only [nz1, nz2, nz3]
  refine lst (wanted_none rfl) (m_callg 1 hm22 rfl 24 rfl (run_put rfl rfl rfl rfl) (put_any v23 (((0 + 1) + 2) + 4) ((([] ++ (putL x.kind 1).map bv) ++ (putL x.mode 2).map bv) ++ (putL x.links 4).map bv) x.uid 4 (by decide) (by omega) _ (hm22.row 1 rfl)) (fun v27 w25 (hm26 : Mm none w w25 [.blk g4 #[.int .i64 (x.kind), .int .i64 (x.mode), .int .i64 (x.uid), .int .i64 (x.gid), .int .i64 (x.time), .int .i64 (x.links), .int .i64 (x.size), v] 48, .row v27 ((((0 + 1) + 2) + 4) + 4) (((([] ++ (putL x.kind 1).map bv) ++ (putL x.mode 2).map bv) ++ (putL x.links 4).map bv) ++ (putL x.uid 4).map bv) 5 1]) => ?_))
  simp only [nz1, nz2, nz3]
  refine lv 4 (v27) rfl rfl (run_as rfl rfl) ?_
  simp only [nz1, nz2, nz3]
  refine wpList_nil ?_
  refine then_n (hK24 _ _ ?_)
  refine wp_seq_k (fun K28 hK28 => ?_)
  refine wp_region_lit ?_
  refine lv 25 (v27) rfl rfl (run_mv rfl rfl) ?_
  simp only [nz1, nz2, nz3]
  refine lv 26 (.pointer (some ⟨g4, 3, none⟩)) rfl rfl (r_fa48_3 g4 0 rfl rfl) ?_
  simp only [nz1, nz2, nz3]
  refine lv 27 (.int .i64 (x.gid)) rfl rfl (r_load (hm26.at 0 rfl) rfl Try.underlying3 rfl rfl rfl) ?_
  simp only [nz1, nz2, nz3]
  refine lst (wanted_none rfl) (m_callg 1 hm26 rfl 28 rfl (run_put rfl rfl rfl rfl) (put_any v27 ((((0 + 1) + 2) + 4) + 4) (((([] ++ (putL x.kind 1).map bv) ++ (putL x.mode 2).map bv) ++ (putL x.links 4).map bv) ++ (putL x.uid 4).map bv) x.gid 4 (by decide) (by omega) _ (hm26.row 1 rfl)) (fun v31 w29 (hm30 : Mm none w w29 [.blk g4 #[.int .i64 (x.kind), .int .i64 (x.mode), .int .i64 (x.uid), .int .i64 (x.gid), .int .i64 (x.time), .int .i64 (x.links), .int .i64 (x.size), v] 48, .row v31 (((((0 + 1) + 2) + 4) + 4) + 4) ((((([] ++ (putL x.kind 1).map bv) ++ (putL x.mode 2).map bv) ++ (putL x.links 4).map bv) ++ (putL x.uid 4).map bv) ++ (putL x.gid 4).map bv) 5 1]) => ?_))
  simp only [nz1, nz2, nz3]
  refine lv 4 (v31) rfl rfl (run_as rfl rfl) ?_
  simp only [nz1, nz2, nz3]
  refine wpList_nil ?_
  refine then_n (hK28 _ _ ?_)
  refine wp_seq_k (fun K32 hK32 => ?_)
  refine wp_region_lit ?_
  refine lv 29 (v31) rfl rfl (run_mv rfl rfl) ?_
  simp only [nz1, nz2, nz3]
  refine lv 30 (.pointer (some ⟨g4, 4, none⟩)) rfl rfl (r_fa48_4 g4 0 rfl rfl) ?_
  simp only [nz1, nz2, nz3]
  refine lv 31 (.int .i64 (x.time)) rfl rfl (r_load (hm30.at 0 rfl) rfl Try.underlying3 rfl rfl rfl) ?_
  simp only [nz1, nz2, nz3]
  refine lst (wanted_none rfl) (m_callg 1 hm30 rfl 32 rfl (run_put rfl rfl rfl rfl) (put_any v31 (((((0 + 1) + 2) + 4) + 4) + 4) ((((([] ++ (putL x.kind 1).map bv) ++ (putL x.mode 2).map bv) ++ (putL x.links 4).map bv) ++ (putL x.uid 4).map bv) ++ (putL x.gid 4).map bv) x.time 8 (by decide) (by omega) _ (hm30.row 1 rfl)) (fun v35 w33 (hm34 : Mm none w w33 [.blk g4 #[.int .i64 (x.kind), .int .i64 (x.mode), .int .i64 (x.uid), .int .i64 (x.gid), .int .i64 (x.time), .int .i64 (x.links), .int .i64 (x.size), v] 48, .row v35 ((((((0 + 1) + 2) + 4) + 4) + 4) + 8) (((((([] ++ (putL x.kind 1).map bv) ++ (putL x.mode 2).map bv) ++ (putL x.links 4).map bv) ++ (putL x.uid 4).map bv) ++ (putL x.gid 4).map bv) ++ (putL x.time 8).map bv) 5 1]) => ?_))
  simp only [nz1, nz2, nz3]
  refine lv 4 (v35) rfl rfl (run_as rfl rfl) ?_
  simp only [nz1, nz2, nz3]
  refine wpList_nil ?_
  refine then_n (hK32 _ _ ?_)
  refine wp_seq_k (fun K36 hK36 => ?_)
  refine wp_region_lit ?_
  refine lv 33 (v35) rfl rfl (run_mv rfl rfl) ?_
  simp only [nz1, nz2, nz3]
  refine lv 34 (.pointer (some ⟨g4, 6, none⟩)) rfl rfl (r_fa48_6 g4 0 rfl rfl) ?_
  simp only [nz1, nz2, nz3]
  refine lv 35 (.int .i64 (x.size)) rfl rfl (r_load (hm34.at 0 rfl) rfl Try.underlying3 rfl rfl rfl) ?_
  simp only [nz1, nz2, nz3]
  refine lst (wanted_none rfl) (m_callg 1 hm34 rfl 36 rfl (run_put rfl rfl rfl rfl) (put_any v35 ((((((0 + 1) + 2) + 4) + 4) + 4) + 8) (((((([] ++ (putL x.kind 1).map bv) ++ (putL x.mode 2).map bv) ++ (putL x.links 4).map bv) ++ (putL x.uid 4).map bv) ++ (putL x.gid 4).map bv) ++ (putL x.time 8).map bv) x.size 4 (by decide) (by omega) _ (hm34.row 1 rfl)) (fun v39 w37 (hm38 : Mm none w w37 [.blk g4 #[.int .i64 (x.kind), .int .i64 (x.mode), .int .i64 (x.uid), .int .i64 (x.gid), .int .i64 (x.time), .int .i64 (x.links), .int .i64 (x.size), v] 48, .row v39 (((((((0 + 1) + 2) + 4) + 4) + 4) + 8) + 4) ((((((([] ++ (putL x.kind 1).map bv) ++ (putL x.mode 2).map bv) ++ (putL x.links 4).map bv) ++ (putL x.uid 4).map bv) ++ (putL x.gid 4).map bv) ++ (putL x.time 8).map bv) ++ (putL x.size 4).map bv) 5 1]) => ?_))
  simp only [nz1, nz2, nz3]
  refine lv 4 (v39) rfl rfl (run_as rfl rfl) ?_
  simp only [nz1, nz2, nz3]
  refine wpList_nil ?_
  refine then_n (hK36 _ _ ?_)
  refine wp_seq_k (fun K40 hK40 => ?_)
  refine wp_region_lit ?_
  refine lv 37 (v39) rfl rfl (run_mv rfl rfl) ?_
  simp only [nz1, nz2, nz3]
  refine lst (wanted_none rfl) (m_make (c := #[.int .u8 0]) (T := 5) (fun g => .slice (some ⟨g, 0, none⟩) 1 1) hm38 38 rfl (by unfold execOp; go_simp; try rfl) (fun g43 w41 (hm42 : Mm none w w41 [.blk g4 #[.int .i64 (x.kind), .int .i64 (x.mode), .int .i64 (x.uid), .int .i64 (x.gid), .int .i64 (x.time), .int .i64 (x.links), .int .i64 (x.size), v] 48, .row v39 (((((((0 + 1) + 2) + 4) + 4) + 4) + 8) + 4) ((((((([] ++ (putL x.kind 1).map bv) ++ (putL x.mode 2).map bv) ++ (putL x.links 4).map bv) ++ (putL x.uid 4).map bv) ++ (putL x.gid 4).map bv) ++ (putL x.time 8).map bv) ++ (putL x.size 4).map bv) 5 1, .blk g43 #[.int .u8 0] 5]) => ?_))
  simp only [nz1, nz2, nz3]
  obtain ⟨iq, hiq, hz1, hz2, hz3⟩ := inf_u8
  refine lst (wanted_none rfl) (m_append 1 (news := [Value.int .u8 0]) iq _ _ _ _ ⟨g43, 0, none⟩ hm42 rfl 39 rfl rfl Try.underlying37 hiq hz1 hz2 hz3 (by rfl) (by decide) rfl rfl rfl (hm42.at 2 rfl).news (by simp [Value.oneCell']) (by unfold maxLen; omega) (by omega) (fun v46 w44 _ (hm45 : Mm none w w44 [.blk g4 #[.int .i64 (x.kind), .int .i64 (x.mode), .int .i64 (x.uid), .int .i64 (x.gid), .int .i64 (x.time), .int .i64 (x.links), .int .i64 (x.size), v] 48, .row v46 ((((((((0 + 1) + 2) + 4) + 4) + 4) + 8) + 4) + 1) (((((((([] ++ (putL x.kind 1).map bv) ++ (putL x.mode 2).map bv) ++ (putL x.links 4).map bv) ++ (putL x.uid 4).map bv) ++ (putL x.gid 4).map bv) ++ (putL x.time 8).map bv) ++ (putL x.size 4).map bv) ++ [Value.int .u8 0]) 5 1, .blk g43 #[.int .u8 0] 5]) => ?_))
  simp only [nz1, nz2, nz3]
  refine lv 4 (v46) rfl rfl (run_as rfl rfl) ?_
  simp only [nz1, nz2, nz3]
  refine wpList_nil ?_
  have hm47 : Mm none w w44 [.blk g4 #[.int .i64 (x.kind), .int .i64 (x.mode), .int .i64 (x.uid), .int .i64 (x.gid), .int .i64 (x.time), .int .i64 (x.links), .int .i64 (x.size), v] 48, .row v46 (28 + 4 * 0) ((headN x ++ (x.blocks.take 0).flatMap p4).map bv) 5 1, .blk g43 #[.int .u8 0] 5] := by
    have e1 : ((28 + 4 * 0) : Nat) = ((((((((0 + 1) + 2) + 4) + 4) + 4) + 8) + 4) + 1) := rfl
    have e2 : (((headN x ++ (x.blocks.take 0).flatMap p4).map bv) : List Value) = (((((((([] ++ (putL x.kind 1).map bv) ++ (putL x.mode 2).map bv) ++ (putL x.links 4).map bv) ++ (putL x.uid 4).map bv) ++ (putL x.gid 4).map bv) ++ (putL x.time 8).map bv) ++ (putL x.size 4).map bv) ++ [Value.int .u8 0]) := head_row x
    rw [e1, e2]
    exact hm45
  refine then_n (hK40 _ _ ?_)
  refine wp_seq_k (fun K48 hK48 => ?_)
  refine wp_seq_k (fun K49 hK49 => ?_)
  refine wp_region_lit ?_
  refine lv 40 (.pointer (some ⟨g4, 7, none⟩)) rfl rfl (r_fa48_7 g4 0 rfl rfl) ?_
  simp only [nz1, nz2, nz3]
  refine lv 41 (v) rfl rfl (r_load (hm47.at 0 rfl) rfl Try.underlying46 rfl rfl rfl) ?_
  simp only [nz1, nz2, nz3]
  refine lv 42 (.int .i64 ((x.blocks.length : Nat) : Int)) rfl rfl (s_len hb rfl Try.underlying46 rfl) ?_
  simp only [nz1, nz2, nz3]
  refine lv 43 (.int .i64 0) rfl rfl (run_mv rfl rfl) ?_
  simp only [nz1, nz2, nz3]
  refine wpList_nil ?_
  refine then_n (hK49 _ _ ?_)
  refine wp_block ?_
  refine wp_loop_n (fun n' a' w' => ∃ (i : Nat) (vv : Value) (u0 : Nat → Value), n' = x.blocks.length - i ∧ (i ≤ x.blocks.length) ∧ a' = ⟨#[.agg #[.int .i64 (x.kind), .int .i64 (x.mode), .int .i64 (x.uid), .int .i64 (x.gid), .int .i64 (x.time), .int .i64 (x.links), .int .i64 (x.size), v], .pointer (some ⟨g4, 0, none⟩), .string (tx ([])), .int .i64 0, vv, undef, u0 0, .agg #[.int .i64 (x.kind), .int .i64 (x.mode), .int .i64 (x.uid), .int .i64 (x.gid), .int .i64 (x.time), .int .i64 (x.links), .int .i64 (x.size), v], .bool (decide (CheckP x)), .bool false, .pointer (some ⟨g4, 0, none⟩), .int .i64 (x.kind), v15, v15, .pointer (some ⟨g4, 1, none⟩), .int .i64 (x.mode), v19, v19, .pointer (some ⟨g4, 5, none⟩), .int .i64 (x.links), v23, v23, .pointer (some ⟨g4, 2, none⟩), .int .i64 (x.uid), v27, v27, .pointer (some ⟨g4, 3, none⟩), .int .i64 (x.gid), v31, v31, .pointer (some ⟨g4, 4, none⟩), .int .i64 (x.time), v35, v35, .pointer (some ⟨g4, 6, none⟩), .int .i64 (x.size), v39, v39, .slice (some ⟨g43, 0, none⟩) 1 1, v46, .pointer (some ⟨g4, 7, none⟩), v, .int .i64 ((x.blocks.length : Nat) : Int), .int .i64 ((i : Nat) : Int), u0 1, u0 2, u0 3, u0 4, u0 5, u0 6, u0 7, undef, undef, undef, undef, undef, undef, undef], []⟩ ∧ Mm none w w' [.blk g4 #[.int .i64 (x.kind), .int .i64 (x.mode), .int .i64 (x.uid), .int .i64 (x.gid), .int .i64 (x.time), .int .i64 (x.links), .int .i64 (x.size), v] 48, .row vv (28 + 4 * i) ((headN x ++ (x.blocks.take i).flatMap p4).map bv) 5 1, .blk g43 #[.int .u8 0] 5]) ⟨0, _, (fun qq => List.getD [undef, undef, undef, undef, undef, undef, undef, undef] qq undef), rfl, (Nat.zero_le _), rfl, hm47⟩ ?_
  clear hm47
  rintro _ _ w50 ⟨i, vv, u0, hn0, hi, rfl, hm51⟩ R52 hR52
  refine wp_seq_k (fun K53 hK53 => ?_)
  refine wp_region_lit ?_
  refine lv 44 (.bool (decide (i < x.blocks.length))) rfl rfl (r_lss i x.blocks.length rfl rfl rfl) ?_
  simp only [nz1, nz2, nz3]
  refine wpList_nil ?_
  refine then_n (hK53 _ _ ?_)
  refine wp_seq_k (fun K54 hK54 => ?_)
  refine cond_d (i < x.blocks.length) rfl (fun hc55 => ?_) (fun hc55 => ?_)
  · rw [decide_eq_true hc55]
    refine wp_skip ?_
    refine then_n (hK54 _ _ ?_)
    refine wp_seq_k (fun K56 hK56 => ?_)
    refine wp_block ?_
    refine wp_seq_k (fun K57 hK57 => ?_)
    refine wp_region_lit ?_
    obtain ⟨ge58, oe59, ce60, rfl⟩ := Rd.openz (hb.below hm51.below) (by omega)
    refine lv 45 (.pointer (some ⟨ge58, (oe59 + i * 1), none⟩)) rfl rfl (r_ixS ge58 oe59 i x.blocks.length ce60 1 (by omega) Try.underlying46 (by exact sz_int) rfl rfl rfl) ?_
    simp only [nz1, nz2, nz3]
    refine lv 46 (.int .i64 (x.blocks.getD i 0)) rfl rfl (r_cellw (cell_el (eo := 0) (Rd.cells (hb.below hm51.below)) (iv_at x.blocks i (by omega))) Try.underlying3 rfl rfl rfl) ?_
    simp only [nz1, nz2, nz3]
    refine lv 6 (.int .i64 (x.blocks.getD i 0)) rfl rfl (run_as rfl rfl) ?_
    simp only [nz1, nz2, nz3]
    refine wpList_nil ?_
    refine then_n (hK57 _ _ ?_)
    refine wp_region_lit ?_
    refine lv 47 (vv) rfl rfl (run_mv rfl rfl) ?_
    simp only [nz1, nz2, nz3]
    refine lv 48 (.int .i64 (x.blocks.getD i 0)) rfl rfl (run_mv rfl rfl) ?_
    simp only [nz1, nz2, nz3]
    refine lst (wanted_none rfl) (m_callg 1 hm51 rfl 49 rfl (run_put rfl rfl rfl rfl) (put_any vv (28 + 4 * i) ((headN x ++ (x.blocks.take i).flatMap p4).map bv) (x.blocks.getD i 0) 4 (by decide) (by omega) _ (hm51.row 1 rfl)) (fun v63 w61 (hm62 : Mm none w w61 [.blk g4 #[.int .i64 (x.kind), .int .i64 (x.mode), .int .i64 (x.uid), .int .i64 (x.gid), .int .i64 (x.time), .int .i64 (x.links), .int .i64 (x.size), .slice (some ⟨ge58, oe59, none⟩) x.blocks.length ce60] 48, .row v63 ((28 + 4 * i) + 4) (((headN x ++ (x.blocks.take i).flatMap p4).map bv) ++ (putL (x.blocks.getD i 0) 4).map bv) 5 1, .blk g43 #[.int .u8 0] 5]) => ?_))
    simp only [nz1, nz2, nz3]
    refine lv 4 (v63) rfl rfl (run_as rfl rfl) ?_
    simp only [nz1, nz2, nz3]
    refine wpList_nil ?_
    have hm64 : Mm none w w61 [.blk g4 #[.int .i64 (x.kind), .int .i64 (x.mode), .int .i64 (x.uid), .int .i64 (x.gid), .int .i64 (x.time), .int .i64 (x.links), .int .i64 (x.size), .slice (some ⟨ge58, oe59, none⟩) x.blocks.length ce60] 48, .row v63 (28 + 4 * (i + 1)) ((headN x ++ (x.blocks.take (i + 1)).flatMap p4).map bv) 5 1, .blk g43 #[.int .u8 0] 5] := by
      have e1 : ((28 + 4 * (i + 1)) : Nat) = ((28 + 4 * i) + 4) := by omega
      have e2 : (((headN x ++ (x.blocks.take (i + 1)).flatMap p4).map bv) : List Value) = (((headN x ++ (x.blocks.take i).flatMap p4).map bv) ++ (putL (x.blocks.getD i 0) 4).map bv) := blocks_step x i (by omega)
      rw [e1, e2]
      exact hm62
    refine blk_n ?_
    refine then_n (hK56 _ _ ?_)
    refine wp_region_lit ?_
    refine lv 50 (.int .i64 (((i + 1) : Nat) : Int)) rfl rfl (r_add i 1 (show (i + 1) < 9223372036854775808 from by omega) rfl rfl rfl) ?_
    simp only [nz1, nz2, nz3]
    refine lv 43 (.int .i64 (((i + 1) : Nat) : Int)) rfl rfl (run_mv rfl rfl) ?_
    simp only [nz1, nz2, nz3]
    refine wpList_nil ?_
    refine then_n (hR52 _ _ _ ⟨(i + 1), _, (fun qq => List.getD [.int .i64 (x.blocks.getD i 0), .bool true, .pointer (some ⟨ge58, (oe59 + i * 1), none⟩), .int .i64 (x.blocks.getD i 0), vv, .int .i64 (x.blocks.getD i 0), v63, .int .i64 (((i + 1) : Nat) : Int)] qq undef), rfl, (by omega), rfl, hm64⟩ ?_)
    omega
  rw [decide_eq_false hc55]
  obtain rfl : i = x.blocks.length := by omega
  have hm65 : Mm none w w50 [.blk g4 #[.int .i64 (x.kind), .int .i64 (x.mode), .int .i64 (x.uid), .int .i64 (x.gid), .int .i64 (x.time), .int .i64 (x.links), .int .i64 (x.size), v] 48, .row vv (28 + 4 * x.blocks.length) ((headN x ++ x.blocks.flatMap p4).map bv) 5 1, .blk g43 #[.int .u8 0] 5] := by
    have e1 : ((28 + 4 * x.blocks.length) : Nat) = (28 + 4 * x.blocks.length) := rfl
    have e2 : (((headN x ++ x.blocks.flatMap p4).map bv) : List Value) = ((headN x ++ (x.blocks.take x.blocks.length).flatMap p4).map bv) := blocks_all x
    rw [e1, e2]
    exact hm51
  refine wp_exit ?_
  refine then_x ?_
  refine then_x ?_
  refine blk_x ?_
  refine then_n (hK48 _ _ ?_)
  refine wp_seq_k (fun K66 hK66 => ?_)
  have hm67 := hm65.drew
  refine wp_region_held_drew (S := fun w' => Rd w' vv (28 + 4 * x.blocks.length) 1 ((headN x ++ x.blocks.flatMap p4).map bv)) (by kernel_rfl) (Rd.of_row (hm67.row 1 rfl)) (fun _ => ?_)
  generalize w50.drew = w68 at *
  refine tk 0 51 (vv) rfl rfl (fun _ hw => run_mv rfl rfl) (Rd.of_row (hm67.row 1 rfl)) ?_
  simp only [nz1, nz2, nz3]
  refine tk 1 52 (.string (tx (headN x ++ x.blocks.flatMap p4))) rfl rfl (fun _ hw => r_stringR (headN x ++ x.blocks.flatMap p4) hw Try.underlying37 Try.underlying5 Try.underlying9 rfl rfl) (Rd.of_row (hm67.row 1 rfl)) ?_
  simp only [nz1, nz2, nz3]
  refine tk 2 53 (vv) rfl rfl (fun _ hw => run_mv rfl rfl) (Rd.of_row (hm67.row 1 rfl)) ?_
  simp only [nz1, nz2, nz3]
  refine tk 3 54 (.int .i64 (((28 + 4 * x.blocks.length) : Nat) : Int)) rfl rfl (fun _ hw => s_len (Rd.of_row (hm67.row 1 rfl)) rfl Try.underlying37 rfl) (Rd.of_row (hm67.row 1 rfl)) ?_
  simp only [nz1, nz2, nz3]
  refine tk 4 55 (.int .i64 (((256 - (28 + 4 * x.blocks.length)) : Nat) : Int)) rfl rfl (fun _ hw => r_sub 256 (28 + 4 * x.blocks.length) (by decide) (by omega) rfl rfl rfl) (Rd.of_row (hm67.row 1 rfl)) ?_
  simp only [nz1, nz2, nz3]
  refine one_ready 5 (by kernel_rfl) ?_
  refine opd rfl (wanted_none rfl) (m_call hm67 56 (.string (tx (List.replicate (256 - (28 + 4 * x.blocks.length)) 0))) rfl (run_Repeat rfl rfl rfl) (repeat_any (256 - (28 + 4 * x.blocks.length)) (by omega) _) (fun w69 (hm70 : Mm none w w69 [.blk g4 #[.int .i64 (x.kind), .int .i64 (x.mode), .int .i64 (x.uid), .int .i64 (x.gid), .int .i64 (x.time), .int .i64 (x.links), .int .i64 (x.size), v] 48, .row vv (28 + 4 * x.blocks.length) ((headN x ++ x.blocks.flatMap p4).map bv) 5 1, .blk g43 #[.int .u8 0] 5]) => ?_))
  refine ⟨Rd.of_row (hm70.row 1 rfl), ?_⟩
  simp only [nz1, nz2, nz3]
  refine tk 6 57 (.string (tx ((headN x ++ x.blocks.flatMap p4) ++ (List.replicate (256 - (28 + 4 * x.blocks.length)) 0)))) rfl rfl (fun _ hw => t_cat (headN x ++ x.blocks.flatMap p4) (List.replicate (256 - (28 + 4 * x.blocks.length)) 0) (by rw [hbl, List.length_replicate]; omega) rfl rfl rfl) (Rd.of_row (hm70.row 1 rfl)) ?_
  simp only [nz1, nz2, nz3]
  refine one_ready 7 (by kernel_rfl) ?_
  refine opd rfl (wanted_none rfl) (w_value 2 (.string (tx ((headN x ++ x.blocks.flatMap p4) ++ (List.replicate (256 - (28 + 4 * x.blocks.length)) 0)))) rfl (run_as rfl rfl) ⟨Rd.of_row (hm70.row 1 rfl), ?_⟩)
  simp only [nz1, nz2, nz3]
  refine one_ready 8 (by kernel_rfl) ?_
  refine opd rfl (wanted_none rfl) (w_value 3 (.int .i64 0) rfl (run_as rfl rfl) ⟨Rd.of_row (hm70.row 1 rfl), ?_⟩)
  simp only [nz1, nz2, nz3]
  refine wpAnyH_done (by kernel_rfl) ?_ _
  refine then_n (hK66 _ _ ?_)
  refine wp_ret ?_
  exact ⟨rfl, .tuple #[.string (tx ((headN x ++ x.blocks.flatMap p4) ++ (List.replicate (256 - (28 + 4 * x.blocks.length)) 0))), .int .i64 0], res_tt rfl rfl rfl, ⟨by rw [show bytesR x = bytesN x from if_pos hck, show errR x = 0 from if_pos hck]; rfl, hm70.below⟩⟩
end Go.Proofs.Ytmammofbgllceaa.Nod
