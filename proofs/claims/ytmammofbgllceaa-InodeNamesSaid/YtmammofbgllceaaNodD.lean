/- Layer 17: names, the document's. -/
import Derived.Test.YtmammofbgllceaaNodC
namespace Go.Proofs.Ytmammofbgllceaa.Nod
open Go.RowKit
open Go.Proofs.Ytmammofbgllceaa.Sym Go.Proofs.Ytmammofbgllceaa.Mem
open Go.Proofs.Ytmammofbgllceaa.Sx hiding Mm m_alloc m_store m_put m_call m_callx m_make m_append r_string r_ixS

set_option maxHeartbeats 4000000 in
set_option maxRecDepth 100000 in
theorem rnames_any (s : List UInt8) (hs : s.length ≤ 1000000) (w : World) : Calls Try.prog 36 #[.string (tx s)] w (fun e w' => (∃ v, e = .returned (.tuple #[v, .bool (namesL s []).isSome]) ∧ w'.ownsRow w.heap.size 65 2 v ((namesL s []).getD []).length (((namesL s []).getD []).flatMap pv)) ∧ Below w.heap.size w w') := by
  go_enter Try.func36, Try.ntmps36
  have hm0 := Mm.nil none w
  refine wp_seq_k (fun K1 hK1 => ?_)
  refine wp_region_lit ?_
  refine lv 2 (.slice none 0 0) rfl rfl (run_as rfl rfl) ?_
  simp only [nz1, nz2, nz3]
  refine lv 3 (.bool false) rfl rfl (run_as rfl rfl) ?_
  simp only [nz1, nz2, nz3]
  refine wpList_nil ?_
  refine then_n (hK1 _ _ ?_)
  refine wp_seq_k (fun K2 hK2 => ?_)
  refine wp_region_lit ?_
  refine lv 4 (.slice none 0 0) rfl rfl (run_as rfl rfl) ?_
  simp only [nz1, nz2, nz3]
  refine wpList_nil ?_
  have hm3 : Mm none w w [.row (.slice none 0 0) 0 ([]) 65 2] := hm0.nilrow 65 2
  refine then_n (hK2 _ _ ?_)
  refine wp_seq_k (fun K4 hK4 => ?_)
  refine wp_block ?_
  refine wp_loop_n (fun n' a' w' => ∃ (t : List UInt8) (acc : List (List UInt8 × Int)) (vv : Value) (u0 : Nat → Value), n' = t.length ∧ (acc.length + t.length ≤ s.length) ∧ (namesL s [] = rest acc t (lastN acc)) ∧ a' = ⟨#[.string (tx t), undef, u0 0, u0 1, vv, u0 2, u0 3, u0 4, u0 5, u0 6, u0 7, u0 8, u0 9, u0 10, u0 11, u0 12, u0 13, u0 14, u0 15, u0 16, u0 17, u0 18, u0 19, u0 20, u0 21, u0 22, u0 23, u0 24, u0 25, u0 26, u0 27, u0 28, u0 29, u0 30, u0 31, u0 32, u0 33, u0 34, u0 35, u0 36, u0 37, u0 38, u0 39, u0 40, u0 41, u0 42, u0 43, u0 44, u0 45, u0 46, u0 47, u0 48, u0 49, u0 50, u0 51, u0 52, u0 53, u0 54, u0 55, u0 56, undef], []⟩ ∧ Mm none w w' [.row vv acc.length (acc.flatMap pv) 65 2]) ⟨s, [], _, (fun qq => bif Nat.blt qq 24 then List.getD [.slice none 0 0, .bool false, undef, undef, undef, undef, undef, undef, undef, undef, undef, undef, undef, undef, undef, undef, undef, undef, undef, undef, undef, undef, undef, undef] qq undef else bif Nat.blt qq 48 then List.getD [undef, undef, undef, undef, undef, undef, undef, undef, undef, undef, undef, undef, undef, undef, undef, undef, undef, undef, undef, undef, undef, undef, undef, undef] (qq - 24) undef else List.getD [undef, undef, undef, undef, undef, undef, undef, undef, undef] (qq - 48) undef), rfl, (by simp), (rest_0 s).symm, rfl, hm3⟩ ?_
  clear hm3
  rintro _ _ w5 ⟨t, acc, vv, u0, hn0, hac, hinv, rfl, hm6⟩ R7 hR7
  refine wp_seq_k (fun K8 hK8 => ?_)
  refine wp_seq_k (fun K9 hK9 => ?_)
  refine wp_region_lit ?_
  refine lv 7 (.string (tx t)) rfl rfl (run_mv rfl rfl) ?_
  simp only [nz1, nz2, nz3]
  refine lv 8 (.int .i64 ((t.length : Nat) : Int)) rfl rfl (t_len rfl Try.underlying9 rfl) ?_
  simp only [nz1, nz2, nz3]
  refine lv 9 (.bool (decide (0 < t.length))) rfl rfl (r_gtr t.length 0 rfl rfl rfl) ?_
  simp only [nz1, nz2, nz3]
  refine wpList_nil ?_
  refine then_n (hK9 _ _ ?_)
  refine cond_d (0 < t.length) rfl (fun hc10 => ?_) (fun hc10 => ?_)
  rotate_left
  · rw [decide_eq_false hc10]
    obtain rfl : t = [] := List.eq_nil_of_length_eq_zero (by omega)
    refine wp_exit ?_
    refine then_x ?_
    refine then_x ?_
    refine blk_x ?_
    refine then_n (hK4 _ _ ?_)
    refine wp_seq_k (fun K67 hK67 => ?_)
    refine wp_region_lit ?_
    refine lv 60 (vv) rfl rfl (run_mv rfl rfl) ?_
    simp only [nz1, nz2, nz3]
    refine lv 2 (vv) rfl rfl (run_as rfl rfl) ?_
    simp only [nz1, nz2, nz3]
    refine lv 3 (.bool true) rfl rfl (run_as rfl rfl) ?_
    simp only [nz1, nz2, nz3]
    refine wpList_nil ?_
    refine then_n (hK67 _ _ ?_)
    refine wp_ret ?_
    exact ⟨rfl, .tuple #[vv, .bool true], res_tt rfl rfl rfl, ⟨names_some (hinv.trans (rest_end _ _)) (hm6.gives 0 rfl), hm6.below⟩⟩
  rw [decide_eq_true hc10]
  have hz : ¬ t = [] := fun e => by rw [e] at hc10; exact absurd hc10 (by decide)
  refine wp_skip ?_
  refine then_n (hK8 _ _ ?_)
  refine wp_block ?_
  refine wp_seq_k (fun K11 hK11 => ?_)
  refine wp_seq_k (fun K12 hK12 => ?_)
  refine wp_region_lit ?_
  refine lv 10 (.string (tx t)) rfl rfl (run_mv rfl rfl) ?_
  simp only [nz1, nz2, nz3]
  refine lv 11 (.int .i64 ((t.length : Nat) : Int)) rfl rfl (t_len rfl Try.underlying9 rfl) ?_
  simp only [nz1, nz2, nz3]
  refine lvb 12 (t.length < 6) rfl rfl (r_lss t.length 6 rfl rfl rfl) (fun hs13 => ?_) (fun hs13 => ?_)
  · simp only [nz1, nz2, nz3]
    refine lv 13 (.bool true) rfl rfl (run_mv rfl rfl) ?_
    simp only [nz1, nz2, nz3]
    refine lst_skip 14 rfl rfl ?_
    simp only [nz1, nz2, nz3]
    refine lst_skip 15 rfl rfl ?_
    simp only [nz1, nz2, nz3]
    refine lst_skip 16 rfl rfl ?_
    simp only [nz1, nz2, nz3]
    refine lst_skip 17 rfl rfl ?_
    simp only [nz1, nz2, nz3]
    refine lst_skip 18 rfl rfl ?_
    simp only [nz1, nz2, nz3]
    refine lst_skip 19 rfl rfl ?_
    simp only [nz1, nz2, nz3]
    refine lst_skip 20 rfl rfl ?_
    simp only [nz1, nz2, nz3]
    refine lv 21 (.bool true) rfl rfl (run_pick rfl rfl rfl) ?_
    simp only [nz1, nz2, nz3]
    refine lv 22 (.bool true) rfl rfl (run_mv rfl rfl) ?_
    simp only [nz1, nz2, nz3]
    refine lst_skip 23 rfl rfl ?_
    simp only [nz1, nz2, nz3]
    refine lst_skip 24 rfl rfl ?_
    simp only [nz1, nz2, nz3]
    refine lst_skip 25 rfl rfl ?_
    simp only [nz1, nz2, nz3]
    refine lv 26 (.bool true) rfl rfl (run_pick rfl rfl rfl) ?_
    simp only [nz1, nz2, nz3]
    refine wpList_nil ?_
    refine then_n (hK12 _ _ ?_)
    refine cond_t rfl ?_
    refine wp_seq_k (fun K14 hK14 => ?_)
    refine wp_region_lit ?_
    refine lv 2 (.slice none 0 0) rfl rfl (run_as rfl rfl) ?_
    simp only [nz1, nz2, nz3]
    refine lv 3 (.bool false) rfl rfl (run_as rfl rfl) ?_
    simp only [nz1, nz2, nz3]
    refine wpList_nil ?_
    refine then_n (hK14 _ _ ?_)
    refine wp_ret ?_
    refine then_r ?_
    refine blk_r ?_
    refine then_r ?_
    refine blk_r ?_
    refine then_r ?_
    exact ⟨rfl, .tuple #[.slice none 0 0, .bool false], res_tt rfl rfl rfl, ⟨names_none (hinv.trans (rest_six hz hs13)), hm6.below⟩⟩
  simp only [nz1, nz2, nz3]
  refine lv 13 (.bool false) rfl rfl (run_mv rfl rfl) ?_
  simp only [nz1, nz2, nz3]
  refine lst rfl (w_value 14 (.string (tx t)) rfl (run_mv rfl rfl) ?_)
  simp only [nz1, nz2, nz3]
  refine lst rfl (w_value 15 (.int .i64 ((t.length : Nat) : Int)) rfl (t_len rfl Try.underlying9 rfl) ?_)
  simp only [nz1, nz2, nz3]
  refine lst rfl (w_value 16 (.string (tx t)) rfl (run_mv rfl rfl) ?_)
  simp only [nz1, nz2, nz3]
  refine lst rfl (w_value 17 (.int .u8 ((by' t 4 : Nat) : Int)) rfl (t_char t 4 (by omega) Try.underlying9 rfl rfl rfl) ?_)
  simp only [nz1, nz2, nz3]
  refine lst rfl (w_value 18 (.int .i64 ((by' t 4 : Nat) : Int)) rfl (r_conv (k' := .i64) (by' t 4) (by' t 4) some_u8 Try.underlying3 (wrap_nat (Nat.lt_trans (by_lt t 4) (by decide))) rfl rfl) ?_)
  simp only [nz1, nz2, nz3]
  refine lst rfl (w_value 19 (.int .i64 (((5 + (by' t 4)) : Nat) : Int)) rfl (r_add 5 (by' t 4) (by have := by_lt t 4; show _ < 9223372036854775808; omega) rfl rfl rfl) ?_)
  simp only [nz1, nz2, nz3]
  refine lvb 20 (t.length < (5 + (by' t 4))) rfl rfl (r_lss t.length (5 + (by' t 4)) rfl rfl rfl) (fun hs15 => ?_) (fun hs15 => ?_)
  · simp only [nz1, nz2, nz3]
    refine lv 21 (.bool true) rfl rfl (run_pickf rfl rfl rfl) ?_
    simp only [nz1, nz2, nz3]
    refine lv 22 (.bool true) rfl rfl (run_mv rfl rfl) ?_
    simp only [nz1, nz2, nz3]
    refine lst_skip 23 rfl rfl ?_
    simp only [nz1, nz2, nz3]
    refine lst_skip 24 rfl rfl ?_
    simp only [nz1, nz2, nz3]
    refine lst_skip 25 rfl rfl ?_
    simp only [nz1, nz2, nz3]
    refine lv 26 (.bool true) rfl rfl (run_pick rfl rfl rfl) ?_
    simp only [nz1, nz2, nz3]
    refine wpList_nil ?_
    have h5 : ¬ t.length < 5 := by omega
    refine then_n (hK12 _ _ ?_)
    refine cond_t rfl ?_
    refine wp_seq_k (fun K16 hK16 => ?_)
    refine wp_region_lit ?_
    refine lv 2 (.slice none 0 0) rfl rfl (run_as rfl rfl) ?_
    simp only [nz1, nz2, nz3]
    refine lv 3 (.bool false) rfl rfl (run_as rfl rfl) ?_
    simp only [nz1, nz2, nz3]
    refine wpList_nil ?_
    refine then_n (hK16 _ _ ?_)
    refine wp_ret ?_
    refine then_r ?_
    refine blk_r ?_
    refine then_r ?_
    refine blk_r ?_
    refine then_r ?_
    exact ⟨rfl, .tuple #[.slice none 0 0, .bool false], res_tt rfl rfl rfl, ⟨names_none (hinv.trans (rest_cut hz h5 hs15)), hm6.below⟩⟩
  simp only [nz1, nz2, nz3]
  refine lv 21 (.bool false) rfl rfl (run_pickf rfl rfl rfl) ?_
  simp only [nz1, nz2, nz3]
  refine lv 22 (.bool false) rfl rfl (run_mv rfl rfl) ?_
  simp only [nz1, nz2, nz3]
  refine lst rfl (w_value 23 (.string (tx t)) rfl (run_mv rfl rfl) ?_)
  simp only [nz1, nz2, nz3]
  refine lst rfl (w_value 24 (.int .u8 ((by' t 4 : Nat) : Int)) rfl (t_char t 4 (by omega) Try.underlying9 rfl rfl rfl) ?_)
  simp only [nz1, nz2, nz3]
  refine lst rfl (w_value 25 (.bool (decide (by' t 4 = 0))) rfl (r_eql (by' t 4) 0 rfl rfl rfl) ?_)
  simp only [nz1, nz2, nz3]
  refine lv 26 (.bool (decide (by' t 4 = 0))) rfl rfl (run_pickf rfl rfl rfl) ?_
  simp only [nz1, nz2, nz3]
  refine wpList_nil ?_
  have h5 : ¬ t.length < 5 := by omega
  have h6 := hs15
  refine then_n (hK12 _ _ ?_)
  refine cond_d (by' t 4 = 0) rfl (fun hc17 => ?_) (fun hc17 => ?_)
  · rw [decide_eq_true hc17]
    refine wp_seq_k (fun K18 hK18 => ?_)
    refine wp_region_lit ?_
    refine lv 2 (.slice none 0 0) rfl rfl (run_as rfl rfl) ?_
    simp only [nz1, nz2, nz3]
    refine lv 3 (.bool false) rfl rfl (run_as rfl rfl) ?_
    simp only [nz1, nz2, nz3]
    refine wpList_nil ?_
    refine then_n (hK18 _ _ ?_)
    refine wp_ret ?_
    refine then_r ?_
    refine blk_r ?_
    refine then_r ?_
    refine blk_r ?_
    refine then_r ?_
    exact ⟨rfl, .tuple #[.slice none 0 0, .bool false], res_tt rfl rfl rfl, ⟨names_none (hinv.trans (rest_zero hz hc17)), hm6.below⟩⟩
  rw [decide_eq_false hc17]
  have hzz := hc17
  refine wp_skip ?_
  refine then_n (hK11 _ _ ?_)
  refine wp_seq_k (fun K19 hK19 => ?_)
  refine wp_region_lit ?_
  refine lv 27 (.string (tx t)) rfl rfl (run_mv rfl rfl) ?_
  simp only [nz1, nz2, nz3]
  refine lv 28 (.int .u8 ((by' t 4 : Nat) : Int)) rfl rfl (t_char t 4 (by omega) Try.underlying9 rfl rfl rfl) ?_
  simp only [nz1, nz2, nz3]
  refine lv 29 (.int .i64 ((by' t 4 : Nat) : Int)) rfl rfl (r_conv (k' := .i64) (by' t 4) (by' t 4) some_u8 Try.underlying3 (wrap_nat (Nat.lt_trans (by_lt t 4) (by decide))) rfl rfl) ?_
  simp only [nz1, nz2, nz3]
  refine lv 30 (.int .i64 (((5 + (by' t 4)) : Nat) : Int)) rfl rfl (r_add 5 (by' t 4) (by have := by_lt t 4; show _ < 9223372036854775808; omega) rfl rfl rfl) ?_
  simp only [nz1, nz2, nz3]
  refine lv 5 (.int .i64 (((5 + (by' t 4)) : Nat) : Int)) rfl rfl (run_as rfl rfl) ?_
  simp only [nz1, nz2, nz3]
  refine wpList_nil ?_
  refine then_n (hK19 _ _ ?_)
  refine wp_seq_k (fun K20 hK20 => ?_)
  refine wp_mono (Q := fun e a' w' => e = Exit.normal ∧ ∃ g27 : Nat, a' = ⟨#[.string (tx t), undef, u0 0, u0 1, vv, .int .i64 (((5 + (by' t 4)) : Nat) : Int), .pointer (some ⟨g27, 0, none⟩), .string (tx t), .int .i64 ((t.length : Nat) : Int), .bool true, .string (tx t), .int .i64 ((t.length : Nat) : Int), .bool false, .bool false, .string (tx t), .int .i64 ((t.length : Nat) : Int), .string (tx t), .int .u8 ((by' t 4 : Nat) : Int), .int .i64 ((by' t 4 : Nat) : Int), .int .i64 (((5 + (by' t 4)) : Nat) : Int), .bool false, .bool false, .bool false, .string (tx t), .int .u8 ((by' t 4 : Nat) : Int), .bool false, .bool false, .string (tx t), .int .u8 ((by' t 4 : Nat) : Int), .int .i64 ((by' t 4 : Nat) : Int), .int .i64 (((5 + (by' t 4)) : Nat) : Int), .string (tx t), .int .i64 (((5 + (by' t 4)) : Nat) : Int), .string (tx ((t.take (5 + (by' t 4))).drop 5)), .string (tx t), .string (tx (t.take 4)), .int .i64 (getZ (t.take 4)), .agg #[.string (tx ((t.take (5 + (by' t 4))).drop 5)), .int .i64 (getZ (t.take 4))], u0 35, u0 36, u0 37, u0 38, u0 39, u0 40, u0 41, u0 42, u0 43, u0 44, u0 45, u0 46, u0 47, u0 48, u0 49, u0 50, u0 51, u0 52, u0 53, u0 54, u0 55, u0 56, undef], []⟩ ∧ Mm none w w' [.row vv acc.length (acc.flatMap pv) 65 2, .blk g27 #[.string (tx ((t.take (5 + (by' t 4))).drop 5)), .int .i64 (getZ (t.take 4))] 65]) ?_ ?_
  · have hm21 := hm6.drew
    refine wp_region_held_drew (S := fun w' => True) (by kernel_rfl) (trivial) (fun _ => ?_)
    generalize w5.drew = w22 at *
    refine Sym.take_at 0 31 (.string (tx t)) rfl rfl (by kernel_rfl) (by kernel_rfl) (by kernel_rfl) (fun _ _ _ h => nomatch h.1) rfl (fun _ hw => run_mv rfl rfl) (trivial) ?_
    simp only [nz1, nz2, nz3]
    refine Sym.take_at 1 32 (.int .i64 (((5 + (by' t 4)) : Nat) : Int)) rfl rfl (by kernel_rfl) (by kernel_rfl) (by kernel_rfl) (fun _ _ _ h => nomatch h.1) rfl (fun _ hw => run_mv rfl rfl) (trivial) ?_
    simp only [nz1, nz2, nz3]
    refine Sym.take_at 2 33 (.string (tx ((t.take (5 + (by' t 4))).drop 5))) rfl rfl (by kernel_rfl) (by kernel_rfl) (by kernel_rfl) (fun _ _ _ h => nomatch h.1) rfl (fun _ hw => t_cut t 5 (5 + (by' t 4)) (by omega) (by omega) Try.underlying9 rfl rfl rfl rfl) (trivial) ?_
    simp only [nz1, nz2, nz3]
    refine Sym.take_at 3 34 (.string (tx t)) rfl rfl (by kernel_rfl) (by kernel_rfl) (by kernel_rfl) (fun _ _ _ h => nomatch h.1) rfl (fun _ hw => run_mv rfl rfl) (trivial) ?_
    simp only [nz1, nz2, nz3]
    refine Sym.take_at 4 35 (.string (tx (t.take 4))) rfl rfl (by kernel_rfl) (by kernel_rfl) (by kernel_rfl) (fun _ _ _ h => nomatch h.1) rfl (fun _ hw => t_to t 4 (by omega) Try.underlying9 rfl rfl rfl) (trivial) ?_
    simp only [nz1, nz2, nz3]
    refine two_ready 5 7 (by kernel_rfl) ?_ ?_
    · refine opd rfl rfl (m_call hm21 36 (.int .i64 (getZ (t.take 4))) rfl (run_rget rfl rfl) (rget_any (t.take 4) (by simp; omega) _) (fun w23 hm24 => ?_))
      refine ⟨trivial, ?_⟩
      simp only [nz1, nz2, nz3]
      refine Sym.take_at 6 37 (.agg #[.string (tx ((t.take (5 + (by' t 4))).drop 5)), .int .i64 (getZ (t.take 4))]) rfl rfl (by kernel_rfl) (by kernel_rfl) (by kernel_rfl) (fun _ _ _ h => nomatch h.1) rfl (fun _ hw => by unfold execOp; go_simp; try rfl) (trivial) ?_
      simp only [nz1, nz2, nz3]
      refine one_ready 7 (by kernel_rfl) ?_
      refine opd rfl rfl (m_alloc (c := #[.string (tx ([])), .int .i64 0]) (T := 65) hm24 6 rfl (by unfold execOp; go_simp; try rfl) (fun g27 w25 hm26 => ?_))
      refine ⟨trivial, ?_⟩
      simp only [nz1, nz2, nz3]
      refine one_ready 8 (by kernel_rfl) ?_
      refine opd rfl rfl (m_store 1 65 _ _ 0 (.agg #[.string (tx ((t.take (5 + (by' t 4))).drop 5)), .int .i64 (getZ (t.take 4))]) (old := #[.string (tx ([])), .int .i64 0]) (new := #[.string (tx ((t.take (5 + (by' t 4))).drop 5)), .int .i64 (getZ (t.take 4))]) hm26 rfl rfl rfl rfl rfl (by exact sz_pl) (show 2 ≤ 2 from Nat.le_refl _) (by simp [Value.cells, Value.oneCell']) rfl (fun w28 hm29 => ?_))
      refine ⟨trivial, ?_⟩
      refine wpAnyH_done (by kernel_rfl) ?_ _
      exact ⟨rfl, g27, rfl, hm29⟩
    · refine opd rfl rfl (m_alloc (c := #[.string (tx ([])), .int .i64 0]) (T := 65) hm21 6 rfl (by unfold execOp; go_simp; try rfl) (fun g32 w30 hm31 => ?_))
      refine ⟨trivial, ?_⟩
      simp only [nz1, nz2, nz3]
      refine one_ready 5 (by kernel_rfl) ?_
      refine opd rfl rfl (m_call hm31 36 (.int .i64 (getZ (t.take 4))) rfl (run_rget rfl rfl) (rget_any (t.take 4) (by simp; omega) _) (fun w33 hm34 => ?_))
      refine ⟨trivial, ?_⟩
      simp only [nz1, nz2, nz3]
      refine Sym.take_at 6 37 (.agg #[.string (tx ((t.take (5 + (by' t 4))).drop 5)), .int .i64 (getZ (t.take 4))]) rfl rfl (by kernel_rfl) (by kernel_rfl) (by kernel_rfl) (fun _ _ _ h => nomatch h.1) rfl (fun _ hw => by unfold execOp; go_simp; try rfl) (trivial) ?_
      simp only [nz1, nz2, nz3]
      refine one_ready 8 (by kernel_rfl) ?_
      refine opd rfl rfl (m_store 1 65 _ _ 0 (.agg #[.string (tx ((t.take (5 + (by' t 4))).drop 5)), .int .i64 (getZ (t.take 4))]) (old := #[.string (tx ([])), .int .i64 0]) (new := #[.string (tx ((t.take (5 + (by' t 4))).drop 5)), .int .i64 (getZ (t.take 4))]) hm34 rfl rfl rfl rfl rfl (by exact sz_pl) (show 2 ≤ 2 from Nat.le_refl _) (by simp [Value.cells, Value.oneCell']) rfl (fun w35 hm36 => ?_))
      refine ⟨trivial, ?_⟩
      refine wpAnyH_done (by kernel_rfl) ?_ _
      exact ⟨rfl, g32, rfl, hm36⟩
  clear hm6
  rintro _ _ w37 ⟨rfl, g27, rfl, hm38⟩
  refine then_n (hK20 _ _ ?_)
  refine wp_seq_k (fun K39 hK39 => ?_)
  refine wp_seq_k (fun K40 hK40 => ?_)
  have hm41 := hm38.drew
  refine wp_region_held_drew (S := fun w' => Mem.Blk w' g27 (#[.string (tx ((t.take (5 + (by' t 4))).drop 5)), .int .i64 (getZ (t.take 4))]) 65 ∧ Rd w' vv acc.length 2 (acc.flatMap pv)) (by kernel_rfl) (⟨hm41.at 1 rfl, Rd.of_row (hm41.row 0 rfl)⟩) (fun _ => ?_)
  generalize w37.drew = w42 at *
  refine tk 0 38 (vv) rfl rfl (fun _ hw => run_mv rfl rfl) (⟨hm41.at 1 rfl, Rd.of_row (hm41.row 0 rfl)⟩) ?_
  simp only [nz1, nz2, nz3]
  refine tk 1 39 (.int .i64 ((acc.length : Nat) : Int)) rfl rfl (fun _ hw => s_len (Rd.of_row (hm41.row 0 rfl)) rfl Try.underlying60 rfl) (⟨hm41.at 1 rfl, Rd.of_row (hm41.row 0 rfl)⟩) ?_
  simp only [nz1, nz2, nz3]
  refine tkb 2 40 (0 < acc.length) rfl rfl rfl (fun _ hw => r_gtr acc.length 0 rfl rfl rfl) (⟨hm41.at 1 rfl, Rd.of_row (hm41.row 0 rfl)⟩) (fun hs43 => ?_) (fun hs43 => ?_)
  rotate_left
  · simp only [nz1, nz2, nz3]
    refine tk 3 41 (.bool false) rfl rfl (fun _ hw => run_mv rfl rfl) (⟨hm41.at 1 rfl, Rd.of_row (hm41.row 0 rfl)⟩) ?_
    simp only [nz1, nz2, nz3]
    refine skx 4 42 rfl rfl rfl (⟨hm41.at 1 rfl, Rd.of_row (hm41.row 0 rfl)⟩) ?_
    simp only [nz1, nz2, nz3]
    refine skx 5 43 rfl rfl rfl (⟨hm41.at 1 rfl, Rd.of_row (hm41.row 0 rfl)⟩) ?_
    simp only [nz1, nz2, nz3]
    refine skx 6 44 rfl rfl rfl (⟨hm41.at 1 rfl, Rd.of_row (hm41.row 0 rfl)⟩) ?_
    simp only [nz1, nz2, nz3]
    refine skx 7 45 rfl rfl rfl (⟨hm41.at 1 rfl, Rd.of_row (hm41.row 0 rfl)⟩) ?_
    simp only [nz1, nz2, nz3]
    refine skx 8 46 rfl rfl rfl (⟨hm41.at 1 rfl, Rd.of_row (hm41.row 0 rfl)⟩) ?_
    simp only [nz1, nz2, nz3]
    refine skx 9 47 rfl rfl rfl (⟨hm41.at 1 rfl, Rd.of_row (hm41.row 0 rfl)⟩) ?_
    simp only [nz1, nz2, nz3]
    refine skx 10 48 rfl rfl rfl (⟨hm41.at 1 rfl, Rd.of_row (hm41.row 0 rfl)⟩) ?_
    simp only [nz1, nz2, nz3]
    refine skx 11 49 rfl rfl rfl (⟨hm41.at 1 rfl, Rd.of_row (hm41.row 0 rfl)⟩) ?_
    simp only [nz1, nz2, nz3]
    refine skx 12 50 rfl rfl rfl (⟨hm41.at 1 rfl, Rd.of_row (hm41.row 0 rfl)⟩) ?_
    simp only [nz1, nz2, nz3]
    refine skx 13 51 rfl rfl rfl (⟨hm41.at 1 rfl, Rd.of_row (hm41.row 0 rfl)⟩) ?_
    simp only [nz1, nz2, nz3]
    refine tk 14 52 (.bool false) rfl rfl (fun _ hw => run_pickf rfl rfl rfl) (⟨hm41.at 1 rfl, Rd.of_row (hm41.row 0 rfl)⟩) ?_
    simp only [nz1, nz2, nz3]
    refine wpAnyH_done (by kernel_rfl) ?_ _
    have h7 := first_ok hs43 h6 hzz
    refine then_n (hK40 _ _ ?_)
    refine cond_f rfl ?_
    refine wp_skip ?_
    refine then_n (hK39 _ _ ?_)
    refine wp_seq_k (fun K58 hK58 => ?_)
    refine wp_region_lit ?_
    refine lv 53 (vv) rfl rfl (run_mv rfl rfl) ?_
    simp only [nz1, nz2, nz3]
    refine lv 54 (.agg #[.string (tx ((t.take (5 + (by' t 4))).drop 5)), .int .i64 (getZ (t.take 4))]) rfl rfl (r_whole (hm41.at 1 rfl) Try.underlying65 rfl (by exact sz_pl) rfl rfl) ?_
    simp only [nz1, nz2, nz3]
    refine lst (wanted_none rfl) (m_make (c := #[.string (tx ((t.take (5 + (by' t 4))).drop 5)), .int .i64 (getZ (t.take 4))]) (T := 65) (fun g => .slice (some ⟨g, 0, none⟩) 1 1) hm41 55 rfl (by unfold execOp; go_simp; try rfl) (fun g61 w59 (hm60 : Mm none w w59 [.row vv acc.length (acc.flatMap pv) 65 2, .blk g27 #[.string (tx ((t.take (5 + (by' t 4))).drop 5)), .int .i64 (getZ (t.take 4))] 65, .blk g61 #[.string (tx ((t.take (5 + (by' t 4))).drop 5)), .int .i64 (getZ (t.take 4))] 65]) => ?_))
    simp only [nz1, nz2, nz3]
    obtain ⟨iq, hiq, hz1, hz2, hz3⟩ := inf_pl
    refine lst (wanted_none rfl) (m_append 0 (news := [Value.string (tx ((t.take (5 + (by' t 4))).drop 5)), Value.int .i64 (getZ (t.take 4))]) iq _ _ _ _ ⟨g61, 0, none⟩ hm60 rfl 56 rfl rfl Try.underlying60 hiq hz1 hz2 hz3 (by rfl) (by decide) rfl rfl rfl (hm60.at 2 rfl).news (by simp [Value.oneCell']) (by unfold maxLen; omega) (by omega) (fun v64 w62 _ (hm63 : Mm none w w62 [.row v64 (acc.length + 1) ((acc.flatMap pv) ++ [Value.string (tx ((t.take (5 + (by' t 4))).drop 5)), Value.int .i64 (getZ (t.take 4))]) 65 2, .blk g27 #[.string (tx ((t.take (5 + (by' t 4))).drop 5)), .int .i64 (getZ (t.take 4))] 65, .blk g61 #[.string (tx ((t.take (5 + (by' t 4))).drop 5)), .int .i64 (getZ (t.take 4))] 65]) => ?_))
    simp only [nz1, nz2, nz3]
    refine lv 4 (v64) rfl rfl (run_as rfl rfl) ?_
    simp only [nz1, nz2, nz3]
    refine wpList_nil ?_
    have hm65 : Mm none w w62 [.row v64 ((acc ++ [(((t.take (5 + by' t 4)).drop 5), getZ (t.take 4))]).length) ((acc ++ [(((t.take (5 + by' t 4)).drop 5), getZ (t.take 4))]).flatMap pv) 65 2, .blk g27 #[.string (tx ((t.take (5 + (by' t 4))).drop 5)), .int .i64 (getZ (t.take 4))] 65, .blk g61 #[.string (tx ((t.take (5 + (by' t 4))).drop 5)), .int .i64 (getZ (t.take 4))] 65] := by
      have e1 : ((acc ++ [(((t.take (5 + by' t 4)).drop 5), getZ (t.take 4))]).length : Nat) = (acc.length + 1) := by simp
      have e2 : (((acc ++ [(((t.take (5 + by' t 4)).drop 5), getZ (t.take 4))]).flatMap pv) : List Value) = ((acc.flatMap pv) ++ [Value.string (tx ((t.take (5 + (by' t 4))).drop 5)), Value.int .i64 (getZ (t.take 4))]) := flat_snoc acc _
      rw [e1, e2]
      exact hm63
    refine then_n (hK58 _ _ ?_)
    refine wp_region_lit ?_
    refine lv 57 (.string (tx t)) rfl rfl (run_mv rfl rfl) ?_
    simp only [nz1, nz2, nz3]
    refine lv 58 (.int .i64 (((5 + (by' t 4)) : Nat) : Int)) rfl rfl (run_mv rfl rfl) ?_
    simp only [nz1, nz2, nz3]
    refine lv 59 (.string (tx (t.drop (5 + (by' t 4))))) rfl rfl (t_from t (5 + (by' t 4)) (by omega) Try.underlying9 rfl rfl rfl) ?_
    simp only [nz1, nz2, nz3]
    refine lv 0 (.string (tx (t.drop (5 + (by' t 4))))) rfl rfl (run_as rfl rfl) ?_
    simp only [nz1, nz2]
    refine wpList_nil ?_
    refine blk_n ?_
    have hm66 : Mm none w w62 [.row v64 ((acc ++ [(((t.take (5 + by' t 4)).drop 5), getZ (t.take 4))]).length) ((acc ++ [(((t.take (5 + by' t 4)).drop 5), getZ (t.take 4))]).flatMap pv) 65 2] := Mm.pre (m := [.blk g27 #[.string (tx ((t.take (5 + (by' t 4))).drop 5)), .int .i64 (getZ (t.take 4))] 65, .blk g61 #[.string (tx ((t.take (5 + (by' t 4))).drop 5)), .int .i64 (getZ (t.take 4))] 65]) hm65
    refine then_n (hR7 _ _ _ ⟨(t.drop (5 + by' t 4)), (acc ++ [(((t.take (5 + by' t 4)).drop 5), getZ (t.take 4))]), _, (fun qq => bif Nat.blt qq 24 then List.getD [u0 0, u0 1, .int .i64 (((5 + (by' t 4)) : Nat) : Int), .pointer (some ⟨g27, 0, none⟩), .string (tx t), .int .i64 ((t.length : Nat) : Int), .bool true, .string (tx t), .int .i64 ((t.length : Nat) : Int), .bool false, .bool false, .string (tx t), .int .i64 ((t.length : Nat) : Int), .string (tx t), .int .u8 ((by' t 4 : Nat) : Int), .int .i64 ((by' t 4 : Nat) : Int), .int .i64 (((5 + (by' t 4)) : Nat) : Int), .bool false, .bool false, .bool false, .string (tx t), .int .u8 ((by' t 4 : Nat) : Int), .bool false, .bool false] qq undef else bif Nat.blt qq 48 then List.getD [.string (tx t), .int .u8 ((by' t 4 : Nat) : Int), .int .i64 ((by' t 4 : Nat) : Int), .int .i64 (((5 + (by' t 4)) : Nat) : Int), .string (tx t), .int .i64 (((5 + (by' t 4)) : Nat) : Int), .string (tx ((t.take (5 + (by' t 4))).drop 5)), .string (tx t), .string (tx (t.take 4)), .int .i64 (getZ (t.take 4)), .agg #[.string (tx ((t.take (5 + (by' t 4))).drop 5)), .int .i64 (getZ (t.take 4))], vv, .int .i64 ((acc.length : Nat) : Int), .bool false, .bool false, undef, undef, undef, undef, undef, undef, undef, undef, undef] (qq - 24) undef else List.getD [undef, .bool false, vv, .agg #[.string (tx ((t.take (5 + (by' t 4))).drop 5)), .int .i64 (getZ (t.take 4))], .slice (some ⟨g61, 0, none⟩) 1 1, v64, .string (tx t), .int .i64 (((5 + (by' t 4)) : Nat) : Int), .string (tx (t.drop (5 + (by' t 4))))] (qq - 48) undef), rfl, (by simp; omega), (by rw [lastN_snoc]; exact hinv.trans (rest_on hz h5 h6 h7)), rfl, hm66⟩ ?_)
    (have hne : t.length ≠ 0 := fun e => hz (List.eq_nil_of_length_eq_zero e)); simp; omega
  simp only [nz1, nz2, nz3]
  refine tk 3 41 (.bool true) rfl rfl (fun _ hw => run_mv rfl rfl) (⟨hm41.at 1 rfl, Rd.of_row (hm41.row 0 rfl)⟩) ?_
  simp only [nz1, nz2, nz3]
  refine Sym.take_at 4 42 (vv) rfl rfl (by kernel_rfl) (by kernel_rfl) (by kernel_rfl) (fun _ _ _ h => h) rfl (fun _ hw => run_mv rfl rfl) (⟨hm41.at 1 rfl, Rd.of_row (hm41.row 0 rfl)⟩) ?_
  simp only [nz1, nz2, nz3]
  refine Sym.take_at 5 43 (vv) rfl rfl (by kernel_rfl) (by kernel_rfl) (by kernel_rfl) (fun _ _ _ h => h) rfl (fun _ hw => run_mv rfl rfl) (⟨hm41.at 1 rfl, Rd.of_row (hm41.row 0 rfl)⟩) ?_
  simp only [nz1, nz2, nz3]
  refine Sym.take_at 6 44 (.int .i64 ((acc.length : Nat) : Int)) rfl rfl (by kernel_rfl) (by kernel_rfl) (by kernel_rfl) (fun _ _ _ h => h) rfl (fun _ hw => s_len (Rd.of_row (hm41.row 0 rfl)) rfl Try.underlying60 rfl) (⟨hm41.at 1 rfl, Rd.of_row (hm41.row 0 rfl)⟩) ?_
  simp only [nz1, nz2, nz3]
  refine Sym.take_at 7 45 (.int .i64 (((acc.length - 1) : Nat) : Int)) rfl rfl (by kernel_rfl) (by kernel_rfl) (by kernel_rfl) (fun _ _ _ h => h) rfl (fun _ hw => r_sub acc.length 1 (show acc.length < 9223372036854775808 from by omega) (by omega) rfl rfl rfl) (⟨hm41.at 1 rfl, Rd.of_row (hm41.row 0 rfl)⟩) ?_
  simp only [nz1, nz2, nz3]
  obtain ⟨ge44, oe45, ce46, rfl⟩ := Rd.openz (Rd.of_row (hm41.row 0 rfl)) (by omega)
  refine Sym.take_at 8 46 (.pointer (some ⟨ge44, (oe45 + (acc.length - 1) * 2), none⟩)) rfl rfl (by kernel_rfl) (by kernel_rfl) (by kernel_rfl) (fun _ _ _ h => h) rfl (fun _ hw => r_ixS ge44 oe45 (acc.length - 1) acc.length ce46 2 (by omega) Try.underlying60 (by exact sz_pl) rfl rfl rfl) (⟨hm41.at 1 rfl, Rd.of_row (hm41.row 0 rfl)⟩) ?_
  simp only [nz1, nz2, nz3]
  refine Sym.take_at 9 47 (.pointer (some ⟨ge44, (oe45 + (acc.length - 1) * 2) + 0, none⟩)) rfl rfl (by kernel_rfl) (by kernel_rfl) (by kernel_rfl) (fun _ _ _ h => h) rfl (fun _ hw => r_fa65_0 ge44 (oe45 + (acc.length - 1) * 2) rfl rfl) (⟨hm41.at 1 rfl, Rd.of_row (hm41.row 0 rfl)⟩) ?_
  simp only [nz1, nz2, nz3]
  refine Sym.take_at 10 48 (.string (tx ((acc.getD (acc.length - 1) pd).1))) rfl rfl (by kernel_rfl) (by kernel_rfl) (by kernel_rfl) (fun _ _ _ h => h) rfl (fun _ hw => r_cellw (cell_el (Rd.cells hw.2) (pv_0 acc (acc.length - 1) (by omega))) Try.underlying9 rfl rfl rfl) (⟨hm41.at 1 rfl, Rd.of_row (hm41.row 0 rfl)⟩) ?_
  simp only [nz1, nz2, nz3]
  refine Sym.take_at 11 49 (.pointer (some ⟨g27, 0, none⟩)) rfl rfl (by kernel_rfl) (by kernel_rfl) (by kernel_rfl) (fun _ _ _ h => h) rfl (fun _ hw => r_fa65_0 g27 0 rfl rfl) (⟨hm41.at 1 rfl, Rd.of_row (hm41.row 0 rfl)⟩) ?_
  simp only [nz1, nz2, nz3]
  refine Sym.take_at 12 50 (.string (tx ((t.take (5 + (by' t 4))).drop 5))) rfl rfl (by kernel_rfl) (by kernel_rfl) (by kernel_rfl) (fun _ _ _ h => h) rfl (fun _ hw => r_load hw.1 rfl Try.underlying9 rfl rfl rfl) (⟨hm41.at 1 rfl, Rd.of_row (hm41.row 0 rfl)⟩) ?_
  simp only [nz1, nz2, nz3]
  refine Sym.take_at 13 51 (.bool (!lt' ((acc.getD (acc.length - 1) pd).1) ((t.take (5 + (by' t 4))).drop 5))) rfl rfl (by kernel_rfl) (by kernel_rfl) (by kernel_rfl) (fun _ _ _ h => h) rfl (fun _ hw => t_geq ((acc.getD (acc.length - 1) pd).1) ((t.take (5 + (by' t 4))).drop 5) rfl rfl rfl) (⟨hm41.at 1 rfl, Rd.of_row (hm41.row 0 rfl)⟩) ?_
  simp only [nz1, nz2, nz3]
  refine tk 14 52 (.bool (!lt' ((acc.getD (acc.length - 1) pd).1) ((t.take (5 + (by' t 4))).drop 5))) rfl rfl (fun _ hw => run_pick rfl rfl rfl) (⟨hm41.at 1 rfl, Rd.of_row (hm41.row 0 rfl)⟩) ?_
  simp only [nz1, nz2, nz3]
  refine wpAnyH_done (by kernel_rfl) ?_ _
  refine then_n (hK40 _ _ ?_)
  refine cond_b (!lt' ((acc.getD (acc.length - 1) pd).1) ((t.take (5 + (by' t 4))).drop 5)) rfl (fun hc47 => ?_) (fun hc47 => ?_)
  · rw [hc47]
    refine wp_seq_k (fun K48 hK48 => ?_)
    refine wp_region_lit ?_
    refine lv 2 (.slice none 0 0) rfl rfl (run_as rfl rfl) ?_
    simp only [nz1, nz2, nz3]
    refine lv 3 (.bool false) rfl rfl (run_as rfl rfl) ?_
    simp only [nz1, nz2, nz3]
    refine wpList_nil ?_
    refine then_n (hK48 _ _ ?_)
    refine wp_ret ?_
    refine then_r ?_
    refine blk_r ?_
    refine then_r ?_
    refine blk_r ?_
    refine then_r ?_
    exact ⟨rfl, .tuple #[.slice none 0 0, .bool false], res_tt rfl rfl rfl, ⟨names_none (hinv.trans (rest_low hz h5 h6 ((lt_tri _ _).symm.trans hc47))), hm41.below⟩⟩
  rw [hc47]
  have h7 : (lt' ((t.take (5 + by' t 4)).drop 5) (lastN acc) || decide (((t.take (5 + by' t 4)).drop 5) = lastN acc)) = false := (lt_tri _ _).symm.trans hc47
  refine wp_skip ?_
  refine then_n (hK39 _ _ ?_)
  refine wp_seq_k (fun K49 hK49 => ?_)
  refine wp_region_lit ?_
  refine lv 53 (.slice (some ⟨ge44, oe45, none⟩) acc.length ce46) rfl rfl (run_mv rfl rfl) ?_
  simp only [nz1, nz2, nz3]
  refine lv 54 (.agg #[.string (tx ((t.take (5 + (by' t 4))).drop 5)), .int .i64 (getZ (t.take 4))]) rfl rfl (r_whole (hm41.at 1 rfl) Try.underlying65 rfl (by exact sz_pl) rfl rfl) ?_
  simp only [nz1, nz2, nz3]
  refine lst (wanted_none rfl) (m_make (c := #[.string (tx ((t.take (5 + (by' t 4))).drop 5)), .int .i64 (getZ (t.take 4))]) (T := 65) (fun g => .slice (some ⟨g, 0, none⟩) 1 1) hm41 55 rfl (by unfold execOp; go_simp; try rfl) (fun g52 w50 (hm51 : Mm none w w50 [.row (.slice (some ⟨ge44, oe45, none⟩) acc.length ce46) acc.length (acc.flatMap pv) 65 2, .blk g27 #[.string (tx ((t.take (5 + (by' t 4))).drop 5)), .int .i64 (getZ (t.take 4))] 65, .blk g52 #[.string (tx ((t.take (5 + (by' t 4))).drop 5)), .int .i64 (getZ (t.take 4))] 65]) => ?_))
  simp only [nz1, nz2, nz3]
  obtain ⟨iq, hiq, hz1, hz2, hz3⟩ := inf_pl
  refine lst (wanted_none rfl) (m_append 0 (news := [Value.string (tx ((t.take (5 + (by' t 4))).drop 5)), Value.int .i64 (getZ (t.take 4))]) iq _ _ _ _ ⟨g52, 0, none⟩ hm51 rfl 56 rfl rfl Try.underlying60 hiq hz1 hz2 hz3 (by rfl) (by decide) rfl rfl rfl (hm51.at 2 rfl).news (by simp [Value.oneCell']) (by unfold maxLen; omega) (by omega) (fun v55 w53 _ (hm54 : Mm none w w53 [.row v55 (acc.length + 1) ((acc.flatMap pv) ++ [Value.string (tx ((t.take (5 + (by' t 4))).drop 5)), Value.int .i64 (getZ (t.take 4))]) 65 2, .blk g27 #[.string (tx ((t.take (5 + (by' t 4))).drop 5)), .int .i64 (getZ (t.take 4))] 65, .blk g52 #[.string (tx ((t.take (5 + (by' t 4))).drop 5)), .int .i64 (getZ (t.take 4))] 65]) => ?_))
  simp only [nz1, nz2, nz3]
  refine lv 4 (v55) rfl rfl (run_as rfl rfl) ?_
  simp only [nz1, nz2, nz3]
  refine wpList_nil ?_
  have hm56 : Mm none w w53 [.row v55 ((acc ++ [(((t.take (5 + by' t 4)).drop 5), getZ (t.take 4))]).length) ((acc ++ [(((t.take (5 + by' t 4)).drop 5), getZ (t.take 4))]).flatMap pv) 65 2, .blk g27 #[.string (tx ((t.take (5 + (by' t 4))).drop 5)), .int .i64 (getZ (t.take 4))] 65, .blk g52 #[.string (tx ((t.take (5 + (by' t 4))).drop 5)), .int .i64 (getZ (t.take 4))] 65] := by
    have e1 : ((acc ++ [(((t.take (5 + by' t 4)).drop 5), getZ (t.take 4))]).length : Nat) = (acc.length + 1) := by simp
    have e2 : (((acc ++ [(((t.take (5 + by' t 4)).drop 5), getZ (t.take 4))]).flatMap pv) : List Value) = ((acc.flatMap pv) ++ [Value.string (tx ((t.take (5 + (by' t 4))).drop 5)), Value.int .i64 (getZ (t.take 4))]) := flat_snoc acc _
    rw [e1, e2]
    exact hm54
  refine then_n (hK49 _ _ ?_)
  refine wp_region_lit ?_
  refine lv 57 (.string (tx t)) rfl rfl (run_mv rfl rfl) ?_
  simp only [nz1, nz2, nz3]
  refine lv 58 (.int .i64 (((5 + (by' t 4)) : Nat) : Int)) rfl rfl (run_mv rfl rfl) ?_
  simp only [nz1, nz2, nz3]
  refine lv 59 (.string (tx (t.drop (5 + (by' t 4))))) rfl rfl (t_from t (5 + (by' t 4)) (by omega) Try.underlying9 rfl rfl rfl) ?_
  simp only [nz1, nz2, nz3]
  refine lv 0 (.string (tx (t.drop (5 + (by' t 4))))) rfl rfl (run_as rfl rfl) ?_
  simp only [nz1, nz2]
  refine wpList_nil ?_
  refine blk_n ?_
  have hm57 : Mm none w w53 [.row v55 ((acc ++ [(((t.take (5 + by' t 4)).drop 5), getZ (t.take 4))]).length) ((acc ++ [(((t.take (5 + by' t 4)).drop 5), getZ (t.take 4))]).flatMap pv) 65 2] := Mm.pre (m := [.blk g27 #[.string (tx ((t.take (5 + (by' t 4))).drop 5)), .int .i64 (getZ (t.take 4))] 65, .blk g52 #[.string (tx ((t.take (5 + (by' t 4))).drop 5)), .int .i64 (getZ (t.take 4))] 65]) hm56
  refine then_n (hR7 _ _ _ ⟨(t.drop (5 + by' t 4)), (acc ++ [(((t.take (5 + by' t 4)).drop 5), getZ (t.take 4))]), _, (fun qq => bif Nat.blt qq 24 then List.getD [u0 0, u0 1, .int .i64 (((5 + (by' t 4)) : Nat) : Int), .pointer (some ⟨g27, 0, none⟩), .string (tx t), .int .i64 ((t.length : Nat) : Int), .bool true, .string (tx t), .int .i64 ((t.length : Nat) : Int), .bool false, .bool false, .string (tx t), .int .i64 ((t.length : Nat) : Int), .string (tx t), .int .u8 ((by' t 4 : Nat) : Int), .int .i64 ((by' t 4 : Nat) : Int), .int .i64 (((5 + (by' t 4)) : Nat) : Int), .bool false, .bool false, .bool false, .string (tx t), .int .u8 ((by' t 4 : Nat) : Int), .bool false, .bool false] qq undef else bif Nat.blt qq 48 then List.getD [.string (tx t), .int .u8 ((by' t 4 : Nat) : Int), .int .i64 ((by' t 4 : Nat) : Int), .int .i64 (((5 + (by' t 4)) : Nat) : Int), .string (tx t), .int .i64 (((5 + (by' t 4)) : Nat) : Int), .string (tx ((t.take (5 + (by' t 4))).drop 5)), .string (tx t), .string (tx (t.take 4)), .int .i64 (getZ (t.take 4)), .agg #[.string (tx ((t.take (5 + (by' t 4))).drop 5)), .int .i64 (getZ (t.take 4))], .slice (some ⟨ge44, oe45, none⟩) acc.length ce46, .int .i64 ((acc.length : Nat) : Int), .bool true, .bool true, .slice (some ⟨ge44, oe45, none⟩) acc.length ce46, .slice (some ⟨ge44, oe45, none⟩) acc.length ce46, .int .i64 ((acc.length : Nat) : Int), .int .i64 (((acc.length - 1) : Nat) : Int), .pointer (some ⟨ge44, (oe45 + (acc.length - 1) * 2), none⟩), .pointer (some ⟨ge44, (oe45 + (acc.length - 1) * 2) + 0, none⟩), .string (tx ((acc.getD (acc.length - 1) pd).1)), .pointer (some ⟨g27, 0, none⟩), .string (tx ((t.take (5 + (by' t 4))).drop 5))] (qq - 24) undef else List.getD [.bool false, .bool false, .slice (some ⟨ge44, oe45, none⟩) acc.length ce46, .agg #[.string (tx ((t.take (5 + (by' t 4))).drop 5)), .int .i64 (getZ (t.take 4))], .slice (some ⟨g52, 0, none⟩) 1 1, v55, .string (tx t), .int .i64 (((5 + (by' t 4)) : Nat) : Int), .string (tx (t.drop (5 + (by' t 4))))] (qq - 48) undef), rfl, (by simp; omega), (by rw [lastN_snoc]; exact hinv.trans (rest_on hz h5 h6 h7)), rfl, hm57⟩ ?_)
  (have hne : t.length ≠ 0 := fun e => hz (List.eq_nil_of_length_eq_zero e)); simp; omega
end Go.Proofs.Ytmammofbgllceaa.Nod
