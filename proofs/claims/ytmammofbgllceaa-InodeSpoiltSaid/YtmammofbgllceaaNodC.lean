/- Layer 17: names. -/
import Derived.Test.YtmammofbgllceaaNodB
namespace Go.Proofs.Ytmammofbgllceaa.Nod
open Go.RowKit
open Go.Proofs.Ytmammofbgllceaa.Sym Go.Proofs.Ytmammofbgllceaa.Mem
open Go.Proofs.Ytmammofbgllceaa.Sx hiding Mm m_alloc m_store m_put m_call m_callx m_make m_append r_string r_ixS

set_option maxHeartbeats 4000000 in
set_option maxRecDepth 100000 in
theorem rget_any (s : List UInt8) (hs : s.length ≤ 1000000000000) (w : World) : Calls Try.prog 56 #[.string (tx s)] w (fun e w' => e = .returned (.int .i64 (getZ s)) ∧ Below w.heap.size w w') := by
  go_enter Try.func56, Try.ntmps56
  have hm0 := Mm.nil none w
  refine wp_seq_k (fun K1 hK1 => ?_)
  refine wp_region_lit ?_
  refine lv 2 (.int .i64 0) rfl rfl (run_as rfl rfl) ?_
  simp only [nz1, nz2, nz3]
  refine wpList_nil ?_
  refine then_n (hK1 _ _ ?_)
  refine wp_seq_k (fun K2 hK2 => ?_)
  refine wp_region_lit ?_
  refine lv 3 (.int .i64 0) rfl rfl (run_as rfl rfl) ?_
  simp only [nz1, nz2, nz3]
  refine wpList_nil ?_
  refine then_n (hK2 _ _ ?_)
  refine wp_seq_k (fun K3 hK3 => ?_)
  refine wp_seq_k (fun K4 hK4 => ?_)
  refine wp_region_lit ?_
  refine lv 4 (.int .i64 0) rfl rfl (run_as rfl rfl) ?_
  simp only [nz1, nz2, nz3]
  refine wpList_nil ?_
  refine then_n (hK4 _ _ ?_)
  refine wp_block ?_
  refine wp_loop_n (fun n' a' w' => ∃ (i : Nat) (u0 : Nat → Value), n' = s.length - i ∧ (i ≤ s.length) ∧ a' = ⟨#[.string (tx s), undef, .int .i64 0, .int .i64 (getZ (s.take i)), .int .i64 ((i : Nat) : Int), u0 0, u0 1, u0 2, u0 3, u0 4, u0 5, u0 6, u0 7, u0 8, u0 9, u0 10, u0 11, u0 12, undef], []⟩ ∧ Mm none w w' []) ⟨0, (fun qq => List.getD [undef, undef, undef, undef, undef, undef, undef, undef, undef, undef, undef, undef, undef] qq undef), rfl, (by omega), rfl, hm0⟩ ?_
  clear hm0
  rintro _ _ w5 ⟨i, u0, hn0, hi, rfl, hm6⟩ R7 hR7
  refine wp_seq_k (fun K8 hK8 => ?_)
  refine wp_seq_k (fun K9 hK9 => ?_)
  refine wp_region_lit ?_
  refine lv 5 (.int .i64 ((i : Nat) : Int)) rfl rfl (run_mv rfl rfl) ?_
  simp only [nz1, nz2, nz3]
  refine lv 6 (.string (tx s)) rfl rfl (run_mv rfl rfl) ?_
  simp only [nz1, nz2, nz3]
  refine lv 7 (.int .i64 ((s.length : Nat) : Int)) rfl rfl (t_len rfl Try.underlying9 rfl) ?_
  simp only [nz1, nz2, nz3]
  refine lv 8 (.bool (decide (i < s.length))) rfl rfl (r_lss i s.length rfl rfl rfl) ?_
  simp only [nz1, nz2, nz3]
  refine wpList_nil ?_
  refine then_n (hK9 _ _ ?_)
  refine cond_d (i < s.length) rfl (fun hc10 => ?_) (fun hc10 => ?_)
  rotate_left
  · rw [decide_eq_false hc10]
    refine wp_exit ?_
    refine then_x ?_
    refine then_x ?_
    refine blk_x ?_
    refine then_n (hK3 _ _ ?_)
    refine wp_seq_k (fun K12 hK12 => ?_)
    obtain rfl : i = s.length := by omega
    rw [List.take_length]
    refine wp_region_lit ?_
    refine lv 18 (.int .i64 (getZ s)) rfl rfl (run_mv rfl rfl) ?_
    simp only [nz1, nz2, nz3]
    refine lv 2 (.int .i64 (getZ s)) rfl rfl (run_as rfl rfl) ?_
    simp only [nz1, nz2, nz3]
    refine wpList_nil ?_
    refine then_n (hK12 _ _ ?_)
    refine wp_ret ?_
    exact ⟨rfl, .int .i64 (getZ s), res_t rfl rfl, ⟨rfl, hm6.below⟩⟩
  rw [decide_eq_true hc10]
  have hc10' : i < s.length := hc10
  refine wp_skip ?_
  refine then_n (hK8 _ _ ?_)
  refine wp_seq_k (fun K11 hK11 => ?_)
  refine wp_block ?_
  refine wp_region_lit ?_
  refine lv 11 (.int .i64 (getZ (s.take i))) rfl rfl (run_mv rfl rfl) ?_
  simp only [nz1, nz2, nz3]
  refine lv 12 (.int .i64 (IntKind.i64.wrap ((be (s.take i) : Int) * 256))) rfl rfl (z_shl (getZ (s.take i)) _ 8 (by decide) (shl_wrap _) rfl rfl rfl) ?_
  simp only [nz1, nz2, nz3]
  refine lv 13 (.string (tx s)) rfl rfl (run_mv rfl rfl) ?_
  simp only [nz1, nz2, nz3]
  refine lv 14 (.int .i64 ((i : Nat) : Int)) rfl rfl (run_mv rfl rfl) ?_
  simp only [nz1, nz2, nz3]
  refine lv 15 (.int .u8 ((by' s i : Nat) : Int)) rfl rfl (t_char s i (by omega) Try.underlying9 rfl rfl rfl) ?_
  simp only [nz1, nz2, nz3]
  refine lv 16 (.int .i64 ((by' s i : Nat) : Int)) rfl rfl (r_conv (k' := .i64) (by' s i) (by' s i) some_u8 Try.underlying3 (wrap_nat (Nat.lt_trans (by_lt s i) (by decide))) rfl rfl) ?_
  simp only [nz1, nz2, nz3]
  refine lv 17 (.int .i64 (IntKind.i64.wrap ((be (s.take i) * 256 + by' s i : Nat) : Int))) rfl rfl (r_orw (be (s.take i)) (by' s i) (by_lt s i) rfl rfl rfl) ?_
  simp only [nz1, nz2, nz3]
  refine lv 3 (.int .i64 (IntKind.i64.wrap ((be (s.take i) * 256 + by' s i : Nat) : Int))) rfl rfl (run_as rfl rfl) ?_
  simp only [nz1, nz2, nz3]
  refine wpList_nil ?_
  rw [show ((.int .i64 (IntKind.i64.wrap ((be (s.take i) * 256 + by' s i : Nat) : Int))) : Value) = .int .i64 (getZ (s.take (i + 1))) from by unfold getZ; rw [be_take s i (by omega)]]
  refine blk_n ?_
  refine then_n (hK11 _ _ ?_)
  refine wp_region_lit ?_
  refine lv 9 (.int .i64 ((i : Nat) : Int)) rfl rfl (run_mv rfl rfl) ?_
  simp only [nz1, nz2, nz3]
  refine lv 10 (.int .i64 (((i + 1) : Nat) : Int)) rfl rfl (r_add i 1 (show (i + 1) < 9223372036854775808 from by omega) rfl rfl rfl) ?_
  simp only [nz1, nz2, nz3]
  refine lv 4 (.int .i64 (((i + 1) : Nat) : Int)) rfl rfl (run_as rfl rfl) ?_
  simp only [nz1, nz2, nz3]
  refine wpList_nil ?_
  refine then_n (hR7 _ _ _ ⟨(i + 1), (fun qq => List.getD [.int .i64 ((i : Nat) : Int), .string (tx s), .int .i64 ((s.length : Nat) : Int), .bool true, .int .i64 ((i : Nat) : Int), .int .i64 (((i + 1) : Nat) : Int), .int .i64 (getZ (s.take i)), .int .i64 (IntKind.i64.wrap ((be (s.take i) : Int) * 256)), .string (tx s), .int .i64 ((i : Nat) : Int), .int .u8 ((by' s i : Nat) : Int), .int .i64 ((by' s i : Nat) : Int), .int .i64 (getZ (s.take (i + 1)))] qq undef), rfl, (by omega), rfl, hm6⟩ ?_)
  omega
set_option maxHeartbeats 4000000 in
set_option maxRecDepth 100000 in
theorem list_any (l : List (List UInt8 × Int)) (v : Value) (w : World) (hb : Rd w v l.length 2 (l.flatMap pv)) (hlen : (listN l).length ≤ 1000000) : Calls Try.prog 38 #[v] w (fun e w' => e = .returned (.string (tx (listN l))) ∧ Below w.heap.size w w') := by
  go_enter Try.func38, Try.ntmps38
  have hm0 := Mm.nil none w
  refine wp_seq_k (fun K1 hK1 => ?_)
  refine wp_region_lit ?_
  refine lv 2 (.string (tx ([]))) rfl rfl (run_as rfl rfl) ?_
  simp only [nz1, nz2, nz3]
  refine wpList_nil ?_
  refine then_n (hK1 _ _ ?_)
  refine wp_seq_k (fun K2 hK2 => ?_)
  refine wp_region_lit ?_
  refine lv 3 (.slice none 0 0) rfl rfl (run_as rfl rfl) ?_
  simp only [nz1, nz2, nz3]
  refine wpList_nil ?_
  have hm3 : Mm none w w [.row (.slice none 0 0) 0 ([]) 5 1] := hm0.nilrow 5 1
  refine then_n (hK2 _ _ ?_)
  refine wp_seq_k (fun K4 hK4 => ?_)
  refine wp_seq_k (fun K5 hK5 => ?_)
  have hge := listN_ge l
  refine wp_region_lit ?_
  refine lv 6 (v) rfl rfl (run_mv rfl rfl) ?_
  simp only [nz1, nz2, nz3]
  refine lv 7 (.int .i64 ((l.length : Nat) : Int)) rfl rfl (s_len hb rfl Try.underlying60 rfl) ?_
  simp only [nz1, nz2, nz3]
  refine lv 8 (.int .i64 0) rfl rfl (run_mv rfl rfl) ?_
  simp only [nz1, nz2, nz3]
  refine wpList_nil ?_
  refine then_n (hK5 _ _ ?_)
  refine wp_block ?_
  refine wp_loop_n (fun n' a' w' => ∃ (i : Nat) (vv : Value) (u0 : Nat → Value), n' = l.length - i ∧ (i ≤ l.length) ∧ a' = ⟨#[v, undef, .string (tx ([])), vv, undef, u0 0, v, .int .i64 ((l.length : Nat) : Int), .int .i64 ((i : Nat) : Int), u0 1, u0 2, u0 3, u0 4, u0 5, u0 6, u0 7, u0 8, u0 9, u0 10, u0 11, u0 12, u0 13, u0 14, u0 15, u0 16, u0 17, u0 18, u0 19, undef, undef], []⟩ ∧ Mm none w w' [.row vv ((listN (l.take i)).length) ((listN (l.take i)).map bv) 5 1]) ⟨0, _, (fun qq => List.getD [undef, undef, undef, undef, undef, undef, undef, undef, undef, undef, undef, undef, undef, undef, undef, undef, undef, undef, undef, undef] qq undef), rfl, (Nat.zero_le _), rfl, hm3⟩ ?_
  clear hm3
  rintro _ _ w6 ⟨i, vv, u0, hn0, hi, rfl, hm7⟩ R8 hR8
  refine wp_seq_k (fun K9 hK9 => ?_)
  refine wp_region_lit ?_
  refine lv 9 (.bool (decide (i < l.length))) rfl rfl (r_lss i l.length rfl rfl rfl) ?_
  simp only [nz1, nz2, nz3]
  refine wpList_nil ?_
  refine then_n (hK9 _ _ ?_)
  refine wp_seq_k (fun K10 hK10 => ?_)
  refine cond_d (i < l.length) rfl (fun hc11 => ?_) (fun hc11 => ?_)
  rotate_left
  · rw [decide_eq_false hc11]
    obtain rfl : i = l.length := by omega
    have hm38 : Mm none w w6 [.row vv ((listN l).length) ((listN l).map bv) 5 1] := by
      have e1 : ((listN l).length : Nat) = (listN (l.take l.length)).length := by rw [List.take_length]
      have e2 : (((listN l).map bv) : List Value) = ((listN (l.take l.length)).map bv) := by rw [List.take_length]
      rw [e1, e2]
      exact hm7
    refine wp_exit ?_
    refine then_x ?_
    refine then_x ?_
    refine blk_x ?_
    refine then_n (hK4 _ _ ?_)
    refine wp_seq_k (fun K39 hK39 => ?_)
    refine wp_region_lit ?_
    refine lv 28 (vv) rfl rfl (run_mv rfl rfl) ?_
    simp only [nz1, nz2, nz3]
    refine lv 29 (.string (tx (listN l))) rfl rfl (r_stringR (listN l) (Rd.of_row (hm38.row 0 rfl)) Try.underlying37 Try.underlying5 Try.underlying9 rfl rfl) ?_
    simp only [nz1, nz2, nz3]
    refine lv 2 (.string (tx (listN l))) rfl rfl (run_as rfl rfl) ?_
    simp only [nz1, nz2, nz3]
    refine wpList_nil ?_
    refine then_n (hK39 _ _ ?_)
    refine wp_ret ?_
    exact ⟨rfl, .string (tx (listN l)), res_t rfl rfl, ⟨rfl, hm38.below⟩⟩
  rw [decide_eq_true hc11]
  have hmo := listN_mono l (i + 1)
  have hst := listN_len l i (by omega)
  refine wp_skip ?_
  refine then_n (hK10 _ _ ?_)
  refine wp_seq_k (fun K12 hK12 => ?_)
  refine wp_block ?_
  refine wp_seq_k (fun K13 hK13 => ?_)
  refine wp_region_lit ?_
  obtain ⟨ge14, oe15, ce16, rfl⟩ := Rd.openz (hb.below hm7.below) (by omega)
  refine lv 10 (.pointer (some ⟨ge14, (oe15 + i * 2), none⟩)) rfl rfl (r_ixS ge14 oe15 i l.length ce16 2 (by omega) Try.underlying60 (by exact sz_pl) rfl rfl rfl) ?_
  simp only [nz1, nz2, nz3]
  refine lv 11 (.agg #[.string (tx ((l.getD i pd).1)), .int .i64 ((l.getD i pd).2)]) rfl rfl (r_partw (fun j u hj => cell_el (Rd.cells (hb.below hm7.below)) (pv_all l i (by omega) j u hj)) Try.underlying65 rfl (by exact sz_pl) rfl rfl) ?_
  simp only [nz1, nz2, nz3]
  refine lst (wanted_none rfl) (m_alloc (c := #[.string (tx ([])), .int .i64 0]) (T := 65) hm7 5 rfl (by unfold execOp; go_simp; try rfl) (fun g19 w17 (hm18 : Mm none w w17 [.row vv ((listN (l.take i)).length) ((listN (l.take i)).map bv) 5 1, .blk g19 #[.string (tx ([])), .int .i64 0] 65]) => ?_))
  simp only [nz1, nz2, nz3]
  refine lst (wanted_none rfl) (m_store 1 65 _ _ 0 (.agg #[.string (tx ((l.getD i pd).1)), .int .i64 ((l.getD i pd).2)]) (old := #[.string (tx ([])), .int .i64 0]) (new := #[.string (tx ((l.getD i pd).1)), .int .i64 ((l.getD i pd).2)]) hm18 rfl rfl rfl rfl rfl (by exact sz_pl) (show 2 ≤ 2 from Nat.le_refl _) (by simp [Value.cells, Value.oneCell']) rfl (fun w20 (hm21 : Mm none w w20 [.row vv ((listN (l.take i)).length) ((listN (l.take i)).map bv) 5 1, .blk g19 #[.string (tx ((l.getD i pd).1)), .int .i64 ((l.getD i pd).2)] 65]) => ?_))
  refine wpList_nil ?_
  refine then_n (hK13 _ _ ?_)
  refine wp_seq_k (fun K22 hK22 => ?_)
  refine wp_region_lit ?_
  refine lv 12 (vv) rfl rfl (run_mv rfl rfl) ?_
  simp only [nz1, nz2, nz3]
  refine lv 13 (.pointer (some ⟨g19, 1, none⟩)) rfl rfl (r_fa65_1 g19 0 rfl rfl) ?_
  simp only [nz1, nz2, nz3]
  refine lv 14 (.int .i64 ((l.getD i pd).2)) rfl rfl (r_load (hm21.at 1 rfl) rfl Try.underlying3 rfl rfl rfl) ?_
  simp only [nz1, nz2, nz3]
  refine lst (wanted_none rfl) (m_callg 0 hm21 rfl 15 rfl (run_put rfl rfl rfl rfl) (put_any vv ((listN (l.take i)).length) ((listN (l.take i)).map bv) ((l.getD i pd).2) 4 (by decide) (by omega) _ (hm21.row 0 rfl)) (fun v25 w23 (hm24 : Mm none w w23 [.row v25 ((listN (l.take i)).length + 4) (((listN (l.take i)).map bv) ++ (putL ((l.getD i pd).2) 4).map bv) 5 1, .blk g19 #[.string (tx ((l.getD i pd).1)), .int .i64 ((l.getD i pd).2)] 65]) => ?_))
  simp only [nz1, nz2, nz3]
  refine lv 3 (v25) rfl rfl (run_as rfl rfl) ?_
  simp only [nz1, nz2, nz3]
  refine wpList_nil ?_
  refine then_n (hK22 _ _ ?_)
  refine wp_seq_k (fun K26 hK26 => ?_)
  refine wp_region_lit ?_
  refine lv 16 (v25) rfl rfl (run_mv rfl rfl) ?_
  simp only [nz1, nz2, nz3]
  refine lv 17 (.pointer (some ⟨g19, 0, none⟩)) rfl rfl (r_fa65_0 g19 0 rfl rfl) ?_
  simp only [nz1, nz2, nz3]
  refine lv 18 (.string (tx ((l.getD i pd).1))) rfl rfl (r_load (hm24.at 1 rfl) rfl Try.underlying9 rfl rfl rfl) ?_
  simp only [nz1, nz2, nz3]
  refine lv 19 (.int .i64 ((((l.getD i pd).1).length : Nat) : Int)) rfl rfl (t_len rfl Try.underlying9 rfl) ?_
  simp only [nz1, nz2, nz3]
  refine lv 20 (.int .u8 ((((((l.getD i pd).1).length) % 256) : Nat) : Int)) rfl rfl (r_conv (k' := .u8) (((l.getD i pd).1).length) ((((l.getD i pd).1).length) % 256) some_i64 Try.underlying5 (wrap_u8n _) rfl rfl) ?_
  simp only [nz1, nz2, nz3]
  refine lst (wanted_none rfl) (m_make (c := #[.int .u8 ((((((l.getD i pd).1).length) % 256) : Nat) : Int)]) (T := 5) (fun g => .slice (some ⟨g, 0, none⟩) 1 1) hm24 21 rfl (by unfold execOp; go_simp; try rfl) (fun g29 w27 (hm28 : Mm none w w27 [.row v25 ((listN (l.take i)).length + 4) (((listN (l.take i)).map bv) ++ (putL ((l.getD i pd).2) 4).map bv) 5 1, .blk g19 #[.string (tx ((l.getD i pd).1)), .int .i64 ((l.getD i pd).2)] 65, .blk g29 #[.int .u8 ((((((l.getD i pd).1).length) % 256) : Nat) : Int)] 5]) => ?_))
  simp only [nz1, nz2, nz3]
  obtain ⟨iq, hiq, hz1, hz2, hz3⟩ := inf_u8
  refine lst (wanted_none rfl) (m_append 0 (news := [Value.int .u8 ((((((l.getD i pd).1).length) % 256) : Nat) : Int)]) iq _ _ _ _ ⟨g29, 0, none⟩ hm28 rfl 22 rfl rfl Try.underlying37 hiq hz1 hz2 hz3 (by rfl) (by decide) rfl rfl rfl (hm28.at 2 rfl).news (by simp [Value.oneCell']) (by unfold maxLen; omega) (by omega) (fun v32 w30 _ (hm31 : Mm none w w30 [.row v32 (((listN (l.take i)).length + 4) + 1) ((((listN (l.take i)).map bv) ++ (putL ((l.getD i pd).2) 4).map bv) ++ [Value.int .u8 ((((((l.getD i pd).1).length) % 256) : Nat) : Int)]) 5 1, .blk g19 #[.string (tx ((l.getD i pd).1)), .int .i64 ((l.getD i pd).2)] 65, .blk g29 #[.int .u8 ((((((l.getD i pd).1).length) % 256) : Nat) : Int)] 5]) => ?_))
  simp only [nz1, nz2, nz3]
  refine lv 3 (v32) rfl rfl (run_as rfl rfl) ?_
  simp only [nz1, nz2, nz3]
  refine wpList_nil ?_
  refine then_n (hK26 _ _ ?_)
  refine wp_region_lit ?_
  refine lv 23 (v32) rfl rfl (run_mv rfl rfl) ?_
  simp only [nz1, nz2, nz3]
  refine lv 24 (.pointer (some ⟨g19, 0, none⟩)) rfl rfl (r_fa65_0 g19 0 rfl rfl) ?_
  simp only [nz1, nz2, nz3]
  refine lv 25 (.string (tx ((l.getD i pd).1))) rfl rfl (r_load (hm31.at 1 rfl) rfl Try.underlying9 rfl rfl rfl) ?_
  simp only [nz1, nz2, nz3]
  obtain ⟨iq, hiq, hz1, hz2, hz3⟩ := inf_u8
  refine lst (wanted_none rfl) (m_appendT 0 iq _ _ _ _ ((l.getD i pd).1) hm31 rfl 26 rfl rfl Try.underlying37 Try.underlying9 hiq hz1 hz2 hz3 rfl rfl (by omega) (fun v35 w33 (hm34 : Mm none w w33 [.row v35 ((((listN (l.take i)).length + 4) + 1) + ((l.getD i pd).1).length) (((((listN (l.take i)).map bv) ++ (putL ((l.getD i pd).2) 4).map bv) ++ [Value.int .u8 ((((((l.getD i pd).1).length) % 256) : Nat) : Int)]) ++ ((l.getD i pd).1).map bv) 5 1, .blk g19 #[.string (tx ((l.getD i pd).1)), .int .i64 ((l.getD i pd).2)] 65, .blk g29 #[.int .u8 ((((((l.getD i pd).1).length) % 256) : Nat) : Int)] 5]) => ?_))
  simp only [nz1, nz2, nz3]
  refine lv 3 (v35) rfl rfl (run_as rfl rfl) ?_
  simp only [nz1, nz2, nz3]
  refine wpList_nil ?_
  have hm36 : Mm none w w33 [.row v35 ((listN (l.take (i + 1))).length) ((listN (l.take (i + 1))).map bv) 5 1, .blk g19 #[.string (tx ((l.getD i pd).1)), .int .i64 ((l.getD i pd).2)] 65, .blk g29 #[.int .u8 ((((((l.getD i pd).1).length) % 256) : Nat) : Int)] 5] := by
    have e1 : ((listN (l.take (i + 1))).length : Nat) = ((((listN (l.take i)).length + 4) + 1) + ((l.getD i pd).1).length) := hst
    have e2 : (((listN (l.take (i + 1))).map bv) : List Value) = (((((listN (l.take i)).map bv) ++ (putL ((l.getD i pd).2) 4).map bv) ++ [Value.int .u8 ((((((l.getD i pd).1).length) % 256) : Nat) : Int)]) ++ ((l.getD i pd).1).map bv) := listN_step l i (by omega)
    rw [e1, e2]
    exact hm34
  refine blk_n ?_
  refine then_n (hK12 _ _ ?_)
  refine wp_region_lit ?_
  refine lv 27 (.int .i64 (((i + 1) : Nat) : Int)) rfl rfl (r_add i 1 (show (i + 1) < 9223372036854775808 from by omega) rfl rfl rfl) ?_
  simp only [nz1, nz2, nz3]
  refine lv 8 (.int .i64 (((i + 1) : Nat) : Int)) rfl rfl (run_mv rfl rfl) ?_
  simp only [nz1, nz2, nz3]
  refine wpList_nil ?_
  have hm37 : Mm none w w33 [.row v35 ((listN (l.take (i + 1))).length) ((listN (l.take (i + 1))).map bv) 5 1] := Mm.pre (m := [.blk g19 #[.string (tx ((l.getD i pd).1)), .int .i64 ((l.getD i pd).2)] 65, .blk g29 #[.int .u8 ((((((l.getD i pd).1).length) % 256) : Nat) : Int)] 5]) hm36
  refine then_n (hR8 _ _ _ ⟨(i + 1), _, (fun qq => List.getD [.pointer (some ⟨g19, 0, none⟩), .bool true, .pointer (some ⟨ge14, (oe15 + i * 2), none⟩), .agg #[.string (tx ((l.getD i pd).1)), .int .i64 ((l.getD i pd).2)], vv, .pointer (some ⟨g19, 1, none⟩), .int .i64 ((l.getD i pd).2), v25, v25, .pointer (some ⟨g19, 0, none⟩), .string (tx ((l.getD i pd).1)), .int .i64 ((((l.getD i pd).1).length : Nat) : Int), .int .u8 ((((((l.getD i pd).1).length) % 256) : Nat) : Int), .slice (some ⟨g29, 0, none⟩) 1 1, v32, v32, .pointer (some ⟨g19, 0, none⟩), .string (tx ((l.getD i pd).1)), v35, .int .i64 (((i + 1) : Nat) : Int)] qq undef), rfl, (by omega), rfl, hm37⟩ ?_)
  omega
set_option maxHeartbeats 4000000 in
set_option maxRecDepth 100000 in
theorem names_any (s : List UInt8) (hs : s.length ≤ 1000000) (w : World) : Calls Try.prog 35 #[.string (tx s)] w (fun e w' => (∃ v, e = .returned (.tuple #[v, .bool (namesL s []).isSome]) ∧ w'.ownsRow w.heap.size 65 2 v ((namesL s []).getD []).length (((namesL s []).getD []).flatMap pv)) ∧ Below w.heap.size w w') := by
  go_enter Try.func35, Try.ntmps35
  have hm0 := Mm.nil none w
  refine wp_seq_k (fun K1 hK1 => ?_)
  refine wp_region_lit ?_
  refine lv 2 (.slice none 0 0) rfl rfl (run_as rfl rfl) ?_
  simp only [nz1, nz2, nz3]
  refine lv 3 (.bool false) rfl rfl (run_as rfl rfl) ?_
  simp only [nz1, nz2, nz3]
  refine wpList_nil ?_
  refine then_n (hK1 _ _ ?_)
  refine wp_seq_k (fun K2 hK2 => ?_)
  refine wp_region_lit ?_
  refine lv 4 (.slice none 0 0) rfl rfl (run_as rfl rfl) ?_
  simp only [nz1, nz2, nz3]
  refine wpList_nil ?_
  have hm3 : Mm none w w [.row (.slice none 0 0) 0 ([]) 65 2] := hm0.nilrow 65 2
  refine then_n (hK2 _ _ ?_)
  refine wp_seq_k (fun K4 hK4 => ?_)
  refine wp_region_lit ?_
  refine lv 5 (.string (tx ([]))) rfl rfl (run_as rfl rfl) ?_
  simp only [nz1, nz2, nz3]
  refine wpList_nil ?_
  refine then_n (hK4 _ _ ?_)
  refine wp_seq_k (fun K5 hK5 => ?_)
  refine wp_block ?_
  refine wp_loop_n (fun n' a' w' => ∃ (t : List UInt8) (last : List UInt8) (acc : List (List UInt8 × Int)) (vv : Value) (u0 : Nat → Value), n' = t.length ∧ (acc.length + t.length ≤ s.length) ∧ (namesL s [] = rest acc t last) ∧ a' = ⟨#[.string (tx t), undef, u0 0, u0 1, vv, .string (tx last), u0 2, u0 3, u0 4, u0 5, u0 6, u0 7, u0 8, u0 9, u0 10, u0 11, u0 12, u0 13, u0 14, u0 15, u0 16, u0 17, u0 18, u0 19, u0 20, u0 21, u0 22, u0 23, u0 24, u0 25, u0 26, u0 27, u0 28, u0 29, u0 30, u0 31, u0 32, u0 33, u0 34, undef], []⟩ ∧ Mm none w w' [.row vv acc.length (acc.flatMap pv) 65 2]) ⟨s, [], [], _, (fun qq => bif Nat.blt qq 24 then List.getD [.slice none 0 0, .bool false, undef, undef, undef, undef, undef, undef, undef, undef, undef, undef, undef, undef, undef, undef, undef, undef, undef, undef, undef, undef, undef, undef] qq undef else List.getD [undef, undef, undef, undef, undef, undef, undef, undef, undef, undef, undef] (qq - 24) undef), rfl, (by simp), (rest_0 s).symm, rfl, hm3⟩ ?_
  clear hm3
  rintro _ _ w6 ⟨t, last, acc, vv, u0, hn0, hac, hinv, rfl, hm7⟩ R8 hR8
  refine wp_seq_k (fun K9 hK9 => ?_)
  refine wp_seq_k (fun K10 hK10 => ?_)
  refine wp_region_lit ?_
  refine lv 8 (.string (tx t)) rfl rfl (run_mv rfl rfl) ?_
  simp only [nz1, nz2, nz3]
  refine lv 9 (.bool (decide (¬ t = []))) rfl rfl (t_neq t ([]) rfl rfl rfl) ?_
  simp only [nz1, nz2, nz3]
  refine wpList_nil ?_
  refine then_n (hK10 _ _ ?_)
  refine cond_d (¬ t = []) rfl (fun hc11 => ?_) (fun hc11 => ?_)
  rotate_left
  · rw [decide_eq_false hc11]
    obtain rfl : t = [] := Classical.not_not.1 hc11
    refine wp_exit ?_
    refine then_x ?_
    refine then_x ?_
    refine blk_x ?_
    refine then_n (hK5 _ _ ?_)
    refine wp_seq_k (fun K38 hK38 => ?_)
    refine wp_region_lit ?_
    refine lv 39 (vv) rfl rfl (run_mv rfl rfl) ?_
    simp only [nz1, nz2, nz3]
    refine lv 2 (vv) rfl rfl (run_as rfl rfl) ?_
    simp only [nz1, nz2, nz3]
    refine lv 3 (.bool true) rfl rfl (run_as rfl rfl) ?_
    simp only [nz1, nz2, nz3]
    refine wpList_nil ?_
    refine then_n (hK38 _ _ ?_)
    refine wp_ret ?_
    exact ⟨rfl, .tuple #[vv, .bool true], res_tt rfl rfl rfl, ⟨names_some (hinv.trans (rest_end _ _)) (hm7.gives 0 rfl), hm7.below⟩⟩
  rw [decide_eq_true hc11]
  have hz := hc11
  refine wp_skip ?_
  refine then_n (hK9 _ _ ?_)
  refine wp_block ?_
  refine wp_seq_k (fun K12 hK12 => ?_)
  refine wp_seq_k (fun K13 hK13 => ?_)
  refine wp_region_lit ?_
  refine lv 10 (.string (tx t)) rfl rfl (run_mv rfl rfl) ?_
  simp only [nz1, nz2, nz3]
  refine lv 11 (.int .i64 ((t.length : Nat) : Int)) rfl rfl (t_len rfl Try.underlying9 rfl) ?_
  simp only [nz1, nz2, nz3]
  refine lv 12 (.bool (decide (t.length < 5))) rfl rfl (r_lss t.length 5 rfl rfl rfl) ?_
  simp only [nz1, nz2, nz3]
  refine wpList_nil ?_
  refine then_n (hK13 _ _ ?_)
  refine cond_d (t.length < 5) rfl (fun hc14 => ?_) (fun hc14 => ?_)
  · rw [decide_eq_true hc14]
    refine wp_seq_k (fun K15 hK15 => ?_)
    refine wp_region_lit ?_
    refine lv 2 (.slice none 0 0) rfl rfl (run_as rfl rfl) ?_
    simp only [nz1, nz2, nz3]
    refine lv 3 (.bool false) rfl rfl (run_as rfl rfl) ?_
    simp only [nz1, nz2, nz3]
    refine wpList_nil ?_
    refine then_n (hK15 _ _ ?_)
    refine wp_ret ?_
    refine then_r ?_
    refine blk_r ?_
    refine then_r ?_
    refine blk_r ?_
    refine then_r ?_
    exact ⟨rfl, .tuple #[.slice none 0 0, .bool false], res_tt rfl rfl rfl, ⟨names_none (hinv.trans (rest_short hz hc14)), hm7.below⟩⟩
  rw [decide_eq_false hc14]
  have h5 := hc14
  refine wp_skip ?_
  refine then_n (hK12 _ _ ?_)
  refine wp_seq_k (fun K16 hK16 => ?_)
  refine wp_region_lit ?_
  refine lv 13 (.string (tx t)) rfl rfl (run_mv rfl rfl) ?_
  simp only [nz1, nz2, nz3]
  refine lv 14 (.int .u8 ((by' t 4 : Nat) : Int)) rfl rfl (t_char t 4 (by omega) Try.underlying9 rfl rfl rfl) ?_
  simp only [nz1, nz2, nz3]
  refine lv 15 (.int .i64 ((by' t 4 : Nat) : Int)) rfl rfl (r_conv (k' := .i64) (by' t 4) (by' t 4) some_u8 Try.underlying3 (wrap_nat (Nat.lt_trans (by_lt t 4) (by decide))) rfl rfl) ?_
  simp only [nz1, nz2, nz3]
  refine lv 16 (.int .i64 (((5 + (by' t 4)) : Nat) : Int)) rfl rfl (r_add 5 (by' t 4) (by have := by_lt t 4; show _ < 9223372036854775808; omega) rfl rfl rfl) ?_
  simp only [nz1, nz2, nz3]
  refine lv 6 (.int .i64 (((5 + (by' t 4)) : Nat) : Int)) rfl rfl (run_as rfl rfl) ?_
  simp only [nz1, nz2, nz3]
  refine wpList_nil ?_
  refine then_n (hK16 _ _ ?_)
  refine wp_seq_k (fun K17 hK17 => ?_)
  refine wp_seq_k (fun K18 hK18 => ?_)
  refine wp_region_lit ?_
  refine lv 17 (.int .i64 (((5 + (by' t 4)) : Nat) : Int)) rfl rfl (run_mv rfl rfl) ?_
  simp only [nz1, nz2, nz3]
  refine lv 18 (.string (tx t)) rfl rfl (run_mv rfl rfl) ?_
  simp only [nz1, nz2, nz3]
  refine lv 19 (.int .i64 ((t.length : Nat) : Int)) rfl rfl (t_len rfl Try.underlying9 rfl) ?_
  simp only [nz1, nz2, nz3]
  refine lv 20 (.bool (decide (t.length < (5 + (by' t 4))))) rfl rfl (r_gtr (5 + (by' t 4)) t.length rfl rfl rfl) ?_
  simp only [nz1, nz2, nz3]
  refine wpList_nil ?_
  refine then_n (hK18 _ _ ?_)
  refine cond_d (t.length < (5 + (by' t 4))) rfl (fun hc19 => ?_) (fun hc19 => ?_)
  · rw [decide_eq_true hc19]
    refine wp_seq_k (fun K20 hK20 => ?_)
    refine wp_region_lit ?_
    refine lv 2 (.slice none 0 0) rfl rfl (run_as rfl rfl) ?_
    simp only [nz1, nz2, nz3]
    refine lv 3 (.bool false) rfl rfl (run_as rfl rfl) ?_
    simp only [nz1, nz2, nz3]
    refine wpList_nil ?_
    refine then_n (hK20 _ _ ?_)
    refine wp_ret ?_
    refine then_r ?_
    refine blk_r ?_
    refine then_r ?_
    refine blk_r ?_
    refine then_r ?_
    exact ⟨rfl, .tuple #[.slice none 0 0, .bool false], res_tt rfl rfl rfl, ⟨names_none (hinv.trans (rest_cut hz h5 hc19)), hm7.below⟩⟩
  rw [decide_eq_false hc19]
  have h6 := hc19
  refine wp_skip ?_
  refine then_n (hK17 _ _ ?_)
  refine wp_seq_k (fun K21 hK21 => ?_)
  refine wp_region_lit ?_
  refine lv 21 (.string (tx t)) rfl rfl (run_mv rfl rfl) ?_
  simp only [nz1, nz2, nz3]
  refine lv 22 (.int .i64 (((5 + (by' t 4)) : Nat) : Int)) rfl rfl (run_mv rfl rfl) ?_
  simp only [nz1, nz2, nz3]
  refine lv 23 (.string (tx ((t.take (5 + (by' t 4))).drop 5))) rfl rfl (t_cut t 5 (5 + (by' t 4)) (by omega) (by omega) Try.underlying9 rfl rfl rfl rfl) ?_
  simp only [nz1, nz2, nz3]
  refine lv 7 (.string (tx ((t.take (5 + (by' t 4))).drop 5))) rfl rfl (run_as rfl rfl) ?_
  simp only [nz1, nz2, nz3]
  refine wpList_nil ?_
  refine then_n (hK21 _ _ ?_)
  refine wp_seq_k (fun K22 hK22 => ?_)
  refine wp_seq_k (fun K23 hK23 => ?_)
  refine wp_region_lit ?_
  refine lv 24 (.string (tx ((t.take (5 + (by' t 4))).drop 5))) rfl rfl (run_mv rfl rfl) ?_
  simp only [nz1, nz2, nz3]
  refine lv 25 (.string (tx last)) rfl rfl (run_mv rfl rfl) ?_
  simp only [nz1, nz2, nz3]
  refine lv 26 (.bool (lt' ((t.take (5 + (by' t 4))).drop 5) last || decide (((t.take (5 + (by' t 4))).drop 5) = last))) rfl rfl (t_leq ((t.take (5 + (by' t 4))).drop 5) last rfl rfl rfl) ?_
  simp only [nz1, nz2, nz3]
  refine wpList_nil ?_
  refine then_n (hK23 _ _ ?_)
  refine cond_b (lt' ((t.take (5 + (by' t 4))).drop 5) last || decide (((t.take (5 + (by' t 4))).drop 5) = last)) rfl (fun hc24 => ?_) (fun hc24 => ?_)
  · rw [hc24]
    refine wp_seq_k (fun K25 hK25 => ?_)
    refine wp_region_lit ?_
    refine lv 2 (.slice none 0 0) rfl rfl (run_as rfl rfl) ?_
    simp only [nz1, nz2, nz3]
    refine lv 3 (.bool false) rfl rfl (run_as rfl rfl) ?_
    simp only [nz1, nz2, nz3]
    refine wpList_nil ?_
    refine then_n (hK25 _ _ ?_)
    refine wp_ret ?_
    refine then_r ?_
    refine blk_r ?_
    refine then_r ?_
    refine blk_r ?_
    refine then_r ?_
    exact ⟨rfl, .tuple #[.slice none 0 0, .bool false], res_tt rfl rfl rfl, ⟨names_none (hinv.trans (rest_low hz h5 h6 hc24)), hm7.below⟩⟩
  rw [hc24]
  have h7 := hc24
  refine wp_skip ?_
  refine then_n (hK22 _ _ ?_)
  refine wp_seq_k (fun K26 hK26 => ?_)
  refine wp_region_lit ?_
  refine lv 27 (vv) rfl rfl (run_mv rfl rfl) ?_
  simp only [nz1, nz2, nz3]
  refine lv 28 (.string (tx ((t.take (5 + (by' t 4))).drop 5))) rfl rfl (run_mv rfl rfl) ?_
  simp only [nz1, nz2, nz3]
  refine lv 29 (.string (tx t)) rfl rfl (run_mv rfl rfl) ?_
  simp only [nz1, nz2, nz3]
  refine lv 30 (.string (tx (t.take 4))) rfl rfl (t_to t 4 (by omega) Try.underlying9 rfl rfl rfl) ?_
  simp only [nz1, nz2, nz3]
  refine lst (wanted_none rfl) (m_call hm7 31 (.int .i64 (getZ (t.take 4))) rfl (run_get rfl rfl) (get_any (t.take 4) (by simp; omega) _) (fun w27 (hm28 : Mm none w w27 [.row vv acc.length (acc.flatMap pv) 65 2]) => ?_))
  simp only [nz1, nz2, nz3]
  refine lv 32 (.agg #[.string (tx ((t.take (5 + (by' t 4))).drop 5)), .int .i64 (getZ (t.take 4))]) rfl rfl (by unfold execOp; go_simp; try rfl) ?_
  simp only [nz1, nz2, nz3]
  refine lst (wanted_none rfl) (m_make (c := #[.string (tx ((t.take (5 + (by' t 4))).drop 5)), .int .i64 (getZ (t.take 4))]) (T := 65) (fun g => .slice (some ⟨g, 0, none⟩) 1 1) hm28 33 rfl (by unfold execOp; go_simp; try rfl) (fun g31 w29 (hm30 : Mm none w w29 [.row vv acc.length (acc.flatMap pv) 65 2, .blk g31 #[.string (tx ((t.take (5 + (by' t 4))).drop 5)), .int .i64 (getZ (t.take 4))] 65]) => ?_))
  simp only [nz1, nz2, nz3]
  obtain ⟨iq, hiq, hz1, hz2, hz3⟩ := inf_pl
  refine lst (wanted_none rfl) (m_append 0 (news := [Value.string (tx ((t.take (5 + (by' t 4))).drop 5)), Value.int .i64 (getZ (t.take 4))]) iq _ _ _ _ ⟨g31, 0, none⟩ hm30 rfl 34 rfl rfl Try.underlying60 hiq hz1 hz2 hz3 (by rfl) (by decide) rfl rfl rfl (hm30.at 1 rfl).news (by simp [Value.oneCell']) (by unfold maxLen; omega) (by omega) (fun v34 w32 _ (hm33 : Mm none w w32 [.row v34 (acc.length + 1) ((acc.flatMap pv) ++ [Value.string (tx ((t.take (5 + (by' t 4))).drop 5)), Value.int .i64 (getZ (t.take 4))]) 65 2, .blk g31 #[.string (tx ((t.take (5 + (by' t 4))).drop 5)), .int .i64 (getZ (t.take 4))] 65]) => ?_))
  simp only [nz1, nz2, nz3]
  refine lv 4 (v34) rfl rfl (run_as rfl rfl) ?_
  simp only [nz1, nz2, nz3]
  refine wpList_nil ?_
  have hm35 : Mm none w w32 [.row v34 ((acc ++ [(((t.take (5 + by' t 4)).drop 5), getZ (t.take 4))]).length) ((acc ++ [(((t.take (5 + by' t 4)).drop 5), getZ (t.take 4))]).flatMap pv) 65 2, .blk g31 #[.string (tx ((t.take (5 + (by' t 4))).drop 5)), .int .i64 (getZ (t.take 4))] 65] := by
    have e1 : ((acc ++ [(((t.take (5 + by' t 4)).drop 5), getZ (t.take 4))]).length : Nat) = (acc.length + 1) := by simp
    have e2 : (((acc ++ [(((t.take (5 + by' t 4)).drop 5), getZ (t.take 4))]).flatMap pv) : List Value) = ((acc.flatMap pv) ++ [Value.string (tx ((t.take (5 + (by' t 4))).drop 5)), Value.int .i64 (getZ (t.take 4))]) := flat_snoc acc _
    rw [e1, e2]
    exact hm33
  refine then_n (hK26 _ _ ?_)
  refine wp_seq_k (fun K36 hK36 => ?_)
  refine wp_region_lit ?_
  refine lv 35 (.string (tx ((t.take (5 + (by' t 4))).drop 5))) rfl rfl (run_mv rfl rfl) ?_
  simp only [nz1, nz2, nz3]
  refine lv 5 (.string (tx ((t.take (5 + (by' t 4))).drop 5))) rfl rfl (run_as rfl rfl) ?_
  simp only [nz1, nz2, nz3]
  refine wpList_nil ?_
  refine then_n (hK36 _ _ ?_)
  refine wp_region_lit ?_
  refine lv 36 (.string (tx t)) rfl rfl (run_mv rfl rfl) ?_
  simp only [nz1, nz2, nz3]
  refine lv 37 (.int .i64 (((5 + (by' t 4)) : Nat) : Int)) rfl rfl (run_mv rfl rfl) ?_
  simp only [nz1, nz2, nz3]
  refine lv 38 (.string (tx (t.drop (5 + (by' t 4))))) rfl rfl (t_from t (5 + (by' t 4)) (by omega) Try.underlying9 rfl rfl rfl) ?_
  simp only [nz1, nz2, nz3]
  refine lv 0 (.string (tx (t.drop (5 + (by' t 4))))) rfl rfl (run_as rfl rfl) ?_
  simp only [nz1, nz2]
  refine wpList_nil ?_
  refine blk_n ?_
  have hm37 : Mm none w w32 [.row v34 ((acc ++ [(((t.take (5 + by' t 4)).drop 5), getZ (t.take 4))]).length) ((acc ++ [(((t.take (5 + by' t 4)).drop 5), getZ (t.take 4))]).flatMap pv) 65 2] := Mm.pre (m := [.blk g31 #[.string (tx ((t.take (5 + (by' t 4))).drop 5)), .int .i64 (getZ (t.take 4))] 65]) hm35
  refine then_n (hR8 _ _ _ ⟨(t.drop (5 + by' t 4)), ((t.take (5 + by' t 4)).drop 5), (acc ++ [(((t.take (5 + by' t 4)).drop 5), getZ (t.take 4))]), _, (fun qq => bif Nat.blt qq 24 then List.getD [u0 0, u0 1, .int .i64 (((5 + (by' t 4)) : Nat) : Int), .string (tx ((t.take (5 + (by' t 4))).drop 5)), .string (tx t), .bool true, .string (tx t), .int .i64 ((t.length : Nat) : Int), .bool false, .string (tx t), .int .u8 ((by' t 4 : Nat) : Int), .int .i64 ((by' t 4 : Nat) : Int), .int .i64 (((5 + (by' t 4)) : Nat) : Int), .int .i64 (((5 + (by' t 4)) : Nat) : Int), .string (tx t), .int .i64 ((t.length : Nat) : Int), .bool false, .string (tx t), .int .i64 (((5 + (by' t 4)) : Nat) : Int), .string (tx ((t.take (5 + (by' t 4))).drop 5)), .string (tx ((t.take (5 + (by' t 4))).drop 5)), .string (tx last), .bool false, vv] qq undef else List.getD [.string (tx ((t.take (5 + (by' t 4))).drop 5)), .string (tx t), .string (tx (t.take 4)), .int .i64 (getZ (t.take 4)), .agg #[.string (tx ((t.take (5 + (by' t 4))).drop 5)), .int .i64 (getZ (t.take 4))], .slice (some ⟨g31, 0, none⟩) 1 1, v34, .string (tx ((t.take (5 + (by' t 4))).drop 5)), .string (tx t), .int .i64 (((5 + (by' t 4)) : Nat) : Int), .string (tx (t.drop (5 + (by' t 4))))] (qq - 24) undef), rfl, (by simp; omega), (hinv.trans (rest_on hz h5 h6 h7)), rfl, hm37⟩ ?_)
  (have hne : t.length ≠ 0 := fun e => hz (List.eq_nil_of_length_eq_zero e)); simp; omega
end Go.Proofs.Ytmammofbgllceaa.Nod
