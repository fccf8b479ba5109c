/- Layer 17: numbers put and nodes checked, the document's. -/
import Derived.Test.YtmammofbgllceaaNodC
namespace Go.Proofs.Ytmammofbgllceaa.Nod
open Go.RowKit
open Go.Proofs.Ytmammofbgllceaa.Sym Go.Proofs.Ytmammofbgllceaa.Mem
open Go.Proofs.Ytmammofbgllceaa.Sx hiding Mm m_alloc m_store m_put m_call m_callx m_make m_append r_string r_ixS

theorem put_stepL (n : Int) (size m : Nat) (h : m + 1 ≤ size) : (putL n size).take (size - m) = (putL n size).take (size - (m + 1)) ++ [UInt8.ofNat (((n / 2 ^ (8 * m)) % 256).toNat)] := by
  have hl := putL_length n size
  rw [show size - m = size - (m + 1) + 1 by omega, take_snoc (putL n size) (size - (m + 1)) (by omega) 0, putL_at n size (size - (m + 1)) (by omega), pow8,
    show size - 1 - (size - (m + 1)) = m by omega]
theorem put_0L (n : Int) (size : Nat) : (putL n size).take (size - size) = [] := by simp
theorem put_allL (n : Int) (size : Nat) : (putL n size).take (size - 0) = putL n size := by
  rw [Nat.sub_zero, List.take_of_length_le (Nat.le_of_eq (putL_length n size))]
theorem one_bv {W : World} {v : Value} (z : Int) (h : Rd W v 1 1 #[Value.int .u8 (((z % 256).toNat : Nat) : Int)].toList) : Rd W v 1 1 ([UInt8.ofNat ((z % 256).toNat)].map bv) := by
  rw [List.map_cons, List.map_nil, bv_nat _ (by omega)]; exact h
theorem blocks_stepL (x : Nd) (i : Nat) (h : i < x.blocks.length) : headN x ++ (x.blocks.take (i + 1)).flatMap p4 = headN x ++ (x.blocks.take i).flatMap p4 ++ putL (x.blocks.getD i 0) 4 := by
  rw [take_flat p4 x.blocks i h 0]; simp [p4]
theorem head_L (x : Nd) : headN x ++ (x.blocks.take 0).flatMap p4 = putL x.kind 1 ++ putL x.mode 2 ++ putL x.links 4 ++ putL x.uid 4 ++ putL x.gid 4 ++ putL x.time 8 ++ putL x.size 4 ++ [0] := by
  simp [headN]
theorem rep_L (l : List UInt8) (k : Nat) : l ++ List.replicate (k + 1) 0 = l ++ List.replicate k 0 ++ [0] := by
  rw [List.replicate_succ', List.append_assoc]
theorem part_len (x : Nd) (i : Nat) (h : i ≤ x.blocks.length) : (headN x ++ (x.blocks.take i).flatMap p4).length = 28 + 4 * i := by
  rw [List.length_append, headN_len, p4_len, List.length_take, Nat.min_eq_left h]
set_option maxHeartbeats 4000000 in
set_option maxRecDepth 100000 in
theorem rput_any (n : Int) (size : Nat) (hs : size ≤ 8) (w : World) : Calls Try.prog 50 #[.int .i64 (n), .int .i64 ((size : Nat) : Int)] w (fun e w' => e = .returned (.string (tx (putL n size))) ∧ Below w.heap.size w w') := by
  go_enter Try.func50, Try.ntmps50
  have hm0 := Mm.nil none w
  refine wp_seq_k (fun K1 hK1 => ?_)
  refine wp_region_lit ?_
  refine lv 4 (.string (tx ([]))) rfl rfl (run_as rfl rfl) ?_
  simp only [nz1, nz2, nz3]
  refine wpList_nil ?_
  refine then_n (hK1 _ _ ?_)
  refine wp_seq_k (fun K2 hK2 => ?_)
  refine wp_region_lit ?_
  refine lv 5 (.string (tx ([]))) rfl rfl (run_as rfl rfl) ?_
  simp only [nz1, nz2, nz3]
  refine wpList_nil ?_
  refine then_n (hK2 _ _ ?_)
  refine wp_seq_k (fun K3 hK3 => ?_)
  refine wp_seq_k (fun K4 hK4 => ?_)
  refine wp_region_lit ?_
  refine lv 7 (.int .i64 ((size : Nat) : Int)) rfl rfl (run_mv rfl rfl) ?_
  simp only [nz1, nz2, nz3]
  refine lv 8 (.int .i64 (((size : Nat) : Int) - 1)) rfl rfl (r_subZ ((size : Nat) : Int) 1 _ (by rw [IntKind.wrap_i64]; omega) rfl rfl rfl) ?_
  simp only [nz1, nz2, nz3]
  refine lv 6 (.int .i64 (((size : Nat) : Int) - 1)) rfl rfl (run_as rfl rfl) ?_
  simp only [nz1, nz2, nz3]
  refine wpList_nil ?_
  rw [show ((.string (tx ([]))) : Value) = .string (tx ((putL n size).take (size - size))) from by rw [put_0L]]
  refine then_n (hK4 _ _ ?_)
  refine wp_block ?_
  refine wp_loop_n (fun n' a' w' => ∃ (j : Nat) (u0 : Nat → Value), n' = j ∧ (j ≤ size) ∧ a' = ⟨#[.int .i64 (n), .int .i64 ((size : Nat) : Int), undef, undef, .string (tx ((putL n size).take (size - size))), .string (tx ((putL n size).take (size - j))), .int .i64 (((j : Nat) : Int) - 1), .int .i64 ((size : Nat) : Int), .int .i64 (((size : Nat) : Int) - 1), u0 0, u0 1, u0 2, u0 3, u0 4, u0 5, u0 6, u0 7, u0 8, u0 9, u0 10, u0 11, u0 12, u0 13, undef], []⟩ ∧ Mm none w w' []) ⟨size, (fun qq => List.getD [undef, undef, undef, undef, undef, undef, undef, undef, undef, undef, undef, undef, undef, undef] qq undef), rfl, (Nat.le_refl _), rfl, hm0⟩ ?_
  clear hm0
  rintro _ _ w5 ⟨j, u0, hn0, hj, rfl, hm6⟩ R7 hR7
  refine wp_seq_k (fun K8 hK8 => ?_)
  refine wp_seq_k (fun K9 hK9 => ?_)
  refine wp_region_lit ?_
  refine lv 9 (.int .i64 (((j : Nat) : Int) - 1)) rfl rfl (run_mv rfl rfl) ?_
  simp only [nz1, nz2, nz3]
  refine lv 10 (.bool (decide (((0 : Nat) : Int) ≤ ((j : Nat) : Int) - 1))) rfl rfl (z_geq (((j : Nat) : Int) - 1) ((0 : Nat) : Int) rfl rfl rfl) ?_
  simp only [nz1, nz2, nz3]
  refine wpList_nil ?_
  refine then_n (hK9 _ _ ?_)
  refine cond_d (((0 : Nat) : Int) ≤ ((j : Nat) : Int) - 1) rfl (fun hc10 => ?_) (fun hc10 => ?_)
  rotate_left
  · rw [decide_eq_false hc10]
    obtain rfl : j = 0 := by omega
    refine wp_exit ?_
    refine then_x ?_
    refine then_x ?_
    refine blk_x ?_
    refine then_n (hK3 _ _ ?_)
    refine wp_seq_k (fun K16 hK16 => ?_)
    rw [show ((.string (tx ((putL n size).take (size - 0)))) : Value) = .string (tx (putL n size)) from by rw [put_allL]]
    refine wp_region_lit ?_
    refine lv 23 (.string (tx (putL n size))) rfl rfl (run_mv rfl rfl) ?_
    simp only [nz1, nz2, nz3]
    refine lv 4 (.string (tx (putL n size))) rfl rfl (run_as rfl rfl) ?_
    simp only [nz1, nz2, nz3]
    refine wpList_nil ?_
    refine then_n (hK16 _ _ ?_)
    refine wp_ret ?_
    exact ⟨rfl, .string (tx (putL n size)), res_t rfl rfl, ⟨rfl, hm6.below⟩⟩
  rw [decide_eq_true hc10]
  obtain ⟨m, rfl⟩ : ∃ m, j = m + 1 := ⟨j - 1, by omega⟩
  rw [show (((m + 1 : Nat) : Int) - 1) = ((m : Nat) : Int) from by omega]
  refine wp_skip ?_
  refine then_n (hK8 _ _ ?_)
  refine wp_seq_k (fun K11 hK11 => ?_)
  refine wp_block ?_
  refine wp_region_lit ?_
  refine lv 13 (.string (tx ((putL n size).take (size - (m + 1))))) rfl rfl (run_mv rfl rfl) ?_
  simp only [nz1, nz2, nz3]
  refine lv 14 (.int .i64 (n)) rfl rfl (run_mv rfl rfl) ?_
  simp only [nz1, nz2, nz3]
  refine lv 15 (.int .i64 ((m : Nat) : Int)) rfl rfl (run_mv rfl rfl) ?_
  simp only [nz1, nz2, nz3]
  refine lv 16 (.int .u64 ((m : Nat) : Int)) rfl rfl (r_conv (k' := .u64) m m some_i64 Try.underlying80 (wrap_nat (show m < 18446744073709551616 from by omega)) rfl rfl) ?_
  simp only [nz1, nz2, nz3]
  refine lv 17 (.int .u64 (((8 * m) : Nat) : Int)) rfl rfl (r_mul 8 m (show _ < 18446744073709551616 from by omega) rfl rfl rfl) ?_
  simp only [nz1, nz2, nz3]
  refine lv 18 (.int .i64 (n / 2 ^ (8 * m))) rfl rfl (z_shr n (8 * m) (by show 8 * m ≤ 64; omega) rfl rfl rfl) ?_
  simp only [nz1, nz2, nz3]
  refine lv 19 (.int .u8 (((((n / 2 ^ (8 * m)) % 256).toNat) : Nat) : Int)) rfl rfl (z_conv (k' := .u8) (n / 2 ^ (8 * m)) (((((n / 2 ^ (8 * m)) % 256).toNat) : Nat) : Int) some_i64 Try.underlying5 (wrap_u8z _) rfl rfl) ?_
  simp only [nz1, nz2, nz3]
  refine lst (wanted_none rfl) (m_make (c := #[.int .u8 (((((n / 2 ^ (8 * m)) % 256).toNat) : Nat) : Int)]) (T := 5) (fun g => .slice (some ⟨g, 0, none⟩) 1 1) hm6 20 rfl (by unfold execOp; go_simp; try rfl) (fun g14 w12 (hm13 : Mm none w w12 [.blk g14 #[.int .u8 (((((n / 2 ^ (8 * m)) % 256).toNat) : Nat) : Int)] 5]) => ?_))
  simp only [nz1, nz2, nz3]
  refine lv 21 (.string (tx ([UInt8.ofNat (((n / 2 ^ (8 * m)) % 256).toNat)]))) rfl rfl (r_stringR [UInt8.ofNat (((n / 2 ^ (8 * m)) % 256).toNat)] (one_bv (n / 2 ^ (8 * m)) (Rd.of_blk (hm13.at 0 rfl) rfl)) Try.underlying37 Try.underlying5 Try.underlying9 rfl rfl) ?_
  simp only [nz1, nz2, nz3]
  refine lv 22 (.string (tx (((putL n size).take (size - (m + 1))) ++ [UInt8.ofNat (((n / 2 ^ (8 * m)) % 256).toNat)]))) rfl rfl (t_cat ((putL n size).take (size - (m + 1))) ([UInt8.ofNat (((n / 2 ^ (8 * m)) % 256).toNat)]) (by simp [putL_length]; omega) rfl rfl rfl) ?_
  simp only [nz1, nz2, nz3]
  refine lv 5 (.string (tx (((putL n size).take (size - (m + 1))) ++ [UInt8.ofNat (((n / 2 ^ (8 * m)) % 256).toNat)]))) rfl rfl (run_as rfl rfl) ?_
  simp only [nz1, nz2, nz3]
  refine wpList_nil ?_
  rw [show ((.string (tx (((putL n size).take (size - (m + 1))) ++ [UInt8.ofNat (((n / 2 ^ (8 * m)) % 256).toNat)]))) : Value) = .string (tx ((putL n size).take (size - m))) from by rw [put_stepL n size m (by omega)]]
  refine blk_n ?_
  refine then_n (hK11 _ _ ?_)
  refine wp_region_lit ?_
  refine lv 11 (.int .i64 ((m : Nat) : Int)) rfl rfl (run_mv rfl rfl) ?_
  simp only [nz1, nz2, nz3]
  refine lv 12 (.int .i64 (((m : Nat) : Int) - 1)) rfl rfl (r_subZ ((m : Nat) : Int) 1 _ (by rw [IntKind.wrap_i64]; omega) rfl rfl rfl) ?_
  simp only [nz1, nz2, nz3]
  refine lv 6 (.int .i64 (((m : Nat) : Int) - 1)) rfl rfl (run_as rfl rfl) ?_
  simp only [nz1, nz2, nz3]
  refine wpList_nil ?_
  have hm15 : Mm none w w12 [] := Mm.pre (m := [.blk g14 #[.int .u8 (((((n / 2 ^ (8 * m)) % 256).toNat) : Nat) : Int)] 5]) hm13
  refine then_n (hR7 _ _ _ ⟨m, (fun qq => List.getD [.int .i64 ((m : Nat) : Int), .bool true, .int .i64 ((m : Nat) : Int), .int .i64 (((m : Nat) : Int) - 1), .string (tx ((putL n size).take (size - (m + 1)))), .int .i64 (n), .int .i64 ((m : Nat) : Int), .int .u64 ((m : Nat) : Int), .int .u64 (((8 * m) : Nat) : Int), .int .i64 (n / 2 ^ (8 * m)), .int .u8 (((((n / 2 ^ (8 * m)) % 256).toNat) : Nat) : Int), .slice (some ⟨g14, 0, none⟩) 1 1, .string (tx ([UInt8.ofNat (((n / 2 ^ (8 * m)) % 256).toNat)])), .string (tx ((putL n size).take (size - m)))] qq undef), rfl, (by omega), rfl, hm15⟩ ?_)
  omega
set_option maxHeartbeats 4000000 in
set_option maxRecDepth 100000 in
theorem rcheck_any (x : Nd) (v : Value) (w : World) (hb : Rd w v x.blocks.length 1 (x.blocks.map iv)) : Calls Try.prog 32 #[.agg #[.int .i64 (x.kind), .int .i64 (x.mode), .int .i64 (x.uid), .int .i64 (x.gid), .int .i64 (x.time), .int .i64 (x.links), .int .i64 (x.size), v]] w (fun e w' => e = .returned (.bool (decide (CheckP x))) ∧ Below w.heap.size w w') := by
  go_enter Try.func32, Try.ntmps32
  have hm0 := Mm.nil none w
  refine wp_seq_k (fun K1 hK1 => ?_)
  refine wp_region_lit ?_
  refine lst (wanted_none rfl) (m_alloc (c := #[.int .i64 (x.kind), .int .i64 (x.mode), .int .i64 (x.uid), .int .i64 (x.gid), .int .i64 (x.time), .int .i64 (x.links), .int .i64 (x.size), v]) (T := 48) hm0 1 rfl (run_box rfl rfl) (fun g4 w2 (hm3 : Mm none w w2 [.blk g4 #[.int .i64 (x.kind), .int .i64 (x.mode), .int .i64 (x.uid), .int .i64 (x.gid), .int .i64 (x.time), .int .i64 (x.links), .int .i64 (x.size), v] 48]) => ?_))
  simp only [nz1, nz2, nz3]
  refine lv 2 (.bool false) rfl rfl (run_as rfl rfl) ?_
  simp only [nz1, nz2, nz3]
  refine wpList_nil ?_
  refine then_n (hK1 _ _ ?_)
  refine wp_seq_k (fun K5 hK5 => ?_)
  refine wp_seq_k (fun K6 hK6 => ?_)
  refine wp_region_lit ?_
  refine lv 4 (.pointer (some ⟨g4, 0, none⟩)) rfl rfl (r_fa48_0 g4 0 rfl rfl) ?_
  simp only [nz1, nz2, nz3]
  refine lv 5 (.int .i64 (x.kind)) rfl rfl (r_load (hm3.at 0 rfl) rfl Try.underlying3 rfl rfl rfl) ?_
  simp only [nz1, nz2, nz3]
  refine lv 6 (.bool (decide (x.kind = ((0 : Nat) : Int)))) rfl rfl (z_eql x.kind ((0 : Nat) : Int) rfl rfl rfl) ?_
  simp only [nz1, nz2, nz3]
  refine wpList_nil ?_
  refine then_n (hK6 _ _ ?_)
  refine cond_d (x.kind = ((0 : Nat) : Int)) rfl (fun hc7 => ?_) (fun hc7 => ?_)
  · rw [decide_eq_true hc7]
    refine wp_seq_k (fun K8 hK8 => ?_)
    refine wp_region_lit ?_
    refine lv 7 (.pointer (some ⟨g4, 1, none⟩)) rfl rfl (r_fa48_1 g4 0 rfl rfl) ?_
    simp only [nz1, nz2, nz3]
    refine lv 8 (.int .i64 (x.mode)) rfl rfl (r_load (hm3.at 0 rfl) rfl Try.underlying3 rfl rfl rfl) ?_
    simp only [nz1, nz2, nz3]
    refine lvb 9 (x.mode = ((0 : Nat) : Int)) rfl rfl (z_eql x.mode ((0 : Nat) : Int) rfl rfl rfl) (fun hs9 => ?_) (fun hs9 => ?_)
    rotate_left
    · simp only [nz1, nz2, nz3]
      refine lv 10 (.bool false) rfl rfl (run_mv rfl rfl) ?_
      simp only [nz1, nz2, nz3]
      refine lst_skip 11 rfl rfl ?_
      simp only [nz1, nz2, nz3]
      refine lst_skip 12 rfl rfl ?_
      simp only [nz1, nz2, nz3]
      refine lst_skip 13 rfl rfl ?_
      simp only [nz1, nz2, nz3]
      refine lv 14 (.bool false) rfl rfl (run_pickf rfl rfl rfl) ?_
      simp only [nz1, nz2, nz3]
      refine lv 15 (.bool false) rfl rfl (run_mv rfl rfl) ?_
      simp only [nz1, nz2, nz3]
      refine lst_skip 16 rfl rfl ?_
      simp only [nz1, nz2, nz3]
      refine lst_skip 17 rfl rfl ?_
      simp only [nz1, nz2, nz3]
      refine lst_skip 18 rfl rfl ?_
      simp only [nz1, nz2, nz3]
      refine lv 19 (.bool false) rfl rfl (run_pickf rfl rfl rfl) ?_
      simp only [nz1, nz2, nz3]
      refine lv 20 (.bool false) rfl rfl (run_mv rfl rfl) ?_
      simp only [nz1, nz2, nz3]
      refine lst_skip 21 rfl rfl ?_
      simp only [nz1, nz2, nz3]
      refine lst_skip 22 rfl rfl ?_
      simp only [nz1, nz2, nz3]
      refine lst_skip 23 rfl rfl ?_
      simp only [nz1, nz2, nz3]
      refine lv 24 (.bool false) rfl rfl (run_pickf rfl rfl rfl) ?_
      simp only [nz1, nz2, nz3]
      refine lv 25 (.bool false) rfl rfl (run_mv rfl rfl) ?_
      simp only [nz1, nz2, nz3]
      refine lst_skip 26 rfl rfl ?_
      simp only [nz1, nz2, nz3]
      refine lst_skip 27 rfl rfl ?_
      simp only [nz1, nz2, nz3]
      refine lst_skip 28 rfl rfl ?_
      simp only [nz1, nz2, nz3]
      refine lv 29 (.bool false) rfl rfl (run_pickf rfl rfl rfl) ?_
      simp only [nz1, nz2, nz3]
      refine lv 30 (.bool false) rfl rfl (run_mv rfl rfl) ?_
      simp only [nz1, nz2, nz3]
      refine lst_skip 31 rfl rfl ?_
      simp only [nz1, nz2, nz3]
      refine lst_skip 32 rfl rfl ?_
      simp only [nz1, nz2, nz3]
      refine lst_skip 33 rfl rfl ?_
      simp only [nz1, nz2, nz3]
      refine lv 34 (.bool false) rfl rfl (run_pickf rfl rfl rfl) ?_
      simp only [nz1, nz2, nz3]
      refine lv 35 (.bool false) rfl rfl (run_mv rfl rfl) ?_
      simp only [nz1, nz2, nz3]
      refine lst_skip 36 rfl rfl ?_
      simp only [nz1, nz2, nz3]
      refine lst_skip 37 rfl rfl ?_
      simp only [nz1, nz2, nz3]
      refine lst_skip 38 rfl rfl ?_
      simp only [nz1, nz2, nz3]
      refine lst_skip 39 rfl rfl ?_
      simp only [nz1, nz2, nz3]
      refine lv 40 (.bool false) rfl rfl (run_pickf rfl rfl rfl) ?_
      simp only [nz1, nz2, nz3]
      refine lv 2 (.bool false) rfl rfl (run_as rfl rfl) ?_
      simp only [nz1, nz2, nz3]
      refine wpList_nil ?_
      refine then_n (hK8 _ _ ?_)
      refine wp_ret ?_
      refine then_r ?_
      exact ⟨rfl, .bool false, res_t rfl rfl, ⟨by rw [show decide (CheckP x) = false from decide_eq_false (by unfold CheckP; rintro (⟨_, h⟩ | ⟨_, h, _⟩) <;> simp only [FreeP, RangeP] at h <;> omega)], hm3.below⟩⟩
    simp only [nz1, nz2, nz3]
    refine lv 10 (.bool true) rfl rfl (run_mv rfl rfl) ?_
    simp only [nz1, nz2, nz3]
    refine lst rfl (w_value 11 (.pointer (some ⟨g4, 2, none⟩)) rfl (r_fa48_2 g4 0 rfl rfl) ?_)
    simp only [nz1, nz2, nz3]
    refine lst rfl (w_value 12 (.int .i64 (x.uid)) rfl (r_load (hm3.at 0 rfl) rfl Try.underlying3 rfl rfl rfl) ?_)
    simp only [nz1, nz2, nz3]
    refine lvb 13 (x.uid = ((0 : Nat) : Int)) rfl rfl (z_eql x.uid ((0 : Nat) : Int) rfl rfl rfl) (fun hs10 => ?_) (fun hs10 => ?_)
    rotate_left
    · simp only [nz1, nz2, nz3]
      refine lv 14 (.bool false) rfl rfl (run_pick rfl rfl rfl) ?_
      simp only [nz1, nz2, nz3]
      refine lv 15 (.bool false) rfl rfl (run_mv rfl rfl) ?_
      simp only [nz1, nz2, nz3]
      refine lst_skip 16 rfl rfl ?_
      simp only [nz1, nz2, nz3]
      refine lst_skip 17 rfl rfl ?_
      simp only [nz1, nz2, nz3]
      refine lst_skip 18 rfl rfl ?_
      simp only [nz1, nz2, nz3]
      refine lv 19 (.bool false) rfl rfl (run_pickf rfl rfl rfl) ?_
      simp only [nz1, nz2, nz3]
      refine lv 20 (.bool false) rfl rfl (run_mv rfl rfl) ?_
      simp only [nz1, nz2, nz3]
      refine lst_skip 21 rfl rfl ?_
      simp only [nz1, nz2, nz3]
      refine lst_skip 22 rfl rfl ?_
      simp only [nz1, nz2, nz3]
      refine lst_skip 23 rfl rfl ?_
      simp only [nz1, nz2, nz3]
      refine lv 24 (.bool false) rfl rfl (run_pickf rfl rfl rfl) ?_
      simp only [nz1, nz2, nz3]
      refine lv 25 (.bool false) rfl rfl (run_mv rfl rfl) ?_
      simp only [nz1, nz2, nz3]
      refine lst_skip 26 rfl rfl ?_
      simp only [nz1, nz2, nz3]
      refine lst_skip 27 rfl rfl ?_
      simp only [nz1, nz2, nz3]
      refine lst_skip 28 rfl rfl ?_
      simp only [nz1, nz2, nz3]
      refine lv 29 (.bool false) rfl rfl (run_pickf rfl rfl rfl) ?_
      simp only [nz1, nz2, nz3]
      refine lv 30 (.bool false) rfl rfl (run_mv rfl rfl) ?_
      simp only [nz1, nz2, nz3]
      refine lst_skip 31 rfl rfl ?_
      simp only [nz1, nz2, nz3]
      refine lst_skip 32 rfl rfl ?_
      simp only [nz1, nz2, nz3]
      refine lst_skip 33 rfl rfl ?_
      simp only [nz1, nz2, nz3]
      refine lv 34 (.bool false) rfl rfl (run_pickf rfl rfl rfl) ?_
      simp only [nz1, nz2, nz3]
      refine lv 35 (.bool false) rfl rfl (run_mv rfl rfl) ?_
      simp only [nz1, nz2, nz3]
      refine lst_skip 36 rfl rfl ?_
      simp only [nz1, nz2, nz3]
      refine lst_skip 37 rfl rfl ?_
      simp only [nz1, nz2, nz3]
      refine lst_skip 38 rfl rfl ?_
      simp only [nz1, nz2, nz3]
      refine lst_skip 39 rfl rfl ?_
      simp only [nz1, nz2, nz3]
      refine lv 40 (.bool false) rfl rfl (run_pickf rfl rfl rfl) ?_
      simp only [nz1, nz2, nz3]
      refine lv 2 (.bool false) rfl rfl (run_as rfl rfl) ?_
      simp only [nz1, nz2, nz3]
      refine wpList_nil ?_
      refine then_n (hK8 _ _ ?_)
      refine wp_ret ?_
      refine then_r ?_
      exact ⟨rfl, .bool false, res_t rfl rfl, ⟨by rw [show decide (CheckP x) = false from decide_eq_false (by unfold CheckP; rintro (⟨_, h⟩ | ⟨_, h, _⟩) <;> simp only [FreeP, RangeP] at h <;> omega)], hm3.below⟩⟩
    simp only [nz1, nz2, nz3]
    refine lv 14 (.bool true) rfl rfl (run_pick rfl rfl rfl) ?_
    simp only [nz1, nz2, nz3]
    refine lv 15 (.bool true) rfl rfl (run_mv rfl rfl) ?_
    simp only [nz1, nz2, nz3]
    refine lst rfl (w_value 16 (.pointer (some ⟨g4, 3, none⟩)) rfl (r_fa48_3 g4 0 rfl rfl) ?_)
    simp only [nz1, nz2, nz3]
    refine lst rfl (w_value 17 (.int .i64 (x.gid)) rfl (r_load (hm3.at 0 rfl) rfl Try.underlying3 rfl rfl rfl) ?_)
    simp only [nz1, nz2, nz3]
    refine lvb 18 (x.gid = ((0 : Nat) : Int)) rfl rfl (z_eql x.gid ((0 : Nat) : Int) rfl rfl rfl) (fun hs11 => ?_) (fun hs11 => ?_)
    rotate_left
    · simp only [nz1, nz2, nz3]
      refine lv 19 (.bool false) rfl rfl (run_pick rfl rfl rfl) ?_
      simp only [nz1, nz2, nz3]
      refine lv 20 (.bool false) rfl rfl (run_mv rfl rfl) ?_
      simp only [nz1, nz2, nz3]
      refine lst_skip 21 rfl rfl ?_
      simp only [nz1, nz2, nz3]
      refine lst_skip 22 rfl rfl ?_
      simp only [nz1, nz2, nz3]
      refine lst_skip 23 rfl rfl ?_
      simp only [nz1, nz2, nz3]
      refine lv 24 (.bool false) rfl rfl (run_pickf rfl rfl rfl) ?_
      simp only [nz1, nz2, nz3]
      refine lv 25 (.bool false) rfl rfl (run_mv rfl rfl) ?_
      simp only [nz1, nz2, nz3]
      refine lst_skip 26 rfl rfl ?_
      simp only [nz1, nz2, nz3]
      refine lst_skip 27 rfl rfl ?_
      simp only [nz1, nz2, nz3]
      refine lst_skip 28 rfl rfl ?_
      simp only [nz1, nz2, nz3]
      refine lv 29 (.bool false) rfl rfl (run_pickf rfl rfl rfl) ?_
      simp only [nz1, nz2, nz3]
      refine lv 30 (.bool false) rfl rfl (run_mv rfl rfl) ?_
      simp only [nz1, nz2, nz3]
      refine lst_skip 31 rfl rfl ?_
      simp only [nz1, nz2, nz3]
      refine lst_skip 32 rfl rfl ?_
      simp only [nz1, nz2, nz3]
      refine lst_skip 33 rfl rfl ?_
      simp only [nz1, nz2, nz3]
      refine lv 34 (.bool false) rfl rfl (run_pickf rfl rfl rfl) ?_
      simp only [nz1, nz2, nz3]
      refine lv 35 (.bool false) rfl rfl (run_mv rfl rfl) ?_
      simp only [nz1, nz2, nz3]
      refine lst_skip 36 rfl rfl ?_
      simp only [nz1, nz2, nz3]
      refine lst_skip 37 rfl rfl ?_
      simp only [nz1, nz2, nz3]
      refine lst_skip 38 rfl rfl ?_
      simp only [nz1, nz2, nz3]
      refine lst_skip 39 rfl rfl ?_
      simp only [nz1, nz2, nz3]
      refine lv 40 (.bool false) rfl rfl (run_pickf rfl rfl rfl) ?_
      simp only [nz1, nz2, nz3]
      refine lv 2 (.bool false) rfl rfl (run_as rfl rfl) ?_
      simp only [nz1, nz2, nz3]
      refine wpList_nil ?_
      refine then_n (hK8 _ _ ?_)
      refine wp_ret ?_
      refine then_r ?_
      exact ⟨rfl, .bool false, res_t rfl rfl, ⟨by rw [show decide (CheckP x) = false from decide_eq_false (by unfold CheckP; rintro (⟨_, h⟩ | ⟨_, h, _⟩) <;> simp only [FreeP, RangeP] at h <;> omega)], hm3.below⟩⟩
    simp only [nz1, nz2, nz3]
    refine lv 19 (.bool true) rfl rfl (run_pick rfl rfl rfl) ?_
    simp only [nz1, nz2, nz3]
    refine lv 20 (.bool true) rfl rfl (run_mv rfl rfl) ?_
    simp only [nz1, nz2, nz3]
    refine lst rfl (w_value 21 (.pointer (some ⟨g4, 4, none⟩)) rfl (r_fa48_4 g4 0 rfl rfl) ?_)
    simp only [nz1, nz2, nz3]
    refine lst rfl (w_value 22 (.int .i64 (x.time)) rfl (r_load (hm3.at 0 rfl) rfl Try.underlying3 rfl rfl rfl) ?_)
    simp only [nz1, nz2, nz3]
    refine lvb 23 (x.time = ((0 : Nat) : Int)) rfl rfl (z_eql x.time ((0 : Nat) : Int) rfl rfl rfl) (fun hs12 => ?_) (fun hs12 => ?_)
    rotate_left
    · simp only [nz1, nz2, nz3]
      refine lv 24 (.bool false) rfl rfl (run_pick rfl rfl rfl) ?_
      simp only [nz1, nz2, nz3]
      refine lv 25 (.bool false) rfl rfl (run_mv rfl rfl) ?_
      simp only [nz1, nz2, nz3]
      refine lst_skip 26 rfl rfl ?_
      simp only [nz1, nz2, nz3]
      refine lst_skip 27 rfl rfl ?_
      simp only [nz1, nz2, nz3]
      refine lst_skip 28 rfl rfl ?_
      simp only [nz1, nz2, nz3]
      refine lv 29 (.bool false) rfl rfl (run_pickf rfl rfl rfl) ?_
      simp only [nz1, nz2, nz3]
      refine lv 30 (.bool false) rfl rfl (run_mv rfl rfl) ?_
      simp only [nz1, nz2, nz3]
      refine lst_skip 31 rfl rfl ?_
      simp only [nz1, nz2, nz3]
      refine lst_skip 32 rfl rfl ?_
      simp only [nz1, nz2, nz3]
      refine lst_skip 33 rfl rfl ?_
      simp only [nz1, nz2, nz3]
      refine lv 34 (.bool false) rfl rfl (run_pickf rfl rfl rfl) ?_
      simp only [nz1, nz2, nz3]
      refine lv 35 (.bool false) rfl rfl (run_mv rfl rfl) ?_
      simp only [nz1, nz2, nz3]
      refine lst_skip 36 rfl rfl ?_
      simp only [nz1, nz2, nz3]
      refine lst_skip 37 rfl rfl ?_
      simp only [nz1, nz2, nz3]
      refine lst_skip 38 rfl rfl ?_
      simp only [nz1, nz2, nz3]
      refine lst_skip 39 rfl rfl ?_
      simp only [nz1, nz2, nz3]
      refine lv 40 (.bool false) rfl rfl (run_pickf rfl rfl rfl) ?_
      simp only [nz1, nz2, nz3]
      refine lv 2 (.bool false) rfl rfl (run_as rfl rfl) ?_
      simp only [nz1, nz2, nz3]
      refine wpList_nil ?_
      refine then_n (hK8 _ _ ?_)
      refine wp_ret ?_
      refine then_r ?_
      exact ⟨rfl, .bool false, res_t rfl rfl, ⟨by rw [show decide (CheckP x) = false from decide_eq_false (by unfold CheckP; rintro (⟨_, h⟩ | ⟨_, h, _⟩) <;> simp only [FreeP, RangeP] at h <;> omega)], hm3.below⟩⟩
    simp only [nz1, nz2, nz3]
    refine lv 24 (.bool true) rfl rfl (run_pick rfl rfl rfl) ?_
    simp only [nz1, nz2, nz3]
    refine lv 25 (.bool true) rfl rfl (run_mv rfl rfl) ?_
    simp only [nz1, nz2, nz3]
    refine lst rfl (w_value 26 (.pointer (some ⟨g4, 5, none⟩)) rfl (r_fa48_5 g4 0 rfl rfl) ?_)
    simp only [nz1, nz2, nz3]
    refine lst rfl (w_value 27 (.int .i64 (x.links)) rfl (r_load (hm3.at 0 rfl) rfl Try.underlying3 rfl rfl rfl) ?_)
    simp only [nz1, nz2, nz3]
    refine lvb 28 (x.links = ((0 : Nat) : Int)) rfl rfl (z_eql x.links ((0 : Nat) : Int) rfl rfl rfl) (fun hs13 => ?_) (fun hs13 => ?_)
    rotate_left
    · simp only [nz1, nz2, nz3]
      refine lv 29 (.bool false) rfl rfl (run_pick rfl rfl rfl) ?_
      simp only [nz1, nz2, nz3]
      refine lv 30 (.bool false) rfl rfl (run_mv rfl rfl) ?_
      simp only [nz1, nz2, nz3]
      refine lst_skip 31 rfl rfl ?_
      simp only [nz1, nz2, nz3]
      refine lst_skip 32 rfl rfl ?_
      simp only [nz1, nz2, nz3]
      refine lst_skip 33 rfl rfl ?_
      simp only [nz1, nz2, nz3]
      refine lv 34 (.bool false) rfl rfl (run_pickf rfl rfl rfl) ?_
      simp only [nz1, nz2, nz3]
      refine lv 35 (.bool false) rfl rfl (run_mv rfl rfl) ?_
      simp only [nz1, nz2, nz3]
      refine lst_skip 36 rfl rfl ?_
      simp only [nz1, nz2, nz3]
      refine lst_skip 37 rfl rfl ?_
      simp only [nz1, nz2, nz3]
      refine lst_skip 38 rfl rfl ?_
      simp only [nz1, nz2, nz3]
      refine lst_skip 39 rfl rfl ?_
      simp only [nz1, nz2, nz3]
      refine lv 40 (.bool false) rfl rfl (run_pickf rfl rfl rfl) ?_
      simp only [nz1, nz2, nz3]
      refine lv 2 (.bool false) rfl rfl (run_as rfl rfl) ?_
      simp only [nz1, nz2, nz3]
      refine wpList_nil ?_
      refine then_n (hK8 _ _ ?_)
      refine wp_ret ?_
      refine then_r ?_
      exact ⟨rfl, .bool false, res_t rfl rfl, ⟨by rw [show decide (CheckP x) = false from decide_eq_false (by unfold CheckP; rintro (⟨_, h⟩ | ⟨_, h, _⟩) <;> simp only [FreeP, RangeP] at h <;> omega)], hm3.below⟩⟩
    simp only [nz1, nz2, nz3]
    refine lv 29 (.bool true) rfl rfl (run_pick rfl rfl rfl) ?_
    simp only [nz1, nz2, nz3]
    refine lv 30 (.bool true) rfl rfl (run_mv rfl rfl) ?_
    simp only [nz1, nz2, nz3]
    refine lst rfl (w_value 31 (.pointer (some ⟨g4, 6, none⟩)) rfl (r_fa48_6 g4 0 rfl rfl) ?_)
    simp only [nz1, nz2, nz3]
    refine lst rfl (w_value 32 (.int .i64 (x.size)) rfl (r_load (hm3.at 0 rfl) rfl Try.underlying3 rfl rfl rfl) ?_)
    simp only [nz1, nz2, nz3]
    refine lvb 33 (x.size = ((0 : Nat) : Int)) rfl rfl (z_eql x.size ((0 : Nat) : Int) rfl rfl rfl) (fun hs14 => ?_) (fun hs14 => ?_)
    · simp only [nz1, nz2, nz3]
      refine lv 34 (.bool true) rfl rfl (run_pick rfl rfl rfl) ?_
      simp only [nz1, nz2, nz3]
      refine lv 35 (.bool true) rfl rfl (run_mv rfl rfl) ?_
      simp only [nz1, nz2, nz3]
      refine lst rfl (w_value 36 (.pointer (some ⟨g4, 7, none⟩)) rfl (r_fa48_7 g4 0 rfl rfl) ?_)
      simp only [nz1, nz2, nz3]
      refine lst rfl (w_value 37 (v) rfl (r_load (hm3.at 0 rfl) rfl Try.underlying46 rfl rfl rfl) ?_)
      simp only [nz1, nz2, nz3]
      refine lst rfl (w_value 38 (.int .i64 ((x.blocks.length : Nat) : Int)) rfl (s_len hb rfl Try.underlying46 rfl) ?_)
      simp only [nz1, nz2, nz3]
      refine lst rfl (w_value 39 (.bool (decide (x.blocks.length = 0))) rfl (r_eql x.blocks.length 0 rfl rfl rfl) ?_)
      simp only [nz1, nz2, nz3]
      refine lv 40 (.bool (decide (x.blocks.length = 0))) rfl rfl (run_pick rfl rfl rfl) ?_
      simp only [nz1, nz2, nz3]
      refine lv 2 (.bool (decide (x.blocks.length = 0))) rfl rfl (run_as rfl rfl) ?_
      simp only [nz1, nz2, nz3]
      refine wpList_nil ?_
      refine then_n (hK8 _ _ ?_)
      refine wp_ret ?_
      refine then_r ?_
      exact ⟨rfl, .bool (decide (x.blocks.length = 0)), res_t rfl rfl, ⟨by rw [show decide (CheckP x) = (decide (x.blocks.length = 0)) from decide_eq_decide.2 ⟨fun h => by rcases h with ⟨_, h⟩ | ⟨h, _⟩; exact h.2.2.2.2.2.2; exact absurd ‹x.kind = 0› h, fun h => .inl ⟨by omega, by unfold FreeP; omega⟩⟩], hm3.below⟩⟩
    simp only [nz1, nz2, nz3]
    refine lv 34 (.bool false) rfl rfl (run_pick rfl rfl rfl) ?_
    simp only [nz1, nz2, nz3]
    refine lv 35 (.bool false) rfl rfl (run_mv rfl rfl) ?_
    simp only [nz1, nz2, nz3]
    refine lst_skip 36 rfl rfl ?_
    simp only [nz1, nz2, nz3]
    refine lst_skip 37 rfl rfl ?_
    simp only [nz1, nz2, nz3]
    refine lst_skip 38 rfl rfl ?_
    simp only [nz1, nz2, nz3]
    refine lst_skip 39 rfl rfl ?_
    simp only [nz1, nz2, nz3]
    refine lv 40 (.bool false) rfl rfl (run_pickf rfl rfl rfl) ?_
    simp only [nz1, nz2, nz3]
    refine lv 2 (.bool false) rfl rfl (run_as rfl rfl) ?_
    simp only [nz1, nz2, nz3]
    refine wpList_nil ?_
    refine then_n (hK8 _ _ ?_)
    refine wp_ret ?_
    refine then_r ?_
    exact ⟨rfl, .bool false, res_t rfl rfl, ⟨by rw [show decide (CheckP x) = false from decide_eq_false (by unfold CheckP; rintro (⟨_, h⟩ | ⟨_, h, _⟩) <;> simp only [FreeP, RangeP] at h <;> omega)], hm3.below⟩⟩
  rw [decide_eq_false hc7]
  refine wp_skip ?_
  refine then_n (hK5 _ _ ?_)
  refine wp_seq_k (fun K15 hK15 => ?_)
  refine wp_seq_k (fun K16 hK16 => ?_)
  have hm17 := hm3.drew
  refine wp_region_held_drew (S := fun w' => Mem.Blk w' g4 (#[.int .i64 (x.kind), .int .i64 (x.mode), .int .i64 (x.uid), .int .i64 (x.gid), .int .i64 (x.time), .int .i64 (x.links), .int .i64 (x.size), v]) 48) (by kernel_rfl) (hm17.at 0 rfl) (fun _ => ?_)
  generalize w2.drew = w18 at *
  refine tk 0 41 (.pointer (some ⟨g4, 0, none⟩)) rfl rfl (fun _ hw => r_fa48_0 g4 0 rfl rfl) (hm17.at 0 rfl) ?_
  simp only [nz1, nz2, nz3]
  refine tk 1 42 (.int .i64 (x.kind)) rfl rfl (fun _ hw => r_load hw rfl Try.underlying3 rfl rfl rfl) (hm17.at 0 rfl) ?_
  simp only [nz1, nz2, nz3]
  refine tkb 2 43 (x.kind < ((1 : Nat) : Int)) rfl rfl rfl (fun _ hw => z_lss x.kind ((1 : Nat) : Int) rfl rfl rfl) (hm17.at 0 rfl) (fun hs19 => ?_) (fun hs19 => ?_)
  · simp only [nz1, nz2, nz3]
    refine tk 3 44 (.bool true) rfl rfl (fun _ hw => run_mv rfl rfl) (hm17.at 0 rfl) ?_
    simp only [nz1, nz2, nz3]
    refine skx 4 45 rfl rfl rfl (hm17.at 0 rfl) ?_
    simp only [nz1, nz2, nz3]
    refine skx 5 46 rfl rfl rfl (hm17.at 0 rfl) ?_
    simp only [nz1, nz2, nz3]
    refine skx 6 47 rfl rfl rfl (hm17.at 0 rfl) ?_
    simp only [nz1, nz2, nz3]
    refine tk 7 48 (.bool true) rfl rfl (fun _ hw => run_pick rfl rfl rfl) (hm17.at 0 rfl) ?_
    simp only [nz1, nz2, nz3]
    refine tk 8 49 (.bool true) rfl rfl (fun _ hw => run_mv rfl rfl) (hm17.at 0 rfl) ?_
    simp only [nz1, nz2, nz3]
    refine skx 9 50 rfl rfl rfl (hm17.at 0 rfl) ?_
    simp only [nz1, nz2, nz3]
    refine skx 10 51 rfl rfl rfl (hm17.at 0 rfl) ?_
    simp only [nz1, nz2, nz3]
    refine skx 11 52 rfl rfl rfl (hm17.at 0 rfl) ?_
    simp only [nz1, nz2, nz3]
    refine tk 12 53 (.bool true) rfl rfl (fun _ hw => run_pick rfl rfl rfl) (hm17.at 0 rfl) ?_
    simp only [nz1, nz2, nz3]
    refine tk 13 54 (.bool true) rfl rfl (fun _ hw => run_mv rfl rfl) (hm17.at 0 rfl) ?_
    simp only [nz1, nz2, nz3]
    refine skx 14 55 rfl rfl rfl (hm17.at 0 rfl) ?_
    simp only [nz1, nz2, nz3]
    refine skx 15 56 rfl rfl rfl (hm17.at 0 rfl) ?_
    simp only [nz1, nz2, nz3]
    refine skx 16 57 rfl rfl rfl (hm17.at 0 rfl) ?_
    simp only [nz1, nz2, nz3]
    refine tk 17 58 (.bool true) rfl rfl (fun _ hw => run_pick rfl rfl rfl) (hm17.at 0 rfl) ?_
    simp only [nz1, nz2, nz3]
    refine tk 18 59 (.bool true) rfl rfl (fun _ hw => run_mv rfl rfl) (hm17.at 0 rfl) ?_
    simp only [nz1, nz2, nz3]
    refine skx 19 60 rfl rfl rfl (hm17.at 0 rfl) ?_
    simp only [nz1, nz2, nz3]
    refine skx 20 61 rfl rfl rfl (hm17.at 0 rfl) ?_
    simp only [nz1, nz2, nz3]
    refine skx 21 62 rfl rfl rfl (hm17.at 0 rfl) ?_
    simp only [nz1, nz2, nz3]
    refine tk 22 63 (.bool true) rfl rfl (fun _ hw => run_pick rfl rfl rfl) (hm17.at 0 rfl) ?_
    simp only [nz1, nz2, nz3]
    refine tk 23 64 (.bool true) rfl rfl (fun _ hw => run_mv rfl rfl) (hm17.at 0 rfl) ?_
    simp only [nz1, nz2, nz3]
    refine skx 24 65 rfl rfl rfl (hm17.at 0 rfl) ?_
    simp only [nz1, nz2, nz3]
    refine skx 25 66 rfl rfl rfl (hm17.at 0 rfl) ?_
    simp only [nz1, nz2, nz3]
    refine skx 26 67 rfl rfl rfl (hm17.at 0 rfl) ?_
    simp only [nz1, nz2, nz3]
    refine tk 27 68 (.bool true) rfl rfl (fun _ hw => run_pick rfl rfl rfl) (hm17.at 0 rfl) ?_
    simp only [nz1, nz2, nz3]
    refine tk 28 69 (.bool true) rfl rfl (fun _ hw => run_mv rfl rfl) (hm17.at 0 rfl) ?_
    simp only [nz1, nz2, nz3]
    refine skx 29 70 rfl rfl rfl (hm17.at 0 rfl) ?_
    simp only [nz1, nz2, nz3]
    refine skx 30 71 rfl rfl rfl (hm17.at 0 rfl) ?_
    simp only [nz1, nz2, nz3]
    refine skx 31 72 rfl rfl rfl (hm17.at 0 rfl) ?_
    simp only [nz1, nz2, nz3]
    refine tk 32 73 (.bool true) rfl rfl (fun _ hw => run_pick rfl rfl rfl) (hm17.at 0 rfl) ?_
    simp only [nz1, nz2, nz3]
    refine tk 33 74 (.bool true) rfl rfl (fun _ hw => run_mv rfl rfl) (hm17.at 0 rfl) ?_
    simp only [nz1, nz2, nz3]
    refine skx 34 75 rfl rfl rfl (hm17.at 0 rfl) ?_
    simp only [nz1, nz2, nz3]
    refine skx 35 76 rfl rfl rfl (hm17.at 0 rfl) ?_
    simp only [nz1, nz2, nz3]
    refine skx 36 77 rfl rfl rfl (hm17.at 0 rfl) ?_
    simp only [nz1, nz2, nz3]
    refine tk 37 78 (.bool true) rfl rfl (fun _ hw => run_pick rfl rfl rfl) (hm17.at 0 rfl) ?_
    simp only [nz1, nz2, nz3]
    refine tk 38 79 (.bool true) rfl rfl (fun _ hw => run_mv rfl rfl) (hm17.at 0 rfl) ?_
    simp only [nz1, nz2, nz3]
    refine skx 39 80 rfl rfl rfl (hm17.at 0 rfl) ?_
    simp only [nz1, nz2, nz3]
    refine skx 40 81 rfl rfl rfl (hm17.at 0 rfl) ?_
    simp only [nz1, nz2, nz3]
    refine skx 41 82 rfl rfl rfl (hm17.at 0 rfl) ?_
    simp only [nz1, nz2, nz3]
    refine tk 42 83 (.bool true) rfl rfl (fun _ hw => run_pick rfl rfl rfl) (hm17.at 0 rfl) ?_
    simp only [nz1, nz2, nz3]
    refine tk 43 84 (.bool true) rfl rfl (fun _ hw => run_mv rfl rfl) (hm17.at 0 rfl) ?_
    simp only [nz1, nz2, nz3]
    refine skx 44 85 rfl rfl rfl (hm17.at 0 rfl) ?_
    simp only [nz1, nz2, nz3]
    refine skx 45 86 rfl rfl rfl (hm17.at 0 rfl) ?_
    simp only [nz1, nz2, nz3]
    refine skx 46 87 rfl rfl rfl (hm17.at 0 rfl) ?_
    simp only [nz1, nz2, nz3]
    refine tk 47 88 (.bool true) rfl rfl (fun _ hw => run_pick rfl rfl rfl) (hm17.at 0 rfl) ?_
    simp only [nz1, nz2, nz3]
    refine tk 48 89 (.bool true) rfl rfl (fun _ hw => run_mv rfl rfl) (hm17.at 0 rfl) ?_
    simp only [nz1, nz2, nz3]
    refine skx 49 90 rfl rfl rfl (hm17.at 0 rfl) ?_
    simp only [nz1, nz2, nz3]
    refine skx 50 91 rfl rfl rfl (hm17.at 0 rfl) ?_
    simp only [nz1, nz2, nz3]
    refine skx 51 92 rfl rfl rfl (hm17.at 0 rfl) ?_
    simp only [nz1, nz2, nz3]
    refine tk 52 93 (.bool true) rfl rfl (fun _ hw => run_pick rfl rfl rfl) (hm17.at 0 rfl) ?_
    simp only [nz1, nz2, nz3]
    refine tk 53 94 (.bool true) rfl rfl (fun _ hw => run_mv rfl rfl) (hm17.at 0 rfl) ?_
    simp only [nz1, nz2, nz3]
    refine skx 54 95 rfl rfl rfl (hm17.at 0 rfl) ?_
    simp only [nz1, nz2, nz3]
    refine skx 55 96 rfl rfl rfl (hm17.at 0 rfl) ?_
    simp only [nz1, nz2, nz3]
    refine skx 56 97 rfl rfl rfl (hm17.at 0 rfl) ?_
    simp only [nz1, nz2, nz3]
    refine tk 57 98 (.bool true) rfl rfl (fun _ hw => run_pick rfl rfl rfl) (hm17.at 0 rfl) ?_
    simp only [nz1, nz2, nz3]
    refine tk 58 99 (.bool true) rfl rfl (fun _ hw => run_mv rfl rfl) (hm17.at 0 rfl) ?_
    simp only [nz1, nz2, nz3]
    refine skx 59 100 rfl rfl rfl (hm17.at 0 rfl) ?_
    simp only [nz1, nz2, nz3]
    refine skx 60 101 rfl rfl rfl (hm17.at 0 rfl) ?_
    simp only [nz1, nz2, nz3]
    refine skx 61 102 rfl rfl rfl (hm17.at 0 rfl) ?_
    simp only [nz1, nz2, nz3]
    refine tk 62 103 (.bool true) rfl rfl (fun _ hw => run_pick rfl rfl rfl) (hm17.at 0 rfl) ?_
    simp only [nz1, nz2, nz3]
    refine tk 63 104 (.bool true) rfl rfl (fun _ hw => run_mv rfl rfl) (hm17.at 0 rfl) ?_
    simp only [nz1, nz2, nz3]
    refine skx 64 105 rfl rfl rfl (hm17.at 0 rfl) ?_
    simp only [nz1, nz2, nz3]
    refine skx 65 106 rfl rfl rfl (hm17.at 0 rfl) ?_
    simp only [nz1, nz2, nz3]
    refine skx 66 107 rfl rfl rfl (hm17.at 0 rfl) ?_
    simp only [nz1, nz2, nz3]
    refine skx 67 108 rfl rfl rfl (hm17.at 0 rfl) ?_
    simp only [nz1, nz2, nz3]
    refine skx 68 109 rfl rfl rfl (hm17.at 0 rfl) ?_
    simp only [nz1, nz2, nz3]
    refine skx 69 110 rfl rfl rfl (hm17.at 0 rfl) ?_
    simp only [nz1, nz2, nz3]
    refine skx 70 111 rfl rfl rfl (hm17.at 0 rfl) ?_
    simp only [nz1, nz2, nz3]
    refine tk 71 112 (.bool true) rfl rfl (fun _ hw => run_pick rfl rfl rfl) (hm17.at 0 rfl) ?_
    simp only [nz1, nz2, nz3]
    refine wpAnyH_done (by kernel_rfl) ?_ _
    refine then_n (hK16 _ _ ?_)
    refine cond_t rfl ?_
    refine wp_seq_k (fun K20 hK20 => ?_)
    refine wp_region_lit ?_
    refine lv 2 (.bool false) rfl rfl (run_as rfl rfl) ?_
    simp only [nz1, nz2, nz3]
    refine wpList_nil ?_
    refine then_n (hK20 _ _ ?_)
    refine wp_ret ?_
    refine then_r ?_
    exact ⟨rfl, .bool false, res_t rfl rfl, ⟨by rw [show decide (CheckP x) = false from decide_eq_false (by unfold CheckP; rintro (⟨_, h⟩ | ⟨_, h, _⟩) <;> simp only [FreeP, RangeP] at h <;> omega)], hm17.below⟩⟩
  simp only [nz1, nz2, nz3]
  refine tk 3 44 (.bool false) rfl rfl (fun _ hw => run_mv rfl rfl) (hm17.at 0 rfl) ?_
  simp only [nz1, nz2, nz3]
  refine Sym.take_at 4 45 (.pointer (some ⟨g4, 0, none⟩)) rfl rfl (by kernel_rfl) (by kernel_rfl) (by kernel_rfl) (fun _ _ _ h => h) rfl (fun _ hw => r_fa48_0 g4 0 rfl rfl) (hm17.at 0 rfl) ?_
  simp only [nz1, nz2, nz3]
  refine Sym.take_at 5 46 (.int .i64 (x.kind)) rfl rfl (by kernel_rfl) (by kernel_rfl) (by kernel_rfl) (fun _ _ _ h => h) rfl (fun _ hw => r_load hw rfl Try.underlying3 rfl rfl rfl) (hm17.at 0 rfl) ?_
  simp only [nz1, nz2, nz3]
  refine tkb 6 47 (((3 : Nat) : Int) < x.kind) rfl rfl rfl (fun _ hw => z_gtr x.kind ((3 : Nat) : Int) rfl rfl rfl) (hm17.at 0 rfl) (fun hs21 => ?_) (fun hs21 => ?_)
  · simp only [nz1, nz2, nz3]
    refine tk 7 48 (.bool true) rfl rfl (fun _ hw => run_pickf rfl rfl rfl) (hm17.at 0 rfl) ?_
    simp only [nz1, nz2, nz3]
    refine tk 8 49 (.bool true) rfl rfl (fun _ hw => run_mv rfl rfl) (hm17.at 0 rfl) ?_
    simp only [nz1, nz2, nz3]
    refine skx 9 50 rfl rfl rfl (hm17.at 0 rfl) ?_
    simp only [nz1, nz2, nz3]
    refine skx 10 51 rfl rfl rfl (hm17.at 0 rfl) ?_
    simp only [nz1, nz2, nz3]
    refine skx 11 52 rfl rfl rfl (hm17.at 0 rfl) ?_
    simp only [nz1, nz2, nz3]
    refine tk 12 53 (.bool true) rfl rfl (fun _ hw => run_pick rfl rfl rfl) (hm17.at 0 rfl) ?_
    simp only [nz1, nz2, nz3]
    refine tk 13 54 (.bool true) rfl rfl (fun _ hw => run_mv rfl rfl) (hm17.at 0 rfl) ?_
    simp only [nz1, nz2, nz3]
    refine skx 14 55 rfl rfl rfl (hm17.at 0 rfl) ?_
    simp only [nz1, nz2, nz3]
    refine skx 15 56 rfl rfl rfl (hm17.at 0 rfl) ?_
    simp only [nz1, nz2, nz3]
    refine skx 16 57 rfl rfl rfl (hm17.at 0 rfl) ?_
    simp only [nz1, nz2, nz3]
    refine tk 17 58 (.bool true) rfl rfl (fun _ hw => run_pick rfl rfl rfl) (hm17.at 0 rfl) ?_
    simp only [nz1, nz2, nz3]
    refine tk 18 59 (.bool true) rfl rfl (fun _ hw => run_mv rfl rfl) (hm17.at 0 rfl) ?_
    simp only [nz1, nz2, nz3]
    refine skx 19 60 rfl rfl rfl (hm17.at 0 rfl) ?_
    simp only [nz1, nz2, nz3]
    refine skx 20 61 rfl rfl rfl (hm17.at 0 rfl) ?_
    simp only [nz1, nz2, nz3]
    refine skx 21 62 rfl rfl rfl (hm17.at 0 rfl) ?_
    simp only [nz1, nz2, nz3]
    refine tk 22 63 (.bool true) rfl rfl (fun _ hw => run_pick rfl rfl rfl) (hm17.at 0 rfl) ?_
    simp only [nz1, nz2, nz3]
    refine tk 23 64 (.bool true) rfl rfl (fun _ hw => run_mv rfl rfl) (hm17.at 0 rfl) ?_
    simp only [nz1, nz2, nz3]
    refine skx 24 65 rfl rfl rfl (hm17.at 0 rfl) ?_
    simp only [nz1, nz2, nz3]
    refine skx 25 66 rfl rfl rfl (hm17.at 0 rfl) ?_
    simp only [nz1, nz2, nz3]
    refine skx 26 67 rfl rfl rfl (hm17.at 0 rfl) ?_
    simp only [nz1, nz2, nz3]
    refine tk 27 68 (.bool true) rfl rfl (fun _ hw => run_pick rfl rfl rfl) (hm17.at 0 rfl) ?_
    simp only [nz1, nz2, nz3]
    refine tk 28 69 (.bool true) rfl rfl (fun _ hw => run_mv rfl rfl) (hm17.at 0 rfl) ?_
    simp only [nz1, nz2, nz3]
    refine skx 29 70 rfl rfl rfl (hm17.at 0 rfl) ?_
    simp only [nz1, nz2, nz3]
    refine skx 30 71 rfl rfl rfl (hm17.at 0 rfl) ?_
    simp only [nz1, nz2, nz3]
    refine skx 31 72 rfl rfl rfl (hm17.at 0 rfl) ?_
    simp only [nz1, nz2, nz3]
    refine tk 32 73 (.bool true) rfl rfl (fun _ hw => run_pick rfl rfl rfl) (hm17.at 0 rfl) ?_
    simp only [nz1, nz2, nz3]
    refine tk 33 74 (.bool true) rfl rfl (fun _ hw => run_mv rfl rfl) (hm17.at 0 rfl) ?_
    simp only [nz1, nz2, nz3]
    refine skx 34 75 rfl rfl rfl (hm17.at 0 rfl) ?_
    simp only [nz1, nz2, nz3]
    refine skx 35 76 rfl rfl rfl (hm17.at 0 rfl) ?_
    simp only [nz1, nz2, nz3]
    refine skx 36 77 rfl rfl rfl (hm17.at 0 rfl) ?_
    simp only [nz1, nz2, nz3]
    refine tk 37 78 (.bool true) rfl rfl (fun _ hw => run_pick rfl rfl rfl) (hm17.at 0 rfl) ?_
    simp only [nz1, nz2, nz3]
    refine tk 38 79 (.bool true) rfl rfl (fun _ hw => run_mv rfl rfl) (hm17.at 0 rfl) ?_
    simp only [nz1, nz2, nz3]
    refine skx 39 80 rfl rfl rfl (hm17.at 0 rfl) ?_
    simp only [nz1, nz2, nz3]
    refine skx 40 81 rfl rfl rfl (hm17.at 0 rfl) ?_
    simp only [nz1, nz2, nz3]
    refine skx 41 82 rfl rfl rfl (hm17.at 0 rfl) ?_
    simp only [nz1, nz2, nz3]
    refine tk 42 83 (.bool true) rfl rfl (fun _ hw => run_pick rfl rfl rfl) (hm17.at 0 rfl) ?_
    simp only [nz1, nz2, nz3]
    refine tk 43 84 (.bool true) rfl rfl (fun _ hw => run_mv rfl rfl) (hm17.at 0 rfl) ?_
    simp only [nz1, nz2, nz3]
    refine skx 44 85 rfl rfl rfl (hm17.at 0 rfl) ?_
    simp only [nz1, nz2, nz3]
    refine skx 45 86 rfl rfl rfl (hm17.at 0 rfl) ?_
    simp only [nz1, nz2, nz3]
    refine skx 46 87 rfl rfl rfl (hm17.at 0 rfl) ?_
    simp only [nz1, nz2, nz3]
    refine tk 47 88 (.bool true) rfl rfl (fun _ hw => run_pick rfl rfl rfl) (hm17.at 0 rfl) ?_
    simp only [nz1, nz2, nz3]
    refine tk 48 89 (.bool true) rfl rfl (fun _ hw => run_mv rfl rfl) (hm17.at 0 rfl) ?_
    simp only [nz1, nz2, nz3]
    refine skx 49 90 rfl rfl rfl (hm17.at 0 rfl) ?_
    simp only [nz1, nz2, nz3]
    refine skx 50 91 rfl rfl rfl (hm17.at 0 rfl) ?_
    simp only [nz1, nz2, nz3]
    refine skx 51 92 rfl rfl rfl (hm17.at 0 rfl) ?_
    simp only [nz1, nz2, nz3]
    refine tk 52 93 (.bool true) rfl rfl (fun _ hw => run_pick rfl rfl rfl) (hm17.at 0 rfl) ?_
    simp only [nz1, nz2, nz3]
    refine tk 53 94 (.bool true) rfl rfl (fun _ hw => run_mv rfl rfl) (hm17.at 0 rfl) ?_
    simp only [nz1, nz2, nz3]
    refine skx 54 95 rfl rfl rfl (hm17.at 0 rfl) ?_
    simp only [nz1, nz2, nz3]
    refine skx 55 96 rfl rfl rfl (hm17.at 0 rfl) ?_
    simp only [nz1, nz2, nz3]
    refine skx 56 97 rfl rfl rfl (hm17.at 0 rfl) ?_
    simp only [nz1, nz2, nz3]
    refine tk 57 98 (.bool true) rfl rfl (fun _ hw => run_pick rfl rfl rfl) (hm17.at 0 rfl) ?_
    simp only [nz1, nz2, nz3]
    refine tk 58 99 (.bool true) rfl rfl (fun _ hw => run_mv rfl rfl) (hm17.at 0 rfl) ?_
    simp only [nz1, nz2, nz3]
    refine skx 59 100 rfl rfl rfl (hm17.at 0 rfl) ?_
    simp only [nz1, nz2, nz3]
    refine skx 60 101 rfl rfl rfl (hm17.at 0 rfl) ?_
    simp only [nz1, nz2, nz3]
    refine skx 61 102 rfl rfl rfl (hm17.at 0 rfl) ?_
    simp only [nz1, nz2, nz3]
    refine tk 62 103 (.bool true) rfl rfl (fun _ hw => run_pick rfl rfl rfl) (hm17.at 0 rfl) ?_
    simp only [nz1, nz2, nz3]
    refine tk 63 104 (.bool true) rfl rfl (fun _ hw => run_mv rfl rfl) (hm17.at 0 rfl) ?_
    simp only [nz1, nz2, nz3]
    refine skx 64 105 rfl rfl rfl (hm17.at 0 rfl) ?_
    simp only [nz1, nz2, nz3]
    refine skx 65 106 rfl rfl rfl (hm17.at 0 rfl) ?_
    simp only [nz1, nz2, nz3]
    refine skx 66 107 rfl rfl rfl (hm17.at 0 rfl) ?_
    simp only [nz1, nz2, nz3]
    refine skx 67 108 rfl rfl rfl (hm17.at 0 rfl) ?_
    simp only [nz1, nz2, nz3]
    refine skx 68 109 rfl rfl rfl (hm17.at 0 rfl) ?_
    simp only [nz1, nz2, nz3]
    refine skx 69 110 rfl rfl rfl (hm17.at 0 rfl) ?_
    simp only [nz1, nz2, nz3]
    refine skx 70 111 rfl rfl rfl (hm17.at 0 rfl) ?_
    simp only [nz1, nz2, nz3]
    refine tk 71 112 (.bool true) rfl rfl (fun _ hw => run_pick rfl rfl rfl) (hm17.at 0 rfl) ?_
    simp only [nz1, nz2, nz3]
    refine wpAnyH_done (by kernel_rfl) ?_ _
    refine then_n (hK16 _ _ ?_)
    refine cond_t rfl ?_
    refine wp_seq_k (fun K22 hK22 => ?_)
    refine wp_region_lit ?_
    refine lv 2 (.bool false) rfl rfl (run_as rfl rfl) ?_
    simp only [nz1, nz2, nz3]
    refine wpList_nil ?_
    refine then_n (hK22 _ _ ?_)
    refine wp_ret ?_
    refine then_r ?_
    exact ⟨rfl, .bool false, res_t rfl rfl, ⟨by rw [show decide (CheckP x) = false from decide_eq_false (by unfold CheckP; rintro (⟨_, h⟩ | ⟨_, h, _⟩) <;> simp only [FreeP, RangeP] at h <;> omega)], hm17.below⟩⟩
  simp only [nz1, nz2, nz3]
  refine tk 7 48 (.bool false) rfl rfl (fun _ hw => run_pickf rfl rfl rfl) (hm17.at 0 rfl) ?_
  simp only [nz1, nz2, nz3]
  refine tk 8 49 (.bool false) rfl rfl (fun _ hw => run_mv rfl rfl) (hm17.at 0 rfl) ?_
  simp only [nz1, nz2, nz3]
  refine Sym.take_at 9 50 (.pointer (some ⟨g4, 1, none⟩)) rfl rfl (by kernel_rfl) (by kernel_rfl) (by kernel_rfl) (fun _ _ _ h => h) rfl (fun _ hw => r_fa48_1 g4 0 rfl rfl) (hm17.at 0 rfl) ?_
  simp only [nz1, nz2, nz3]
  refine Sym.take_at 10 51 (.int .i64 (x.mode)) rfl rfl (by kernel_rfl) (by kernel_rfl) (by kernel_rfl) (fun _ _ _ h => h) rfl (fun _ hw => r_load hw rfl Try.underlying3 rfl rfl rfl) (hm17.at 0 rfl) ?_
  simp only [nz1, nz2, nz3]
  refine tkb 11 52 (x.mode < ((0 : Nat) : Int)) rfl rfl rfl (fun _ hw => z_lss x.mode ((0 : Nat) : Int) rfl rfl rfl) (hm17.at 0 rfl) (fun hs23 => ?_) (fun hs23 => ?_)
  · simp only [nz1, nz2, nz3]
    refine tk 12 53 (.bool true) rfl rfl (fun _ hw => run_pickf rfl rfl rfl) (hm17.at 0 rfl) ?_
    simp only [nz1, nz2, nz3]
    refine tk 13 54 (.bool true) rfl rfl (fun _ hw => run_mv rfl rfl) (hm17.at 0 rfl) ?_
    simp only [nz1, nz2, nz3]
    refine skx 14 55 rfl rfl rfl (hm17.at 0 rfl) ?_
    simp only [nz1, nz2, nz3]
    refine skx 15 56 rfl rfl rfl (hm17.at 0 rfl) ?_
    simp only [nz1, nz2, nz3]
    refine skx 16 57 rfl rfl rfl (hm17.at 0 rfl) ?_
    simp only [nz1, nz2, nz3]
    refine tk 17 58 (.bool true) rfl rfl (fun _ hw => run_pick rfl rfl rfl) (hm17.at 0 rfl) ?_
    simp only [nz1, nz2, nz3]
    refine tk 18 59 (.bool true) rfl rfl (fun _ hw => run_mv rfl rfl) (hm17.at 0 rfl) ?_
    simp only [nz1, nz2, nz3]
    refine skx 19 60 rfl rfl rfl (hm17.at 0 rfl) ?_
    simp only [nz1, nz2, nz3]
    refine skx 20 61 rfl rfl rfl (hm17.at 0 rfl) ?_
    simp only [nz1, nz2, nz3]
    refine skx 21 62 rfl rfl rfl (hm17.at 0 rfl) ?_
    simp only [nz1, nz2, nz3]
    refine tk 22 63 (.bool true) rfl rfl (fun _ hw => run_pick rfl rfl rfl) (hm17.at 0 rfl) ?_
    simp only [nz1, nz2, nz3]
    refine tk 23 64 (.bool true) rfl rfl (fun _ hw => run_mv rfl rfl) (hm17.at 0 rfl) ?_
    simp only [nz1, nz2, nz3]
    refine skx 24 65 rfl rfl rfl (hm17.at 0 rfl) ?_
    simp only [nz1, nz2, nz3]
    refine skx 25 66 rfl rfl rfl (hm17.at 0 rfl) ?_
    simp only [nz1, nz2, nz3]
    refine skx 26 67 rfl rfl rfl (hm17.at 0 rfl) ?_
    simp only [nz1, nz2, nz3]
    refine tk 27 68 (.bool true) rfl rfl (fun _ hw => run_pick rfl rfl rfl) (hm17.at 0 rfl) ?_
    simp only [nz1, nz2, nz3]
    refine tk 28 69 (.bool true) rfl rfl (fun _ hw => run_mv rfl rfl) (hm17.at 0 rfl) ?_
    simp only [nz1, nz2, nz3]
    refine skx 29 70 rfl rfl rfl (hm17.at 0 rfl) ?_
    simp only [nz1, nz2, nz3]
    refine skx 30 71 rfl rfl rfl (hm17.at 0 rfl) ?_
    simp only [nz1, nz2, nz3]
    refine skx 31 72 rfl rfl rfl (hm17.at 0 rfl) ?_
    simp only [nz1, nz2, nz3]
    refine tk 32 73 (.bool true) rfl rfl (fun _ hw => run_pick rfl rfl rfl) (hm17.at 0 rfl) ?_
    simp only [nz1, nz2, nz3]
    refine tk 33 74 (.bool true) rfl rfl (fun _ hw => run_mv rfl rfl) (hm17.at 0 rfl) ?_
    simp only [nz1, nz2, nz3]
    refine skx 34 75 rfl rfl rfl (hm17.at 0 rfl) ?_
    simp only [nz1, nz2, nz3]
    refine skx 35 76 rfl rfl rfl (hm17.at 0 rfl) ?_
    simp only [nz1, nz2, nz3]
    refine skx 36 77 rfl rfl rfl (hm17.at 0 rfl) ?_
    simp only [nz1, nz2, nz3]
    refine tk 37 78 (.bool true) rfl rfl (fun _ hw => run_pick rfl rfl rfl) (hm17.at 0 rfl) ?_
    simp only [nz1, nz2, nz3]
    refine tk 38 79 (.bool true) rfl rfl (fun _ hw => run_mv rfl rfl) (hm17.at 0 rfl) ?_
    simp only [nz1, nz2, nz3]
    refine skx 39 80 rfl rfl rfl (hm17.at 0 rfl) ?_
    simp only [nz1, nz2, nz3]
    refine skx 40 81 rfl rfl rfl (hm17.at 0 rfl) ?_
    simp only [nz1, nz2, nz3]
    refine skx 41 82 rfl rfl rfl (hm17.at 0 rfl) ?_
    simp only [nz1, nz2, nz3]
    refine tk 42 83 (.bool true) rfl rfl (fun _ hw => run_pick rfl rfl rfl) (hm17.at 0 rfl) ?_
    simp only [nz1, nz2, nz3]
    refine tk 43 84 (.bool true) rfl rfl (fun _ hw => run_mv rfl rfl) (hm17.at 0 rfl) ?_
    simp only [nz1, nz2, nz3]
    refine skx 44 85 rfl rfl rfl (hm17.at 0 rfl) ?_
    simp only [nz1, nz2, nz3]
    refine skx 45 86 rfl rfl rfl (hm17.at 0 rfl) ?_
    simp only [nz1, nz2, nz3]
    refine skx 46 87 rfl rfl rfl (hm17.at 0 rfl) ?_
    simp only [nz1, nz2, nz3]
    refine tk 47 88 (.bool true) rfl rfl (fun _ hw => run_pick rfl rfl rfl) (hm17.at 0 rfl) ?_
    simp only [nz1, nz2, nz3]
    refine tk 48 89 (.bool true) rfl rfl (fun _ hw => run_mv rfl rfl) (hm17.at 0 rfl) ?_
    simp only [nz1, nz2, nz3]
    refine skx 49 90 rfl rfl rfl (hm17.at 0 rfl) ?_
    simp only [nz1, nz2, nz3]
    refine skx 50 91 rfl rfl rfl (hm17.at 0 rfl) ?_
    simp only [nz1, nz2, nz3]
    refine skx 51 92 rfl rfl rfl (hm17.at 0 rfl) ?_
    simp only [nz1, nz2, nz3]
    refine tk 52 93 (.bool true) rfl rfl (fun _ hw => run_pick rfl rfl rfl) (hm17.at 0 rfl) ?_
    simp only [nz1, nz2, nz3]
    refine tk 53 94 (.bool true) rfl rfl (fun _ hw => run_mv rfl rfl) (hm17.at 0 rfl) ?_
    simp only [nz1, nz2, nz3]
    refine skx 54 95 rfl rfl rfl (hm17.at 0 rfl) ?_
    simp only [nz1, nz2, nz3]
    refine skx 55 96 rfl rfl rfl (hm17.at 0 rfl) ?_
    simp only [nz1, nz2, nz3]
    refine skx 56 97 rfl rfl rfl (hm17.at 0 rfl) ?_
    simp only [nz1, nz2, nz3]
    refine tk 57 98 (.bool true) rfl rfl (fun _ hw => run_pick rfl rfl rfl) (hm17.at 0 rfl) ?_
    simp only [nz1, nz2, nz3]
    refine tk 58 99 (.bool true) rfl rfl (fun _ hw => run_mv rfl rfl) (hm17.at 0 rfl) ?_
    simp only [nz1, nz2, nz3]
    refine skx 59 100 rfl rfl rfl (hm17.at 0 rfl) ?_
    simp only [nz1, nz2, nz3]
    refine skx 60 101 rfl rfl rfl (hm17.at 0 rfl) ?_
    simp only [nz1, nz2, nz3]
    refine skx 61 102 rfl rfl rfl (hm17.at 0 rfl) ?_
    simp only [nz1, nz2, nz3]
    refine tk 62 103 (.bool true) rfl rfl (fun _ hw => run_pick rfl rfl rfl) (hm17.at 0 rfl) ?_
    simp only [nz1, nz2, nz3]
    refine tk 63 104 (.bool true) rfl rfl (fun _ hw => run_mv rfl rfl) (hm17.at 0 rfl) ?_
    simp only [nz1, nz2, nz3]
    refine skx 64 105 rfl rfl rfl (hm17.at 0 rfl) ?_
    simp only [nz1, nz2, nz3]
    refine skx 65 106 rfl rfl rfl (hm17.at 0 rfl) ?_
    simp only [nz1, nz2, nz3]
    refine skx 66 107 rfl rfl rfl (hm17.at 0 rfl) ?_
    simp only [nz1, nz2, nz3]
    refine skx 67 108 rfl rfl rfl (hm17.at 0 rfl) ?_
    simp only [nz1, nz2, nz3]
    refine skx 68 109 rfl rfl rfl (hm17.at 0 rfl) ?_
    simp only [nz1, nz2, nz3]
    refine skx 69 110 rfl rfl rfl (hm17.at 0 rfl) ?_
    simp only [nz1, nz2, nz3]
    refine skx 70 111 rfl rfl rfl (hm17.at 0 rfl) ?_
    simp only [nz1, nz2, nz3]
    refine tk 71 112 (.bool true) rfl rfl (fun _ hw => run_pick rfl rfl rfl) (hm17.at 0 rfl) ?_
    simp only [nz1, nz2, nz3]
    refine wpAnyH_done (by kernel_rfl) ?_ _
    refine then_n (hK16 _ _ ?_)
    refine cond_t rfl ?_
    refine wp_seq_k (fun K24 hK24 => ?_)
    refine wp_region_lit ?_
    refine lv 2 (.bool false) rfl rfl (run_as rfl rfl) ?_
    simp only [nz1, nz2, nz3]
    refine wpList_nil ?_
    refine then_n (hK24 _ _ ?_)
    refine wp_ret ?_
    refine then_r ?_
    exact ⟨rfl, .bool false, res_t rfl rfl, ⟨by rw [show decide (CheckP x) = false from decide_eq_false (by unfold CheckP; rintro (⟨_, h⟩ | ⟨_, h, _⟩) <;> simp only [FreeP, RangeP] at h <;> omega)], hm17.below⟩⟩
  simp only [nz1, nz2, nz3]
  refine tk 12 53 (.bool false) rfl rfl (fun _ hw => run_pickf rfl rfl rfl) (hm17.at 0 rfl) ?_
  simp only [nz1, nz2, nz3]
  refine tk 13 54 (.bool false) rfl rfl (fun _ hw => run_mv rfl rfl) (hm17.at 0 rfl) ?_
  simp only [nz1, nz2, nz3]
  refine Sym.take_at 14 55 (.pointer (some ⟨g4, 1, none⟩)) rfl rfl (by kernel_rfl) (by kernel_rfl) (by kernel_rfl) (fun _ _ _ h => h) rfl (fun _ hw => r_fa48_1 g4 0 rfl rfl) (hm17.at 0 rfl) ?_
  simp only [nz1, nz2, nz3]
  refine Sym.take_at 15 56 (.int .i64 (x.mode)) rfl rfl (by kernel_rfl) (by kernel_rfl) (by kernel_rfl) (fun _ _ _ h => h) rfl (fun _ hw => r_load hw rfl Try.underlying3 rfl rfl rfl) (hm17.at 0 rfl) ?_
  simp only [nz1, nz2, nz3]
  refine tkb 16 57 (((4095 : Nat) : Int) < x.mode) rfl rfl rfl (fun _ hw => z_gtr x.mode ((4095 : Nat) : Int) rfl rfl rfl) (hm17.at 0 rfl) (fun hs25 => ?_) (fun hs25 => ?_)
  · simp only [nz1, nz2, nz3]
    refine tk 17 58 (.bool true) rfl rfl (fun _ hw => run_pickf rfl rfl rfl) (hm17.at 0 rfl) ?_
    simp only [nz1, nz2, nz3]
    refine tk 18 59 (.bool true) rfl rfl (fun _ hw => run_mv rfl rfl) (hm17.at 0 rfl) ?_
    simp only [nz1, nz2, nz3]
    refine skx 19 60 rfl rfl rfl (hm17.at 0 rfl) ?_
    simp only [nz1, nz2, nz3]
    refine skx 20 61 rfl rfl rfl (hm17.at 0 rfl) ?_
    simp only [nz1, nz2, nz3]
    refine skx 21 62 rfl rfl rfl (hm17.at 0 rfl) ?_
    simp only [nz1, nz2, nz3]
    refine tk 22 63 (.bool true) rfl rfl (fun _ hw => run_pick rfl rfl rfl) (hm17.at 0 rfl) ?_
    simp only [nz1, nz2, nz3]
    refine tk 23 64 (.bool true) rfl rfl (fun _ hw => run_mv rfl rfl) (hm17.at 0 rfl) ?_
    simp only [nz1, nz2, nz3]
    refine skx 24 65 rfl rfl rfl (hm17.at 0 rfl) ?_
    simp only [nz1, nz2, nz3]
    refine skx 25 66 rfl rfl rfl (hm17.at 0 rfl) ?_
    simp only [nz1, nz2, nz3]
    refine skx 26 67 rfl rfl rfl (hm17.at 0 rfl) ?_
    simp only [nz1, nz2, nz3]
    refine tk 27 68 (.bool true) rfl rfl (fun _ hw => run_pick rfl rfl rfl) (hm17.at 0 rfl) ?_
    simp only [nz1, nz2, nz3]
    refine tk 28 69 (.bool true) rfl rfl (fun _ hw => run_mv rfl rfl) (hm17.at 0 rfl) ?_
    simp only [nz1, nz2, nz3]
    refine skx 29 70 rfl rfl rfl (hm17.at 0 rfl) ?_
    simp only [nz1, nz2, nz3]
    refine skx 30 71 rfl rfl rfl (hm17.at 0 rfl) ?_
    simp only [nz1, nz2, nz3]
    refine skx 31 72 rfl rfl rfl (hm17.at 0 rfl) ?_
    simp only [nz1, nz2, nz3]
    refine tk 32 73 (.bool true) rfl rfl (fun _ hw => run_pick rfl rfl rfl) (hm17.at 0 rfl) ?_
    simp only [nz1, nz2, nz3]
    refine tk 33 74 (.bool true) rfl rfl (fun _ hw => run_mv rfl rfl) (hm17.at 0 rfl) ?_
    simp only [nz1, nz2, nz3]
    refine skx 34 75 rfl rfl rfl (hm17.at 0 rfl) ?_
    simp only [nz1, nz2, nz3]
    refine skx 35 76 rfl rfl rfl (hm17.at 0 rfl) ?_
    simp only [nz1, nz2, nz3]
    refine skx 36 77 rfl rfl rfl (hm17.at 0 rfl) ?_
    simp only [nz1, nz2, nz3]
    refine tk 37 78 (.bool true) rfl rfl (fun _ hw => run_pick rfl rfl rfl) (hm17.at 0 rfl) ?_
    simp only [nz1, nz2, nz3]
    refine tk 38 79 (.bool true) rfl rfl (fun _ hw => run_mv rfl rfl) (hm17.at 0 rfl) ?_
    simp only [nz1, nz2, nz3]
    refine skx 39 80 rfl rfl rfl (hm17.at 0 rfl) ?_
    simp only [nz1, nz2, nz3]
    refine skx 40 81 rfl rfl rfl (hm17.at 0 rfl) ?_
    simp only [nz1, nz2, nz3]
    refine skx 41 82 rfl rfl rfl (hm17.at 0 rfl) ?_
    simp only [nz1, nz2, nz3]
    refine tk 42 83 (.bool true) rfl rfl (fun _ hw => run_pick rfl rfl rfl) (hm17.at 0 rfl) ?_
    simp only [nz1, nz2, nz3]
    refine tk 43 84 (.bool true) rfl rfl (fun _ hw => run_mv rfl rfl) (hm17.at 0 rfl) ?_
    simp only [nz1, nz2, nz3]
    refine skx 44 85 rfl rfl rfl (hm17.at 0 rfl) ?_
    simp only [nz1, nz2, nz3]
    refine skx 45 86 rfl rfl rfl (hm17.at 0 rfl) ?_
    simp only [nz1, nz2, nz3]
    refine skx 46 87 rfl rfl rfl (hm17.at 0 rfl) ?_
    simp only [nz1, nz2, nz3]
    refine tk 47 88 (.bool true) rfl rfl (fun _ hw => run_pick rfl rfl rfl) (hm17.at 0 rfl) ?_
    simp only [nz1, nz2, nz3]
    refine tk 48 89 (.bool true) rfl rfl (fun _ hw => run_mv rfl rfl) (hm17.at 0 rfl) ?_
    simp only [nz1, nz2, nz3]
    refine skx 49 90 rfl rfl rfl (hm17.at 0 rfl) ?_
    simp only [nz1, nz2, nz3]
    refine skx 50 91 rfl rfl rfl (hm17.at 0 rfl) ?_
    simp only [nz1, nz2, nz3]
    refine skx 51 92 rfl rfl rfl (hm17.at 0 rfl) ?_
    simp only [nz1, nz2, nz3]
    refine tk 52 93 (.bool true) rfl rfl (fun _ hw => run_pick rfl rfl rfl) (hm17.at 0 rfl) ?_
    simp only [nz1, nz2, nz3]
    refine tk 53 94 (.bool true) rfl rfl (fun _ hw => run_mv rfl rfl) (hm17.at 0 rfl) ?_
    simp only [nz1, nz2, nz3]
    refine skx 54 95 rfl rfl rfl (hm17.at 0 rfl) ?_
    simp only [nz1, nz2, nz3]
    refine skx 55 96 rfl rfl rfl (hm17.at 0 rfl) ?_
    simp only [nz1, nz2, nz3]
    refine skx 56 97 rfl rfl rfl (hm17.at 0 rfl) ?_
    simp only [nz1, nz2, nz3]
    refine tk 57 98 (.bool true) rfl rfl (fun _ hw => run_pick rfl rfl rfl) (hm17.at 0 rfl) ?_
    simp only [nz1, nz2, nz3]
    refine tk 58 99 (.bool true) rfl rfl (fun _ hw => run_mv rfl rfl) (hm17.at 0 rfl) ?_
    simp only [nz1, nz2, nz3]
    refine skx 59 100 rfl rfl rfl (hm17.at 0 rfl) ?_
    simp only [nz1, nz2, nz3]
    refine skx 60 101 rfl rfl rfl (hm17.at 0 rfl) ?_
    simp only [nz1, nz2, nz3]
    refine skx 61 102 rfl rfl rfl (hm17.at 0 rfl) ?_
    simp only [nz1, nz2, nz3]
    refine tk 62 103 (.bool true) rfl rfl (fun _ hw => run_pick rfl rfl rfl) (hm17.at 0 rfl) ?_
    simp only [nz1, nz2, nz3]
    refine tk 63 104 (.bool true) rfl rfl (fun _ hw => run_mv rfl rfl) (hm17.at 0 rfl) ?_
    simp only [nz1, nz2, nz3]
    refine skx 64 105 rfl rfl rfl (hm17.at 0 rfl) ?_
    simp only [nz1, nz2, nz3]
    refine skx 65 106 rfl rfl rfl (hm17.at 0 rfl) ?_
    simp only [nz1, nz2, nz3]
    refine skx 66 107 rfl rfl rfl (hm17.at 0 rfl) ?_
    simp only [nz1, nz2, nz3]
    refine skx 67 108 rfl rfl rfl (hm17.at 0 rfl) ?_
    simp only [nz1, nz2, nz3]
    refine skx 68 109 rfl rfl rfl (hm17.at 0 rfl) ?_
    simp only [nz1, nz2, nz3]
    refine skx 69 110 rfl rfl rfl (hm17.at 0 rfl) ?_
    simp only [nz1, nz2, nz3]
    refine skx 70 111 rfl rfl rfl (hm17.at 0 rfl) ?_
    simp only [nz1, nz2, nz3]
    refine tk 71 112 (.bool true) rfl rfl (fun _ hw => run_pick rfl rfl rfl) (hm17.at 0 rfl) ?_
    simp only [nz1, nz2, nz3]
    refine wpAnyH_done (by kernel_rfl) ?_ _
    refine then_n (hK16 _ _ ?_)
    refine cond_t rfl ?_
    refine wp_seq_k (fun K26 hK26 => ?_)
    refine wp_region_lit ?_
    refine lv 2 (.bool false) rfl rfl (run_as rfl rfl) ?_
    simp only [nz1, nz2, nz3]
    refine wpList_nil ?_
    refine then_n (hK26 _ _ ?_)
    refine wp_ret ?_
    refine then_r ?_
    exact ⟨rfl, .bool false, res_t rfl rfl, ⟨by rw [show decide (CheckP x) = false from decide_eq_false (by unfold CheckP; rintro (⟨_, h⟩ | ⟨_, h, _⟩) <;> simp only [FreeP, RangeP] at h <;> omega)], hm17.below⟩⟩
  simp only [nz1, nz2, nz3]
  refine tk 17 58 (.bool false) rfl rfl (fun _ hw => run_pickf rfl rfl rfl) (hm17.at 0 rfl) ?_
  simp only [nz1, nz2, nz3]
  refine tk 18 59 (.bool false) rfl rfl (fun _ hw => run_mv rfl rfl) (hm17.at 0 rfl) ?_
  simp only [nz1, nz2, nz3]
  refine Sym.take_at 19 60 (.pointer (some ⟨g4, 2, none⟩)) rfl rfl (by kernel_rfl) (by kernel_rfl) (by kernel_rfl) (fun _ _ _ h => h) rfl (fun _ hw => r_fa48_2 g4 0 rfl rfl) (hm17.at 0 rfl) ?_
  simp only [nz1, nz2, nz3]
  refine Sym.take_at 20 61 (.int .i64 (x.uid)) rfl rfl (by kernel_rfl) (by kernel_rfl) (by kernel_rfl) (fun _ _ _ h => h) rfl (fun _ hw => r_load hw rfl Try.underlying3 rfl rfl rfl) (hm17.at 0 rfl) ?_
  simp only [nz1, nz2, nz3]
  refine tkb 21 62 (x.uid < ((0 : Nat) : Int)) rfl rfl rfl (fun _ hw => z_lss x.uid ((0 : Nat) : Int) rfl rfl rfl) (hm17.at 0 rfl) (fun hs27 => ?_) (fun hs27 => ?_)
  · simp only [nz1, nz2, nz3]
    refine tk 22 63 (.bool true) rfl rfl (fun _ hw => run_pickf rfl rfl rfl) (hm17.at 0 rfl) ?_
    simp only [nz1, nz2, nz3]
    refine tk 23 64 (.bool true) rfl rfl (fun _ hw => run_mv rfl rfl) (hm17.at 0 rfl) ?_
    simp only [nz1, nz2, nz3]
    refine skx 24 65 rfl rfl rfl (hm17.at 0 rfl) ?_
    simp only [nz1, nz2, nz3]
    refine skx 25 66 rfl rfl rfl (hm17.at 0 rfl) ?_
    simp only [nz1, nz2, nz3]
    refine skx 26 67 rfl rfl rfl (hm17.at 0 rfl) ?_
    simp only [nz1, nz2, nz3]
    refine tk 27 68 (.bool true) rfl rfl (fun _ hw => run_pick rfl rfl rfl) (hm17.at 0 rfl) ?_
    simp only [nz1, nz2, nz3]
    refine tk 28 69 (.bool true) rfl rfl (fun _ hw => run_mv rfl rfl) (hm17.at 0 rfl) ?_
    simp only [nz1, nz2, nz3]
    refine skx 29 70 rfl rfl rfl (hm17.at 0 rfl) ?_
    simp only [nz1, nz2, nz3]
    refine skx 30 71 rfl rfl rfl (hm17.at 0 rfl) ?_
    simp only [nz1, nz2, nz3]
    refine skx 31 72 rfl rfl rfl (hm17.at 0 rfl) ?_
    simp only [nz1, nz2, nz3]
    refine tk 32 73 (.bool true) rfl rfl (fun _ hw => run_pick rfl rfl rfl) (hm17.at 0 rfl) ?_
    simp only [nz1, nz2, nz3]
    refine tk 33 74 (.bool true) rfl rfl (fun _ hw => run_mv rfl rfl) (hm17.at 0 rfl) ?_
    simp only [nz1, nz2, nz3]
    refine skx 34 75 rfl rfl rfl (hm17.at 0 rfl) ?_
    simp only [nz1, nz2, nz3]
    refine skx 35 76 rfl rfl rfl (hm17.at 0 rfl) ?_
    simp only [nz1, nz2, nz3]
    refine skx 36 77 rfl rfl rfl (hm17.at 0 rfl) ?_
    simp only [nz1, nz2, nz3]
    refine tk 37 78 (.bool true) rfl rfl (fun _ hw => run_pick rfl rfl rfl) (hm17.at 0 rfl) ?_
    simp only [nz1, nz2, nz3]
    refine tk 38 79 (.bool true) rfl rfl (fun _ hw => run_mv rfl rfl) (hm17.at 0 rfl) ?_
    simp only [nz1, nz2, nz3]
    refine skx 39 80 rfl rfl rfl (hm17.at 0 rfl) ?_
    simp only [nz1, nz2, nz3]
    refine skx 40 81 rfl rfl rfl (hm17.at 0 rfl) ?_
    simp only [nz1, nz2, nz3]
    refine skx 41 82 rfl rfl rfl (hm17.at 0 rfl) ?_
    simp only [nz1, nz2, nz3]
    refine tk 42 83 (.bool true) rfl rfl (fun _ hw => run_pick rfl rfl rfl) (hm17.at 0 rfl) ?_
    simp only [nz1, nz2, nz3]
    refine tk 43 84 (.bool true) rfl rfl (fun _ hw => run_mv rfl rfl) (hm17.at 0 rfl) ?_
    simp only [nz1, nz2, nz3]
    refine skx 44 85 rfl rfl rfl (hm17.at 0 rfl) ?_
    simp only [nz1, nz2, nz3]
    refine skx 45 86 rfl rfl rfl (hm17.at 0 rfl) ?_
    simp only [nz1, nz2, nz3]
    refine skx 46 87 rfl rfl rfl (hm17.at 0 rfl) ?_
    simp only [nz1, nz2, nz3]
    refine tk 47 88 (.bool true) rfl rfl (fun _ hw => run_pick rfl rfl rfl) (hm17.at 0 rfl) ?_
    simp only [nz1, nz2, nz3]
    refine tk 48 89 (.bool true) rfl rfl (fun _ hw => run_mv rfl rfl) (hm17.at 0 rfl) ?_
    simp only [nz1, nz2, nz3]
    refine skx 49 90 rfl rfl rfl (hm17.at 0 rfl) ?_
    simp only [nz1, nz2, nz3]
    refine skx 50 91 rfl rfl rfl (hm17.at 0 rfl) ?_
    simp only [nz1, nz2, nz3]
    refine skx 51 92 rfl rfl rfl (hm17.at 0 rfl) ?_
    simp only [nz1, nz2, nz3]
    refine tk 52 93 (.bool true) rfl rfl (fun _ hw => run_pick rfl rfl rfl) (hm17.at 0 rfl) ?_
    simp only [nz1, nz2, nz3]
    refine tk 53 94 (.bool true) rfl rfl (fun _ hw => run_mv rfl rfl) (hm17.at 0 rfl) ?_
    simp only [nz1, nz2, nz3]
    refine skx 54 95 rfl rfl rfl (hm17.at 0 rfl) ?_
    simp only [nz1, nz2, nz3]
    refine skx 55 96 rfl rfl rfl (hm17.at 0 rfl) ?_
    simp only [nz1, nz2, nz3]
    refine skx 56 97 rfl rfl rfl (hm17.at 0 rfl) ?_
    simp only [nz1, nz2, nz3]
    refine tk 57 98 (.bool true) rfl rfl (fun _ hw => run_pick rfl rfl rfl) (hm17.at 0 rfl) ?_
    simp only [nz1, nz2, nz3]
    refine tk 58 99 (.bool true) rfl rfl (fun _ hw => run_mv rfl rfl) (hm17.at 0 rfl) ?_
    simp only [nz1, nz2, nz3]
    refine skx 59 100 rfl rfl rfl (hm17.at 0 rfl) ?_
    simp only [nz1, nz2, nz3]
    refine skx 60 101 rfl rfl rfl (hm17.at 0 rfl) ?_
    simp only [nz1, nz2, nz3]
    refine skx 61 102 rfl rfl rfl (hm17.at 0 rfl) ?_
    simp only [nz1, nz2, nz3]
    refine tk 62 103 (.bool true) rfl rfl (fun _ hw => run_pick rfl rfl rfl) (hm17.at 0 rfl) ?_
    simp only [nz1, nz2, nz3]
    refine tk 63 104 (.bool true) rfl rfl (fun _ hw => run_mv rfl rfl) (hm17.at 0 rfl) ?_
    simp only [nz1, nz2, nz3]
    refine skx 64 105 rfl rfl rfl (hm17.at 0 rfl) ?_
    simp only [nz1, nz2, nz3]
    refine skx 65 106 rfl rfl rfl (hm17.at 0 rfl) ?_
    simp only [nz1, nz2, nz3]
    refine skx 66 107 rfl rfl rfl (hm17.at 0 rfl) ?_
    simp only [nz1, nz2, nz3]
    refine skx 67 108 rfl rfl rfl (hm17.at 0 rfl) ?_
    simp only [nz1, nz2, nz3]
    refine skx 68 109 rfl rfl rfl (hm17.at 0 rfl) ?_
    simp only [nz1, nz2, nz3]
    refine skx 69 110 rfl rfl rfl (hm17.at 0 rfl) ?_
    simp only [nz1, nz2, nz3]
    refine skx 70 111 rfl rfl rfl (hm17.at 0 rfl) ?_
    simp only [nz1, nz2, nz3]
    refine tk 71 112 (.bool true) rfl rfl (fun _ hw => run_pick rfl rfl rfl) (hm17.at 0 rfl) ?_
    simp only [nz1, nz2, nz3]
    refine wpAnyH_done (by kernel_rfl) ?_ _
    refine then_n (hK16 _ _ ?_)
    refine cond_t rfl ?_
    refine wp_seq_k (fun K28 hK28 => ?_)
    refine wp_region_lit ?_
    refine lv 2 (.bool false) rfl rfl (run_as rfl rfl) ?_
    simp only [nz1, nz2, nz3]
    refine wpList_nil ?_
    refine then_n (hK28 _ _ ?_)
    refine wp_ret ?_
    refine then_r ?_
    exact ⟨rfl, .bool false, res_t rfl rfl, ⟨by rw [show decide (CheckP x) = false from decide_eq_false (by unfold CheckP; rintro (⟨_, h⟩ | ⟨_, h, _⟩) <;> simp only [FreeP, RangeP] at h <;> omega)], hm17.below⟩⟩
  simp only [nz1, nz2, nz3]
  refine tk 22 63 (.bool false) rfl rfl (fun _ hw => run_pickf rfl rfl rfl) (hm17.at 0 rfl) ?_
  simp only [nz1, nz2, nz3]
  refine tk 23 64 (.bool false) rfl rfl (fun _ hw => run_mv rfl rfl) (hm17.at 0 rfl) ?_
  simp only [nz1, nz2, nz3]
  refine Sym.take_at 24 65 (.pointer (some ⟨g4, 2, none⟩)) rfl rfl (by kernel_rfl) (by kernel_rfl) (by kernel_rfl) (fun _ _ _ h => h) rfl (fun _ hw => r_fa48_2 g4 0 rfl rfl) (hm17.at 0 rfl) ?_
  simp only [nz1, nz2, nz3]
  refine Sym.take_at 25 66 (.int .i64 (x.uid)) rfl rfl (by kernel_rfl) (by kernel_rfl) (by kernel_rfl) (fun _ _ _ h => h) rfl (fun _ hw => r_load hw rfl Try.underlying3 rfl rfl rfl) (hm17.at 0 rfl) ?_
  simp only [nz1, nz2, nz3]
  refine tkb 26 67 (((4294967296 : Nat) : Int) ≤ x.uid) rfl rfl rfl (fun _ hw => z_geq x.uid ((4294967296 : Nat) : Int) rfl rfl rfl) (hm17.at 0 rfl) (fun hs29 => ?_) (fun hs29 => ?_)
  · simp only [nz1, nz2, nz3]
    refine tk 27 68 (.bool true) rfl rfl (fun _ hw => run_pickf rfl rfl rfl) (hm17.at 0 rfl) ?_
    simp only [nz1, nz2, nz3]
    refine tk 28 69 (.bool true) rfl rfl (fun _ hw => run_mv rfl rfl) (hm17.at 0 rfl) ?_
    simp only [nz1, nz2, nz3]
    refine skx 29 70 rfl rfl rfl (hm17.at 0 rfl) ?_
    simp only [nz1, nz2, nz3]
    refine skx 30 71 rfl rfl rfl (hm17.at 0 rfl) ?_
    simp only [nz1, nz2, nz3]
    refine skx 31 72 rfl rfl rfl (hm17.at 0 rfl) ?_
    simp only [nz1, nz2, nz3]
    refine tk 32 73 (.bool true) rfl rfl (fun _ hw => run_pick rfl rfl rfl) (hm17.at 0 rfl) ?_
    simp only [nz1, nz2, nz3]
    refine tk 33 74 (.bool true) rfl rfl (fun _ hw => run_mv rfl rfl) (hm17.at 0 rfl) ?_
    simp only [nz1, nz2, nz3]
    refine skx 34 75 rfl rfl rfl (hm17.at 0 rfl) ?_
    simp only [nz1, nz2, nz3]
    refine skx 35 76 rfl rfl rfl (hm17.at 0 rfl) ?_
    simp only [nz1, nz2, nz3]
    refine skx 36 77 rfl rfl rfl (hm17.at 0 rfl) ?_
    simp only [nz1, nz2, nz3]
    refine tk 37 78 (.bool true) rfl rfl (fun _ hw => run_pick rfl rfl rfl) (hm17.at 0 rfl) ?_
    simp only [nz1, nz2, nz3]
    refine tk 38 79 (.bool true) rfl rfl (fun _ hw => run_mv rfl rfl) (hm17.at 0 rfl) ?_
    simp only [nz1, nz2, nz3]
    refine skx 39 80 rfl rfl rfl (hm17.at 0 rfl) ?_
    simp only [nz1, nz2, nz3]
    refine skx 40 81 rfl rfl rfl (hm17.at 0 rfl) ?_
    simp only [nz1, nz2, nz3]
    refine skx 41 82 rfl rfl rfl (hm17.at 0 rfl) ?_
    simp only [nz1, nz2, nz3]
    refine tk 42 83 (.bool true) rfl rfl (fun _ hw => run_pick rfl rfl rfl) (hm17.at 0 rfl) ?_
    simp only [nz1, nz2, nz3]
    refine tk 43 84 (.bool true) rfl rfl (fun _ hw => run_mv rfl rfl) (hm17.at 0 rfl) ?_
    simp only [nz1, nz2, nz3]
    refine skx 44 85 rfl rfl rfl (hm17.at 0 rfl) ?_
    simp only [nz1, nz2, nz3]
    refine skx 45 86 rfl rfl rfl (hm17.at 0 rfl) ?_
    simp only [nz1, nz2, nz3]
    refine skx 46 87 rfl rfl rfl (hm17.at 0 rfl) ?_
    simp only [nz1, nz2, nz3]
    refine tk 47 88 (.bool true) rfl rfl (fun _ hw => run_pick rfl rfl rfl) (hm17.at 0 rfl) ?_
    simp only [nz1, nz2, nz3]
    refine tk 48 89 (.bool true) rfl rfl (fun _ hw => run_mv rfl rfl) (hm17.at 0 rfl) ?_
    simp only [nz1, nz2, nz3]
    refine skx 49 90 rfl rfl rfl (hm17.at 0 rfl) ?_
    simp only [nz1, nz2, nz3]
    refine skx 50 91 rfl rfl rfl (hm17.at 0 rfl) ?_
    simp only [nz1, nz2, nz3]
    refine skx 51 92 rfl rfl rfl (hm17.at 0 rfl) ?_
    simp only [nz1, nz2, nz3]
    refine tk 52 93 (.bool true) rfl rfl (fun _ hw => run_pick rfl rfl rfl) (hm17.at 0 rfl) ?_
    simp only [nz1, nz2, nz3]
    refine tk 53 94 (.bool true) rfl rfl (fun _ hw => run_mv rfl rfl) (hm17.at 0 rfl) ?_
    simp only [nz1, nz2, nz3]
    refine skx 54 95 rfl rfl rfl (hm17.at 0 rfl) ?_
    simp only [nz1, nz2, nz3]
    refine skx 55 96 rfl rfl rfl (hm17.at 0 rfl) ?_
    simp only [nz1, nz2, nz3]
    refine skx 56 97 rfl rfl rfl (hm17.at 0 rfl) ?_
    simp only [nz1, nz2, nz3]
    refine tk 57 98 (.bool true) rfl rfl (fun _ hw => run_pick rfl rfl rfl) (hm17.at 0 rfl) ?_
    simp only [nz1, nz2, nz3]
    refine tk 58 99 (.bool true) rfl rfl (fun _ hw => run_mv rfl rfl) (hm17.at 0 rfl) ?_
    simp only [nz1, nz2, nz3]
    refine skx 59 100 rfl rfl rfl (hm17.at 0 rfl) ?_
    simp only [nz1, nz2, nz3]
    refine skx 60 101 rfl rfl rfl (hm17.at 0 rfl) ?_
    simp only [nz1, nz2, nz3]
    refine skx 61 102 rfl rfl rfl (hm17.at 0 rfl) ?_
    simp only [nz1, nz2, nz3]
    refine tk 62 103 (.bool true) rfl rfl (fun _ hw => run_pick rfl rfl rfl) (hm17.at 0 rfl) ?_
    simp only [nz1, nz2, nz3]
    refine tk 63 104 (.bool true) rfl rfl (fun _ hw => run_mv rfl rfl) (hm17.at 0 rfl) ?_
    simp only [nz1, nz2, nz3]
    refine skx 64 105 rfl rfl rfl (hm17.at 0 rfl) ?_
    simp only [nz1, nz2, nz3]
    refine skx 65 106 rfl rfl rfl (hm17.at 0 rfl) ?_
    simp only [nz1, nz2, nz3]
    refine skx 66 107 rfl rfl rfl (hm17.at 0 rfl) ?_
    simp only [nz1, nz2, nz3]
    refine skx 67 108 rfl rfl rfl (hm17.at 0 rfl) ?_
    simp only [nz1, nz2, nz3]
    refine skx 68 109 rfl rfl rfl (hm17.at 0 rfl) ?_
    simp only [nz1, nz2, nz3]
    refine skx 69 110 rfl rfl rfl (hm17.at 0 rfl) ?_
    simp only [nz1, nz2, nz3]
    refine skx 70 111 rfl rfl rfl (hm17.at 0 rfl) ?_
    simp only [nz1, nz2, nz3]
    refine tk 71 112 (.bool true) rfl rfl (fun _ hw => run_pick rfl rfl rfl) (hm17.at 0 rfl) ?_
    simp only [nz1, nz2, nz3]
    refine wpAnyH_done (by kernel_rfl) ?_ _
    refine then_n (hK16 _ _ ?_)
    refine cond_t rfl ?_
    refine wp_seq_k (fun K30 hK30 => ?_)
    refine wp_region_lit ?_
    refine lv 2 (.bool false) rfl rfl (run_as rfl rfl) ?_
    simp only [nz1, nz2, nz3]
    refine wpList_nil ?_
    refine then_n (hK30 _ _ ?_)
    refine wp_ret ?_
    refine then_r ?_
    exact ⟨rfl, .bool false, res_t rfl rfl, ⟨by rw [show decide (CheckP x) = false from decide_eq_false (by unfold CheckP; rintro (⟨_, h⟩ | ⟨_, h, _⟩) <;> simp only [FreeP, RangeP] at h <;> omega)], hm17.below⟩⟩
  simp only [nz1, nz2, nz3]
  refine tk 27 68 (.bool false) rfl rfl (fun _ hw => run_pickf rfl rfl rfl) (hm17.at 0 rfl) ?_
  simp only [nz1, nz2, nz3]
  refine tk 28 69 (.bool false) rfl rfl (fun _ hw => run_mv rfl rfl) (hm17.at 0 rfl) ?_
  simp only [nz1, nz2, nz3]
  refine Sym.take_at 29 70 (.pointer (some ⟨g4, 3, none⟩)) rfl rfl (by kernel_rfl) (by kernel_rfl) (by kernel_rfl) (fun _ _ _ h => h) rfl (fun _ hw => r_fa48_3 g4 0 rfl rfl) (hm17.at 0 rfl) ?_
  simp only [nz1, nz2, nz3]
  refine Sym.take_at 30 71 (.int .i64 (x.gid)) rfl rfl (by kernel_rfl) (by kernel_rfl) (by kernel_rfl) (fun _ _ _ h => h) rfl (fun _ hw => r_load hw rfl Try.underlying3 rfl rfl rfl) (hm17.at 0 rfl) ?_
  simp only [nz1, nz2, nz3]
  refine tkb 31 72 (x.gid < ((0 : Nat) : Int)) rfl rfl rfl (fun _ hw => z_lss x.gid ((0 : Nat) : Int) rfl rfl rfl) (hm17.at 0 rfl) (fun hs31 => ?_) (fun hs31 => ?_)
  · simp only [nz1, nz2, nz3]
    refine tk 32 73 (.bool true) rfl rfl (fun _ hw => run_pickf rfl rfl rfl) (hm17.at 0 rfl) ?_
    simp only [nz1, nz2, nz3]
    refine tk 33 74 (.bool true) rfl rfl (fun _ hw => run_mv rfl rfl) (hm17.at 0 rfl) ?_
    simp only [nz1, nz2, nz3]
    refine skx 34 75 rfl rfl rfl (hm17.at 0 rfl) ?_
    simp only [nz1, nz2, nz3]
    refine skx 35 76 rfl rfl rfl (hm17.at 0 rfl) ?_
    simp only [nz1, nz2, nz3]
    refine skx 36 77 rfl rfl rfl (hm17.at 0 rfl) ?_
    simp only [nz1, nz2, nz3]
    refine tk 37 78 (.bool true) rfl rfl (fun _ hw => run_pick rfl rfl rfl) (hm17.at 0 rfl) ?_
    simp only [nz1, nz2, nz3]
    refine tk 38 79 (.bool true) rfl rfl (fun _ hw => run_mv rfl rfl) (hm17.at 0 rfl) ?_
    simp only [nz1, nz2, nz3]
    refine skx 39 80 rfl rfl rfl (hm17.at 0 rfl) ?_
    simp only [nz1, nz2, nz3]
    refine skx 40 81 rfl rfl rfl (hm17.at 0 rfl) ?_
    simp only [nz1, nz2, nz3]
    refine skx 41 82 rfl rfl rfl (hm17.at 0 rfl) ?_
    simp only [nz1, nz2, nz3]
    refine tk 42 83 (.bool true) rfl rfl (fun _ hw => run_pick rfl rfl rfl) (hm17.at 0 rfl) ?_
    simp only [nz1, nz2, nz3]
    refine tk 43 84 (.bool true) rfl rfl (fun _ hw => run_mv rfl rfl) (hm17.at 0 rfl) ?_
    simp only [nz1, nz2, nz3]
    refine skx 44 85 rfl rfl rfl (hm17.at 0 rfl) ?_
    simp only [nz1, nz2, nz3]
    refine skx 45 86 rfl rfl rfl (hm17.at 0 rfl) ?_
    simp only [nz1, nz2, nz3]
    refine skx 46 87 rfl rfl rfl (hm17.at 0 rfl) ?_
    simp only [nz1, nz2, nz3]
    refine tk 47 88 (.bool true) rfl rfl (fun _ hw => run_pick rfl rfl rfl) (hm17.at 0 rfl) ?_
    simp only [nz1, nz2, nz3]
    refine tk 48 89 (.bool true) rfl rfl (fun _ hw => run_mv rfl rfl) (hm17.at 0 rfl) ?_
    simp only [nz1, nz2, nz3]
    refine skx 49 90 rfl rfl rfl (hm17.at 0 rfl) ?_
    simp only [nz1, nz2, nz3]
    refine skx 50 91 rfl rfl rfl (hm17.at 0 rfl) ?_
    simp only [nz1, nz2, nz3]
    refine skx 51 92 rfl rfl rfl (hm17.at 0 rfl) ?_
    simp only [nz1, nz2, nz3]
    refine tk 52 93 (.bool true) rfl rfl (fun _ hw => run_pick rfl rfl rfl) (hm17.at 0 rfl) ?_
    simp only [nz1, nz2, nz3]
    refine tk 53 94 (.bool true) rfl rfl (fun _ hw => run_mv rfl rfl) (hm17.at 0 rfl) ?_
    simp only [nz1, nz2, nz3]
    refine skx 54 95 rfl rfl rfl (hm17.at 0 rfl) ?_
    simp only [nz1, nz2, nz3]
    refine skx 55 96 rfl rfl rfl (hm17.at 0 rfl) ?_
    simp only [nz1, nz2, nz3]
    refine skx 56 97 rfl rfl rfl (hm17.at 0 rfl) ?_
    simp only [nz1, nz2, nz3]
    refine tk 57 98 (.bool true) rfl rfl (fun _ hw => run_pick rfl rfl rfl) (hm17.at 0 rfl) ?_
    simp only [nz1, nz2, nz3]
    refine tk 58 99 (.bool true) rfl rfl (fun _ hw => run_mv rfl rfl) (hm17.at 0 rfl) ?_
    simp only [nz1, nz2, nz3]
    refine skx 59 100 rfl rfl rfl (hm17.at 0 rfl) ?_
    simp only [nz1, nz2, nz3]
    refine skx 60 101 rfl rfl rfl (hm17.at 0 rfl) ?_
    simp only [nz1, nz2, nz3]
    refine skx 61 102 rfl rfl rfl (hm17.at 0 rfl) ?_
    simp only [nz1, nz2, nz3]
    refine tk 62 103 (.bool true) rfl rfl (fun _ hw => run_pick rfl rfl rfl) (hm17.at 0 rfl) ?_
    simp only [nz1, nz2, nz3]
    refine tk 63 104 (.bool true) rfl rfl (fun _ hw => run_mv rfl rfl) (hm17.at 0 rfl) ?_
    simp only [nz1, nz2, nz3]
    refine skx 64 105 rfl rfl rfl (hm17.at 0 rfl) ?_
    simp only [nz1, nz2, nz3]
    refine skx 65 106 rfl rfl rfl (hm17.at 0 rfl) ?_
    simp only [nz1, nz2, nz3]
    refine skx 66 107 rfl rfl rfl (hm17.at 0 rfl) ?_
    simp only [nz1, nz2, nz3]
    refine skx 67 108 rfl rfl rfl (hm17.at 0 rfl) ?_
    simp only [nz1, nz2, nz3]
    refine skx 68 109 rfl rfl rfl (hm17.at 0 rfl) ?_
    simp only [nz1, nz2, nz3]
    refine skx 69 110 rfl rfl rfl (hm17.at 0 rfl) ?_
    simp only [nz1, nz2, nz3]
    refine skx 70 111 rfl rfl rfl (hm17.at 0 rfl) ?_
    simp only [nz1, nz2, nz3]
    refine tk 71 112 (.bool true) rfl rfl (fun _ hw => run_pick rfl rfl rfl) (hm17.at 0 rfl) ?_
    simp only [nz1, nz2, nz3]
    refine wpAnyH_done (by kernel_rfl) ?_ _
    refine then_n (hK16 _ _ ?_)
    refine cond_t rfl ?_
    refine wp_seq_k (fun K32 hK32 => ?_)
    refine wp_region_lit ?_
    refine lv 2 (.bool false) rfl rfl (run_as rfl rfl) ?_
    simp only [nz1, nz2, nz3]
    refine wpList_nil ?_
    refine then_n (hK32 _ _ ?_)
    refine wp_ret ?_
    refine then_r ?_
    exact ⟨rfl, .bool false, res_t rfl rfl, ⟨by rw [show decide (CheckP x) = false from decide_eq_false (by unfold CheckP; rintro (⟨_, h⟩ | ⟨_, h, _⟩) <;> simp only [FreeP, RangeP] at h <;> omega)], hm17.below⟩⟩
  simp only [nz1, nz2, nz3]
  refine tk 32 73 (.bool false) rfl rfl (fun _ hw => run_pickf rfl rfl rfl) (hm17.at 0 rfl) ?_
  simp only [nz1, nz2, nz3]
  refine tk 33 74 (.bool false) rfl rfl (fun _ hw => run_mv rfl rfl) (hm17.at 0 rfl) ?_
  simp only [nz1, nz2, nz3]
  refine Sym.take_at 34 75 (.pointer (some ⟨g4, 3, none⟩)) rfl rfl (by kernel_rfl) (by kernel_rfl) (by kernel_rfl) (fun _ _ _ h => h) rfl (fun _ hw => r_fa48_3 g4 0 rfl rfl) (hm17.at 0 rfl) ?_
  simp only [nz1, nz2, nz3]
  refine Sym.take_at 35 76 (.int .i64 (x.gid)) rfl rfl (by kernel_rfl) (by kernel_rfl) (by kernel_rfl) (fun _ _ _ h => h) rfl (fun _ hw => r_load hw rfl Try.underlying3 rfl rfl rfl) (hm17.at 0 rfl) ?_
  simp only [nz1, nz2, nz3]
  refine tkb 36 77 (((4294967296 : Nat) : Int) ≤ x.gid) rfl rfl rfl (fun _ hw => z_geq x.gid ((4294967296 : Nat) : Int) rfl rfl rfl) (hm17.at 0 rfl) (fun hs33 => ?_) (fun hs33 => ?_)
  · simp only [nz1, nz2, nz3]
    refine tk 37 78 (.bool true) rfl rfl (fun _ hw => run_pickf rfl rfl rfl) (hm17.at 0 rfl) ?_
    simp only [nz1, nz2, nz3]
    refine tk 38 79 (.bool true) rfl rfl (fun _ hw => run_mv rfl rfl) (hm17.at 0 rfl) ?_
    simp only [nz1, nz2, nz3]
    refine skx 39 80 rfl rfl rfl (hm17.at 0 rfl) ?_
    simp only [nz1, nz2, nz3]
    refine skx 40 81 rfl rfl rfl (hm17.at 0 rfl) ?_
    simp only [nz1, nz2, nz3]
    refine skx 41 82 rfl rfl rfl (hm17.at 0 rfl) ?_
    simp only [nz1, nz2, nz3]
    refine tk 42 83 (.bool true) rfl rfl (fun _ hw => run_pick rfl rfl rfl) (hm17.at 0 rfl) ?_
    simp only [nz1, nz2, nz3]
    refine tk 43 84 (.bool true) rfl rfl (fun _ hw => run_mv rfl rfl) (hm17.at 0 rfl) ?_
    simp only [nz1, nz2, nz3]
    refine skx 44 85 rfl rfl rfl (hm17.at 0 rfl) ?_
    simp only [nz1, nz2, nz3]
    refine skx 45 86 rfl rfl rfl (hm17.at 0 rfl) ?_
    simp only [nz1, nz2, nz3]
    refine skx 46 87 rfl rfl rfl (hm17.at 0 rfl) ?_
    simp only [nz1, nz2, nz3]
    refine tk 47 88 (.bool true) rfl rfl (fun _ hw => run_pick rfl rfl rfl) (hm17.at 0 rfl) ?_
    simp only [nz1, nz2, nz3]
    refine tk 48 89 (.bool true) rfl rfl (fun _ hw => run_mv rfl rfl) (hm17.at 0 rfl) ?_
    simp only [nz1, nz2, nz3]
    refine skx 49 90 rfl rfl rfl (hm17.at 0 rfl) ?_
    simp only [nz1, nz2, nz3]
    refine skx 50 91 rfl rfl rfl (hm17.at 0 rfl) ?_
    simp only [nz1, nz2, nz3]
    refine skx 51 92 rfl rfl rfl (hm17.at 0 rfl) ?_
    simp only [nz1, nz2, nz3]
    refine tk 52 93 (.bool true) rfl rfl (fun _ hw => run_pick rfl rfl rfl) (hm17.at 0 rfl) ?_
    simp only [nz1, nz2, nz3]
    refine tk 53 94 (.bool true) rfl rfl (fun _ hw => run_mv rfl rfl) (hm17.at 0 rfl) ?_
    simp only [nz1, nz2, nz3]
    refine skx 54 95 rfl rfl rfl (hm17.at 0 rfl) ?_
    simp only [nz1, nz2, nz3]
    refine skx 55 96 rfl rfl rfl (hm17.at 0 rfl) ?_
    simp only [nz1, nz2, nz3]
    refine skx 56 97 rfl rfl rfl (hm17.at 0 rfl) ?_
    simp only [nz1, nz2, nz3]
    refine tk 57 98 (.bool true) rfl rfl (fun _ hw => run_pick rfl rfl rfl) (hm17.at 0 rfl) ?_
    simp only [nz1, nz2, nz3]
    refine tk 58 99 (.bool true) rfl rfl (fun _ hw => run_mv rfl rfl) (hm17.at 0 rfl) ?_
    simp only [nz1, nz2, nz3]
    refine skx 59 100 rfl rfl rfl (hm17.at 0 rfl) ?_
    simp only [nz1, nz2, nz3]
    refine skx 60 101 rfl rfl rfl (hm17.at 0 rfl) ?_
    simp only [nz1, nz2, nz3]
    refine skx 61 102 rfl rfl rfl (hm17.at 0 rfl) ?_
    simp only [nz1, nz2, nz3]
    refine tk 62 103 (.bool true) rfl rfl (fun _ hw => run_pick rfl rfl rfl) (hm17.at 0 rfl) ?_
    simp only [nz1, nz2, nz3]
    refine tk 63 104 (.bool true) rfl rfl (fun _ hw => run_mv rfl rfl) (hm17.at 0 rfl) ?_
    simp only [nz1, nz2, nz3]
    refine skx 64 105 rfl rfl rfl (hm17.at 0 rfl) ?_
    simp only [nz1, nz2, nz3]
    refine skx 65 106 rfl rfl rfl (hm17.at 0 rfl) ?_
    simp only [nz1, nz2, nz3]
    refine skx 66 107 rfl rfl rfl (hm17.at 0 rfl) ?_
    simp only [nz1, nz2, nz3]
    refine skx 67 108 rfl rfl rfl (hm17.at 0 rfl) ?_
    simp only [nz1, nz2, nz3]
    refine skx 68 109 rfl rfl rfl (hm17.at 0 rfl) ?_
    simp only [nz1, nz2, nz3]
    refine skx 69 110 rfl rfl rfl (hm17.at 0 rfl) ?_
    simp only [nz1, nz2, nz3]
    refine skx 70 111 rfl rfl rfl (hm17.at 0 rfl) ?_
    simp only [nz1, nz2, nz3]
    refine tk 71 112 (.bool true) rfl rfl (fun _ hw => run_pick rfl rfl rfl) (hm17.at 0 rfl) ?_
    simp only [nz1, nz2, nz3]
    refine wpAnyH_done (by kernel_rfl) ?_ _
    refine then_n (hK16 _ _ ?_)
    refine cond_t rfl ?_
    refine wp_seq_k (fun K34 hK34 => ?_)
    refine wp_region_lit ?_
    refine lv 2 (.bool false) rfl rfl (run_as rfl rfl) ?_
    simp only [nz1, nz2, nz3]
    refine wpList_nil ?_
    refine then_n (hK34 _ _ ?_)
    refine wp_ret ?_
    refine then_r ?_
    exact ⟨rfl, .bool false, res_t rfl rfl, ⟨by rw [show decide (CheckP x) = false from decide_eq_false (by unfold CheckP; rintro (⟨_, h⟩ | ⟨_, h, _⟩) <;> simp only [FreeP, RangeP] at h <;> omega)], hm17.below⟩⟩
  simp only [nz1, nz2, nz3]
  refine tk 37 78 (.bool false) rfl rfl (fun _ hw => run_pickf rfl rfl rfl) (hm17.at 0 rfl) ?_
  simp only [nz1, nz2, nz3]
  refine tk 38 79 (.bool false) rfl rfl (fun _ hw => run_mv rfl rfl) (hm17.at 0 rfl) ?_
  simp only [nz1, nz2, nz3]
  refine Sym.take_at 39 80 (.pointer (some ⟨g4, 4, none⟩)) rfl rfl (by kernel_rfl) (by kernel_rfl) (by kernel_rfl) (fun _ _ _ h => h) rfl (fun _ hw => r_fa48_4 g4 0 rfl rfl) (hm17.at 0 rfl) ?_
  simp only [nz1, nz2, nz3]
  refine Sym.take_at 40 81 (.int .i64 (x.time)) rfl rfl (by kernel_rfl) (by kernel_rfl) (by kernel_rfl) (fun _ _ _ h => h) rfl (fun _ hw => r_load hw rfl Try.underlying3 rfl rfl rfl) (hm17.at 0 rfl) ?_
  simp only [nz1, nz2, nz3]
  refine tkb 41 82 (x.time < ((0 : Nat) : Int)) rfl rfl rfl (fun _ hw => z_lss x.time ((0 : Nat) : Int) rfl rfl rfl) (hm17.at 0 rfl) (fun hs35 => ?_) (fun hs35 => ?_)
  · simp only [nz1, nz2, nz3]
    refine tk 42 83 (.bool true) rfl rfl (fun _ hw => run_pickf rfl rfl rfl) (hm17.at 0 rfl) ?_
    simp only [nz1, nz2, nz3]
    refine tk 43 84 (.bool true) rfl rfl (fun _ hw => run_mv rfl rfl) (hm17.at 0 rfl) ?_
    simp only [nz1, nz2, nz3]
    refine skx 44 85 rfl rfl rfl (hm17.at 0 rfl) ?_
    simp only [nz1, nz2, nz3]
    refine skx 45 86 rfl rfl rfl (hm17.at 0 rfl) ?_
    simp only [nz1, nz2, nz3]
    refine skx 46 87 rfl rfl rfl (hm17.at 0 rfl) ?_
    simp only [nz1, nz2, nz3]
    refine tk 47 88 (.bool true) rfl rfl (fun _ hw => run_pick rfl rfl rfl) (hm17.at 0 rfl) ?_
    simp only [nz1, nz2, nz3]
    refine tk 48 89 (.bool true) rfl rfl (fun _ hw => run_mv rfl rfl) (hm17.at 0 rfl) ?_
    simp only [nz1, nz2, nz3]
    refine skx 49 90 rfl rfl rfl (hm17.at 0 rfl) ?_
    simp only [nz1, nz2, nz3]
    refine skx 50 91 rfl rfl rfl (hm17.at 0 rfl) ?_
    simp only [nz1, nz2, nz3]
    refine skx 51 92 rfl rfl rfl (hm17.at 0 rfl) ?_
    simp only [nz1, nz2, nz3]
    refine tk 52 93 (.bool true) rfl rfl (fun _ hw => run_pick rfl rfl rfl) (hm17.at 0 rfl) ?_
    simp only [nz1, nz2, nz3]
    refine tk 53 94 (.bool true) rfl rfl (fun _ hw => run_mv rfl rfl) (hm17.at 0 rfl) ?_
    simp only [nz1, nz2, nz3]
    refine skx 54 95 rfl rfl rfl (hm17.at 0 rfl) ?_
    simp only [nz1, nz2, nz3]
    refine skx 55 96 rfl rfl rfl (hm17.at 0 rfl) ?_
    simp only [nz1, nz2, nz3]
    refine skx 56 97 rfl rfl rfl (hm17.at 0 rfl) ?_
    simp only [nz1, nz2, nz3]
    refine tk 57 98 (.bool true) rfl rfl (fun _ hw => run_pick rfl rfl rfl) (hm17.at 0 rfl) ?_
    simp only [nz1, nz2, nz3]
    refine tk 58 99 (.bool true) rfl rfl (fun _ hw => run_mv rfl rfl) (hm17.at 0 rfl) ?_
    simp only [nz1, nz2, nz3]
    refine skx 59 100 rfl rfl rfl (hm17.at 0 rfl) ?_
    simp only [nz1, nz2, nz3]
    refine skx 60 101 rfl rfl rfl (hm17.at 0 rfl) ?_
    simp only [nz1, nz2, nz3]
    refine skx 61 102 rfl rfl rfl (hm17.at 0 rfl) ?_
    simp only [nz1, nz2, nz3]
    refine tk 62 103 (.bool true) rfl rfl (fun _ hw => run_pick rfl rfl rfl) (hm17.at 0 rfl) ?_
    simp only [nz1, nz2, nz3]
    refine tk 63 104 (.bool true) rfl rfl (fun _ hw => run_mv rfl rfl) (hm17.at 0 rfl) ?_
    simp only [nz1, nz2, nz3]
    refine skx 64 105 rfl rfl rfl (hm17.at 0 rfl) ?_
    simp only [nz1, nz2, nz3]
    refine skx 65 106 rfl rfl rfl (hm17.at 0 rfl) ?_
    simp only [nz1, nz2, nz3]
    refine skx 66 107 rfl rfl rfl (hm17.at 0 rfl) ?_
    simp only [nz1, nz2, nz3]
    refine skx 67 108 rfl rfl rfl (hm17.at 0 rfl) ?_
    simp only [nz1, nz2, nz3]
    refine skx 68 109 rfl rfl rfl (hm17.at 0 rfl) ?_
    simp only [nz1, nz2, nz3]
    refine skx 69 110 rfl rfl rfl (hm17.at 0 rfl) ?_
    simp only [nz1, nz2, nz3]
    refine skx 70 111 rfl rfl rfl (hm17.at 0 rfl) ?_
    simp only [nz1, nz2, nz3]
    refine tk 71 112 (.bool true) rfl rfl (fun _ hw => run_pick rfl rfl rfl) (hm17.at 0 rfl) ?_
    simp only [nz1, nz2, nz3]
    refine wpAnyH_done (by kernel_rfl) ?_ _
    refine then_n (hK16 _ _ ?_)
    refine cond_t rfl ?_
    refine wp_seq_k (fun K36 hK36 => ?_)
    refine wp_region_lit ?_
    refine lv 2 (.bool false) rfl rfl (run_as rfl rfl) ?_
    simp only [nz1, nz2, nz3]
    refine wpList_nil ?_
    refine then_n (hK36 _ _ ?_)
    refine wp_ret ?_
    refine then_r ?_
    exact ⟨rfl, .bool false, res_t rfl rfl, ⟨by rw [show decide (CheckP x) = false from decide_eq_false (by unfold CheckP; rintro (⟨_, h⟩ | ⟨_, h, _⟩) <;> simp only [FreeP, RangeP] at h <;> omega)], hm17.below⟩⟩
  simp only [nz1, nz2, nz3]
  refine tk 42 83 (.bool false) rfl rfl (fun _ hw => run_pickf rfl rfl rfl) (hm17.at 0 rfl) ?_
  simp only [nz1, nz2, nz3]
  refine tk 43 84 (.bool false) rfl rfl (fun _ hw => run_mv rfl rfl) (hm17.at 0 rfl) ?_
  simp only [nz1, nz2, nz3]
  refine Sym.take_at 44 85 (.pointer (some ⟨g4, 5, none⟩)) rfl rfl (by kernel_rfl) (by kernel_rfl) (by kernel_rfl) (fun _ _ _ h => h) rfl (fun _ hw => r_fa48_5 g4 0 rfl rfl) (hm17.at 0 rfl) ?_
  simp only [nz1, nz2, nz3]
  refine Sym.take_at 45 86 (.int .i64 (x.links)) rfl rfl (by kernel_rfl) (by kernel_rfl) (by kernel_rfl) (fun _ _ _ h => h) rfl (fun _ hw => r_load hw rfl Try.underlying3 rfl rfl rfl) (hm17.at 0 rfl) ?_
  simp only [nz1, nz2, nz3]
  refine tkb 46 87 (x.links < ((1 : Nat) : Int)) rfl rfl rfl (fun _ hw => z_lss x.links ((1 : Nat) : Int) rfl rfl rfl) (hm17.at 0 rfl) (fun hs37 => ?_) (fun hs37 => ?_)
  · simp only [nz1, nz2, nz3]
    refine tk 47 88 (.bool true) rfl rfl (fun _ hw => run_pickf rfl rfl rfl) (hm17.at 0 rfl) ?_
    simp only [nz1, nz2, nz3]
    refine tk 48 89 (.bool true) rfl rfl (fun _ hw => run_mv rfl rfl) (hm17.at 0 rfl) ?_
    simp only [nz1, nz2, nz3]
    refine skx 49 90 rfl rfl rfl (hm17.at 0 rfl) ?_
    simp only [nz1, nz2, nz3]
    refine skx 50 91 rfl rfl rfl (hm17.at 0 rfl) ?_
    simp only [nz1, nz2, nz3]
    refine skx 51 92 rfl rfl rfl (hm17.at 0 rfl) ?_
    simp only [nz1, nz2, nz3]
    refine tk 52 93 (.bool true) rfl rfl (fun _ hw => run_pick rfl rfl rfl) (hm17.at 0 rfl) ?_
    simp only [nz1, nz2, nz3]
    refine tk 53 94 (.bool true) rfl rfl (fun _ hw => run_mv rfl rfl) (hm17.at 0 rfl) ?_
    simp only [nz1, nz2, nz3]
    refine skx 54 95 rfl rfl rfl (hm17.at 0 rfl) ?_
    simp only [nz1, nz2, nz3]
    refine skx 55 96 rfl rfl rfl (hm17.at 0 rfl) ?_
    simp only [nz1, nz2, nz3]
    refine skx 56 97 rfl rfl rfl (hm17.at 0 rfl) ?_
    simp only [nz1, nz2, nz3]
    refine tk 57 98 (.bool true) rfl rfl (fun _ hw => run_pick rfl rfl rfl) (hm17.at 0 rfl) ?_
    simp only [nz1, nz2, nz3]
    refine tk 58 99 (.bool true) rfl rfl (fun _ hw => run_mv rfl rfl) (hm17.at 0 rfl) ?_
    simp only [nz1, nz2, nz3]
    refine skx 59 100 rfl rfl rfl (hm17.at 0 rfl) ?_
    simp only [nz1, nz2, nz3]
    refine skx 60 101 rfl rfl rfl (hm17.at 0 rfl) ?_
    simp only [nz1, nz2, nz3]
    refine skx 61 102 rfl rfl rfl (hm17.at 0 rfl) ?_
    simp only [nz1, nz2, nz3]
    refine tk 62 103 (.bool true) rfl rfl (fun _ hw => run_pick rfl rfl rfl) (hm17.at 0 rfl) ?_
    simp only [nz1, nz2, nz3]
    refine tk 63 104 (.bool true) rfl rfl (fun _ hw => run_mv rfl rfl) (hm17.at 0 rfl) ?_
    simp only [nz1, nz2, nz3]
    refine skx 64 105 rfl rfl rfl (hm17.at 0 rfl) ?_
    simp only [nz1, nz2, nz3]
    refine skx 65 106 rfl rfl rfl (hm17.at 0 rfl) ?_
    simp only [nz1, nz2, nz3]
    refine skx 66 107 rfl rfl rfl (hm17.at 0 rfl) ?_
    simp only [nz1, nz2, nz3]
    refine skx 67 108 rfl rfl rfl (hm17.at 0 rfl) ?_
    simp only [nz1, nz2, nz3]
    refine skx 68 109 rfl rfl rfl (hm17.at 0 rfl) ?_
    simp only [nz1, nz2, nz3]
    refine skx 69 110 rfl rfl rfl (hm17.at 0 rfl) ?_
    simp only [nz1, nz2, nz3]
    refine skx 70 111 rfl rfl rfl (hm17.at 0 rfl) ?_
    simp only [nz1, nz2, nz3]
    refine tk 71 112 (.bool true) rfl rfl (fun _ hw => run_pick rfl rfl rfl) (hm17.at 0 rfl) ?_
    simp only [nz1, nz2, nz3]
    refine wpAnyH_done (by kernel_rfl) ?_ _
    refine then_n (hK16 _ _ ?_)
    refine cond_t rfl ?_
    refine wp_seq_k (fun K38 hK38 => ?_)
    refine wp_region_lit ?_
    refine lv 2 (.bool false) rfl rfl (run_as rfl rfl) ?_
    simp only [nz1, nz2, nz3]
    refine wpList_nil ?_
    refine then_n (hK38 _ _ ?_)
    refine wp_ret ?_
    refine then_r ?_
    exact ⟨rfl, .bool false, res_t rfl rfl, ⟨by rw [show decide (CheckP x) = false from decide_eq_false (by unfold CheckP; rintro (⟨_, h⟩ | ⟨_, h, _⟩) <;> simp only [FreeP, RangeP] at h <;> omega)], hm17.below⟩⟩
  simp only [nz1, nz2, nz3]
  refine tk 47 88 (.bool false) rfl rfl (fun _ hw => run_pickf rfl rfl rfl) (hm17.at 0 rfl) ?_
  simp only [nz1, nz2, nz3]
  refine tk 48 89 (.bool false) rfl rfl (fun _ hw => run_mv rfl rfl) (hm17.at 0 rfl) ?_
  simp only [nz1, nz2, nz3]
  refine Sym.take_at 49 90 (.pointer (some ⟨g4, 5, none⟩)) rfl rfl (by kernel_rfl) (by kernel_rfl) (by kernel_rfl) (fun _ _ _ h => h) rfl (fun _ hw => r_fa48_5 g4 0 rfl rfl) (hm17.at 0 rfl) ?_
  simp only [nz1, nz2, nz3]
  refine Sym.take_at 50 91 (.int .i64 (x.links)) rfl rfl (by kernel_rfl) (by kernel_rfl) (by kernel_rfl) (fun _ _ _ h => h) rfl (fun _ hw => r_load hw rfl Try.underlying3 rfl rfl rfl) (hm17.at 0 rfl) ?_
  simp only [nz1, nz2, nz3]
  refine tkb 51 92 (((2048 : Nat) : Int) < x.links) rfl rfl rfl (fun _ hw => z_gtr x.links ((2048 : Nat) : Int) rfl rfl rfl) (hm17.at 0 rfl) (fun hs39 => ?_) (fun hs39 => ?_)
  · simp only [nz1, nz2, nz3]
    refine tk 52 93 (.bool true) rfl rfl (fun _ hw => run_pickf rfl rfl rfl) (hm17.at 0 rfl) ?_
    simp only [nz1, nz2, nz3]
    refine tk 53 94 (.bool true) rfl rfl (fun _ hw => run_mv rfl rfl) (hm17.at 0 rfl) ?_
    simp only [nz1, nz2, nz3]
    refine skx 54 95 rfl rfl rfl (hm17.at 0 rfl) ?_
    simp only [nz1, nz2, nz3]
    refine skx 55 96 rfl rfl rfl (hm17.at 0 rfl) ?_
    simp only [nz1, nz2, nz3]
    refine skx 56 97 rfl rfl rfl (hm17.at 0 rfl) ?_
    simp only [nz1, nz2, nz3]
    refine tk 57 98 (.bool true) rfl rfl (fun _ hw => run_pick rfl rfl rfl) (hm17.at 0 rfl) ?_
    simp only [nz1, nz2, nz3]
    refine tk 58 99 (.bool true) rfl rfl (fun _ hw => run_mv rfl rfl) (hm17.at 0 rfl) ?_
    simp only [nz1, nz2, nz3]
    refine skx 59 100 rfl rfl rfl (hm17.at 0 rfl) ?_
    simp only [nz1, nz2, nz3]
    refine skx 60 101 rfl rfl rfl (hm17.at 0 rfl) ?_
    simp only [nz1, nz2, nz3]
    refine skx 61 102 rfl rfl rfl (hm17.at 0 rfl) ?_
    simp only [nz1, nz2, nz3]
    refine tk 62 103 (.bool true) rfl rfl (fun _ hw => run_pick rfl rfl rfl) (hm17.at 0 rfl) ?_
    simp only [nz1, nz2, nz3]
    refine tk 63 104 (.bool true) rfl rfl (fun _ hw => run_mv rfl rfl) (hm17.at 0 rfl) ?_
    simp only [nz1, nz2, nz3]
    refine skx 64 105 rfl rfl rfl (hm17.at 0 rfl) ?_
    simp only [nz1, nz2, nz3]
    refine skx 65 106 rfl rfl rfl (hm17.at 0 rfl) ?_
    simp only [nz1, nz2, nz3]
    refine skx 66 107 rfl rfl rfl (hm17.at 0 rfl) ?_
    simp only [nz1, nz2, nz3]
    refine skx 67 108 rfl rfl rfl (hm17.at 0 rfl) ?_
    simp only [nz1, nz2, nz3]
    refine skx 68 109 rfl rfl rfl (hm17.at 0 rfl) ?_
    simp only [nz1, nz2, nz3]
    refine skx 69 110 rfl rfl rfl (hm17.at 0 rfl) ?_
    simp only [nz1, nz2, nz3]
    refine skx 70 111 rfl rfl rfl (hm17.at 0 rfl) ?_
    simp only [nz1, nz2, nz3]
    refine tk 71 112 (.bool true) rfl rfl (fun _ hw => run_pick rfl rfl rfl) (hm17.at 0 rfl) ?_
    simp only [nz1, nz2, nz3]
    refine wpAnyH_done (by kernel_rfl) ?_ _
    refine then_n (hK16 _ _ ?_)
    refine cond_t rfl ?_
    refine wp_seq_k (fun K40 hK40 => ?_)
    refine wp_region_lit ?_
    refine lv 2 (.bool false) rfl rfl (run_as rfl rfl) ?_
    simp only [nz1, nz2, nz3]
    refine wpList_nil ?_
    refine then_n (hK40 _ _ ?_)
    refine wp_ret ?_
    refine then_r ?_
    exact ⟨rfl, .bool false, res_t rfl rfl, ⟨by rw [show decide (CheckP x) = false from decide_eq_false (by unfold CheckP; rintro (⟨_, h⟩ | ⟨_, h, _⟩) <;> simp only [FreeP, RangeP] at h <;> omega)], hm17.below⟩⟩
  simp only [nz1, nz2, nz3]
  refine tk 52 93 (.bool false) rfl rfl (fun _ hw => run_pickf rfl rfl rfl) (hm17.at 0 rfl) ?_
  simp only [nz1, nz2, nz3]
  refine tk 53 94 (.bool false) rfl rfl (fun _ hw => run_mv rfl rfl) (hm17.at 0 rfl) ?_
  simp only [nz1, nz2, nz3]
  refine Sym.take_at 54 95 (.pointer (some ⟨g4, 6, none⟩)) rfl rfl (by kernel_rfl) (by kernel_rfl) (by kernel_rfl) (fun _ _ _ h => h) rfl (fun _ hw => r_fa48_6 g4 0 rfl rfl) (hm17.at 0 rfl) ?_
  simp only [nz1, nz2, nz3]
  refine Sym.take_at 55 96 (.int .i64 (x.size)) rfl rfl (by kernel_rfl) (by kernel_rfl) (by kernel_rfl) (fun _ _ _ h => h) rfl (fun _ hw => r_load hw rfl Try.underlying3 rfl rfl rfl) (hm17.at 0 rfl) ?_
  simp only [nz1, nz2, nz3]
  refine tkb 56 97 (x.size < ((0 : Nat) : Int)) rfl rfl rfl (fun _ hw => z_lss x.size ((0 : Nat) : Int) rfl rfl rfl) (hm17.at 0 rfl) (fun hs41 => ?_) (fun hs41 => ?_)
  · simp only [nz1, nz2, nz3]
    refine tk 57 98 (.bool true) rfl rfl (fun _ hw => run_pickf rfl rfl rfl) (hm17.at 0 rfl) ?_
    simp only [nz1, nz2, nz3]
    refine tk 58 99 (.bool true) rfl rfl (fun _ hw => run_mv rfl rfl) (hm17.at 0 rfl) ?_
    simp only [nz1, nz2, nz3]
    refine skx 59 100 rfl rfl rfl (hm17.at 0 rfl) ?_
    simp only [nz1, nz2, nz3]
    refine skx 60 101 rfl rfl rfl (hm17.at 0 rfl) ?_
    simp only [nz1, nz2, nz3]
    refine skx 61 102 rfl rfl rfl (hm17.at 0 rfl) ?_
    simp only [nz1, nz2, nz3]
    refine tk 62 103 (.bool true) rfl rfl (fun _ hw => run_pick rfl rfl rfl) (hm17.at 0 rfl) ?_
    simp only [nz1, nz2, nz3]
    refine tk 63 104 (.bool true) rfl rfl (fun _ hw => run_mv rfl rfl) (hm17.at 0 rfl) ?_
    simp only [nz1, nz2, nz3]
    refine skx 64 105 rfl rfl rfl (hm17.at 0 rfl) ?_
    simp only [nz1, nz2, nz3]
    refine skx 65 106 rfl rfl rfl (hm17.at 0 rfl) ?_
    simp only [nz1, nz2, nz3]
    refine skx 66 107 rfl rfl rfl (hm17.at 0 rfl) ?_
    simp only [nz1, nz2, nz3]
    refine skx 67 108 rfl rfl rfl (hm17.at 0 rfl) ?_
    simp only [nz1, nz2, nz3]
    refine skx 68 109 rfl rfl rfl (hm17.at 0 rfl) ?_
    simp only [nz1, nz2, nz3]
    refine skx 69 110 rfl rfl rfl (hm17.at 0 rfl) ?_
    simp only [nz1, nz2, nz3]
    refine skx 70 111 rfl rfl rfl (hm17.at 0 rfl) ?_
    simp only [nz1, nz2, nz3]
    refine tk 71 112 (.bool true) rfl rfl (fun _ hw => run_pick rfl rfl rfl) (hm17.at 0 rfl) ?_
    simp only [nz1, nz2, nz3]
    refine wpAnyH_done (by kernel_rfl) ?_ _
    refine then_n (hK16 _ _ ?_)
    refine cond_t rfl ?_
    refine wp_seq_k (fun K42 hK42 => ?_)
    refine wp_region_lit ?_
    refine lv 2 (.bool false) rfl rfl (run_as rfl rfl) ?_
    simp only [nz1, nz2, nz3]
    refine wpList_nil ?_
    refine then_n (hK42 _ _ ?_)
    refine wp_ret ?_
    refine then_r ?_
    exact ⟨rfl, .bool false, res_t rfl rfl, ⟨by rw [show decide (CheckP x) = false from decide_eq_false (by unfold CheckP; rintro (⟨_, h⟩ | ⟨_, h, _⟩) <;> simp only [FreeP, RangeP] at h <;> omega)], hm17.below⟩⟩
  simp only [nz1, nz2, nz3]
  refine tk 57 98 (.bool false) rfl rfl (fun _ hw => run_pickf rfl rfl rfl) (hm17.at 0 rfl) ?_
  simp only [nz1, nz2, nz3]
  refine tk 58 99 (.bool false) rfl rfl (fun _ hw => run_mv rfl rfl) (hm17.at 0 rfl) ?_
  simp only [nz1, nz2, nz3]
  refine Sym.take_at 59 100 (.pointer (some ⟨g4, 6, none⟩)) rfl rfl (by kernel_rfl) (by kernel_rfl) (by kernel_rfl) (fun _ _ _ h => h) rfl (fun _ hw => r_fa48_6 g4 0 rfl rfl) (hm17.at 0 rfl) ?_
  simp only [nz1, nz2, nz3]
  refine Sym.take_at 60 101 (.int .i64 (x.size)) rfl rfl (by kernel_rfl) (by kernel_rfl) (by kernel_rfl) (fun _ _ _ h => h) rfl (fun _ hw => r_load hw rfl Try.underlying3 rfl rfl rfl) (hm17.at 0 rfl) ?_
  simp only [nz1, nz2, nz3]
  refine tkb 61 102 (((14592 : Nat) : Int) < x.size) rfl rfl rfl (fun _ hw => z_gtr x.size ((14592 : Nat) : Int) rfl rfl rfl) (hm17.at 0 rfl) (fun hs43 => ?_) (fun hs43 => ?_)
  · simp only [nz1, nz2, nz3]
    refine tk 62 103 (.bool true) rfl rfl (fun _ hw => run_pickf rfl rfl rfl) (hm17.at 0 rfl) ?_
    simp only [nz1, nz2, nz3]
    refine tk 63 104 (.bool true) rfl rfl (fun _ hw => run_mv rfl rfl) (hm17.at 0 rfl) ?_
    simp only [nz1, nz2, nz3]
    refine skx 64 105 rfl rfl rfl (hm17.at 0 rfl) ?_
    simp only [nz1, nz2, nz3]
    refine skx 65 106 rfl rfl rfl (hm17.at 0 rfl) ?_
    simp only [nz1, nz2, nz3]
    refine skx 66 107 rfl rfl rfl (hm17.at 0 rfl) ?_
    simp only [nz1, nz2, nz3]
    refine skx 67 108 rfl rfl rfl (hm17.at 0 rfl) ?_
    simp only [nz1, nz2, nz3]
    refine skx 68 109 rfl rfl rfl (hm17.at 0 rfl) ?_
    simp only [nz1, nz2, nz3]
    refine skx 69 110 rfl rfl rfl (hm17.at 0 rfl) ?_
    simp only [nz1, nz2, nz3]
    refine skx 70 111 rfl rfl rfl (hm17.at 0 rfl) ?_
    simp only [nz1, nz2, nz3]
    refine tk 71 112 (.bool true) rfl rfl (fun _ hw => run_pick rfl rfl rfl) (hm17.at 0 rfl) ?_
    simp only [nz1, nz2, nz3]
    refine wpAnyH_done (by kernel_rfl) ?_ _
    refine then_n (hK16 _ _ ?_)
    refine cond_t rfl ?_
    refine wp_seq_k (fun K44 hK44 => ?_)
    refine wp_region_lit ?_
    refine lv 2 (.bool false) rfl rfl (run_as rfl rfl) ?_
    simp only [nz1, nz2, nz3]
    refine wpList_nil ?_
    refine then_n (hK44 _ _ ?_)
    refine wp_ret ?_
    refine then_r ?_
    exact ⟨rfl, .bool false, res_t rfl rfl, ⟨by rw [show decide (CheckP x) = false from decide_eq_false (by unfold CheckP; rintro (⟨_, h⟩ | ⟨_, h, _⟩) <;> simp only [FreeP, RangeP] at h <;> omega)], hm17.below⟩⟩
  simp only [nz1, nz2, nz3]
  refine tk 62 103 (.bool false) rfl rfl (fun _ hw => run_pickf rfl rfl rfl) (hm17.at 0 rfl) ?_
  simp only [nz1, nz2, nz3]
  refine tk 63 104 (.bool false) rfl rfl (fun _ hw => run_mv rfl rfl) (hm17.at 0 rfl) ?_
  simp only [nz1, nz2, nz3]
  refine Sym.take_at 64 105 (.pointer (some ⟨g4, 7, none⟩)) rfl rfl (by kernel_rfl) (by kernel_rfl) (by kernel_rfl) (fun _ _ _ h => h) rfl (fun _ hw => r_fa48_7 g4 0 rfl rfl) (hm17.at 0 rfl) ?_
  simp only [nz1, nz2, nz3]
  refine Sym.take_at 65 106 (v) rfl rfl (by kernel_rfl) (by kernel_rfl) (by kernel_rfl) (fun _ _ _ h => h) rfl (fun _ hw => r_load hw rfl Try.underlying46 rfl rfl rfl) (hm17.at 0 rfl) ?_
  simp only [nz1, nz2, nz3]
  refine Sym.take_at 66 107 (.int .i64 ((x.blocks.length : Nat) : Int)) rfl rfl (by kernel_rfl) (by kernel_rfl) (by kernel_rfl) (fun _ _ _ h => h) rfl (fun _ hw => s_len hb rfl Try.underlying46 rfl) (hm17.at 0 rfl) ?_
  simp only [nz1, nz2, nz3]
  refine Sym.take_at 67 108 (.pointer (some ⟨g4, 6, none⟩)) rfl rfl (by kernel_rfl) (by kernel_rfl) (by kernel_rfl) (fun _ _ _ h => h) rfl (fun _ hw => r_fa48_6 g4 0 rfl rfl) (hm17.at 0 rfl) ?_
  simp only [nz1, nz2, nz3]
  refine Sym.take_at 68 109 (.int .i64 (x.size)) rfl rfl (by kernel_rfl) (by kernel_rfl) (by kernel_rfl) (fun _ _ _ h => h) rfl (fun _ hw => r_load hw rfl Try.underlying3 rfl rfl rfl) (hm17.at 0 rfl) ?_
  simp only [nz1, nz2, nz3]
  refine one_ready 69 (by kernel_rfl) ?_
  refine opd rfl rfl (m_call hm17 110 (.int .i64 (((secs x.size.toNat) : Nat) : Int)) rfl (run_rSectors rfl rfl) (rsectors_any x.size (by omega) (by omega) _) (fun w45 (hm46 : Mm none w w45 [.blk g4 #[.int .i64 (x.kind), .int .i64 (x.mode), .int .i64 (x.uid), .int .i64 (x.gid), .int .i64 (x.time), .int .i64 (x.links), .int .i64 (x.size), v] 48]) => ?_))
  refine ⟨hm46.at 0 rfl, ?_⟩
  simp only [nz1, nz2, nz3]
  refine Sym.take_at 70 111 (.bool (decide (¬ x.blocks.length = (secs x.size.toNat)))) rfl rfl (by kernel_rfl) (by kernel_rfl) (by kernel_rfl) (fun _ _ _ h => h) rfl (fun _ hw => r_neq x.blocks.length (secs x.size.toNat) rfl rfl rfl) (hm46.at 0 rfl) ?_
  simp only [nz1, nz2, nz3]
  refine tk 71 112 (.bool (decide (¬ x.blocks.length = (secs x.size.toNat)))) rfl rfl (fun _ hw => run_pickf rfl rfl rfl) (hm46.at 0 rfl) ?_
  simp only [nz1, nz2, nz3]
  refine wpAnyH_done (by kernel_rfl) ?_ _
  refine then_n (hK16 _ _ ?_)
  refine cond_d (¬ x.blocks.length = (secs x.size.toNat)) rfl (fun hc47 => ?_) (fun hc47 => ?_)
  · rw [decide_eq_true hc47]
    refine wp_seq_k (fun K48 hK48 => ?_)
    refine wp_region_lit ?_
    refine lv 2 (.bool false) rfl rfl (run_as rfl rfl) ?_
    simp only [nz1, nz2, nz3]
    refine wpList_nil ?_
    refine then_n (hK48 _ _ ?_)
    refine wp_ret ?_
    refine then_r ?_
    exact ⟨rfl, .bool false, res_t rfl rfl, ⟨by rw [show decide (CheckP x) = false from decide_eq_false (by unfold CheckP; rintro (⟨_, h⟩ | ⟨_, h, _⟩) <;> simp only [FreeP, RangeP] at h <;> omega)], hm46.below⟩⟩
  rw [decide_eq_false hc47]
  refine wp_skip ?_
  refine then_n (hK15 _ _ ?_)
  refine wp_seq_k (fun K49 hK49 => ?_)
  refine wp_seq_k (fun K50 hK50 => ?_)
  refine wp_region_lit ?_
  refine lv 3 (.int .i64 0) rfl rfl (run_as rfl rfl) ?_
  simp only [nz1, nz2, nz3]
  refine wpList_nil ?_
  have hsec : secs x.size.toNat ≤ 57 := by unfold secs; omega
  refine then_n (hK50 _ _ ?_)
  refine wp_block ?_
  refine wp_loop_n (fun n' a' w' => ∃ (i : Nat) (u0 : Nat → Value), n' = x.blocks.length - i ∧ (i ≤ x.blocks.length) ∧ (∀ k, k < i → 0 ≤ x.blocks.getD k 0 ∧ x.blocks.getD k 0 < 2048) ∧ a' = ⟨#[.agg #[.int .i64 (x.kind), .int .i64 (x.mode), .int .i64 (x.uid), .int .i64 (x.gid), .int .i64 (x.time), .int .i64 (x.links), .int .i64 (x.size), v], .pointer (some ⟨g4, 0, none⟩), u0 0, .int .i64 ((i : Nat) : Int), .pointer (some ⟨g4, 0, none⟩), .int .i64 (x.kind), .bool false, undef, undef, undef, undef, undef, undef, undef, undef, undef, undef, undef, undef, undef, undef, undef, undef, undef, undef, undef, undef, undef, undef, undef, undef, undef, undef, undef, undef, undef, undef, undef, undef, undef, undef, .pointer (some ⟨g4, 0, none⟩), .int .i64 (x.kind), .bool false, .bool false, .pointer (some ⟨g4, 0, none⟩), .int .i64 (x.kind), .bool false, .bool false, .bool false, .pointer (some ⟨g4, 1, none⟩), .int .i64 (x.mode), .bool false, .bool false, .bool false, .pointer (some ⟨g4, 1, none⟩), .int .i64 (x.mode), .bool false, .bool false, .bool false, .pointer (some ⟨g4, 2, none⟩), .int .i64 (x.uid), .bool false, .bool false, .bool false, .pointer (some ⟨g4, 2, none⟩), .int .i64 (x.uid), .bool false, .bool false, .bool false, .pointer (some ⟨g4, 3, none⟩), .int .i64 (x.gid), .bool false, .bool false, .bool false, .pointer (some ⟨g4, 3, none⟩), .int .i64 (x.gid), .bool false, .bool false, .bool false, .pointer (some ⟨g4, 4, none⟩), .int .i64 (x.time), .bool false, .bool false, .bool false, .pointer (some ⟨g4, 5, none⟩), .int .i64 (x.links), .bool false, .bool false, .bool false, .pointer (some ⟨g4, 5, none⟩), .int .i64 (x.links), .bool false, .bool false, .bool false, .pointer (some ⟨g4, 6, none⟩), .int .i64 (x.size), .bool false, .bool false, .bool false, .pointer (some ⟨g4, 6, none⟩), .int .i64 (x.size), .bool false, .bool false, .bool false, .pointer (some ⟨g4, 7, none⟩), v, .int .i64 ((x.blocks.length : Nat) : Int), .pointer (some ⟨g4, 6, none⟩), .int .i64 (x.size), .int .i64 (((secs x.size.toNat) : Nat) : Int), .bool false, .bool false, u0 1, u0 2, u0 3, u0 4, u0 5, u0 6, u0 7, u0 8, u0 9, u0 10, u0 11, u0 12, u0 13, u0 14, u0 15, u0 16, u0 17, u0 18, u0 19, u0 20, u0 21], []⟩ ∧ Mm none w w' [.blk g4 #[.int .i64 (x.kind), .int .i64 (x.mode), .int .i64 (x.uid), .int .i64 (x.gid), .int .i64 (x.time), .int .i64 (x.links), .int .i64 (x.size), v] 48]) ⟨0, (fun qq => List.getD [.bool false, undef, undef, undef, undef, undef, undef, undef, undef, undef, undef, undef, undef, undef, undef, undef, undef, undef, undef, undef, undef, undef] qq undef), rfl, (Nat.zero_le _), (fun k hk => by omega), rfl, hm46⟩ ?_
  clear hm46
  rintro _ _ w51 ⟨i, u0, hn0, hi, hall, rfl, hm52⟩ R53 hR53
  refine wp_seq_k (fun K54 hK54 => ?_)
  refine wp_seq_k (fun K55 hK55 => ?_)
  refine wp_region_lit ?_
  refine lv 113 (.int .i64 ((i : Nat) : Int)) rfl rfl (run_mv rfl rfl) ?_
  simp only [nz1, nz2, nz3]
  refine lv 114 (.pointer (some ⟨g4, 7, none⟩)) rfl rfl (r_fa48_7 g4 0 rfl rfl) ?_
  simp only [nz1, nz2, nz3]
  refine lv 115 (v) rfl rfl (r_load (hm52.at 0 rfl) rfl Try.underlying46 rfl rfl rfl) ?_
  simp only [nz1, nz2, nz3]
  refine lv 116 (.int .i64 ((x.blocks.length : Nat) : Int)) rfl rfl (s_len hb rfl Try.underlying46 rfl) ?_
  simp only [nz1, nz2, nz3]
  refine lv 117 (.bool (decide (i < x.blocks.length))) rfl rfl (r_lss i x.blocks.length rfl rfl rfl) ?_
  simp only [nz1, nz2, nz3]
  refine wpList_nil ?_
  refine then_n (hK55 _ _ ?_)
  refine cond_d (i < x.blocks.length) rfl (fun hc56 => ?_) (fun hc56 => ?_)
  rotate_left
  · rw [decide_eq_false hc56]
    obtain rfl : i = x.blocks.length := by omega
    refine wp_exit ?_
    refine then_x ?_
    refine then_x ?_
    refine blk_x ?_
    refine then_n (hK49 _ _ ?_)
    refine wp_seq_k (fun K66 hK66 => ?_)
    refine wp_region_lit ?_
    refine lv 2 (.bool true) rfl rfl (run_as rfl rfl) ?_
    simp only [nz1, nz2, nz3]
    refine wpList_nil ?_
    refine then_n (hK66 _ _ ?_)
    refine wp_ret ?_
    exact ⟨rfl, .bool true, res_t rfl rfl, ⟨by rw [show decide (CheckP x) = true from decide_eq_true (.inr ⟨by omega, by unfold RangeP; omega, blk_good hall⟩)], hm52.below⟩⟩
  rw [decide_eq_true hc56]
  refine wp_skip ?_
  refine then_n (hK54 _ _ ?_)
  refine wp_seq_k (fun K57 hK57 => ?_)
  refine wp_block ?_
  refine wp_seq_k (fun K58 hK58 => ?_)
  refine wp_region_lit ?_
  refine lv 120 (.pointer (some ⟨g4, 7, none⟩)) rfl rfl (r_fa48_7 g4 0 rfl rfl) ?_
  simp only [nz1, nz2, nz3]
  refine lv 121 (v) rfl rfl (r_load (hm52.at 0 rfl) rfl Try.underlying46 rfl rfl rfl) ?_
  simp only [nz1, nz2, nz3]
  refine lv 122 (.int .i64 ((i : Nat) : Int)) rfl rfl (run_mv rfl rfl) ?_
  simp only [nz1, nz2, nz3]
  obtain ⟨ge59, oe60, ce61, rfl⟩ := Rd.openz (hb.below hm52.below) (by omega)
  refine lv 123 (.pointer (some ⟨ge59, (oe60 + i * 1), none⟩)) rfl rfl (r_ixS ge59 oe60 i x.blocks.length ce61 1 (by omega) Try.underlying46 (by exact sz_int) rfl rfl rfl) ?_
  simp only [nz1, nz2, nz3]
  refine lv 124 (.int .i64 (x.blocks.getD i 0)) rfl rfl (r_cellw (cell_el (eo := 0) (Rd.cells (hb.below hm52.below)) (iv_at x.blocks i (by omega))) Try.underlying3 rfl rfl rfl) ?_
  simp only [nz1, nz2, nz3]
  refine lvb 125 (x.blocks.getD i 0 < ((0 : Nat) : Int)) rfl rfl (z_lss (x.blocks.getD i 0) ((0 : Nat) : Int) rfl rfl rfl) (fun hs62 => ?_) (fun hs62 => ?_)
  · simp only [nz1, nz2, nz3]
    refine lv 126 (.bool true) rfl rfl (run_mv rfl rfl) ?_
    simp only [nz1, nz2, nz3]
    refine lst_skip 127 rfl rfl ?_
    simp only [nz1, nz2, nz3]
    refine lst_skip 128 rfl rfl ?_
    simp only [nz1, nz2, nz3]
    refine lst_skip 129 rfl rfl ?_
    simp only [nz1, nz2, nz3]
    refine lst_skip 130 rfl rfl ?_
    simp only [nz1, nz2, nz3]
    refine lst_skip 131 rfl rfl ?_
    simp only [nz1, nz2, nz3]
    refine lst_skip 132 rfl rfl ?_
    simp only [nz1, nz2, nz3]
    refine lv 133 (.bool true) rfl rfl (run_pick rfl rfl rfl) ?_
    simp only [nz1, nz2, nz3]
    refine wpList_nil ?_
    refine then_n (hK58 _ _ ?_)
    refine cond_t rfl ?_
    refine wp_seq_k (fun K63 hK63 => ?_)
    refine wp_region_lit ?_
    refine lv 2 (.bool false) rfl rfl (run_as rfl rfl) ?_
    simp only [nz1, nz2, nz3]
    refine wpList_nil ?_
    refine then_n (hK63 _ _ ?_)
    refine wp_ret ?_
    refine blk_r ?_
    refine then_r ?_
    refine then_r ?_
    refine blk_r ?_
    refine then_r ?_
    exact ⟨rfl, .bool false, res_t rfl rfl, ⟨by rw [show decide (CheckP x) = false from decide_eq_false (by unfold CheckP; rintro (⟨h, _⟩ | ⟨_, _, h⟩); omega; exact blk_bad (i := i) (by omega) (by omega) h)], hm52.below⟩⟩
  simp only [nz1, nz2, nz3]
  refine lv 126 (.bool false) rfl rfl (run_mv rfl rfl) ?_
  simp only [nz1, nz2, nz3]
  refine lst rfl (w_value 127 (.pointer (some ⟨g4, 7, none⟩)) rfl (r_fa48_7 g4 0 rfl rfl) ?_)
  simp only [nz1, nz2, nz3]
  refine lst rfl (w_value 128 (.slice (some ⟨ge59, oe60, none⟩) x.blocks.length ce61) rfl (r_load (hm52.at 0 rfl) rfl Try.underlying46 rfl rfl rfl) ?_)
  simp only [nz1, nz2, nz3]
  refine lst rfl (w_value 129 (.int .i64 ((i : Nat) : Int)) rfl (run_mv rfl rfl) ?_)
  simp only [nz1, nz2, nz3]
  refine lst rfl (w_value 130 (.pointer (some ⟨ge59, (oe60 + i * 1), none⟩)) rfl (r_ixS ge59 oe60 i x.blocks.length ce61 1 (by omega) Try.underlying46 (by exact sz_int) rfl rfl rfl) ?_)
  simp only [nz1, nz2, nz3]
  refine lst rfl (w_value 131 (.int .i64 (x.blocks.getD i 0)) rfl (r_cellw (cell_el (eo := 0) (Rd.cells (hb.below hm52.below)) (iv_at x.blocks i (by omega))) Try.underlying3 rfl rfl rfl) ?_)
  simp only [nz1, nz2, nz3]
  refine lst rfl (w_value 132 (.bool (decide (((2048 : Nat) : Int) ≤ x.blocks.getD i 0))) rfl (z_geq (x.blocks.getD i 0) ((2048 : Nat) : Int) rfl rfl rfl) ?_)
  simp only [nz1, nz2, nz3]
  refine lv 133 (.bool (decide (((2048 : Nat) : Int) ≤ x.blocks.getD i 0))) rfl rfl (run_pickf rfl rfl rfl) ?_
  simp only [nz1, nz2, nz3]
  refine wpList_nil ?_
  refine then_n (hK58 _ _ ?_)
  refine cond_d (((2048 : Nat) : Int) ≤ x.blocks.getD i 0) rfl (fun hc64 => ?_) (fun hc64 => ?_)
  · rw [decide_eq_true hc64]
    refine wp_seq_k (fun K65 hK65 => ?_)
    refine wp_region_lit ?_
    refine lv 2 (.bool false) rfl rfl (run_as rfl rfl) ?_
    simp only [nz1, nz2, nz3]
    refine wpList_nil ?_
    refine then_n (hK65 _ _ ?_)
    refine wp_ret ?_
    refine blk_r ?_
    refine then_r ?_
    refine then_r ?_
    refine blk_r ?_
    refine then_r ?_
    exact ⟨rfl, .bool false, res_t rfl rfl, ⟨by rw [show decide (CheckP x) = false from decide_eq_false (by unfold CheckP; rintro (⟨h, _⟩ | ⟨_, _, h⟩); omega; exact blk_bad (i := i) (by omega) (by omega) h)], hm52.below⟩⟩
  rw [decide_eq_false hc64]
  refine wp_skip ?_
  refine blk_n ?_
  refine then_n (hK57 _ _ ?_)
  refine wp_region_lit ?_
  refine lv 118 (.int .i64 ((i : Nat) : Int)) rfl rfl (run_mv rfl rfl) ?_
  simp only [nz1, nz2, nz3]
  refine lv 119 (.int .i64 (((i + 1) : Nat) : Int)) rfl rfl (r_add i 1 (show _ < 9223372036854775808 from by omega) rfl rfl rfl) ?_
  simp only [nz1, nz2, nz3]
  refine lv 3 (.int .i64 (((i + 1) : Nat) : Int)) rfl rfl (run_as rfl rfl) ?_
  simp only [nz1, nz2, nz3]
  refine wpList_nil ?_
  refine then_n (hR53 _ _ _ ⟨(i + 1), (fun qq => List.getD [u0 0, .int .i64 ((i : Nat) : Int), .pointer (some ⟨g4, 7, none⟩), .slice (some ⟨ge59, oe60, none⟩) x.blocks.length ce61, .int .i64 ((x.blocks.length : Nat) : Int), .bool true, .int .i64 ((i : Nat) : Int), .int .i64 (((i + 1) : Nat) : Int), .pointer (some ⟨g4, 7, none⟩), .slice (some ⟨ge59, oe60, none⟩) x.blocks.length ce61, .int .i64 ((i : Nat) : Int), .pointer (some ⟨ge59, (oe60 + i * 1), none⟩), .int .i64 (x.blocks.getD i 0), .bool false, .bool false, .pointer (some ⟨g4, 7, none⟩), .slice (some ⟨ge59, oe60, none⟩) x.blocks.length ce61, .int .i64 ((i : Nat) : Int), .pointer (some ⟨ge59, (oe60 + i * 1), none⟩), .int .i64 (x.blocks.getD i 0), .bool false, .bool false] qq undef), rfl, (by omega), (fun k hk => by by_cases e : k = i; (subst e; omega); exact hall k (by omega)), rfl, hm52⟩ ?_)
  omega
end Go.Proofs.Ytmammofbgllceaa.Nod
