/- Layer 17: numbers put and got. -/
import Derived.Test.YtmammofbgllceaaNodT
namespace Go.Proofs.Ytmammofbgllceaa.Nod
open Go.RowKit
open Go.Proofs.Ytmammofbgllceaa.Sym Go.Proofs.Ytmammofbgllceaa.Mem
open Go.Proofs.Ytmammofbgllceaa.Sx hiding Mm m_alloc m_store m_put m_call m_callx m_make m_append r_string r_ixS

theorem shl_wrap (n : Nat) : IntKind.i64.wrap (IntKind.i64.wrap (n : Int) * 2 ^ 8) = IntKind.i64.wrap ((n : Int) * 256) := by
  rw [IntKind.wrap_i64, IntKind.wrap_i64, IntKind.wrap_i64]; omega
set_option maxHeartbeats 4000000 in
set_option maxRecDepth 100000 in
theorem get_any (s : List UInt8) (hs : s.length ≤ 1000000000000) (w : World) : Calls Try.prog 51 #[.string (tx s)] w (fun e w' => e = .returned (.int .i64 (getZ s)) ∧ Below w.heap.size w w') := by
  go_enter Try.func51, Try.ntmps51
  have hm0 := Mm.nil none w
  refine wp_seq_k (fun K1 hK1 => ?_)
  refine wp_region_lit ?_
  refine lv 2 (.int .i64 0) rfl rfl (run_as rfl rfl) ?_
  simp only [nz1, nz2, nz3]
  refine wpList_nil ?_
  refine then_n (hK1 _ _ ?_)
  refine wp_seq_k (fun K2 hK2 => ?_)
  refine wp_region_lit ?_
  refine lv 3 (.int .i64 0) rfl rfl (run_as rfl rfl) ?_
  simp only [nz1, nz2, nz3]
  refine wpList_nil ?_
  refine then_n (hK2 _ _ ?_)
  refine wp_seq_k (fun K3 hK3 => ?_)
  refine wp_seq_k (fun K4 hK4 => ?_)
  refine wp_region_lit ?_
  refine lv 4 (.int .i64 0) rfl rfl (run_as rfl rfl) ?_
  simp only [nz1, nz2, nz3]
  refine wpList_nil ?_
  refine then_n (hK4 _ _ ?_)
  refine wp_block ?_
  refine wp_loop_n (fun n' a' w' => ∃ (i : Nat) (u0 : Nat → Value), n' = s.length - i ∧ (i ≤ s.length) ∧ a' = ⟨#[.string (tx s), undef, .int .i64 0, .int .i64 (getZ (s.take i)), .int .i64 ((i : Nat) : Int), u0 0, u0 1, u0 2, u0 3, u0 4, u0 5, u0 6, u0 7, u0 8, u0 9, u0 10, u0 11, u0 12, undef], []⟩ ∧ Mm none w w' []) ⟨0, (fun qq => List.getD [undef, undef, undef, undef, undef, undef, undef, undef, undef, undef, undef, undef, undef] qq undef), rfl, (by omega), rfl, hm0⟩ ?_
  clear hm0
  rintro _ _ w5 ⟨i, u0, hn0, hi, rfl, hm6⟩ R7 hR7
  refine wp_seq_k (fun K8 hK8 => ?_)
  refine wp_seq_k (fun K9 hK9 => ?_)
  refine wp_region_lit ?_
  refine lv 5 (.int .i64 ((i : Nat) : Int)) rfl rfl (run_mv rfl rfl) ?_
  simp only [nz1, nz2, nz3]
  refine lv 6 (.string (tx s)) rfl rfl (run_mv rfl rfl) ?_
  simp only [nz1, nz2, nz3]
  refine lv 7 (.int .i64 ((s.length : Nat) : Int)) rfl rfl (t_len rfl Try.underlying9 rfl) ?_
  simp only [nz1, nz2, nz3]
  refine lv 8 (.bool (decide (i < s.length))) rfl rfl (r_lss i s.length rfl rfl rfl) ?_
  simp only [nz1, nz2, nz3]
  refine wpList_nil ?_
  refine then_n (hK9 _ _ ?_)
  refine cond_d (i < s.length) rfl (fun hc10 => ?_) (fun hc10 => ?_)
  rotate_left
  · rw [decide_eq_false hc10]
    refine wp_exit ?_
    refine then_x ?_
    refine then_x ?_
    refine blk_x ?_
    refine then_n (hK3 _ _ ?_)
    refine wp_seq_k (fun K12 hK12 => ?_)
    obtain rfl : i = s.length := by omega
    rw [List.take_length]
    refine wp_region_lit ?_
    refine lv 18 (.int .i64 (getZ s)) rfl rfl (run_mv rfl rfl) ?_
    simp only [nz1, nz2, nz3]
    refine lv 2 (.int .i64 (getZ s)) rfl rfl (run_as rfl rfl) ?_
    simp only [nz1, nz2, nz3]
    refine wpList_nil ?_
    refine then_n (hK12 _ _ ?_)
    refine wp_ret ?_
    exact ⟨rfl, .int .i64 (getZ s), res_t rfl rfl, ⟨rfl, hm6.below⟩⟩
  rw [decide_eq_true hc10]
  have hc10' : i < s.length := hc10
  refine wp_skip ?_
  refine then_n (hK8 _ _ ?_)
  refine wp_seq_k (fun K11 hK11 => ?_)
  refine wp_block ?_
  refine wp_region_lit ?_
  refine lv 11 (.int .i64 (getZ (s.take i))) rfl rfl (run_mv rfl rfl) ?_
  simp only [nz1, nz2, nz3]
  refine lv 12 (.int .i64 (IntKind.i64.wrap ((be (s.take i) : Int) * 256))) rfl rfl (z_shl (getZ (s.take i)) _ 8 (by decide) (shl_wrap _) rfl rfl rfl) ?_
  simp only [nz1, nz2, nz3]
  refine lv 13 (.string (tx s)) rfl rfl (run_mv rfl rfl) ?_
  simp only [nz1, nz2, nz3]
  refine lv 14 (.int .i64 ((i : Nat) : Int)) rfl rfl (run_mv rfl rfl) ?_
  simp only [nz1, nz2, nz3]
  refine lv 15 (.int .u8 ((by' s i : Nat) : Int)) rfl rfl (t_char s i (by omega) Try.underlying9 rfl rfl rfl) ?_
  simp only [nz1, nz2, nz3]
  refine lv 16 (.int .i64 ((by' s i : Nat) : Int)) rfl rfl (r_conv (k' := .i64) (by' s i) (by' s i) some_u8 Try.underlying3 (wrap_nat (Nat.lt_trans (by_lt s i) (by decide))) rfl rfl) ?_
  simp only [nz1, nz2, nz3]
  refine lv 17 (.int .i64 (IntKind.i64.wrap ((be (s.take i) * 256 + by' s i : Nat) : Int))) rfl rfl (r_orw (be (s.take i)) (by' s i) (by_lt s i) rfl rfl rfl) ?_
  simp only [nz1, nz2, nz3]
  refine lv 3 (.int .i64 (IntKind.i64.wrap ((be (s.take i) * 256 + by' s i : Nat) : Int))) rfl rfl (run_as rfl rfl) ?_
  simp only [nz1, nz2, nz3]
  refine wpList_nil ?_
  rw [show ((.int .i64 (IntKind.i64.wrap ((be (s.take i) * 256 + by' s i : Nat) : Int))) : Value) = .int .i64 (getZ (s.take (i + 1))) from by unfold getZ; rw [be_take s i (by omega)]]
  refine blk_n ?_
  refine then_n (hK11 _ _ ?_)
  refine wp_region_lit ?_
  refine lv 9 (.int .i64 ((i : Nat) : Int)) rfl rfl (run_mv rfl rfl) ?_
  simp only [nz1, nz2, nz3]
  refine lv 10 (.int .i64 (((i + 1) : Nat) : Int)) rfl rfl (r_add i 1 (show (i + 1) < 9223372036854775808 from by omega) rfl rfl rfl) ?_
  simp only [nz1, nz2, nz3]
  refine lv 4 (.int .i64 (((i + 1) : Nat) : Int)) rfl rfl (run_as rfl rfl) ?_
  simp only [nz1, nz2, nz3]
  refine wpList_nil ?_
  refine then_n (hR7 _ _ _ ⟨(i + 1), (fun qq => List.getD [.int .i64 ((i : Nat) : Int), .string (tx s), .int .i64 ((s.length : Nat) : Int), .bool true, .int .i64 ((i : Nat) : Int), .int .i64 (((i + 1) : Nat) : Int), .int .i64 (getZ (s.take i)), .int .i64 (IntKind.i64.wrap ((be (s.take i) : Int) * 256)), .string (tx s), .int .i64 ((i : Nat) : Int), .int .u8 ((by' s i : Nat) : Int), .int .i64 ((by' s i : Nat) : Int), .int .i64 (getZ (s.take (i + 1)))] qq undef), rfl, (by omega), rfl, hm6⟩ ?_)
  omega
set_option maxHeartbeats 4000000 in
set_option maxRecDepth 100000 in
theorem put_any (v0 : Value) (n0 : Nat) (xs : List Value) (n : Int) (size : Nat) (hs : size ≤ 8) (hn0 : n0 ≤ 1000000000000) (w : World) (hr : w.ownsRow 0 5 1 v0 n0 xs) : Calls Try.prog 49 #[v0, .int .i64 (n), .int .i64 ((size : Nat) : Int)] w (fun e w' => (∃ v', e = .returned v' ∧ w'.ownsRow 0 5 1 v' (n0 + size) (xs ++ (putL n size).map bv) ∧ (∀ g, v'.ownBlock = some g → v0.ownBlock = some g ∨ w.heap.size ≤ g)) ∧ w.grownBy w' v0.ownBlock) := by
  go_enter Try.func49, Try.ntmps49
  have hm0 := Mm.start hr
  refine wp_seq_k (fun K1 hK1 => ?_)
  refine wp_region_lit ?_
  refine lv 6 (.slice none 0 0) rfl rfl (run_as rfl rfl) ?_
  simp only [nz1, nz2, nz3]
  refine wpList_nil ?_
  refine then_n (hK1 _ _ ?_)
  refine wp_seq_k (fun K2 hK2 => ?_)
  refine wp_seq_k (fun K3 hK3 => ?_)
  refine wp_region_lit ?_
  refine lv 8 (.int .i64 ((size : Nat) : Int)) rfl rfl (run_mv rfl rfl) ?_
  simp only [nz1, nz2, nz3]
  refine lv 9 (.int .i64 (((size : Nat) : Int) - 1)) rfl rfl (r_subZ ((size : Nat) : Int) 1 _ (by rw [IntKind.wrap_i64]; omega) rfl rfl rfl) ?_
  simp only [nz1, nz2, nz3]
  refine lv 7 (.int .i64 (((size : Nat) : Int) - 1)) rfl rfl (run_as rfl rfl) ?_
  simp only [nz1, nz2, nz3]
  refine wpList_nil ?_
  have hm4 : Mm v0.ownBlock w w [.row v0 (n0 + (size - size)) (xs ++ ((putL n size).take (size - size)).map bv) 5 1] := by
    have e1 : ((n0 + (size - size)) : Nat) = n0 := by omega
    have e2 : ((xs ++ ((putL n size).take (size - size)).map bv) : List Value) = xs := put_none xs n size
    rw [e1, e2]
    exact hm0
  refine then_n (hK3 _ _ ?_)
  refine wp_block ?_
  refine wp_loop_n (fun n' a' w' => ∃ (j : Nat) (v : Value) (u0 : Nat → Value), n' = j ∧ (j ≤ size) ∧ a' = ⟨#[v, .int .i64 (n), .int .i64 ((size : Nat) : Int), undef, undef, undef, .slice none 0 0, .int .i64 (((j : Nat) : Int) - 1), .int .i64 ((size : Nat) : Int), .int .i64 (((size : Nat) : Int) - 1), u0 0, u0 1, u0 2, u0 3, u0 4, u0 5, u0 6, u0 7, u0 8, u0 9, u0 10, u0 11, undef], []⟩ ∧ Mm v0.ownBlock w w' [.row v (n0 + (size - j)) (xs ++ ((putL n size).take (size - j)).map bv) 5 1]) ⟨size, v0, (fun qq => List.getD [undef, undef, undef, undef, undef, undef, undef, undef, undef, undef, undef, undef] qq undef), rfl, (Nat.le_refl _), rfl, hm4⟩ ?_
  clear hm4
  rintro _ _ w5 ⟨j, v, u0, hn0, hj, rfl, hm6⟩ R7 hR7
  refine wp_seq_k (fun K8 hK8 => ?_)
  refine wp_seq_k (fun K9 hK9 => ?_)
  refine wp_region_lit ?_
  refine lv 10 (.int .i64 (((j : Nat) : Int) - 1)) rfl rfl (run_mv rfl rfl) ?_
  simp only [nz1, nz2, nz3]
  refine lv 11 (.bool (decide (((0 : Nat) : Int) ≤ ((j : Nat) : Int) - 1))) rfl rfl (z_geq (((j : Nat) : Int) - 1) ((0 : Nat) : Int) rfl rfl rfl) ?_
  simp only [nz1, nz2, nz3]
  refine wpList_nil ?_
  refine then_n (hK9 _ _ ?_)
  refine cond_d (((0 : Nat) : Int) ≤ ((j : Nat) : Int) - 1) rfl (fun hc10 => ?_) (fun hc10 => ?_)
  rotate_left
  · rw [decide_eq_false hc10]
    obtain rfl : j = 0 := by omega
    refine wp_exit ?_
    refine then_x ?_
    refine then_x ?_
    refine blk_x ?_
    refine then_n (hK2 _ _ ?_)
    refine wp_seq_k (fun K20 hK20 => ?_)
    have hm21 : Mm v0.ownBlock w w5 [.row v (n0 + size) (xs ++ (putL n size).map bv) 5 1] := by
      have e1 : ((n0 + size) : Nat) = (n0 + (size - 0)) := by omega
      have e2 : ((xs ++ (putL n size).map bv) : List Value) = (xs ++ ((putL n size).take (size - 0)).map bv) := put_all xs n size
      rw [e1, e2]
      exact hm6
    refine wp_region_lit ?_
    refine lv 22 (v) rfl rfl (run_mv rfl rfl) ?_
    simp only [nz1, nz2, nz3]
    refine lv 6 (v) rfl rfl (run_as rfl rfl) ?_
    simp only [nz1, nz2, nz3]
    refine wpList_nil ?_
    refine then_n (hK20 _ _ ?_)
    refine wp_ret ?_
    exact ⟨rfl, v, res_t rfl rfl, ⟨⟨_, rfl, (hm21.turned 0 rfl).1, (hm21.turned 0 rfl).2⟩, hm21.frame⟩⟩
  rw [decide_eq_true hc10]
  obtain ⟨m, rfl⟩ : ∃ m, j = m + 1 := ⟨j - 1, by omega⟩
  rw [show (((m + 1 : Nat) : Int) - 1) = ((m : Nat) : Int) from by omega]
  refine wp_skip ?_
  refine then_n (hK8 _ _ ?_)
  refine wp_seq_k (fun K11 hK11 => ?_)
  refine wp_block ?_
  refine wp_region_lit ?_
  refine lv 14 (v) rfl rfl (run_mv rfl rfl) ?_
  simp only [nz1, nz2, nz3]
  refine lv 15 (.int .i64 (n)) rfl rfl (run_mv rfl rfl) ?_
  simp only [nz1, nz2, nz3]
  refine lv 16 (.int .i64 ((m : Nat) : Int)) rfl rfl (run_mv rfl rfl) ?_
  simp only [nz1, nz2, nz3]
  refine lv 17 (.int .i64 (((8 * m) : Nat) : Int)) rfl rfl (r_mul 8 m (show (8 * m) < 9223372036854775808 from by omega) rfl rfl rfl) ?_
  simp only [nz1, nz2, nz3]
  refine lv 18 (.int .i64 (n / 2 ^ (8 * m))) rfl rfl (z_shr n (8 * m) (by show 8 * m ≤ 64; omega) rfl rfl rfl) ?_
  simp only [nz1, nz2, nz3]
  refine lv 19 (.int .u8 (((((n / 2 ^ (8 * m)) % 256).toNat) : Nat) : Int)) rfl rfl (z_conv (k' := .u8) (n / 2 ^ (8 * m)) (((((n / 2 ^ (8 * m)) % 256).toNat) : Nat) : Int) some_i64 Try.underlying5 (wrap_u8z _) rfl rfl) ?_
  simp only [nz1, nz2, nz3]
  refine lst (wanted_none rfl) (m_make (c := #[.int .u8 (((((n / 2 ^ (8 * m)) % 256).toNat) : Nat) : Int)]) (T := 5) (fun g => .slice (some ⟨g, 0, none⟩) 1 1) hm6 20 rfl (by unfold execOp; go_simp; try rfl) (fun g14 w12 (hm13 : Mm v0.ownBlock w w12 [.row v (n0 + (size - (m + 1))) (xs ++ ((putL n size).take (size - (m + 1))).map bv) 5 1, .blk g14 #[.int .u8 (((((n / 2 ^ (8 * m)) % 256).toNat) : Nat) : Int)] 5]) => ?_))
  simp only [nz1, nz2, nz3]
  obtain ⟨iq, hiq, hz1, hz2, hz3⟩ := inf_u8
  refine lst (wanted_none rfl) (m_append 0 (news := [Value.int .u8 (((((n / 2 ^ (8 * m)) % 256).toNat) : Nat) : Int)]) iq _ _ _ _ ⟨g14, 0, none⟩ hm13 rfl 21 rfl rfl Try.underlying37 hiq hz1 hz2 hz3 (by rfl) (by decide) rfl rfl rfl (hm13.at 1 rfl).news (by simp [Value.oneCell']) (by unfold maxLen; omega) (by omega) (fun v17 w15 _ (hm16 : Mm v0.ownBlock w w15 [.row v17 ((n0 + (size - (m + 1))) + 1) ((xs ++ ((putL n size).take (size - (m + 1))).map bv) ++ [Value.int .u8 (((((n / 2 ^ (8 * m)) % 256).toNat) : Nat) : Int)]) 5 1, .blk g14 #[.int .u8 (((((n / 2 ^ (8 * m)) % 256).toNat) : Nat) : Int)] 5]) => ?_))
  simp only [nz1, nz2, nz3]
  refine lv 0 (v17) rfl rfl (run_as rfl rfl) ?_
  simp only [nz1, nz2]
  refine wpList_nil ?_
  have hm18 : Mm v0.ownBlock w w15 [.row v17 (n0 + (size - m)) (xs ++ ((putL n size).take (size - m)).map bv) 5 1, .blk g14 #[.int .u8 (((((n / 2 ^ (8 * m)) % 256).toNat) : Nat) : Int)] 5] := by
    have e1 : ((n0 + (size - m)) : Nat) = ((n0 + (size - (m + 1))) + 1) := by omega
    have e2 : ((xs ++ ((putL n size).take (size - m)).map bv) : List Value) = ((xs ++ ((putL n size).take (size - (m + 1))).map bv) ++ [Value.int .u8 (((((n / 2 ^ (8 * m)) % 256).toNat) : Nat) : Int)]) := put_step xs n size m (by omega)
    rw [e1, e2]
    exact hm16
  refine blk_n ?_
  refine then_n (hK11 _ _ ?_)
  refine wp_region_lit ?_
  refine lv 12 (.int .i64 ((m : Nat) : Int)) rfl rfl (run_mv rfl rfl) ?_
  simp only [nz1, nz2, nz3]
  refine lv 13 (.int .i64 (((m : Nat) : Int) - 1)) rfl rfl (r_subZ ((m : Nat) : Int) 1 _ (by rw [IntKind.wrap_i64]; omega) rfl rfl rfl) ?_
  simp only [nz1, nz2, nz3]
  refine lv 7 (.int .i64 (((m : Nat) : Int) - 1)) rfl rfl (run_as rfl rfl) ?_
  simp only [nz1, nz2, nz3]
  refine wpList_nil ?_
  have hm19 : Mm v0.ownBlock w w15 [.row v17 (n0 + (size - m)) (xs ++ ((putL n size).take (size - m)).map bv) 5 1] := Mm.pre (m := [.blk g14 #[.int .u8 (((((n / 2 ^ (8 * m)) % 256).toNat) : Nat) : Int)] 5]) hm18
  refine then_n (hR7 _ _ _ ⟨m, v17, (fun qq => List.getD [.int .i64 ((m : Nat) : Int), .bool true, .int .i64 ((m : Nat) : Int), .int .i64 (((m : Nat) : Int) - 1), v, .int .i64 (n), .int .i64 ((m : Nat) : Int), .int .i64 (((8 * m) : Nat) : Int), .int .i64 (n / 2 ^ (8 * m)), .int .u8 (((((n / 2 ^ (8 * m)) % 256).toNat) : Nat) : Int), .slice (some ⟨g14, 0, none⟩) 1 1, v17] qq undef), rfl, (by omega), rfl, hm19⟩ ?_)
  omega
end Go.Proofs.Ytmammofbgllceaa.Nod
