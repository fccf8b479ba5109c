/- Layer 9: sums, fields. -/
import Derived.Test.YtglnifckngcpkaaDoorHdN
namespace Go.Proofs.YtglnifckngcpkaaDoor.Hd
open Go.RowKit
open Go.Proofs.YtglnifckngcpkaaDoor.Sym Go.Proofs.YtglnifckngcpkaaDoor.Mem
open Go.Proofs.YtglnifckngcpkaaDoor.Sx hiding Mm m_alloc m_store m_put m_call m_callx m_make m_append r_string r_ixS
set_option linter.unusedVariables false
attribute [local irreducible] octal_m put_m get_m
attribute [local irreducible] wpList Oper.wp

def hsum_m_b0 (s : List UInt8) (rec : Nat × Nat → Sum (Nat × Nat) (Int)) (x10 : Nat) (x11 : Nat) : Sum (Nat × Nat) (Int) :=
  if x11 < s.length then
    if 148 ≤ x11 then
      if x11 < 156 then
        rec ((x10 + 32), (x11 + 1))
      else
        rec ((x10 + (by' s x11)), (x11 + 1))
    else
      rec ((x10 + (by' s x11)), (x11 + 1))
  else
    .inl (x10, x11)
def hsum_m_l0 (s : List UInt8) : Nat → Nat × Nat → Sum (Nat × Nat) (Int)
  | 0, zz => .inl zz
  | nq + 1, zz => hsum_m_b0 s (hsum_m_l0 s nq) zz.1 zz.2

def hsum_m_k0 (s : List UInt8) (y15 : Nat) (y16 : Nat) : Int :=
  ((y15 : Nat) : Int)

def hsum_m (s : List UInt8) : Int :=
  if ¬ s.length = 512 then
    0
  else
    fin (hsum_m_l0 s ((s.length - 0) + 1) (0, 0)) (fun r => r) (fun zz => hsum_m_k0 s zz.1 zz.2)

set_option maxHeartbeats 4000000 in
set_option maxRecDepth 100000 in
theorem hsum_any (s : List UInt8) (w : World)   : Calls Tryd.prog 19 #[.string (tx s)] w (fun e w' => e = .returned (.int .i64 ((hsum_m s))) ∧ Below w.heap.size w w') := by
  go_enter Tryd.func19, Tryd.ntmps19
  have hm00 := Mm.nil none (fun _ => True) w
  have hm0 := hm00
  refine wp_seq_k (fun K1 hK1 => ?_)
  refine wp_region_lit ?_
  refine lvw 2 (.int .i64 0) rfl rfl (run_as rfl rfl) ?_
  simp only [nz1, nz2, nz3]
  refine wpList_nil ?_
  refine then_n (hK1 _ _ ?_)
  refine wp_seq_k (fun K2 hK2 => ?_)
  refine wp_seq_k (fun K3 hK3 => ?_)
  refine wp_region_lit ?_
  refine lvw 5 (.string (tx s)) rfl rfl (run_mv rfl rfl) ?_
  simp only [nz1, nz2, nz3]
  refine lvw 6 (.int .i64 ((s.length : Nat) : Int)) rfl rfl (t_len rfl Tryd.underlying9 rfl) ?_
  simp only [nz1, nz2, nz3]
  refine lvw 7 (.bool (decide (¬ s.length = 512))) rfl rfl (r_neq s.length 512 rfl rfl rfl) ?_
  simp only [nz1, nz2, nz3]
  refine wpList_nil ?_
  refine then_n (hK3 _ _ ?_)
  refine cond_d (¬ s.length = 512) rfl (fun hc4 => ?_) (fun hc4 => ?_)
  · refine wp_seq_k (fun K5 hK5 => ?_)
    refine wp_region_lit ?_
    refine lvw 2 (.int .i64 0) rfl rfl (run_as rfl rfl) ?_
    simp only [nz1, nz2, nz3]
    refine wpList_nil ?_
    refine then_n (hK5 _ _ ?_)
    refine wp_ret ?_
    refine then_r ?_
    have he6 : hsum_m s = 0 := (show hsum_m s = 0 from by unfold hsum_m; rw [if_pos hc4] <;> rfl)
    exact ⟨rfl, .int .i64 0, res_t rfl rfl, ⟨by rw [he6], hm0.below⟩⟩
  refine wp_skip ?_
  refine then_n (hK2 _ _ ?_)
  refine wp_seq_k (fun K7 hK7 => ?_)
  refine wp_region_lit ?_
  refine lvw 3 (.int .i64 0) rfl rfl (run_as rfl rfl) ?_
  simp only [nz1, nz2, nz3]
  refine wpList_nil ?_
  refine then_n (hK7 _ _ ?_)
  refine wp_seq_k (fun K8 hK8 => ?_)
  refine wp_seq_k (fun K9 hK9 => ?_)
  refine wp_region_lit ?_
  refine lvw 4 (.int .i64 0) rfl rfl (run_as rfl rfl) ?_
  simp only [nz1, nz2, nz3]
  refine wpList_nil ?_
  refine then_n (hK9 _ _ ?_)
  refine wp_cutK (fun a' w' => ∃ (y15 : Nat) (y16 : Nat) (yu0 : Nat → Value), hsum_m_l0 s ((s.length - 0) + 1) (0, 0) = .inl (y15, y16) ∧ (0 ≤ y15 ∧ y15 ≤ 256 * y16 ∧ y16 ≤ s.length) ∧ a' = ⟨#[.string (tx s), undef, .int .i64 0, .int .i64 ((y15 : Nat) : Int), .int .i64 ((y16 : Nat) : Int), .string (tx s), .int .i64 ((s.length : Nat) : Int), .bool (decide (¬ s.length = 512)), yu0 0, yu0 1, yu0 2, yu0 3, yu0 4, yu0 5, yu0 6, yu0 7, yu0 8, yu0 9, yu0 10, yu0 11, yu0 12, yu0 13, yu0 14, yu0 15, yu0 16, yu0 17, yu0 18, yu0 19, undef], []⟩ ∧ Mm none (fun _ => True) w w' []) ?_ ?_
  · refine wp_block ?_
    refine wp_loop_n (fun n' a' w' => ∃ (n12 : Nat) (x10 : Nat) (x11 : Nat) (u0 : Nat → Value), n' = n12 ∧ (s.length - x11) < n12 ∧ hsum_m_l0 s ((s.length - 0) + 1) (0, 0) = hsum_m_l0 s n12 (x10, x11) ∧ (0 ≤ x10 ∧ x10 ≤ 256 * x11 ∧ x11 ≤ s.length) ∧ a' = ⟨#[.string (tx s), undef, .int .i64 0, .int .i64 ((x10 : Nat) : Int), .int .i64 ((x11 : Nat) : Int), .string (tx s), .int .i64 ((s.length : Nat) : Int), .bool (decide (¬ s.length = 512)), u0 0, u0 1, u0 2, u0 3, u0 4, u0 5, u0 6, u0 7, u0 8, u0 9, u0 10, u0 11, u0 12, u0 13, u0 14, u0 15, u0 16, u0 17, u0 18, u0 19, undef], []⟩ ∧ Mm none (fun _ => True) w w' []) ⟨((s.length - 0) + 1), 0, 0, (fun qq => List.getD [undef, undef, undef, undef, undef, undef, undef, undef, undef, undef, undef, undef, undef, undef, undef, undef, undef, undef, undef, undef] qq undef), rfl, Nat.lt_succ_self _, rfl, (by first | omega | (simp; done) | (simp; omega) | (simp at *; omega)), rfl, hm0⟩ ?_
    rintro n12 _ w18 ⟨_, x10, x11, u0, rfl, hl22, hi14, hsu, rfl, hm19⟩ R20 hR20
    obtain ⟨k13, rfl⟩ : ∃ k, n12 = k + 1 := ⟨n12 - 1, by omega⟩
    refine wp_seq_k (fun K23 hK23 => ?_)
    refine wp_seq_k (fun K24 hK24 => ?_)
    refine wp_region_lit ?_
    refine lvw 8 (.int .i64 ((x11 : Nat) : Int)) rfl rfl (run_mv rfl rfl) ?_
    simp only [nz1, nz2, nz3]
    refine lvw 9 (.string (tx s)) rfl rfl (run_mv rfl rfl) ?_
    simp only [nz1, nz2, nz3]
    refine lvw 10 (.int .i64 ((s.length : Nat) : Int)) rfl rfl (t_len rfl Tryd.underlying9 rfl) ?_
    simp only [nz1, nz2, nz3]
    refine lvw 11 (.bool (decide (x11 < s.length))) rfl rfl (r_lss x11 s.length rfl rfl rfl) ?_
    simp only [nz1, nz2, nz3]
    refine wpList_nil ?_
    refine then_n (hK24 _ _ ?_)
    refine cond_d (x11 < s.length) rfl (fun hc25 => ?_) (fun hc25 => ?_)
    rotate_left
    · refine wp_exit ?_
      refine then_x ?_
      refine then_x ?_
      refine blk_x ?_
      refine then_n ?_
      exact ⟨x10, x11, (fun qq => List.getD [.int .i64 ((x11 : Nat) : Int), .string (tx s), .int .i64 ((s.length : Nat) : Int), .bool (decide (x11 < s.length)), u0 4, u0 5, u0 6, u0 7, u0 8, u0 9, u0 10, u0 11, u0 12, u0 13, u0 14, u0 15, u0 16, u0 17, u0 18, u0 19] qq undef), (hi14.trans (show hsum_m_b0 s (hsum_m_l0 s k13) x10 x11 = .inl (x10, x11) from by unfold hsum_m_b0; rw [if_neg hc25] <;> rfl)), (by first | omega | (simp; done) | (simp; omega) | (simp at *; omega)), rfl, hm19⟩
    refine wp_skip ?_
    refine then_n (hK23 _ _ ?_)
    refine wp_seq_k (fun K26 hK26 => ?_)
    refine wp_block ?_
    refine wp_seq_k (fun K27 hK27 => ?_)
    refine wp_region_lit ?_
    refine lvw 14 (.int .i64 ((x11 : Nat) : Int)) rfl rfl (run_mv rfl rfl) ?_
    simp only [nz1, nz2, nz3]
    refine lvb 15 (148 ≤ x11) rfl rfl (r_geq x11 148 rfl rfl rfl) (fun hs28 => ?_) (fun hs28 => ?_)
    rotate_left
    · simp only [nz1, nz2, nz3]
      refine lvw 16 (.bool false) rfl rfl (run_mv rfl rfl) ?_
      simp only [nz1, nz2, nz3]
      refine lst_skip 17 rfl rfl ?_
      simp only [nz1, nz2, nz3]
      refine lst_skip 18 rfl rfl ?_
      simp only [nz1, nz2, nz3]
      refine lvw 19 (.bool false) rfl rfl (run_pickf rfl rfl rfl) ?_
      simp only [nz1, nz2, nz3]
      refine wpList_nil ?_
      refine then_n (hK27 _ _ ?_)
      refine cond_f rfl ?_
      refine wp_region_lit ?_
      refine lvw 22 (.int .i64 ((x10 : Nat) : Int)) rfl rfl (run_mv rfl rfl) ?_
      simp only [nz1, nz2, nz3]
      refine lvw 23 (.string (tx s)) rfl rfl (run_mv rfl rfl) ?_
      simp only [nz1, nz2, nz3]
      refine lvw 24 (.int .i64 ((x11 : Nat) : Int)) rfl rfl (run_mv rfl rfl) ?_
      simp only [nz1, nz2, nz3]
      refine lvw 25 (.int .u8 ((by' s x11 : Nat) : Int)) rfl rfl (t_char s x11 (by omega) Tryd.underlying9 rfl rfl rfl) ?_
      simp only [nz1, nz2, nz3]
      refine lvw 26 (.int .i64 ((by' s x11 : Nat) : Int)) rfl rfl (r_conv (k' := .i64) (by' s x11) (by' s x11) some_5 Tryd.underlying3 (wrap_nat (by have := by_lt s x11; show _ < 9223372036854775808; omega)) rfl rfl) ?_
      simp only [nz1, nz2, nz3]
      refine lvw 27 (.int .i64 (((x10 + (by' s x11)) : Nat) : Int)) rfl rfl (r_add x10 (by' s x11) (by have hq := by_lt s x11; show _ < 9223372036854775808; omega) rfl rfl rfl) ?_
      simp only [nz1, nz2, nz3]
      refine lvw 3 (.int .i64 (((x10 + (by' s x11)) : Nat) : Int)) rfl rfl (run_as rfl rfl) ?_
      simp only [nz1, nz2, nz3]
      refine wpList_nil ?_
      refine blk_n ?_
      refine then_n (hK26 _ _ ?_)
      refine wp_region_lit ?_
      refine lvw 12 (.int .i64 ((x11 : Nat) : Int)) rfl rfl (run_mv rfl rfl) ?_
      simp only [nz1, nz2, nz3]
      refine lvw 13 (.int .i64 (((x11 + 1) : Nat) : Int)) rfl rfl (r_add x11 1 (show (x11 + 1) < 9223372036854775808 from by omega) rfl rfl rfl) ?_
      simp only [nz1, nz2, nz3]
      refine lvw 4 (.int .i64 (((x11 + 1) : Nat) : Int)) rfl rfl (run_as rfl rfl) ?_
      simp only [nz1, nz2, nz3]
      refine wpList_nil ?_
      refine then_n (hR20 _ _ _ ⟨k13, (x10 + (by' s x11)), (x11 + 1), (fun qq => List.getD [.int .i64 ((x11 : Nat) : Int), .string (tx s), .int .i64 ((s.length : Nat) : Int), .bool (decide (x11 < s.length)), .int .i64 ((x11 : Nat) : Int), .int .i64 (((x11 + 1) : Nat) : Int), .int .i64 ((x11 : Nat) : Int), .bool false, .bool false, undef, undef, .bool false, u0 12, u0 13, .int .i64 ((x10 : Nat) : Int), .string (tx s), .int .i64 ((x11 : Nat) : Int), .int .u8 ((by' s x11 : Nat) : Int), .int .i64 ((by' s x11 : Nat) : Int), .int .i64 (((x10 + (by' s x11)) : Nat) : Int)] qq undef), rfl, (by first | omega | (simp; omega) | (simp at *; omega)), (hi14.trans (show hsum_m_b0 s (hsum_m_l0 s k13) x10 x11 = hsum_m_l0 s k13 ((x10 + (by' s x11)), (x11 + 1)) from by unfold hsum_m_b0; rw [if_pos hc25, if_neg hs28] <;> rfl)), (by have hq := by_lt s x11; omega), rfl, hm19⟩ ?_)
      omega
    simp only [nz1, nz2, nz3]
    refine lvw 16 (.bool true) rfl rfl (run_mv rfl rfl) ?_
    simp only [nz1, nz2, nz3]
    refine lvw 17 (.int .i64 ((x11 : Nat) : Int)) rfl rfl (run_mv rfl rfl) ?_
    simp only [nz1, nz2, nz3]
    refine lvw 18 (.bool (decide (x11 < 156))) rfl rfl (r_lss x11 156 rfl rfl rfl) ?_
    simp only [nz1, nz2, nz3]
    refine lvw 19 (.bool (decide (x11 < 156))) rfl rfl (run_pick rfl rfl rfl) ?_
    simp only [nz1, nz2, nz3]
    refine wpList_nil ?_
    refine then_n (hK27 _ _ ?_)
    refine cond_d (x11 < 156) rfl (fun hc29 => ?_) (fun hc29 => ?_)
    · refine wp_region_lit ?_
      refine lvw 20 (.int .i64 ((x10 : Nat) : Int)) rfl rfl (run_mv rfl rfl) ?_
      simp only [nz1, nz2, nz3]
      refine lvw 21 (.int .i64 (((x10 + 32) : Nat) : Int)) rfl rfl (r_add x10 32 (show (x10 + 32) < 9223372036854775808 from by omega) rfl rfl rfl) ?_
      simp only [nz1, nz2, nz3]
      refine lvw 3 (.int .i64 (((x10 + 32) : Nat) : Int)) rfl rfl (run_as rfl rfl) ?_
      simp only [nz1, nz2, nz3]
      refine wpList_nil ?_
      refine blk_n ?_
      refine then_n (hK26 _ _ ?_)
      refine wp_region_lit ?_
      refine lvw 12 (.int .i64 ((x11 : Nat) : Int)) rfl rfl (run_mv rfl rfl) ?_
      simp only [nz1, nz2, nz3]
      refine lvw 13 (.int .i64 (((x11 + 1) : Nat) : Int)) rfl rfl (r_add x11 1 (show (x11 + 1) < 9223372036854775808 from by omega) rfl rfl rfl) ?_
      simp only [nz1, nz2, nz3]
      refine lvw 4 (.int .i64 (((x11 + 1) : Nat) : Int)) rfl rfl (run_as rfl rfl) ?_
      simp only [nz1, nz2, nz3]
      refine wpList_nil ?_
      refine then_n (hR20 _ _ _ ⟨k13, (x10 + 32), (x11 + 1), (fun qq => List.getD [.int .i64 ((x11 : Nat) : Int), .string (tx s), .int .i64 ((s.length : Nat) : Int), .bool (decide (x11 < s.length)), .int .i64 ((x11 : Nat) : Int), .int .i64 (((x11 + 1) : Nat) : Int), .int .i64 ((x11 : Nat) : Int), .bool true, .bool true, .int .i64 ((x11 : Nat) : Int), .bool (decide (x11 < 156)), .bool (decide (x11 < 156)), .int .i64 ((x10 : Nat) : Int), .int .i64 (((x10 + 32) : Nat) : Int), u0 14, u0 15, u0 16, u0 17, u0 18, u0 19] qq undef), rfl, (by first | omega | (simp; omega) | (simp at *; omega)), (hi14.trans (show hsum_m_b0 s (hsum_m_l0 s k13) x10 x11 = hsum_m_l0 s k13 ((x10 + 32), (x11 + 1)) from by unfold hsum_m_b0; rw [if_pos hc25, if_pos hs28, if_pos hc29] <;> rfl)), (by have hq := by_lt s x11; omega), rfl, hm19⟩ ?_)
      omega
    refine wp_region_lit ?_
    refine lvw 22 (.int .i64 ((x10 : Nat) : Int)) rfl rfl (run_mv rfl rfl) ?_
    simp only [nz1, nz2, nz3]
    refine lvw 23 (.string (tx s)) rfl rfl (run_mv rfl rfl) ?_
    simp only [nz1, nz2, nz3]
    refine lvw 24 (.int .i64 ((x11 : Nat) : Int)) rfl rfl (run_mv rfl rfl) ?_
    simp only [nz1, nz2, nz3]
    refine lvw 25 (.int .u8 ((by' s x11 : Nat) : Int)) rfl rfl (t_char s x11 (by omega) Tryd.underlying9 rfl rfl rfl) ?_
    simp only [nz1, nz2, nz3]
    refine lvw 26 (.int .i64 ((by' s x11 : Nat) : Int)) rfl rfl (r_conv (k' := .i64) (by' s x11) (by' s x11) some_5 Tryd.underlying3 (wrap_nat (by have := by_lt s x11; show _ < 9223372036854775808; omega)) rfl rfl) ?_
    simp only [nz1, nz2, nz3]
    refine lvw 27 (.int .i64 (((x10 + (by' s x11)) : Nat) : Int)) rfl rfl (r_add x10 (by' s x11) (by have hq := by_lt s x11; show _ < 9223372036854775808; omega) rfl rfl rfl) ?_
    simp only [nz1, nz2, nz3]
    refine lvw 3 (.int .i64 (((x10 + (by' s x11)) : Nat) : Int)) rfl rfl (run_as rfl rfl) ?_
    simp only [nz1, nz2, nz3]
    refine wpList_nil ?_
    refine blk_n ?_
    refine then_n (hK26 _ _ ?_)
    refine wp_region_lit ?_
    refine lvw 12 (.int .i64 ((x11 : Nat) : Int)) rfl rfl (run_mv rfl rfl) ?_
    simp only [nz1, nz2, nz3]
    refine lvw 13 (.int .i64 (((x11 + 1) : Nat) : Int)) rfl rfl (r_add x11 1 (show (x11 + 1) < 9223372036854775808 from by omega) rfl rfl rfl) ?_
    simp only [nz1, nz2, nz3]
    refine lvw 4 (.int .i64 (((x11 + 1) : Nat) : Int)) rfl rfl (run_as rfl rfl) ?_
    simp only [nz1, nz2, nz3]
    refine wpList_nil ?_
    refine then_n (hR20 _ _ _ ⟨k13, (x10 + (by' s x11)), (x11 + 1), (fun qq => List.getD [.int .i64 ((x11 : Nat) : Int), .string (tx s), .int .i64 ((s.length : Nat) : Int), .bool (decide (x11 < s.length)), .int .i64 ((x11 : Nat) : Int), .int .i64 (((x11 + 1) : Nat) : Int), .int .i64 ((x11 : Nat) : Int), .bool true, .bool true, .int .i64 ((x11 : Nat) : Int), .bool (decide (x11 < 156)), .bool (decide (x11 < 156)), u0 12, u0 13, .int .i64 ((x10 : Nat) : Int), .string (tx s), .int .i64 ((x11 : Nat) : Int), .int .u8 ((by' s x11 : Nat) : Int), .int .i64 ((by' s x11 : Nat) : Int), .int .i64 (((x10 + (by' s x11)) : Nat) : Int)] qq undef), rfl, (by first | omega | (simp; omega) | (simp at *; omega)), (hi14.trans (show hsum_m_b0 s (hsum_m_l0 s k13) x10 x11 = hsum_m_l0 s k13 ((x10 + (by' s x11)), (x11 + 1)) from by unfold hsum_m_b0; rw [if_pos hc25, if_pos hs28, if_neg hc29] <;> rfl)), (by have hq := by_lt s x11; omega), rfl, hm19⟩ ?_)
    omega
  rintro _ w30 ⟨y15, y16, yu0, hx17, hsu, rfl, hm31⟩
  have hq32 : hsum_m s = hsum_m_k0 s y15 y16 := (show hsum_m s = hsum_m_k0 s y15 y16 from by unfold hsum_m; rw [if_neg hc4, hx17] <;> rfl)
  refine then_n (hK8 _ _ ?_)
  refine wp_seq_k (fun K33 hK33 => ?_)
  refine wp_region_lit ?_
  refine lvw 28 (.int .i64 ((y15 : Nat) : Int)) rfl rfl (run_mv rfl rfl) ?_
  simp only [nz1, nz2, nz3]
  refine lvw 2 (.int .i64 ((y15 : Nat) : Int)) rfl rfl (run_as rfl rfl) ?_
  simp only [nz1, nz2, nz3]
  refine wpList_nil ?_
  refine then_n (hK33 _ _ ?_)
  refine wp_ret ?_
  have he34 : hsum_m s = ((y15 : Nat) : Int) := (hq32.trans (show hsum_m_k0 s y15 y16 = ((y15 : Nat) : Int) from by unfold hsum_m_k0; rfl))
  exact ⟨rfl, .int .i64 ((y15 : Nat) : Int), res_t rfl rfl, ⟨by rw [he34], hm31.below⟩⟩
theorem run_hsum {o : Oper} {a : Act} {w : World} {x0 : Operand} {v0 : Value} (ho : o.op = .call { callee := .value (.func 19), args := #[x0], argTypes := #[9] }) (h0 : a.eval x0 = v0) :
    (execOp a.eval o).run Tryd.prog w = .ok (.enter 19 #[v0]) w := by
  unfold execOp
  simp only [ho]
  have hf : a.eval (.func 19) = .func (.func 19) #[] #[] := rfl
  generalize a.eval = f at *
  go_simp
def fits_m (s : List UInt8) (size : Int) : Bool :=
  if ((s.length : Nat) : Int) ≤ size then
    (decide ((ib_m s 0) < 0))
  else
    false

set_option maxHeartbeats 4000000 in
set_option maxRecDepth 100000 in
theorem fits_any (s : List UInt8) (size : Int) (w : World)   : Calls Tryd.prog 34 #[.string (tx s), .int .i64 (size)] w (fun e w' => e = .returned (.bool ((fits_m s size))) ∧ Below w.heap.size w w') := by
  go_enter Tryd.func34, Tryd.ntmps34
  have hm00 := Mm.nil none (fun _ => True) w
  have hm0 := hm00
  refine wp_seq_k (fun K1 hK1 => ?_)
  refine wp_region_lit ?_
  refine lvw 4 (.bool false) rfl rfl (run_as rfl rfl) ?_
  simp only [nz1, nz2, nz3]
  refine wpList_nil ?_
  refine then_n (hK1 _ _ ?_)
  refine wp_seq_k (fun K2 hK2 => ?_)
  refine wp_region_lit ?_
  refine lvw 5 (.string (tx s)) rfl rfl (run_mv rfl rfl) ?_
  simp only [nz1, nz2, nz3]
  refine lvw 6 (.int .i64 ((s.length : Nat) : Int)) rfl rfl (t_len rfl Tryd.underlying9 rfl) ?_
  simp only [nz1, nz2, nz3]
  refine lvw 7 (.int .i64 (size)) rfl rfl (run_mv rfl rfl) ?_
  simp only [nz1, nz2, nz3]
  refine lvb 8 (((s.length : Nat) : Int) ≤ size) rfl rfl (z_leq ((s.length : Nat) : Int) size rfl rfl rfl) (fun hs3 => ?_) (fun hs3 => ?_)
  · simp only [nz1, nz2, nz3]
    refine lvw 9 (.bool true) rfl rfl (run_mv rfl rfl) ?_
    simp only [nz1, nz2, nz3]
    refine lvw 10 (.string (tx s)) rfl rfl (run_mv rfl rfl) ?_
    simp only [nz1, nz2, nz3]
    refine lst rfl (m_call hm0 11 (.int .i64 ((ib_m s 0))) rfl (run_ib rfl rfl rfl) (ib_any s 0  _  ) (fun w4 (hm5 : Mm none (fun _ => True) w w4 []) => ?_))
    simp only [nz1, nz2, nz3]
    refine lvw 12 (.bool (decide ((ib_m s 0) < 0))) rfl rfl (z_lss (ib_m s 0) 0 rfl rfl rfl) ?_
    simp only [nz1, nz2, nz3]
    refine lvw 13 (.bool (decide ((ib_m s 0) < 0))) rfl rfl (run_pick rfl rfl rfl) ?_
    simp only [nz1, nz2, nz3]
    refine lvw 4 (.bool (decide ((ib_m s 0) < 0))) rfl rfl (run_as rfl rfl) ?_
    simp only [nz1, nz2, nz3]
    refine wpList_nil ?_
    refine then_n (hK2 _ _ ?_)
    refine wp_ret ?_
    have he6 : fits_m s size = (decide ((ib_m s 0) < 0)) := (show fits_m s size = (decide ((ib_m s 0) < 0)) from by unfold fits_m; rw [if_pos hs3] <;> rfl)
    exact ⟨rfl, .bool (decide ((ib_m s 0) < 0)), res_t rfl rfl, ⟨by rw [he6], hm5.below⟩⟩
  simp only [nz1, nz2, nz3]
  refine lvw 9 (.bool false) rfl rfl (run_mv rfl rfl) ?_
  simp only [nz1, nz2, nz3]
  refine lst_skip 10 rfl rfl ?_
  simp only [nz1, nz2, nz3]
  refine lst_skip 11 rfl rfl ?_
  simp only [nz1, nz2, nz3]
  refine lst_skip 12 rfl rfl ?_
  simp only [nz1, nz2, nz3]
  refine lvw 13 (.bool false) rfl rfl (run_pickf rfl rfl rfl) ?_
  simp only [nz1, nz2, nz3]
  refine lvw 4 (.bool false) rfl rfl (run_as rfl rfl) ?_
  simp only [nz1, nz2, nz3]
  refine wpList_nil ?_
  refine then_n (hK2 _ _ ?_)
  refine wp_ret ?_
  have he7 : fits_m s size = false := (show fits_m s size = false from by unfold fits_m; rw [if_neg hs3] <;> rfl)
  exact ⟨rfl, .bool false, res_t rfl rfl, ⟨by rw [he7], hm0.below⟩⟩
theorem run_fits {o : Oper} {a : Act} {w : World} {x0 x1 : Operand} {v0 v1 : Value} (ho : o.op = .call { callee := .value (.func 34), args := #[x0, x1], argTypes := #[9, 3] }) (h0 : a.eval x0 = v0) (h1 : a.eval x1 = v1) :
    (execOp a.eval o).run Tryd.prog w = .ok (.enter 34 #[v0, v1]) w := by
  unfold execOp
  simp only [ho]
  have hf : a.eval (.func 34) = .func (.func 34) #[] #[] := rfl
  generalize a.eval = f at *
  go_simp
def fill_m (s : List UInt8) (size : Int) : (List UInt8) :=
  (s ++ (rep_m ([0]) (size - ((s.length : Nat) : Int))))

set_option maxHeartbeats 4000000 in
set_option maxRecDepth 100000 in
theorem fill_any (s : List UInt8) (size : Int) (w : World)  (hp0 : ((s.length : Nat) : Int) ≤ size) (hp1 : size ≤ 1048576) : Calls Tryd.prog 35 #[.string (tx s), .int .i64 (size)] w (fun e w' => e = .returned (.string (tx (fill_m s size))) ∧ Below w.heap.size w w') := by
  go_enter Tryd.func35, Tryd.ntmps35
  have hm00 := Mm.nil none (fun _ => True) w
  have hm0 := hm00
  refine wp_seq_k (fun K1 hK1 => ?_)
  refine wp_region_lit ?_
  refine lvw 4 (.string (tx ([]))) rfl rfl (run_as rfl rfl) ?_
  simp only [nz1, nz2, nz3]
  refine wpList_nil ?_
  refine then_n (hK1 _ _ ?_)
  refine wp_seq_k (fun K2 hK2 => ?_)
  refine wp_region_lit ?_
  refine lvw 5 (.string (tx s)) rfl rfl (run_mv rfl rfl) ?_
  simp only [nz1, nz2, nz3]
  refine lvw 6 (.int .i64 (size)) rfl rfl (run_mv rfl rfl) ?_
  simp only [nz1, nz2, nz3]
  refine lvw 7 (.string (tx s)) rfl rfl (run_mv rfl rfl) ?_
  simp only [nz1, nz2, nz3]
  refine lvw 8 (.int .i64 ((s.length : Nat) : Int)) rfl rfl (t_len rfl Tryd.underlying9 rfl) ?_
  simp only [nz1, nz2, nz3]
  refine lvw 9 (.int .i64 ((size - ((s.length : Nat) : Int)))) rfl rfl (z_sub size ((s.length : Nat) : Int) _ (by rw [IntKind.wrap_i64]; omega) rfl rfl rfl) ?_
  simp only [nz1, nz2, nz3]
  refine lst rfl (m_call hm0 10 (.string (tx (rep_m ([0]) (size - ((s.length : Nat) : Int))))) rfl (run_rep rfl rfl rfl) (rep_any ([0]) (size - ((s.length : Nat) : Int))  _  (by first | omega | assumption | rfl | (simp; done) | (simp; omega) | (simp only [List.length_append, List.length_cons, List.length_nil]; omega) | (simp only [List.length_append, List.length_cons, List.length_nil] at *; omega) | decide) (by first | omega | assumption | rfl | (simp; done) | (simp; omega) | (simp only [List.length_append, List.length_cons, List.length_nil]; omega) | (simp only [List.length_append, List.length_cons, List.length_nil] at *; omega) | decide) (by first | omega | assumption | rfl | (simp; done) | (simp; omega) | (simp only [List.length_append, List.length_cons, List.length_nil]; omega) | (simp only [List.length_append, List.length_cons, List.length_nil] at *; omega) | decide)) (fun w3 (hm4 : Mm none (fun _ => True) w w3 []) => ?_))
  have hf5 : (((rep_m ([0]) (size - ((s.length : Nat) : Int))).length : Nat) : Int) = (size - ((s.length : Nat) : Int)) := rep_len ([0]) (size - ((s.length : Nat) : Int)) (by omega)
  simp only [nz1, nz2, nz3]
  refine lvw 11 (.string (tx (s ++ (rep_m ([0]) (size - ((s.length : Nat) : Int)))))) rfl rfl (t_cat s (rep_m ([0]) (size - ((s.length : Nat) : Int))) (by first | omega | (simp; omega)) rfl rfl rfl) ?_
  simp only [nz1, nz2, nz3]
  refine lvw 4 (.string (tx (s ++ (rep_m ([0]) (size - ((s.length : Nat) : Int)))))) rfl rfl (run_as rfl rfl) ?_
  simp only [nz1, nz2, nz3]
  refine wpList_nil ?_
  refine then_n (hK2 _ _ ?_)
  refine wp_ret ?_
  have he6 : fill_m s size = (s ++ (rep_m ([0]) (size - ((s.length : Nat) : Int)))) := (show fill_m s size = (s ++ (rep_m ([0]) (size - ((s.length : Nat) : Int)))) from by unfold fill_m; rfl)
  exact ⟨rfl, .string (tx (s ++ (rep_m ([0]) (size - ((s.length : Nat) : Int))))), res_t rfl rfl, ⟨by rw [he6], hm4.below⟩⟩
theorem run_fill {o : Oper} {a : Act} {w : World} {x0 x1 : Operand} {v0 v1 : Value} (ho : o.op = .call { callee := .value (.func 35), args := #[x0, x1], argTypes := #[9, 3] }) (h0 : a.eval x0 = v0) (h1 : a.eval x1 = v1) :
    (execOp a.eval o).run Tryd.prog w = .ok (.enter 35 #[v0, v1]) w := by
  unfold execOp
  simp only [ho]
  have hf : a.eval (.func 35) = .func (.func 35) #[] #[] := rfl
  generalize a.eval = f at *
  go_simp
theorem fits_is (s : List UInt8) (n : Int) : fits_m s n = decide (((s.length : Nat) : Int) ≤ n ∧ ib_m s 0 < 0) := by
  unfold fits_m
  by_cases h : ((s.length : Nat) : Int) ≤ n
  · rw [if_pos h]; exact decide_eq_decide.2 ⟨fun h2 => ⟨h, h2⟩, fun h2 => h2.2⟩
  · rw [if_neg h]; exact (decide_eq_false (fun h2 => h h2.1)).symm
theorem fitsd_any (s : List UInt8) (n : Int) (w : World) : Calls Tryd.prog 34 #[.string (tx s), .int .i64 n] w (fun e w' => e = .returned (.bool (decide (((s.length : Nat) : Int) ≤ n ∧ ib_m s 0 < 0))) ∧ Below w.heap.size w w') := by
  rw [← fits_is]
  exact fits_any s n w
theorem fill_len (s : List UInt8) (n : Int) (h : ((s.length : Nat) : Int) ≤ n) : (((fill_m s n).length : Nat) : Int) = n := by
  unfold fill_m
  have := rep_len [0] (n - ((s.length : Nat) : Int)) (by omega)
  rw [List.length_append]
  omega
def blank_m (s : List UInt8) : Bool :=
  (decide (s = (fill_m ([]) 512)))

set_option maxHeartbeats 4000000 in
set_option maxRecDepth 100000 in
theorem blank_any (s : List UInt8) (w : World)   : Calls Tryd.prog 21 #[.string (tx s)] w (fun e w' => e = .returned (.bool ((blank_m s))) ∧ Below w.heap.size w w') := by
  go_enter Tryd.func21, Tryd.ntmps21
  have hm00 := Mm.nil none (fun _ => True) w
  have hm0 := hm00
  refine wp_seq_k (fun K1 hK1 => ?_)
  refine wp_region_lit ?_
  refine lvw 2 (.bool false) rfl rfl (run_as rfl rfl) ?_
  simp only [nz1, nz2, nz3]
  refine wpList_nil ?_
  refine then_n (hK1 _ _ ?_)
  refine wp_seq_k (fun K2 hK2 => ?_)
  refine wp_region_lit ?_
  refine lvw 3 (.string (tx s)) rfl rfl (run_mv rfl rfl) ?_
  simp only [nz1, nz2, nz3]
  refine lst rfl (m_call hm0 4 (.string (tx (fill_m ([]) 512))) rfl (run_fill rfl rfl rfl) (fill_any ([]) 512  _  (by first | omega | assumption | (simp; done) | (simp; omega) | (simp only [List.length_append, List.length_cons, List.length_nil]; omega) | (simp only [List.length_append, List.length_cons, List.length_nil] at *; omega) | decide) (by first | omega | assumption | (simp; done) | (simp; omega) | (simp only [List.length_append, List.length_cons, List.length_nil]; omega) | (simp only [List.length_append, List.length_cons, List.length_nil] at *; omega) | decide)) (fun w3 (hm4 : Mm none (fun _ => True) w w3 []) => ?_))
  have hf5 : (((fill_m ([]) 512).length : Nat) : Int) = 512 := fill_len ([]) 512 (by first | omega | (simp; done) | (simp; omega))
  simp only [nz1, nz2, nz3]
  refine lvw 5 (.bool (decide (s = (fill_m ([]) 512)))) rfl rfl (t_eql s (fill_m ([]) 512) rfl rfl rfl) ?_
  simp only [nz1, nz2, nz3]
  refine lvw 2 (.bool (decide (s = (fill_m ([]) 512)))) rfl rfl (run_as rfl rfl) ?_
  simp only [nz1, nz2, nz3]
  refine wpList_nil ?_
  refine then_n (hK2 _ _ ?_)
  refine wp_ret ?_
  have he6 : blank_m s = (decide (s = (fill_m ([]) 512))) := (show blank_m s = (decide (s = (fill_m ([]) 512))) from by unfold blank_m; rfl)
  exact ⟨rfl, .bool (decide (s = (fill_m ([]) 512))), res_t rfl rfl, ⟨by rw [he6], hm4.below⟩⟩
theorem run_blank {o : Oper} {a : Act} {w : World} {x0 : Operand} {v0 : Value} (ho : o.op = .call { callee := .value (.func 21), args := #[x0], argTypes := #[9] }) (h0 : a.eval x0 = v0) :
    (execOp a.eval o).run Tryd.prog w = .ok (.enter 21 #[v0]) w := by
  unfold execOp
  simp only [ho]
  have hf : a.eval (.func 21) = .func (.func 21) #[] #[] := rfl
  generalize a.eval = f at *
  go_simp
def hcut_m (s : List UInt8) : (List UInt8) :=
  ((cut_m s ([0])).1)

set_option maxHeartbeats 4000000 in
set_option maxRecDepth 100000 in
theorem hcut_any (s : List UInt8) (w : World)  (hT : Laid w) (hp0 : s.length ≤ 1048576) : Calls Tryd.prog 42 #[.string (tx s)] w (fun e w' => e = .returned (.string (tx (hcut_m s))) ∧ Below w.heap.size w w') := by
  go_enter Tryd.func42, Tryd.ntmps42
  have hm00 := Mm.nil none (fun _ => True) w
  have hm0 := hm00
  refine wp_seq_k (fun K1 hK1 => ?_)
  refine wp_region_lit ?_
  refine lvw 2 (.string (tx ([]))) rfl rfl (run_as rfl rfl) ?_
  simp only [nz1, nz2, nz3]
  refine wpList_nil ?_
  refine then_n (hK1 _ _ ?_)
  refine wp_seq_k (fun K2 hK2 => ?_)
  refine wp_region_lit ?_
  refine lvw 7 (.string (tx s)) rfl rfl (run_mv rfl rfl) ?_
  simp only [nz1, nz2, nz3]
  refine lst rfl (m_call hm0 8 (.tuple #[.string (tx ((cut_m s ([0])).1)), .string (tx ((cut_m s ([0])).2.1)), .bool ((cut_m s ([0])).2.2)]) rfl (run_cut rfl rfl rfl) (cut_any s ([0])  _  (Laid.below hT hm0.below) (by first | omega | assumption | (simp; done) | (simp; omega) | (simp only [List.length_append, List.length_cons, List.length_nil]; omega) | (simp only [List.length_append, List.length_cons, List.length_nil] at *; omega) | decide)) (fun w3 (hm4 : Mm none (fun _ => True) w w3 []) => ?_))
  simp only [nz1, nz2, nz3]
  refine lvw 6 (.tuple #[.string (tx ((cut_m s ([0])).1)), .string (tx ((cut_m s ([0])).2.1)), .bool ((cut_m s ([0])).2.2)]) rfl rfl (run_mv rfl rfl) ?_
  simp only [nz1, nz2, nz3]
  refine lvw 9 (.string (tx ((cut_m s ([0])).1))) rfl rfl (run_ex rfl rfl rfl) ?_
  simp only [nz1, nz2, nz3]
  refine lvw 10 (.string (tx ((cut_m s ([0])).2.1))) rfl rfl (run_ex rfl rfl rfl) ?_
  simp only [nz1, nz2, nz3]
  refine lvw 11 (.bool ((cut_m s ([0])).2.2)) rfl rfl (run_ex rfl rfl rfl) ?_
  simp only [nz1, nz2, nz3]
  refine lvw 3 (.string (tx ((cut_m s ([0])).1))) rfl rfl (run_as rfl rfl) ?_
  simp only [nz1, nz2, nz3]
  refine lvw 4 (.string (tx ((cut_m s ([0])).2.1))) rfl rfl (run_as rfl rfl) ?_
  simp only [nz1, nz2, nz3]
  refine lvw 5 (.bool ((cut_m s ([0])).2.2)) rfl rfl (run_as rfl rfl) ?_
  simp only [nz1, nz2, nz3]
  refine wpList_nil ?_
  refine then_n (hK2 _ _ ?_)
  refine wp_seq_k (fun K5 hK5 => ?_)
  refine wp_region_lit ?_
  refine lvw 12 (.string (tx ((cut_m s ([0])).1))) rfl rfl (run_mv rfl rfl) ?_
  simp only [nz1, nz2, nz3]
  refine lvw 2 (.string (tx ((cut_m s ([0])).1))) rfl rfl (run_as rfl rfl) ?_
  simp only [nz1, nz2, nz3]
  refine wpList_nil ?_
  refine then_n (hK5 _ _ ?_)
  refine wp_ret ?_
  have he6 : hcut_m s = ((cut_m s ([0])).1) := (show hcut_m s = ((cut_m s ([0])).1) from by unfold hcut_m; rfl)
  exact ⟨rfl, .string (tx ((cut_m s ([0])).1)), res_t rfl rfl, ⟨by rw [he6], hm4.below⟩⟩
theorem run_hcut {o : Oper} {a : Act} {w : World} {x0 : Operand} {v0 : Value} (ho : o.op = .call { callee := .value (.func 42), args := #[x0], argTypes := #[9] }) (h0 : a.eval x0 = v0) :
    (execOp a.eval o).run Tryd.prog w = .ok (.enter 42 #[v0]) w := by
  unfold execOp
  simp only [ho]
  have hf : a.eval (.func 42) = .func (.func 42) #[] #[] := rfl
  generalize a.eval = f at *
  go_simp
end Go.Proofs.YtglnifckngcpkaaDoor.Hd
