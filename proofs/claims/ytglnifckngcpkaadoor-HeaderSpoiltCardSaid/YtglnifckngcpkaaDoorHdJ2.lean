/- Layer 9: a sum as the document says. -/
import Derived.Test.YtglnifckngcpkaaDoorHdK
namespace Go.Proofs.YtglnifckngcpkaaDoor.Hd
open Go.RowKit
open Go.Proofs.YtglnifckngcpkaaDoor.Sym Go.Proofs.YtglnifckngcpkaaDoor.Mem
open Go.Proofs.YtglnifckngcpkaaDoor.Sx hiding Mm m_alloc m_store m_put m_call m_callx m_make m_append r_string r_ixS
set_option linter.unusedVariables false
attribute [local irreducible] wpList Oper.wp

def rsum_m_b0 (s : List UInt8) (rec : Nat × Nat → Sum (Nat × Nat) (Int)) (x5 : Nat) (x6 : Nat) : Sum (Nat × Nat) (Int) :=
  if x6 < s.length then
    if s.length = 512 then
      if 148 ≤ x6 then
        if x6 < 156 then
          rec ((x5 + 32), (x6 + 1))
        else
          rec ((x5 + (by' s x6)), (x6 + 1))
      else
        rec ((x5 + (by' s x6)), (x6 + 1))
    else
      .inl (x5, x6)
  else
    .inl (x5, x6)
def rsum_m_l0 (s : List UInt8) : Nat → Nat × Nat → Sum (Nat × Nat) (Int)
  | 0, zz => .inl zz
  | nq + 1, zz => rsum_m_b0 s (rsum_m_l0 s nq) zz.1 zz.2

def rsum_m_k0 (s : List UInt8) (y10 : Nat) (y11 : Nat) : Int :=
  ((y10 : Nat) : Int)

def rsum_m (s : List UInt8) : Int :=
  fin (rsum_m_l0 s ((s.length - 0) + 1) (0, 0)) (fun r => r) (fun zz => rsum_m_k0 s zz.1 zz.2)

set_option maxHeartbeats 4000000 in
set_option maxRecDepth 100000 in
theorem rsum_any (s : List UInt8) (w : World)   : Calls Tryd.prog 20 #[.string (tx s)] w (fun e w' => e = .returned (.int .i64 ((rsum_m s))) ∧ Below w.heap.size w w') := by
  go_enter Tryd.func20, Tryd.ntmps20
  have hm00 := Mm.nil none (fun _ => True) w
  have hm0 := hm00
  refine wp_seq_k (fun K1 hK1 => ?_)
  refine wp_region_lit ?_
  refine lvw 2 (.int .i64 0) rfl rfl (run_as rfl rfl) ?_
  simp only [nz1, nz2, nz3]
  refine wpList_nil ?_
  refine then_n (hK1 _ _ ?_)
  refine wp_seq_k (fun K2 hK2 => ?_)
  refine wp_region_lit ?_
  refine lvw 3 (.int .i64 0) rfl rfl (run_as rfl rfl) ?_
  simp only [nz1, nz2, nz3]
  refine wpList_nil ?_
  refine then_n (hK2 _ _ ?_)
  refine wp_seq_k (fun K3 hK3 => ?_)
  refine wp_seq_k (fun K4 hK4 => ?_)
  refine wp_region_lit ?_
  refine lvw 4 (.int .i64 0) rfl rfl (run_as rfl rfl) ?_
  simp only [nz1, nz2, nz3]
  refine wpList_nil ?_
  refine then_n (hK4 _ _ ?_)
  refine wp_cutK (fun a' w' => ∃ (y10 : Nat) (y11 : Nat) (yu0 : Nat → Value), rsum_m_l0 s ((s.length - 0) + 1) (0, 0) = .inl (y10, y11) ∧ (0 ≤ y10 ∧ y10 ≤ 256 * y11 ∧ y11 ≤ s.length) ∧ a' = ⟨#[.string (tx s), undef, .int .i64 0, .int .i64 ((y10 : Nat) : Int), .int .i64 ((y11 : Nat) : Int), yu0 0, yu0 1, yu0 2, yu0 3, yu0 4, yu0 5, yu0 6, yu0 7, yu0 8, yu0 9, yu0 10, yu0 11, yu0 12, yu0 13, yu0 14, yu0 15, yu0 16, yu0 17, yu0 18, yu0 19, yu0 20, yu0 21, yu0 22, yu0 23, yu0 24, undef], []⟩ ∧ Mm none (fun _ => True) w w' []) ?_ ?_
  · refine wp_block ?_
    refine wp_loop_n (fun n' a' w' => ∃ (n7 : Nat) (x5 : Nat) (x6 : Nat) (u0 : Nat → Value), n' = n7 ∧ (s.length - x6) < n7 ∧ rsum_m_l0 s ((s.length - 0) + 1) (0, 0) = rsum_m_l0 s n7 (x5, x6) ∧ (0 ≤ x5 ∧ x5 ≤ 256 * x6 ∧ x6 ≤ s.length) ∧ a' = ⟨#[.string (tx s), undef, .int .i64 0, .int .i64 ((x5 : Nat) : Int), .int .i64 ((x6 : Nat) : Int), u0 0, u0 1, u0 2, u0 3, u0 4, u0 5, u0 6, u0 7, u0 8, u0 9, u0 10, u0 11, u0 12, u0 13, u0 14, u0 15, u0 16, u0 17, u0 18, u0 19, u0 20, u0 21, u0 22, u0 23, u0 24, undef], []⟩ ∧ Mm none (fun _ => True) w w' []) ⟨((s.length - 0) + 1), 0, 0, (fun qq => bif Nat.blt qq 24 then List.getD [undef, undef, undef, undef, undef, undef, undef, undef, undef, undef, undef, undef, undef, undef, undef, undef, undef, undef, undef, undef, undef, undef, undef, undef] qq undef else List.getD [undef] (qq - 24) undef), rfl, Nat.lt_succ_self _, rfl, (by first | omega | (simp; done) | (simp; omega) | (simp at *; omega)), rfl, hm0⟩ ?_
    rintro n7 _ w13 ⟨_, x5, x6, u0, rfl, hl17, hi9, hsu, rfl, hm14⟩ R15 hR15
    obtain ⟨k8, rfl⟩ : ∃ k, n7 = k + 1 := ⟨n7 - 1, by omega⟩
    refine wp_seq_k (fun K18 hK18 => ?_)
    refine wp_seq_k (fun K19 hK19 => ?_)
    refine wp_region_lit ?_
    refine lvw 5 (.int .i64 ((x6 : Nat) : Int)) rfl rfl (run_mv rfl rfl) ?_
    simp only [nz1, nz2, nz3]
    refine lvw 6 (.string (tx s)) rfl rfl (run_mv rfl rfl) ?_
    simp only [nz1, nz2, nz3]
    refine lvw 7 (.int .i64 ((s.length : Nat) : Int)) rfl rfl (t_len rfl Tryd.underlying9 rfl) ?_
    simp only [nz1, nz2, nz3]
    refine lvb 8 (x6 < s.length) rfl rfl (r_lss x6 s.length rfl rfl rfl) (fun hs20 => ?_) (fun hs20 => ?_)
    rotate_left
    · simp only [nz1, nz2, nz3]
      refine lvw 9 (.bool false) rfl rfl (run_mv rfl rfl) ?_
      simp only [nz1, nz2, nz3]
      refine lst_skip 10 rfl rfl ?_
      simp only [nz1, nz2, nz3]
      refine lst_skip 11 rfl rfl ?_
      simp only [nz1, nz2, nz3]
      refine lst_skip 12 rfl rfl ?_
      simp only [nz1, nz2, nz3]
      refine lvw 13 (.bool false) rfl rfl (run_pickf rfl rfl rfl) ?_
      simp only [nz1, nz2, nz3]
      refine wpList_nil ?_
      refine then_n (hK19 _ _ ?_)
      refine cond_f rfl ?_
      refine wp_exit ?_
      refine then_x ?_
      refine then_x ?_
      refine blk_x ?_
      refine then_n ?_
      exact ⟨x5, x6, (fun qq => bif Nat.blt qq 24 then List.getD [.int .i64 ((x6 : Nat) : Int), .string (tx s), .int .i64 ((s.length : Nat) : Int), .bool false, .bool false, undef, undef, undef, .bool false, u0 9, u0 10, u0 11, u0 12, u0 13, u0 14, u0 15, u0 16, u0 17, u0 18, u0 19, u0 20, u0 21, u0 22, u0 23] qq undef else List.getD [u0 24] (qq - 24) undef), (hi9.trans (show rsum_m_b0 s (rsum_m_l0 s k8) x5 x6 = .inl (x5, x6) from by unfold rsum_m_b0; rw [if_neg hs20] <;> rfl)), (by first | omega | (simp; done) | (simp; omega) | (simp at *; omega)), rfl, hm14⟩
    simp only [nz1, nz2, nz3]
    refine lvw 9 (.bool true) rfl rfl (run_mv rfl rfl) ?_
    simp only [nz1, nz2, nz3]
    refine lvw 10 (.string (tx s)) rfl rfl (run_mv rfl rfl) ?_
    simp only [nz1, nz2, nz3]
    refine lvw 11 (.int .i64 ((s.length : Nat) : Int)) rfl rfl (t_len rfl Tryd.underlying9 rfl) ?_
    simp only [nz1, nz2, nz3]
    refine lvw 12 (.bool (decide (s.length = 512))) rfl rfl (r_eql s.length 512 rfl rfl rfl) ?_
    simp only [nz1, nz2, nz3]
    refine lvw 13 (.bool (decide (s.length = 512))) rfl rfl (run_pick rfl rfl rfl) ?_
    simp only [nz1, nz2, nz3]
    refine wpList_nil ?_
    refine then_n (hK19 _ _ ?_)
    refine cond_d (s.length = 512) rfl (fun hc21 => ?_) (fun hc21 => ?_)
    rotate_left
    · refine wp_exit ?_
      refine then_x ?_
      refine then_x ?_
      refine blk_x ?_
      refine then_n ?_
      exact ⟨x5, x6, (fun qq => bif Nat.blt qq 24 then List.getD [.int .i64 ((x6 : Nat) : Int), .string (tx s), .int .i64 ((s.length : Nat) : Int), .bool true, .bool true, .string (tx s), .int .i64 ((s.length : Nat) : Int), .bool (decide (s.length = 512)), .bool (decide (s.length = 512)), u0 9, u0 10, u0 11, u0 12, u0 13, u0 14, u0 15, u0 16, u0 17, u0 18, u0 19, u0 20, u0 21, u0 22, u0 23] qq undef else List.getD [u0 24] (qq - 24) undef), (hi9.trans (show rsum_m_b0 s (rsum_m_l0 s k8) x5 x6 = .inl (x5, x6) from by unfold rsum_m_b0; rw [if_pos hs20, if_neg hc21] <;> rfl)), (by first | omega | (simp; done) | (simp; omega) | (simp at *; omega)), rfl, hm14⟩
    refine wp_skip ?_
    refine then_n (hK18 _ _ ?_)
    refine wp_seq_k (fun K22 hK22 => ?_)
    refine wp_block ?_
    refine wp_seq_k (fun K23 hK23 => ?_)
    refine wp_region_lit ?_
    refine lvw 16 (.int .i64 ((x6 : Nat) : Int)) rfl rfl (run_mv rfl rfl) ?_
    simp only [nz1, nz2, nz3]
    refine lvb 17 (148 ≤ x6) rfl rfl (r_geq x6 148 rfl rfl rfl) (fun hs24 => ?_) (fun hs24 => ?_)
    rotate_left
    · simp only [nz1, nz2, nz3]
      refine lvw 18 (.bool false) rfl rfl (run_mv rfl rfl) ?_
      simp only [nz1, nz2, nz3]
      refine lst_skip 19 rfl rfl ?_
      simp only [nz1, nz2, nz3]
      refine lst_skip 20 rfl rfl ?_
      simp only [nz1, nz2, nz3]
      refine lvw 21 (.bool false) rfl rfl (run_pickf rfl rfl rfl) ?_
      simp only [nz1, nz2, nz3]
      refine wpList_nil ?_
      refine then_n (hK23 _ _ ?_)
      refine cond_f rfl ?_
      refine wp_region_lit ?_
      refine lvw 24 (.int .i64 ((x5 : Nat) : Int)) rfl rfl (run_mv rfl rfl) ?_
      simp only [nz1, nz2, nz3]
      refine lvw 25 (.string (tx s)) rfl rfl (run_mv rfl rfl) ?_
      simp only [nz1, nz2, nz3]
      refine lvw 26 (.int .i64 ((x6 : Nat) : Int)) rfl rfl (run_mv rfl rfl) ?_
      simp only [nz1, nz2, nz3]
      refine lvw 27 (.int .u8 ((by' s x6 : Nat) : Int)) rfl rfl (t_char s x6 (by omega) Tryd.underlying9 rfl rfl rfl) ?_
      simp only [nz1, nz2, nz3]
      refine lvw 28 (.int .i64 ((by' s x6 : Nat) : Int)) rfl rfl (r_conv (k' := .i64) (by' s x6) (by' s x6) some_5 Tryd.underlying3 (wrap_nat (by have := by_lt s x6; show _ < 9223372036854775808; omega)) rfl rfl) ?_
      simp only [nz1, nz2, nz3]
      refine lvw 29 (.int .i64 (((x5 + (by' s x6)) : Nat) : Int)) rfl rfl (r_add x5 (by' s x6) (by have hq := by_lt s x6; show _ < 9223372036854775808; omega) rfl rfl rfl) ?_
      simp only [nz1, nz2, nz3]
      refine lvw 3 (.int .i64 (((x5 + (by' s x6)) : Nat) : Int)) rfl rfl (run_as rfl rfl) ?_
      simp only [nz1, nz2, nz3]
      refine wpList_nil ?_
      refine blk_n ?_
      refine then_n (hK22 _ _ ?_)
      refine wp_region_lit ?_
      refine lvw 14 (.int .i64 ((x6 : Nat) : Int)) rfl rfl (run_mv rfl rfl) ?_
      simp only [nz1, nz2, nz3]
      refine lvw 15 (.int .i64 (((x6 + 1) : Nat) : Int)) rfl rfl (r_add x6 1 (show (x6 + 1) < 9223372036854775808 from by omega) rfl rfl rfl) ?_
      simp only [nz1, nz2, nz3]
      refine lvw 4 (.int .i64 (((x6 + 1) : Nat) : Int)) rfl rfl (run_as rfl rfl) ?_
      simp only [nz1, nz2, nz3]
      refine wpList_nil ?_
      refine then_n (hR15 _ _ _ ⟨k8, (x5 + (by' s x6)), (x6 + 1), (fun qq => bif Nat.blt qq 24 then List.getD [.int .i64 ((x6 : Nat) : Int), .string (tx s), .int .i64 ((s.length : Nat) : Int), .bool true, .bool true, .string (tx s), .int .i64 ((s.length : Nat) : Int), .bool (decide (s.length = 512)), .bool (decide (s.length = 512)), .int .i64 ((x6 : Nat) : Int), .int .i64 (((x6 + 1) : Nat) : Int), .int .i64 ((x6 : Nat) : Int), .bool false, .bool false, undef, undef, .bool false, u0 17, u0 18, .int .i64 ((x5 : Nat) : Int), .string (tx s), .int .i64 ((x6 : Nat) : Int), .int .u8 ((by' s x6 : Nat) : Int), .int .i64 ((by' s x6 : Nat) : Int)] qq undef else List.getD [.int .i64 (((x5 + (by' s x6)) : Nat) : Int)] (qq - 24) undef), rfl, (by first | omega | (simp; omega) | (simp at *; omega)), (hi9.trans (show rsum_m_b0 s (rsum_m_l0 s k8) x5 x6 = rsum_m_l0 s k8 ((x5 + (by' s x6)), (x6 + 1)) from by unfold rsum_m_b0; rw [if_pos hs20, if_pos hc21, if_neg hs24] <;> rfl)), (by have hq := by_lt s x6; omega), rfl, hm14⟩ ?_)
      omega
    simp only [nz1, nz2, nz3]
    refine lvw 18 (.bool true) rfl rfl (run_mv rfl rfl) ?_
    simp only [nz1, nz2, nz3]
    refine lvw 19 (.int .i64 ((x6 : Nat) : Int)) rfl rfl (run_mv rfl rfl) ?_
    simp only [nz1, nz2, nz3]
    refine lvw 20 (.bool (decide (x6 < 156))) rfl rfl (r_lss x6 156 rfl rfl rfl) ?_
    simp only [nz1, nz2, nz3]
    refine lvw 21 (.bool (decide (x6 < 156))) rfl rfl (run_pick rfl rfl rfl) ?_
    simp only [nz1, nz2, nz3]
    refine wpList_nil ?_
    refine then_n (hK23 _ _ ?_)
    refine cond_d (x6 < 156) rfl (fun hc25 => ?_) (fun hc25 => ?_)
    · refine wp_region_lit ?_
      refine lvw 22 (.int .i64 ((x5 : Nat) : Int)) rfl rfl (run_mv rfl rfl) ?_
      simp only [nz1, nz2, nz3]
      refine lvw 23 (.int .i64 (((x5 + 32) : Nat) : Int)) rfl rfl (r_add x5 32 (show (x5 + 32) < 9223372036854775808 from by omega) rfl rfl rfl) ?_
      simp only [nz1, nz2, nz3]
      refine lvw 3 (.int .i64 (((x5 + 32) : Nat) : Int)) rfl rfl (run_as rfl rfl) ?_
      simp only [nz1, nz2, nz3]
      refine wpList_nil ?_
      refine blk_n ?_
      refine then_n (hK22 _ _ ?_)
      refine wp_region_lit ?_
      refine lvw 14 (.int .i64 ((x6 : Nat) : Int)) rfl rfl (run_mv rfl rfl) ?_
      simp only [nz1, nz2, nz3]
      refine lvw 15 (.int .i64 (((x6 + 1) : Nat) : Int)) rfl rfl (r_add x6 1 (show (x6 + 1) < 9223372036854775808 from by omega) rfl rfl rfl) ?_
      simp only [nz1, nz2, nz3]
      refine lvw 4 (.int .i64 (((x6 + 1) : Nat) : Int)) rfl rfl (run_as rfl rfl) ?_
      simp only [nz1, nz2, nz3]
      refine wpList_nil ?_
      refine then_n (hR15 _ _ _ ⟨k8, (x5 + 32), (x6 + 1), (fun qq => bif Nat.blt qq 24 then List.getD [.int .i64 ((x6 : Nat) : Int), .string (tx s), .int .i64 ((s.length : Nat) : Int), .bool true, .bool true, .string (tx s), .int .i64 ((s.length : Nat) : Int), .bool (decide (s.length = 512)), .bool (decide (s.length = 512)), .int .i64 ((x6 : Nat) : Int), .int .i64 (((x6 + 1) : Nat) : Int), .int .i64 ((x6 : Nat) : Int), .bool true, .bool true, .int .i64 ((x6 : Nat) : Int), .bool (decide (x6 < 156)), .bool (decide (x6 < 156)), .int .i64 ((x5 : Nat) : Int), .int .i64 (((x5 + 32) : Nat) : Int), u0 19, u0 20, u0 21, u0 22, u0 23] qq undef else List.getD [u0 24] (qq - 24) undef), rfl, (by first | omega | (simp; omega) | (simp at *; omega)), (hi9.trans (show rsum_m_b0 s (rsum_m_l0 s k8) x5 x6 = rsum_m_l0 s k8 ((x5 + 32), (x6 + 1)) from by unfold rsum_m_b0; rw [if_pos hs20, if_pos hc21, if_pos hs24, if_pos hc25] <;> rfl)), (by have hq := by_lt s x6; omega), rfl, hm14⟩ ?_)
      omega
    refine wp_region_lit ?_
    refine lvw 24 (.int .i64 ((x5 : Nat) : Int)) rfl rfl (run_mv rfl rfl) ?_
    simp only [nz1, nz2, nz3]
    refine lvw 25 (.string (tx s)) rfl rfl (run_mv rfl rfl) ?_
    simp only [nz1, nz2, nz3]
    refine lvw 26 (.int .i64 ((x6 : Nat) : Int)) rfl rfl (run_mv rfl rfl) ?_
    simp only [nz1, nz2, nz3]
    refine lvw 27 (.int .u8 ((by' s x6 : Nat) : Int)) rfl rfl (t_char s x6 (by omega) Tryd.underlying9 rfl rfl rfl) ?_
    simp only [nz1, nz2, nz3]
    refine lvw 28 (.int .i64 ((by' s x6 : Nat) : Int)) rfl rfl (r_conv (k' := .i64) (by' s x6) (by' s x6) some_5 Tryd.underlying3 (wrap_nat (by have := by_lt s x6; show _ < 9223372036854775808; omega)) rfl rfl) ?_
    simp only [nz1, nz2, nz3]
    refine lvw 29 (.int .i64 (((x5 + (by' s x6)) : Nat) : Int)) rfl rfl (r_add x5 (by' s x6) (by have hq := by_lt s x6; show _ < 9223372036854775808; omega) rfl rfl rfl) ?_
    simp only [nz1, nz2, nz3]
    refine lvw 3 (.int .i64 (((x5 + (by' s x6)) : Nat) : Int)) rfl rfl (run_as rfl rfl) ?_
    simp only [nz1, nz2, nz3]
    refine wpList_nil ?_
    refine blk_n ?_
    refine then_n (hK22 _ _ ?_)
    refine wp_region_lit ?_
    refine lvw 14 (.int .i64 ((x6 : Nat) : Int)) rfl rfl (run_mv rfl rfl) ?_
    simp only [nz1, nz2, nz3]
    refine lvw 15 (.int .i64 (((x6 + 1) : Nat) : Int)) rfl rfl (r_add x6 1 (show (x6 + 1) < 9223372036854775808 from by omega) rfl rfl rfl) ?_
    simp only [nz1, nz2, nz3]
    refine lvw 4 (.int .i64 (((x6 + 1) : Nat) : Int)) rfl rfl (run_as rfl rfl) ?_
    simp only [nz1, nz2, nz3]
    refine wpList_nil ?_
    refine then_n (hR15 _ _ _ ⟨k8, (x5 + (by' s x6)), (x6 + 1), (fun qq => bif Nat.blt qq 24 then List.getD [.int .i64 ((x6 : Nat) : Int), .string (tx s), .int .i64 ((s.length : Nat) : Int), .bool true, .bool true, .string (tx s), .int .i64 ((s.length : Nat) : Int), .bool (decide (s.length = 512)), .bool (decide (s.length = 512)), .int .i64 ((x6 : Nat) : Int), .int .i64 (((x6 + 1) : Nat) : Int), .int .i64 ((x6 : Nat) : Int), .bool true, .bool true, .int .i64 ((x6 : Nat) : Int), .bool (decide (x6 < 156)), .bool (decide (x6 < 156)), u0 17, u0 18, .int .i64 ((x5 : Nat) : Int), .string (tx s), .int .i64 ((x6 : Nat) : Int), .int .u8 ((by' s x6 : Nat) : Int), .int .i64 ((by' s x6 : Nat) : Int)] qq undef else List.getD [.int .i64 (((x5 + (by' s x6)) : Nat) : Int)] (qq - 24) undef), rfl, (by first | omega | (simp; omega) | (simp at *; omega)), (hi9.trans (show rsum_m_b0 s (rsum_m_l0 s k8) x5 x6 = rsum_m_l0 s k8 ((x5 + (by' s x6)), (x6 + 1)) from by unfold rsum_m_b0; rw [if_pos hs20, if_pos hc21, if_pos hs24, if_neg hc25] <;> rfl)), (by have hq := by_lt s x6; omega), rfl, hm14⟩ ?_)
    omega
  rintro _ w26 ⟨y10, y11, yu0, hx12, hsu, rfl, hm27⟩
  have hq28 : rsum_m s = rsum_m_k0 s y10 y11 := (show rsum_m s = rsum_m_k0 s y10 y11 from by unfold rsum_m; rw [hx12] <;> rfl)
  refine then_n (hK3 _ _ ?_)
  refine wp_seq_k (fun K29 hK29 => ?_)
  refine wp_region_lit ?_
  refine lvw 30 (.int .i64 ((y10 : Nat) : Int)) rfl rfl (run_mv rfl rfl) ?_
  simp only [nz1, nz2, nz3]
  refine lvw 2 (.int .i64 ((y10 : Nat) : Int)) rfl rfl (run_as rfl rfl) ?_
  simp only [nz1, nz2, nz3]
  refine wpList_nil ?_
  refine then_n (hK29 _ _ ?_)
  refine wp_ret ?_
  have he30 : rsum_m s = ((y10 : Nat) : Int) := (hq28.trans (show rsum_m_k0 s y10 y11 = ((y10 : Nat) : Int) from by unfold rsum_m_k0; rfl))
  exact ⟨rfl, .int .i64 ((y10 : Nat) : Int), res_t rfl rfl, ⟨by (rw [he30]; try rfl), hm27.below⟩⟩
theorem run_rsum {o : Oper} {a : Act} {w : World} {x0 : Operand} {v0 : Value} (ho : o.op = .call { callee := .value (.func 20), args := #[x0], argTypes := #[9] }) (h0 : a.eval x0 = v0) :
    (execOp a.eval o).run Tryd.prog w = .ok (.enter 20 #[v0]) w := by
  unfold execOp
  simp only [ho]
  have hf : a.eval (.func 20) = .func (.func 20) #[] #[] := rfl
  generalize a.eval = f at *
  go_simp
end Go.Proofs.YtglnifckngcpkaaDoor.Hd
