/- Layer 8: a wide number as the document says. -/
import Derived.Test.YtglnifckngcpkaaDoorHdK
namespace Go.Proofs.YtglnifckngcpkaaDoor.Hd
open Go.RowKit
open Go.Proofs.YtglnifckngcpkaaDoor.Sym Go.Proofs.YtglnifckngcpkaaDoor.Mem
open Go.Proofs.YtglnifckngcpkaaDoor.Sx hiding Mm m_alloc m_store m_put m_call m_callx m_make m_append r_string r_ixS
set_option linter.unusedVariables false
attribute [local irreducible] wpList Oper.wp

def rwide_m_b0 (s : List UInt8) (rec : Nat × Nat → Sum (Nat × Nat) (Int × Int)) (x5 : Nat) (x6 : Nat) : Sum (Nat × Nat) (Int × Int) :=
  if x6 < s.length then
    if 36028797018963968 ≤ x5 then
      .inr (0, 3)
    else
      rec (((x5 * 2 ^ 8) + (by' s x6)), (x6 + 1))
  else
    .inl (x5, x6)
def rwide_m_l0 (s : List UInt8) : Nat → Nat × Nat → Sum (Nat × Nat) (Int × Int)
  | 0, zz => .inl zz
  | nq + 1, zz => rwide_m_b0 s (rwide_m_l0 s nq) zz.1 zz.2

def rwide_m_k0 (s : List UInt8) (y10 : Nat) (y11 : Nat) : Int × Int :=
  (((y10 : Nat) : Int), 0)

def rwide_m (s : List UInt8) : Int × Int :=
  fin (rwide_m_l0 s ((s.length - 0) + 1) (0, 0)) (fun r => r) (fun zz => rwide_m_k0 s zz.1 zz.2)

set_option maxHeartbeats 4000000 in
set_option maxRecDepth 100000 in
theorem rwide_any (s : List UInt8) (w : World)  (hp0 : s.length ≤ 1048576) : Calls Tryd.prog 56 #[.string (tx s)] w (fun e w' => e = .returned (.tuple #[.int .i64 ((rwide_m s).1), .int .i64 ((rwide_m s).2)]) ∧ Below w.heap.size w w') := by
  go_enter Tryd.func56, Tryd.ntmps56
  have hm00 := Mm.nil none (fun _ => True) w
  have hm0 := hm00
  refine wp_seq_k (fun K1 hK1 => ?_)
  refine wp_region_lit ?_
  refine lvw 2 (.int .i64 0) rfl rfl (run_as rfl rfl) ?_
  simp only [nz1, nz2, nz3]
  refine lvw 3 (.int .i64 0) rfl rfl (run_as rfl rfl) ?_
  simp only [nz1, nz2, nz3]
  refine wpList_nil ?_
  refine then_n (hK1 _ _ ?_)
  refine wp_seq_k (fun K2 hK2 => ?_)
  refine wp_region_lit ?_
  refine lvw 4 (.int .i64 0) rfl rfl (run_as rfl rfl) ?_
  simp only [nz1, nz2, nz3]
  refine wpList_nil ?_
  refine then_n (hK2 _ _ ?_)
  refine wp_seq_k (fun K3 hK3 => ?_)
  refine wp_seq_k (fun K4 hK4 => ?_)
  refine wp_region_lit ?_
  refine lvw 5 (.int .i64 0) rfl rfl (run_as rfl rfl) ?_
  simp only [nz1, nz2, nz3]
  refine wpList_nil ?_
  refine then_n (hK4 _ _ ?_)
  refine wp_cutK (fun a' w' => ∃ (y10 : Nat) (y11 : Nat) (yu0 : Nat → Value), rwide_m_l0 s ((s.length - 0) + 1) (0, 0) = .inl (y10, y11) ∧ (0 ≤ y10 ∧ y10 ≤ 9223372036854775807) ∧ a' = ⟨#[.string (tx s), undef, yu0 0, yu0 1, .int .i64 ((y10 : Nat) : Int), .int .i64 ((y11 : Nat) : Int), yu0 2, yu0 3, yu0 4, yu0 5, yu0 6, yu0 7, yu0 8, yu0 9, yu0 10, yu0 11, yu0 12, yu0 13, yu0 14, yu0 15, yu0 16, undef], []⟩ ∧ Mm none (fun _ => True) w w' []) ?_ ?_
  · refine wp_block ?_
    refine wp_loop_n (fun n' a' w' => ∃ (n7 : Nat) (x5 : Nat) (x6 : Nat) (u0 : Nat → Value), n' = n7 ∧ (s.length - x6) < n7 ∧ rwide_m_l0 s ((s.length - 0) + 1) (0, 0) = rwide_m_l0 s n7 (x5, x6) ∧ (0 ≤ x5 ∧ x5 ≤ 9223372036854775807) ∧ a' = ⟨#[.string (tx s), undef, u0 0, u0 1, .int .i64 ((x5 : Nat) : Int), .int .i64 ((x6 : Nat) : Int), u0 2, u0 3, u0 4, u0 5, u0 6, u0 7, u0 8, u0 9, u0 10, u0 11, u0 12, u0 13, u0 14, u0 15, u0 16, undef], []⟩ ∧ Mm none (fun _ => True) w w' []) ⟨((s.length - 0) + 1), 0, 0, (fun qq => List.getD [.int .i64 0, .int .i64 0, undef, undef, undef, undef, undef, undef, undef, undef, undef, undef, undef, undef, undef, undef, undef] qq undef), rfl, Nat.lt_succ_self _, rfl, (by first | omega | (simp; done) | (simp; omega) | (simp at *; omega)), rfl, hm0⟩ ?_
    rintro n7 _ w13 ⟨_, x5, x6, u0, rfl, hl17, hi9, hrw, rfl, hm14⟩ R15 hR15
    obtain ⟨k8, rfl⟩ : ∃ k, n7 = k + 1 := ⟨n7 - 1, by omega⟩
    refine wp_seq_k (fun K18 hK18 => ?_)
    refine wp_seq_k (fun K19 hK19 => ?_)
    refine wp_region_lit ?_
    refine lvw 6 (.int .i64 ((x6 : Nat) : Int)) rfl rfl (run_mv rfl rfl) ?_
    simp only [nz1, nz2, nz3]
    refine lvw 7 (.string (tx s)) rfl rfl (run_mv rfl rfl) ?_
    simp only [nz1, nz2, nz3]
    refine lvw 8 (.int .i64 ((s.length : Nat) : Int)) rfl rfl (t_len rfl Tryd.underlying9 rfl) ?_
    simp only [nz1, nz2, nz3]
    refine lvw 9 (.bool (decide (x6 < s.length))) rfl rfl (r_lss x6 s.length rfl rfl rfl) ?_
    simp only [nz1, nz2, nz3]
    refine wpList_nil ?_
    refine then_n (hK19 _ _ ?_)
    refine cond_d (x6 < s.length) rfl (fun hc20 => ?_) (fun hc20 => ?_)
    rotate_left
    · refine wp_exit ?_
      refine then_x ?_
      refine then_x ?_
      refine blk_x ?_
      refine then_n ?_
      exact ⟨x5, x6, (fun qq => List.getD [u0 0, u0 1, .int .i64 ((x6 : Nat) : Int), .string (tx s), .int .i64 ((s.length : Nat) : Int), .bool (decide (x6 < s.length)), u0 6, u0 7, u0 8, u0 9, u0 10, u0 11, u0 12, u0 13, u0 14, u0 15, u0 16] qq undef), (hi9.trans (show rwide_m_b0 s (rwide_m_l0 s k8) x5 x6 = .inl (x5, x6) from by unfold rwide_m_b0; rw [if_neg hc20] <;> rfl)), (by first | omega | (simp; done) | (simp; omega) | (simp at *; omega)), rfl, hm14⟩
    refine wp_skip ?_
    refine then_n (hK18 _ _ ?_)
    refine wp_seq_k (fun K21 hK21 => ?_)
    refine wp_block ?_
    refine wp_seq_k (fun K22 hK22 => ?_)
    refine wp_seq_k (fun K23 hK23 => ?_)
    refine wp_region_lit ?_
    refine lvw 12 (.int .i64 ((x5 : Nat) : Int)) rfl rfl (run_mv rfl rfl) ?_
    simp only [nz1, nz2, nz3]
    refine lvw 13 (.bool (decide (36028797018963968 ≤ x5))) rfl rfl (r_geq x5 36028797018963968 rfl rfl rfl) ?_
    simp only [nz1, nz2, nz3]
    refine wpList_nil ?_
    refine then_n (hK23 _ _ ?_)
    refine cond_d (36028797018963968 ≤ x5) rfl (fun hc24 => ?_) (fun hc24 => ?_)
    · refine wp_seq_k (fun K25 hK25 => ?_)
      refine wp_region_lit ?_
      refine lvw 2 (.int .i64 0) rfl rfl (run_as rfl rfl) ?_
      simp only [nz1, nz2, nz3]
      refine lvw 3 (.int .i64 3) rfl rfl (run_as rfl rfl) ?_
      simp only [nz1, nz2, nz3]
      refine wpList_nil ?_
      refine then_n (hK25 _ _ ?_)
      refine wp_ret ?_
      refine then_r ?_
      refine blk_r ?_
      refine then_r ?_
      refine then_r ?_
      refine blk_r ?_
      refine then_r ?_
      refine then_r ?_
      have he26 : rwide_m_l0 s ((s.length - 0) + 1) (0, 0) = .inr (0, 3) := (hi9.trans (show rwide_m_b0 s (rwide_m_l0 s k8) x5 x6 = .inr (0, 3) from by unfold rwide_m_b0; rw [if_pos hc20, if_pos hc24] <;> rfl))
      have he27 : rwide_m s = (0, 3) := (show rwide_m s = (0, 3) from by unfold rwide_m; rw [he26] <;> rfl)
      exact ⟨rfl, .tuple #[.int .i64 0, .int .i64 3], res_tt rfl rfl rfl, ⟨by (rw [he27]; try rfl), hm14.below⟩⟩
    refine wp_skip ?_
    refine then_n (hK22 _ _ ?_)
    refine wp_region_lit ?_
    refine lvw 14 (.int .i64 ((x5 : Nat) : Int)) rfl rfl (run_mv rfl rfl) ?_
    simp only [nz1, nz2, nz3]
    refine lvw 15 (.int .i64 (((x5 * 2 ^ 8) : Nat) : Int)) rfl rfl (r_shl x5 8 (show (x5 * 2 ^ 8) < 9223372036854775808 from by omega) (by decide) rfl rfl rfl) ?_
    simp only [nz1, nz2, nz3]
    refine lvw 16 (.string (tx s)) rfl rfl (run_mv rfl rfl) ?_
    simp only [nz1, nz2, nz3]
    refine lvw 17 (.int .i64 ((x6 : Nat) : Int)) rfl rfl (run_mv rfl rfl) ?_
    simp only [nz1, nz2, nz3]
    refine lvw 18 (.int .u8 ((by' s x6 : Nat) : Int)) rfl rfl (t_char s x6 (by omega) Tryd.underlying9 rfl rfl rfl) ?_
    simp only [nz1, nz2, nz3]
    refine lvw 19 (.int .i64 ((by' s x6 : Nat) : Int)) rfl rfl (r_conv (k' := .i64) (by' s x6) (by' s x6) some_5 Tryd.underlying3 (wrap_nat (by have := by_lt s x6; show _ < 9223372036854775808; omega)) rfl rfl) ?_
    simp only [nz1, nz2, nz3]
    refine lvw 20 (.int .i64 ((((x5 * 2 ^ 8) + (by' s x6)) : Nat) : Int)) rfl rfl (r_orx (x5 * 2 ^ 8) (by' s x6) 63 ((x5 * 2 ^ 8) + (by' s x6)) (by decide) (by omega) (by have hq := by_lt s x6; omega) (or_sum _ _ 8 (by omega) (by have hq := by_lt s x6; omega)) rfl rfl rfl) ?_
    simp only [nz1, nz2, nz3]
    refine lvw 4 (.int .i64 ((((x5 * 2 ^ 8) + (by' s x6)) : Nat) : Int)) rfl rfl (run_as rfl rfl) ?_
    simp only [nz1, nz2, nz3]
    refine wpList_nil ?_
    refine blk_n ?_
    refine then_n (hK21 _ _ ?_)
    refine wp_region_lit ?_
    refine lvw 10 (.int .i64 ((x6 : Nat) : Int)) rfl rfl (run_mv rfl rfl) ?_
    simp only [nz1, nz2, nz3]
    refine lvw 11 (.int .i64 (((x6 + 1) : Nat) : Int)) rfl rfl (r_add x6 1 (show (x6 + 1) < 9223372036854775808 from by omega) rfl rfl rfl) ?_
    simp only [nz1, nz2, nz3]
    refine lvw 5 (.int .i64 (((x6 + 1) : Nat) : Int)) rfl rfl (run_as rfl rfl) ?_
    simp only [nz1, nz2, nz3]
    refine wpList_nil ?_
    refine then_n (hR15 _ _ _ ⟨k8, ((x5 * 2 ^ 8) + (by' s x6)), (x6 + 1), (fun qq => List.getD [u0 0, u0 1, .int .i64 ((x6 : Nat) : Int), .string (tx s), .int .i64 ((s.length : Nat) : Int), .bool (decide (x6 < s.length)), .int .i64 ((x6 : Nat) : Int), .int .i64 (((x6 + 1) : Nat) : Int), .int .i64 ((x5 : Nat) : Int), .bool (decide (36028797018963968 ≤ x5)), .int .i64 ((x5 : Nat) : Int), .int .i64 (((x5 * 2 ^ 8) : Nat) : Int), .string (tx s), .int .i64 ((x6 : Nat) : Int), .int .u8 ((by' s x6 : Nat) : Int), .int .i64 ((by' s x6 : Nat) : Int), .int .i64 ((((x5 * 2 ^ 8) + (by' s x6)) : Nat) : Int)] qq undef), rfl, (by first | omega | (simp; omega) | (simp at *; omega)), (hi9.trans (show rwide_m_b0 s (rwide_m_l0 s k8) x5 x6 = rwide_m_l0 s k8 (((x5 * 2 ^ 8) + (by' s x6)), (x6 + 1)) from by unfold rwide_m_b0; rw [if_pos hc20, if_neg hc24] <;> rfl)), (by have hq := by_lt s x6; omega), rfl, hm14⟩ ?_)
    omega
  rintro _ w28 ⟨y10, y11, yu0, hx12, hrw, rfl, hm29⟩
  have hq30 : rwide_m s = rwide_m_k0 s y10 y11 := (show rwide_m s = rwide_m_k0 s y10 y11 from by unfold rwide_m; rw [hx12] <;> rfl)
  refine then_n (hK3 _ _ ?_)
  refine wp_seq_k (fun K31 hK31 => ?_)
  refine wp_region_lit ?_
  refine lvw 21 (.int .i64 ((y10 : Nat) : Int)) rfl rfl (run_mv rfl rfl) ?_
  simp only [nz1, nz2, nz3]
  refine lvw 2 (.int .i64 ((y10 : Nat) : Int)) rfl rfl (run_as rfl rfl) ?_
  simp only [nz1, nz2, nz3]
  refine lvw 3 (.int .i64 0) rfl rfl (run_as rfl rfl) ?_
  simp only [nz1, nz2, nz3]
  refine wpList_nil ?_
  refine then_n (hK31 _ _ ?_)
  refine wp_ret ?_
  have he32 : rwide_m s = (((y10 : Nat) : Int), 0) := (hq30.trans (show rwide_m_k0 s y10 y11 = (((y10 : Nat) : Int), 0) from by unfold rwide_m_k0; rfl))
  exact ⟨rfl, .tuple #[.int .i64 ((y10 : Nat) : Int), .int .i64 0], res_tt rfl rfl rfl, ⟨by (rw [he32]; try rfl), hm29.below⟩⟩
theorem run_rwide {o : Oper} {a : Act} {w : World} {x0 : Operand} {v0 : Value} (ho : o.op = .call { callee := .value (.func 56), args := #[x0], argTypes := #[9] }) (h0 : a.eval x0 = v0) :
    (execOp a.eval o).run Tryd.prog w = .ok (.enter 56 #[v0]) w := by
  unfold execOp
  simp only [ho]
  have hf : a.eval (.func 56) = .func (.func 56) #[] #[] := rfl
  generalize a.eval = f at *
  go_simp
end Go.Proofs.YtglnifckngcpkaaDoor.Hd
