/- Layer 8: octal digits. -/
import Derived.Test.YtglnifckngcpkaaDoorHdK
namespace Go.Proofs.YtglnifckngcpkaaDoor.Hd
open Go.RowKit
open Go.Proofs.YtglnifckngcpkaaDoor.Sym Go.Proofs.YtglnifckngcpkaaDoor.Mem
open Go.Proofs.YtglnifckngcpkaaDoor.Sx hiding Mm m_alloc m_store m_put m_call m_callx m_make m_append r_string r_ixS
set_option linter.unusedVariables false
attribute [local irreducible] wpList Oper.wp

theorem run_ib {o : Oper} {a : Act} {w : World} {x0 x1 : Operand} {v0 v1 : Value} (ho : o.op = .call { callee := .value (.func 47), args := #[x0, x1], argTypes := #[9, 5] }) (h0 : a.eval x0 = v0) (h1 : a.eval x1 = v1) :
    (execOp a.eval o).run Tryd.prog w = .ok (.enter 47 #[v0, v1]) w := by
  unfold execOp
  simp only [ho]
  have hf : a.eval (.func 47) = .func (.func 47) #[] #[] := rfl
  generalize a.eval = f at *
  go_simp
theorem run_cut {o : Oper} {a : Act} {w : World} {x0 x1 : Operand} {v0 v1 : Value} (ho : o.op = .call { callee := .value (.func 55), args := #[x0, x1], argTypes := #[9, 9] }) (h0 : a.eval x0 = v0) (h1 : a.eval x1 = v1) :
    (execOp a.eval o).run Tryd.prog w = .ok (.enter 55 #[v0, v1]) w := by
  unfold execOp
  simp only [ho]
  have hf : a.eval (.func 55) = .func (.func 55) #[] #[] := rfl
  generalize a.eval = f at *
  go_simp
theorem run_rep {o : Oper} {a : Act} {w : World} {x0 x1 : Operand} {v0 v1 : Value} (ho : o.op = .call { callee := .value (.func 51), args := #[x0, x1], argTypes := #[9, 3] }) (h0 : a.eval x0 = v0) (h1 : a.eval x1 = v1) :
    (execOp a.eval o).run Tryd.prog w = .ok (.enter 51 #[v0, v1]) w := by
  unfold execOp
  simp only [ho]
  have hf : a.eval (.func 51) = .func (.func 51) #[] #[] := rfl
  generalize a.eval = f at *
  go_simp
def octal_m_b0 (n : Int) (digits : Int) (rec : Int × Int × (List UInt8) → Sum (Int × Int × (List UInt8)) ((List UInt8) × Bool)) (x19 : Int) (x20 : Int) (l21 : List UInt8) : Sum (Int × Int × (List UInt8)) ((List UInt8) × Bool) :=
  if 0 ≤ x20 then
    rec ((x19 / (8 : Int)), (x20 - (1 : Int)), (l21.set x20.toNat (UInt8.ofNat ((48 : Int) + (x19 % (8 : Int))).toNat)))
  else
    .inl (x19, x20, l21)
def octal_m_l0 (n : Int) (digits : Int) : Nat → Int × Int × (List UInt8) → Sum (Int × Int × (List UInt8)) ((List UInt8) × Bool)
  | 0, zz => .inl zz
  | nq + 1, zz => octal_m_b0 n digits (octal_m_l0 n digits nq) zz.1 zz.2.1 zz.2.2

def octal_m_k0 (n : Int) (digits : Int) (y25 : Int) (y26 : Int) (y27 : List UInt8) : (List UInt8) × Bool :=
  (y27, (decide (y25 = 0)))

def octal_m (n : Int) (digits : Int) : (List UInt8) × Bool :=
  if n < 0 then
    (([]), false)
  else
    if digits < 0 then
      (([]), false)
    else
      if 22 < digits then
        (([]), false)
      else
        fin (octal_m_l0 n digits (((digits - (1 : Int)) + 1).toNat + 1) (n, (digits - (1 : Int)), (List.replicate digits.toNat (0 : UInt8)))) (fun r => r) (fun zz => octal_m_k0 n digits zz.1 zz.2.1 zz.2.2)

set_option maxHeartbeats 4000000 in
set_option maxRecDepth 100000 in
theorem octal_any (n : Int) (digits : Int) (w : World)  (hp0 : n ≤ 9223372036854775807) : Calls Tryd.prog 37 #[.int .i64 (n), .int .i64 (digits)] w (fun e w' => e = .returned (.tuple #[.string (tx ((octal_m n digits).1)), .bool ((octal_m n digits).2)]) ∧ Below w.heap.size w w') := by
  go_enter Tryd.func37, Tryd.ntmps37
  have hm00 := Mm.nil none (fun _ => True) w
  have hm0 := hm00
  refine wp_seq_k (fun K1 hK1 => ?_)
  refine wp_region_lit ?_
  refine lvw 4 (.string (tx ([]))) rfl rfl (run_as rfl rfl) ?_
  simp only [nz1, nz2, nz3]
  refine lvw 5 (.bool false) rfl rfl (run_as rfl rfl) ?_
  simp only [nz1, nz2, nz3]
  refine wpList_nil ?_
  refine then_n (hK1 _ _ ?_)
  refine wp_seq_k (fun K2 hK2 => ?_)
  refine wp_seq_k (fun K3 hK3 => ?_)
  refine wp_region_lit ?_
  refine lvw 8 (.int .i64 (n)) rfl rfl (run_mv rfl rfl) ?_
  simp only [nz1, nz2, nz3]
  refine lvb 9 (n < 0) rfl rfl (z_lss n 0 rfl rfl rfl) (fun hs4 => ?_) (fun hs4 => ?_)
  · simp only [nz1, nz2, nz3]
    refine lvw 10 (.bool true) rfl rfl (run_mv rfl rfl) ?_
    simp only [nz1, nz2, nz3]
    refine lst_skip 11 rfl rfl ?_
    simp only [nz1, nz2, nz3]
    refine lst_skip 12 rfl rfl ?_
    simp only [nz1, nz2, nz3]
    refine lvw 13 (.bool true) rfl rfl (run_pick rfl rfl rfl) ?_
    simp only [nz1, nz2, nz3]
    refine lvw 14 (.bool true) rfl rfl (run_mv rfl rfl) ?_
    simp only [nz1, nz2, nz3]
    refine lst_skip 15 rfl rfl ?_
    simp only [nz1, nz2, nz3]
    refine lst_skip 16 rfl rfl ?_
    simp only [nz1, nz2, nz3]
    refine lvw 17 (.bool true) rfl rfl (run_pick rfl rfl rfl) ?_
    simp only [nz1, nz2, nz3]
    refine wpList_nil ?_
    refine then_n (hK3 _ _ ?_)
    refine cond_t rfl ?_
    refine wp_seq_k (fun K5 hK5 => ?_)
    refine wp_region_lit ?_
    refine lvw 4 (.string (tx ([]))) rfl rfl (run_as rfl rfl) ?_
    simp only [nz1, nz2, nz3]
    refine lvw 5 (.bool false) rfl rfl (run_as rfl rfl) ?_
    simp only [nz1, nz2, nz3]
    refine wpList_nil ?_
    refine then_n (hK5 _ _ ?_)
    refine wp_ret ?_
    refine then_r ?_
    have he6 : octal_m n digits = (([]), false) := (show octal_m n digits = (([]), false) from by unfold octal_m; rw [if_pos hs4] <;> rfl)
    exact ⟨rfl, .tuple #[.string (tx ([])), .bool false], res_tt rfl rfl rfl, ⟨by rw [he6], hm0.below⟩⟩
  simp only [nz1, nz2, nz3]
  refine lvw 10 (.bool false) rfl rfl (run_mv rfl rfl) ?_
  simp only [nz1, nz2, nz3]
  refine lvw 11 (.int .i64 (digits)) rfl rfl (run_mv rfl rfl) ?_
  simp only [nz1, nz2, nz3]
  refine lvb 12 (digits < 0) rfl rfl (z_lss digits 0 rfl rfl rfl) (fun hs7 => ?_) (fun hs7 => ?_)
  · simp only [nz1, nz2, nz3]
    refine lvw 13 (.bool true) rfl rfl (run_pickf rfl rfl rfl) ?_
    simp only [nz1, nz2, nz3]
    refine lvw 14 (.bool true) rfl rfl (run_mv rfl rfl) ?_
    simp only [nz1, nz2, nz3]
    refine lst_skip 15 rfl rfl ?_
    simp only [nz1, nz2, nz3]
    refine lst_skip 16 rfl rfl ?_
    simp only [nz1, nz2, nz3]
    refine lvw 17 (.bool true) rfl rfl (run_pick rfl rfl rfl) ?_
    simp only [nz1, nz2, nz3]
    refine wpList_nil ?_
    refine then_n (hK3 _ _ ?_)
    refine cond_t rfl ?_
    refine wp_seq_k (fun K8 hK8 => ?_)
    refine wp_region_lit ?_
    refine lvw 4 (.string (tx ([]))) rfl rfl (run_as rfl rfl) ?_
    simp only [nz1, nz2, nz3]
    refine lvw 5 (.bool false) rfl rfl (run_as rfl rfl) ?_
    simp only [nz1, nz2, nz3]
    refine wpList_nil ?_
    refine then_n (hK8 _ _ ?_)
    refine wp_ret ?_
    refine then_r ?_
    have he9 : octal_m n digits = (([]), false) := (show octal_m n digits = (([]), false) from by unfold octal_m; rw [if_neg hs4, if_pos hs7] <;> rfl)
    exact ⟨rfl, .tuple #[.string (tx ([])), .bool false], res_tt rfl rfl rfl, ⟨by rw [he9], hm0.below⟩⟩
  simp only [nz1, nz2, nz3]
  refine lvw 13 (.bool false) rfl rfl (run_pickf rfl rfl rfl) ?_
  simp only [nz1, nz2, nz3]
  refine lvw 14 (.bool false) rfl rfl (run_mv rfl rfl) ?_
  simp only [nz1, nz2, nz3]
  refine lvw 15 (.int .i64 (digits)) rfl rfl (run_mv rfl rfl) ?_
  simp only [nz1, nz2, nz3]
  refine lvw 16 (.bool (decide (22 < digits))) rfl rfl (z_gtr digits 22 rfl rfl rfl) ?_
  simp only [nz1, nz2, nz3]
  refine lvw 17 (.bool (decide (22 < digits))) rfl rfl (run_pickf rfl rfl rfl) ?_
  simp only [nz1, nz2, nz3]
  refine wpList_nil ?_
  refine then_n (hK3 _ _ ?_)
  refine cond_d (22 < digits) rfl (fun hc10 => ?_) (fun hc10 => ?_)
  · refine wp_seq_k (fun K11 hK11 => ?_)
    refine wp_region_lit ?_
    refine lvw 4 (.string (tx ([]))) rfl rfl (run_as rfl rfl) ?_
    simp only [nz1, nz2, nz3]
    refine lvw 5 (.bool false) rfl rfl (run_as rfl rfl) ?_
    simp only [nz1, nz2, nz3]
    refine wpList_nil ?_
    refine then_n (hK11 _ _ ?_)
    refine wp_ret ?_
    refine then_r ?_
    have he12 : octal_m n digits = (([]), false) := (show octal_m n digits = (([]), false) from by unfold octal_m; rw [if_neg hs4, if_neg hs7, if_pos hc10] <;> rfl)
    exact ⟨rfl, .tuple #[.string (tx ([])), .bool false], res_tt rfl rfl rfl, ⟨by rw [he12], hm0.below⟩⟩
  refine wp_skip ?_
  refine then_n (hK2 _ _ ?_)
  refine wp_seq_k (fun K13 hK13 => ?_)
  refine wp_region_lit ?_
  refine lvw 18 (.int .i64 (digits)) rfl rfl (run_mv rfl rfl) ?_
  simp only [nz1, nz2, nz3]
  obtain ⟨iq, hiq, hz1, hz2, hz3⟩ := inf_5
  refine lst rfl (m_makeR (enc := eB) (size := 1) digits.toNat (0 : UInt8) iq _ hm0 19 rfl rfl Tryd.underlying34 hiq hz1 hz2 hz3 eB_len rfl (show (Value.int .i64 digits) = .int .i64 ((digits.toNat : Nat) : Int) from by congr 1; omega) (show (Value.int .i64 digits) = .int .i64 ((digits.toNat : Nat) : Int) from by congr 1; omega) (by first | omega | (simp; omega)) (by first | omega | (simp; omega)) (fun v16 w14 (hm15 : Mm none (fun _ => True) w w14 [.row v16 (List.replicate digits.toNat (0 : UInt8)).length ((List.replicate digits.toNat (0 : UInt8)).flatMap eB) 5 1]) => ?_))
  simp only [nz1, nz2, nz3]
  refine lvw 6 (v16) rfl rfl (run_as rfl rfl) ?_
  simp only [nz1, nz2, nz3]
  refine wpList_nil ?_
  refine then_n (hK13 _ _ ?_)
  refine wp_seq_k (fun K17 hK17 => ?_)
  refine wp_seq_k (fun K18 hK18 => ?_)
  refine wp_region_lit ?_
  refine lvw 20 (.int .i64 (digits)) rfl rfl (run_mv rfl rfl) ?_
  simp only [nz1, nz2, nz3]
  refine lvw 21 (.int .i64 ((digits - (1 : Int)))) rfl rfl (z_sub digits (1 : Int) _ (by rw [IntKind.wrap_i64]; omega) rfl rfl rfl) ?_
  simp only [nz1, nz2, nz3]
  refine lvw 7 (.int .i64 ((digits - (1 : Int)))) rfl rfl (run_as rfl rfl) ?_
  simp only [nz1, nz2, nz3]
  refine wpList_nil ?_
  refine then_n (hK18 _ _ ?_)
  refine wp_cutK (fun a' w' => ∃ (y25 : Int) (y26 : Int) (y27 : List UInt8) (yu0 : Nat → Value), octal_m_l0 n digits (((digits - (1 : Int)) + 1).toNat + 1) (n, (digits - (1 : Int)), (List.replicate digits.toNat (0 : UInt8))) = .inl (y25, y26, y27) ∧ (y27.length = digits.toNat ∧ -1 ≤ y26 ∧ y26 < digits ∧ 0 ≤ y25 ∧ y25 ≤ 9223372036854775807) ∧ a' = ⟨#[.int .i64 (y25), .int .i64 (digits), undef, undef, .string (tx ([])), .bool false, v16, .int .i64 (y26), .int .i64 (n), .bool false, .bool false, .int .i64 (digits), .bool false, .bool false, .bool false, .int .i64 (digits), .bool (decide (22 < digits)), .bool (decide (22 < digits)), .int .i64 (digits), v16, .int .i64 (digits), .int .i64 ((digits - (1 : Int))), yu0 0, yu0 1, yu0 2, yu0 3, yu0 4, yu0 5, yu0 6, yu0 7, yu0 8, yu0 9, yu0 10, yu0 11, yu0 12, yu0 13, undef, undef, undef, undef], []⟩ ∧ Mm none (fun _ => True) w w' [.row v16 y27.length (y27.flatMap eB) 5 1]) ?_ ?_
  · refine wp_block ?_
    refine wp_loop_n (fun n' a' w' => ∃ (n22 : Nat) (x19 : Int) (x20 : Int) (l21 : List UInt8) (u0 : Nat → Value), n' = n22 ∧ (x20 + 1).toNat < n22 ∧ octal_m_l0 n digits (((digits - (1 : Int)) + 1).toNat + 1) (n, (digits - (1 : Int)), (List.replicate digits.toNat (0 : UInt8))) = octal_m_l0 n digits n22 (x19, x20, l21) ∧ (l21.length = digits.toNat ∧ -1 ≤ x20 ∧ x20 < digits ∧ 0 ≤ x19 ∧ x19 ≤ 9223372036854775807) ∧ a' = ⟨#[.int .i64 (x19), .int .i64 (digits), undef, undef, .string (tx ([])), .bool false, v16, .int .i64 (x20), .int .i64 (n), .bool false, .bool false, .int .i64 (digits), .bool false, .bool false, .bool false, .int .i64 (digits), .bool (decide (22 < digits)), .bool (decide (22 < digits)), .int .i64 (digits), v16, .int .i64 (digits), .int .i64 ((digits - (1 : Int))), u0 0, u0 1, u0 2, u0 3, u0 4, u0 5, u0 6, u0 7, u0 8, u0 9, u0 10, u0 11, u0 12, u0 13, undef, undef, undef, undef], []⟩ ∧ Mm none (fun _ => True) w w' [.row v16 l21.length (l21.flatMap eB) 5 1]) ⟨(((digits - (1 : Int)) + 1).toNat + 1), n, (digits - (1 : Int)), (List.replicate digits.toNat (0 : UInt8)), (fun qq => List.getD [undef, undef, undef, undef, undef, undef, undef, undef, undef, undef, undef, undef, undef, undef] qq undef), rfl, Nat.lt_succ_self _, rfl, ⟨List.length_replicate, by omega, by omega, by omega, by omega⟩, rfl, hm15⟩ ?_
    rintro n22 _ w29 ⟨_, x19, x20, l21, u0, rfl, hl33, hi24, hoc, rfl, hm30⟩ R31 hR31
    obtain ⟨k23, rfl⟩ : ∃ k, n22 = k + 1 := ⟨n22 - 1, by omega⟩
    refine wp_seq_k (fun K34 hK34 => ?_)
    refine wp_seq_k (fun K35 hK35 => ?_)
    refine wp_region_lit ?_
    refine lvw 22 (.int .i64 (x20)) rfl rfl (run_mv rfl rfl) ?_
    simp only [nz1, nz2, nz3]
    refine lvw 23 (.bool (decide (0 ≤ x20))) rfl rfl (z_geq x20 0 rfl rfl rfl) ?_
    simp only [nz1, nz2, nz3]
    refine wpList_nil ?_
    refine then_n (hK35 _ _ ?_)
    refine cond_d (0 ≤ x20) rfl (fun hc36 => ?_) (fun hc36 => ?_)
    rotate_left
    · refine wp_exit ?_
      refine then_x ?_
      refine then_x ?_
      refine blk_x ?_
      refine then_n ?_
      exact ⟨x19, x20, l21, (fun qq => List.getD [.int .i64 (x20), .bool (decide (0 ≤ x20)), u0 2, u0 3, u0 4, u0 5, u0 6, u0 7, u0 8, u0 9, u0 10, u0 11, u0 12, u0 13] qq undef), (hi24.trans (show octal_m_b0 n digits (octal_m_l0 n digits k23) x19 x20 l21 = .inl (x19, x20, l21) from by unfold octal_m_b0; rw [if_neg hc36] <;> rfl)), (by first | omega | (simp; done) | (simp; omega) | (simp at *; omega)), rfl, hm30⟩
    refine wp_skip ?_
    refine then_n (hK34 _ _ ?_)
    refine wp_seq_k (fun K37 hK37 => ?_)
    refine wp_block ?_
    refine wp_seq_k (fun K38 hK38 => ?_)
    refine wp_region_lit ?_
    refine lvw 26 (v16) rfl rfl (run_mv rfl rfl) ?_
    simp only [nz1, nz2, nz3]
    refine lvw 27 (.int .i64 (x20)) rfl rfl (run_mv rfl rfl) ?_
    simp only [nz1, nz2, nz3]
    refine lvw 28 (.int .i64 (x19)) rfl rfl (run_mv rfl rfl) ?_
    simp only [nz1, nz2, nz3]
    refine lvw 29 (.int .i64 ((x19 % (8 : Int)))) rfl rfl (z_rem x19 (8 : Int) (x19 % (8 : Int)) (by omega) (Int.tmod_eq_emod_of_nonneg (by omega)) rfl rfl rfl) ?_
    simp only [nz1, nz2, nz3]
    refine lvw 30 (.int .i32 ((x19 % (8 : Int)))) rfl rfl (z_conv (k' := .i32) (x19 % (8 : Int)) (x19 % (8 : Int)) some_3 Tryd.underlying21 (by rw [IntKind.wrap_i32]; omega) rfl rfl) ?_
    simp only [nz1, nz2, nz3]
    refine lvw 31 (.int .i32 (((48 : Int) + (x19 % (8 : Int))))) rfl rfl (z_add (48 : Int) (x19 % (8 : Int)) _ (by rw [IntKind.wrap_i32]; omega) rfl rfl rfl) ?_
    simp only [nz1, nz2, nz3]
    refine lvw 32 (.int .u8 (((UInt8.ofNat ((48 : Int) + (x19 % (8 : Int))).toNat).toNat : Nat) : Int)) rfl rfl (z_conv (k' := .u8) ((48 : Int) + (x19 % (8 : Int))) (((UInt8.ofNat ((48 : Int) + (x19 % (8 : Int))).toNat).toNat : Nat) : Int) some_21 Tryd.underlying5 (u8_wrap _ (by omega)) rfl rfl) ?_
    simp only [nz1, nz2, nz3]
    refine lvw 33 (.pointer (some ⟨(bk v16), (po v16 + x20.toNat * 1), none⟩)) rfl rfl (r_ixvZ (Rs.row (hm30.row 0 rfl)) x20 (by omega) (by omega) Tryd.underlying34 sz_5 rfl rfl rfl) ?_
    simp only [nz1, nz2, nz3]
    refine lst rfl (m_setR 0 (l := l21) x20.toNat (UInt8.ofNat ((48 : Int) + (x19 % (8 : Int))).toNat) (.int .u8 (((UInt8.ofNat ((48 : Int) + (x19 % (8 : Int))).toNat).toNat : Nat) : Int)) hm30 rfl rfl rfl (by omega) rfl rfl sz_5 eB_len rfl rfl (fun w39 (hm40 : Mm none (fun _ => True) w w39 [.row v16 (l21.set x20.toNat (UInt8.ofNat ((48 : Int) + (x19 % (8 : Int))).toNat)).length ((l21.set x20.toNat (UInt8.ofNat ((48 : Int) + (x19 % (8 : Int))).toNat)).flatMap eB) 5 1]) => ?_))
    refine wpList_nil ?_
    refine then_n (hK38 _ _ ?_)
    refine wp_region_lit ?_
    refine lvw 34 (.int .i64 (x19)) rfl rfl (run_mv rfl rfl) ?_
    simp only [nz1, nz2, nz3]
    refine lvw 35 (.int .i64 ((x19 / (8 : Int)))) rfl rfl (z_quo x19 (8 : Int) (x19 / (8 : Int)) (by omega) (by rw [IntKind.wrap_i64, Int.tdiv_eq_ediv_of_nonneg (by omega)]; omega) rfl rfl rfl) ?_
    simp only [nz1, nz2, nz3]
    refine lvw 0 (.int .i64 ((x19 / (8 : Int)))) rfl rfl (run_as rfl rfl) ?_
    simp only [nz1, nz2]
    refine wpList_nil ?_
    refine blk_n ?_
    refine then_n (hK37 _ _ ?_)
    refine wp_region_lit ?_
    refine lvw 24 (.int .i64 (x20)) rfl rfl (run_mv rfl rfl) ?_
    simp only [nz1, nz2, nz3]
    refine lvw 25 (.int .i64 ((x20 - (1 : Int)))) rfl rfl (z_sub x20 (1 : Int) _ (by rw [IntKind.wrap_i64]; omega) rfl rfl rfl) ?_
    simp only [nz1, nz2, nz3]
    refine lvw 7 (.int .i64 ((x20 - (1 : Int)))) rfl rfl (run_as rfl rfl) ?_
    simp only [nz1, nz2, nz3]
    refine wpList_nil ?_
    refine then_n (hR31 _ _ _ ⟨k23, (x19 / (8 : Int)), (x20 - (1 : Int)), (l21.set x20.toNat (UInt8.ofNat ((48 : Int) + (x19 % (8 : Int))).toNat)), (fun qq => List.getD [.int .i64 (x20), .bool (decide (0 ≤ x20)), .int .i64 (x20), .int .i64 ((x20 - (1 : Int))), v16, .int .i64 (x20), .int .i64 (x19), .int .i64 ((x19 % (8 : Int))), .int .i32 ((x19 % (8 : Int))), .int .i32 (((48 : Int) + (x19 % (8 : Int)))), .int .u8 (((UInt8.ofNat ((48 : Int) + (x19 % (8 : Int))).toNat).toNat : Nat) : Int), .pointer (some ⟨(bk v16), (po v16 + x20.toNat * 1), none⟩), .int .i64 (x19), .int .i64 ((x19 / (8 : Int)))] qq undef), rfl, (by first | omega | (simp; omega) | (simp at *; omega)), (hi24.trans (show octal_m_b0 n digits (octal_m_l0 n digits k23) x19 x20 l21 = octal_m_l0 n digits k23 ((x19 / (8 : Int)), (x20 - (1 : Int)), (l21.set x20.toNat (UInt8.ofNat ((48 : Int) + (x19 % (8 : Int))).toNat))) from by unfold octal_m_b0; rw [if_pos hc36] <;> rfl)), (by (try rw [List.length_set]); omega), rfl, hm40⟩ ?_)
    omega
  rintro _ w41 ⟨y25, y26, y27, yu0, hx28, hoc, rfl, hm42⟩
  have hq43 : octal_m n digits = octal_m_k0 n digits y25 y26 y27 := (show octal_m n digits = octal_m_k0 n digits y25 y26 y27 from by unfold octal_m; rw [if_neg hs4, if_neg hs7, if_neg hc10, hx28] <;> rfl)
  refine then_n (hK17 _ _ ?_)
  refine wp_seq_k (fun K44 hK44 => ?_)
  refine wp_region_lit ?_
  refine lvw 36 (v16) rfl rfl (run_mv rfl rfl) ?_
  simp only [nz1, nz2, nz3]
  refine lvw 37 (.string (tx y27)) rfl rfl (r_stringR y27 (by have h := (Rs.row (hm42.row 0 rfl)); unfold Rs at h; rw [eB_map] at h; exact h) Tryd.underlying34 Tryd.underlying5 Tryd.underlying9 rfl rfl) ?_
  simp only [nz1, nz2, nz3]
  refine lvw 38 (.int .i64 (y25)) rfl rfl (run_mv rfl rfl) ?_
  simp only [nz1, nz2, nz3]
  refine lvw 39 (.bool (decide (y25 = 0))) rfl rfl (z_eql y25 0 rfl rfl rfl) ?_
  simp only [nz1, nz2, nz3]
  refine lvw 4 (.string (tx y27)) rfl rfl (run_as rfl rfl) ?_
  simp only [nz1, nz2, nz3]
  refine lvw 5 (.bool (decide (y25 = 0))) rfl rfl (run_as rfl rfl) ?_
  simp only [nz1, nz2, nz3]
  refine wpList_nil ?_
  refine then_n (hK44 _ _ ?_)
  refine wp_ret ?_
  have he45 : octal_m n digits = (y27, (decide (y25 = 0))) := (hq43.trans (show octal_m_k0 n digits y25 y26 y27 = (y27, (decide (y25 = 0))) from by unfold octal_m_k0; rfl))
  exact ⟨rfl, .tuple #[.string (tx y27), .bool (decide (y25 = 0))], res_tt rfl rfl rfl, ⟨by rw [he45], hm42.below⟩⟩
theorem run_octal {o : Oper} {a : Act} {w : World} {x0 x1 : Operand} {v0 v1 : Value} (ho : o.op = .call { callee := .value (.func 37), args := #[x0, x1], argTypes := #[3, 3] }) (h0 : a.eval x0 = v0) (h1 : a.eval x1 = v1) :
    (execOp a.eval o).run Tryd.prog w = .ok (.enter 37 #[v0, v1]) w := by
  unfold execOp
  simp only [ho]
  have hf : a.eval (.func 37) = .func (.func 37) #[] #[] := rfl
  generalize a.eval = f at *
  go_simp
end Go.Proofs.YtglnifckngcpkaaDoor.Hd
