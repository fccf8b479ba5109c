/- Layer 8: octal digits as the document says. -/
import Derived.Test.YtglnifckngcpkaaDoorHdK
namespace Go.Proofs.YtglnifckngcpkaaDoor.Hd
open Go.RowKit
open Go.Proofs.YtglnifckngcpkaaDoor.Sym Go.Proofs.YtglnifckngcpkaaDoor.Mem
open Go.Proofs.YtglnifckngcpkaaDoor.Sx hiding Mm m_alloc m_store m_put m_call m_callx m_make m_append r_string r_ixS
set_option linter.unusedVariables false
attribute [local irreducible] wpList Oper.wp

def roct_m_b0 (n : Int) (digits : Int) (rec : Int × (List UInt8) × Nat → Sum (Int × (List UInt8) × Nat) ((List UInt8) × Bool)) (x16 : Int) (x17 : List UInt8) (x18 : Nat) : Sum (Int × (List UInt8) × Nat) ((List UInt8) × Bool) :=
  if ((x18 : Nat) : Int) < digits then
    rec ((x16 / (8 : Int)), (([(UInt8.ofNat ((48 : Int) + (x16 % (8 : Int))).toNat)] : List UInt8) ++ x17), (x18 + 1))
  else
    .inl (x16, x17, x18)
def roct_m_l0 (n : Int) (digits : Int) : Nat → Int × (List UInt8) × Nat → Sum (Int × (List UInt8) × Nat) ((List UInt8) × Bool)
  | 0, zz => .inl zz
  | nq + 1, zz => roct_m_b0 n digits (roct_m_l0 n digits nq) zz.1 zz.2.1 zz.2.2

def roct_m_k0 (n : Int) (digits : Int) (y22 : Int) (y23 : List UInt8) (y24 : Nat) : (List UInt8) × Bool :=
  (y23, (decide (y22 = 0)))

def roct_m (n : Int) (digits : Int) : (List UInt8) × Bool :=
  if n < 0 then
    (([]), false)
  else
    if digits < 0 then
      (([]), false)
    else
      if 22 < digits then
        (([]), false)
      else
        fin (roct_m_l0 n digits ((digits - ((0 : Nat) : Int)).toNat + 1) (n, ([]), 0)) (fun r => r) (fun zz => roct_m_k0 n digits zz.1 zz.2.1 zz.2.2)

set_option maxHeartbeats 4000000 in
set_option maxRecDepth 100000 in
theorem roct_any (n : Int) (digits : Int) (w : World)  (hp0 : n ≤ 9223372036854775807) : Calls Tryd.prog 40 #[.int .i64 (n), .int .i64 (digits)] w (fun e w' => e = .returned (.tuple #[.string (tx ((roct_m n digits).1)), .bool ((roct_m n digits).2)]) ∧ Below w.heap.size w w') := by
  go_enter Tryd.func40, Tryd.ntmps40
  have hm00 := Mm.nil none (fun _ => True) w
  have hm0 := hm00
  refine wp_seq_k (fun K1 hK1 => ?_)
  refine wp_region_lit ?_
  refine lvw 4 (.string (tx ([]))) rfl rfl (run_as rfl rfl) ?_
  simp only [nz1, nz2, nz3]
  refine lvw 5 (.bool false) rfl rfl (run_as rfl rfl) ?_
  simp only [nz1, nz2, nz3]
  refine wpList_nil ?_
  refine then_n (hK1 _ _ ?_)
  refine wp_seq_k (fun K2 hK2 => ?_)
  refine wp_seq_k (fun K3 hK3 => ?_)
  refine wp_region_lit ?_
  refine lvw 8 (.int .i64 (n)) rfl rfl (run_mv rfl rfl) ?_
  simp only [nz1, nz2, nz3]
  refine lvb 9 (n < 0) rfl rfl (z_lss n 0 rfl rfl rfl) (fun hs4 => ?_) (fun hs4 => ?_)
  · simp only [nz1, nz2, nz3]
    refine lvw 10 (.bool true) rfl rfl (run_mv rfl rfl) ?_
    simp only [nz1, nz2, nz3]
    refine lst_skip 11 rfl rfl ?_
    simp only [nz1, nz2, nz3]
    refine lst_skip 12 rfl rfl ?_
    simp only [nz1, nz2, nz3]
    refine lvw 13 (.bool true) rfl rfl (run_pick rfl rfl rfl) ?_
    simp only [nz1, nz2, nz3]
    refine lvw 14 (.bool true) rfl rfl (run_mv rfl rfl) ?_
    simp only [nz1, nz2, nz3]
    refine lst_skip 15 rfl rfl ?_
    simp only [nz1, nz2, nz3]
    refine lst_skip 16 rfl rfl ?_
    simp only [nz1, nz2, nz3]
    refine lvw 17 (.bool true) rfl rfl (run_pick rfl rfl rfl) ?_
    simp only [nz1, nz2, nz3]
    refine wpList_nil ?_
    refine then_n (hK3 _ _ ?_)
    refine cond_t rfl ?_
    refine wp_seq_k (fun K5 hK5 => ?_)
    refine wp_region_lit ?_
    refine lvw 4 (.string (tx ([]))) rfl rfl (run_as rfl rfl) ?_
    simp only [nz1, nz2, nz3]
    refine lvw 5 (.bool false) rfl rfl (run_as rfl rfl) ?_
    simp only [nz1, nz2, nz3]
    refine wpList_nil ?_
    refine then_n (hK5 _ _ ?_)
    refine wp_ret ?_
    refine then_r ?_
    have he6 : roct_m n digits = (([]), false) := (show roct_m n digits = (([]), false) from by unfold roct_m; rw [if_pos hs4] <;> rfl)
    exact ⟨rfl, .tuple #[.string (tx ([])), .bool false], res_tt rfl rfl rfl, ⟨by (rw [he6]; try rfl), hm0.below⟩⟩
  simp only [nz1, nz2, nz3]
  refine lvw 10 (.bool false) rfl rfl (run_mv rfl rfl) ?_
  simp only [nz1, nz2, nz3]
  refine lvw 11 (.int .i64 (digits)) rfl rfl (run_mv rfl rfl) ?_
  simp only [nz1, nz2, nz3]
  refine lvb 12 (digits < 0) rfl rfl (z_lss digits 0 rfl rfl rfl) (fun hs7 => ?_) (fun hs7 => ?_)
  · simp only [nz1, nz2, nz3]
    refine lvw 13 (.bool true) rfl rfl (run_pickf rfl rfl rfl) ?_
    simp only [nz1, nz2, nz3]
    refine lvw 14 (.bool true) rfl rfl (run_mv rfl rfl) ?_
    simp only [nz1, nz2, nz3]
    refine lst_skip 15 rfl rfl ?_
    simp only [nz1, nz2, nz3]
    refine lst_skip 16 rfl rfl ?_
    simp only [nz1, nz2, nz3]
    refine lvw 17 (.bool true) rfl rfl (run_pick rfl rfl rfl) ?_
    simp only [nz1, nz2, nz3]
    refine wpList_nil ?_
    refine then_n (hK3 _ _ ?_)
    refine cond_t rfl ?_
    refine wp_seq_k (fun K8 hK8 => ?_)
    refine wp_region_lit ?_
    refine lvw 4 (.string (tx ([]))) rfl rfl (run_as rfl rfl) ?_
    simp only [nz1, nz2, nz3]
    refine lvw 5 (.bool false) rfl rfl (run_as rfl rfl) ?_
    simp only [nz1, nz2, nz3]
    refine wpList_nil ?_
    refine then_n (hK8 _ _ ?_)
    refine wp_ret ?_
    refine then_r ?_
    have he9 : roct_m n digits = (([]), false) := (show roct_m n digits = (([]), false) from by unfold roct_m; rw [if_neg hs4, if_pos hs7] <;> rfl)
    exact ⟨rfl, .tuple #[.string (tx ([])), .bool false], res_tt rfl rfl rfl, ⟨by (rw [he9]; try rfl), hm0.below⟩⟩
  simp only [nz1, nz2, nz3]
  refine lvw 13 (.bool false) rfl rfl (run_pickf rfl rfl rfl) ?_
  simp only [nz1, nz2, nz3]
  refine lvw 14 (.bool false) rfl rfl (run_mv rfl rfl) ?_
  simp only [nz1, nz2, nz3]
  refine lvw 15 (.int .i64 (digits)) rfl rfl (run_mv rfl rfl) ?_
  simp only [nz1, nz2, nz3]
  refine lvw 16 (.bool (decide (22 < digits))) rfl rfl (z_gtr digits 22 rfl rfl rfl) ?_
  simp only [nz1, nz2, nz3]
  refine lvw 17 (.bool (decide (22 < digits))) rfl rfl (run_pickf rfl rfl rfl) ?_
  simp only [nz1, nz2, nz3]
  refine wpList_nil ?_
  refine then_n (hK3 _ _ ?_)
  refine cond_d (22 < digits) rfl (fun hc10 => ?_) (fun hc10 => ?_)
  · refine wp_seq_k (fun K11 hK11 => ?_)
    refine wp_region_lit ?_
    refine lvw 4 (.string (tx ([]))) rfl rfl (run_as rfl rfl) ?_
    simp only [nz1, nz2, nz3]
    refine lvw 5 (.bool false) rfl rfl (run_as rfl rfl) ?_
    simp only [nz1, nz2, nz3]
    refine wpList_nil ?_
    refine then_n (hK11 _ _ ?_)
    refine wp_ret ?_
    refine then_r ?_
    have he12 : roct_m n digits = (([]), false) := (show roct_m n digits = (([]), false) from by unfold roct_m; rw [if_neg hs4, if_neg hs7, if_pos hc10] <;> rfl)
    exact ⟨rfl, .tuple #[.string (tx ([])), .bool false], res_tt rfl rfl rfl, ⟨by (rw [he12]; try rfl), hm0.below⟩⟩
  refine wp_skip ?_
  refine then_n (hK2 _ _ ?_)
  refine wp_seq_k (fun K13 hK13 => ?_)
  refine wp_region_lit ?_
  refine lvw 6 (.string (tx ([]))) rfl rfl (run_as rfl rfl) ?_
  simp only [nz1, nz2, nz3]
  refine wpList_nil ?_
  refine then_n (hK13 _ _ ?_)
  refine wp_seq_k (fun K14 hK14 => ?_)
  refine wp_seq_k (fun K15 hK15 => ?_)
  refine wp_region_lit ?_
  refine lvw 7 (.int .i64 0) rfl rfl (run_as rfl rfl) ?_
  simp only [nz1, nz2, nz3]
  refine wpList_nil ?_
  refine then_n (hK15 _ _ ?_)
  refine wp_cutK (fun a' w' => ∃ (y22 : Int) (y23 : List UInt8) (y24 : Nat) (yu0 : Nat → Value), roct_m_l0 n digits ((digits - ((0 : Nat) : Int)).toNat + 1) (n, ([]), 0) = .inl (y22, y23, y24) ∧ (y23.length = y24 ∧ y24 ≤ 22 ∧ 0 ≤ y22 ∧ y22 ≤ 9223372036854775807) ∧ a' = ⟨#[.int .i64 (y22), .int .i64 (digits), undef, undef, .string (tx ([])), .bool false, .string (tx y23), .int .i64 ((y24 : Nat) : Int), .int .i64 (n), .bool false, .bool false, .int .i64 (digits), .bool false, .bool false, .bool false, .int .i64 (digits), .bool (decide (22 < digits)), .bool (decide (22 < digits)), yu0 0, yu0 1, yu0 2, yu0 3, yu0 4, yu0 5, yu0 6, yu0 7, yu0 8, yu0 9, yu0 10, yu0 11, yu0 12, yu0 13, yu0 14, undef, undef, undef], []⟩ ∧ Mm none (fun _ => True) w w' []) ?_ ?_
  · refine wp_block ?_
    refine wp_loop_n (fun n' a' w' => ∃ (n19 : Nat) (x16 : Int) (x17 : List UInt8) (x18 : Nat) (u0 : Nat → Value), n' = n19 ∧ (digits - ((x18 : Nat) : Int)).toNat < n19 ∧ roct_m_l0 n digits ((digits - ((0 : Nat) : Int)).toNat + 1) (n, ([]), 0) = roct_m_l0 n digits n19 (x16, x17, x18) ∧ (x17.length = x18 ∧ x18 ≤ 22 ∧ 0 ≤ x16 ∧ x16 ≤ 9223372036854775807) ∧ a' = ⟨#[.int .i64 (x16), .int .i64 (digits), undef, undef, .string (tx ([])), .bool false, .string (tx x17), .int .i64 ((x18 : Nat) : Int), .int .i64 (n), .bool false, .bool false, .int .i64 (digits), .bool false, .bool false, .bool false, .int .i64 (digits), .bool (decide (22 < digits)), .bool (decide (22 < digits)), u0 0, u0 1, u0 2, u0 3, u0 4, u0 5, u0 6, u0 7, u0 8, u0 9, u0 10, u0 11, u0 12, u0 13, u0 14, undef, undef, undef], []⟩ ∧ Mm none (fun _ => True) w w' []) ⟨((digits - ((0 : Nat) : Int)).toNat + 1), n, ([]), 0, (fun qq => List.getD [undef, undef, undef, undef, undef, undef, undef, undef, undef, undef, undef, undef, undef, undef, undef] qq undef), rfl, Nat.lt_succ_self _, rfl, (by first | omega | (simp; done) | (simp; omega) | (simp at *; omega)), rfl, hm0⟩ ?_
    rintro n19 _ w26 ⟨_, x16, x17, x18, u0, rfl, hl30, hi21, hro, rfl, hm27⟩ R28 hR28
    obtain ⟨k20, rfl⟩ : ∃ k, n19 = k + 1 := ⟨n19 - 1, by omega⟩
    refine wp_seq_k (fun K31 hK31 => ?_)
    refine wp_seq_k (fun K32 hK32 => ?_)
    refine wp_region_lit ?_
    refine lvw 18 (.int .i64 ((x18 : Nat) : Int)) rfl rfl (run_mv rfl rfl) ?_
    simp only [nz1, nz2, nz3]
    refine lvw 19 (.int .i64 (digits)) rfl rfl (run_mv rfl rfl) ?_
    simp only [nz1, nz2, nz3]
    refine lvw 20 (.bool (decide (((x18 : Nat) : Int) < digits))) rfl rfl (z_lss ((x18 : Nat) : Int) digits rfl rfl rfl) ?_
    simp only [nz1, nz2, nz3]
    refine wpList_nil ?_
    refine then_n (hK32 _ _ ?_)
    refine cond_d (((x18 : Nat) : Int) < digits) rfl (fun hc33 => ?_) (fun hc33 => ?_)
    rotate_left
    · refine wp_exit ?_
      refine then_x ?_
      refine then_x ?_
      refine blk_x ?_
      refine then_n ?_
      exact ⟨x16, x17, x18, (fun qq => List.getD [.int .i64 ((x18 : Nat) : Int), .int .i64 (digits), .bool (decide (((x18 : Nat) : Int) < digits)), u0 3, u0 4, u0 5, u0 6, u0 7, u0 8, u0 9, u0 10, u0 11, u0 12, u0 13, u0 14] qq undef), (hi21.trans (show roct_m_b0 n digits (roct_m_l0 n digits k20) x16 x17 x18 = .inl (x16, x17, x18) from by unfold roct_m_b0; rw [if_neg hc33] <;> rfl)), (by first | omega | (simp; done) | (simp; omega) | (simp at *; omega)), rfl, hm27⟩
    refine wp_skip ?_
    refine then_n (hK31 _ _ ?_)
    refine wp_seq_k (fun K34 hK34 => ?_)
    refine wp_block ?_
    refine wp_seq_k (fun K35 hK35 => ?_)
    refine wp_region_lit ?_
    refine lvw 23 (.int .i64 (x16)) rfl rfl (run_mv rfl rfl) ?_
    simp only [nz1, nz2, nz3]
    refine lvw 24 (.int .i64 ((x16 % (8 : Int)))) rfl rfl (z_rem x16 (8 : Int) (x16 % (8 : Int)) (by omega) (Int.tmod_eq_emod_of_nonneg (by omega)) rfl rfl rfl) ?_
    simp only [nz1, nz2, nz3]
    refine lvw 25 (.int .i64 (((48 : Int) + (x16 % (8 : Int))))) rfl rfl (z_add (48 : Int) (x16 % (8 : Int)) _ (by rw [IntKind.wrap_i64]; omega) rfl rfl rfl) ?_
    simp only [nz1, nz2, nz3]
    refine lvw 26 (.int .u8 (((UInt8.ofNat ((48 : Int) + (x16 % (8 : Int))).toNat).toNat : Nat) : Int)) rfl rfl (z_conv (k' := .u8) ((48 : Int) + (x16 % (8 : Int))) (((UInt8.ofNat ((48 : Int) + (x16 % (8 : Int))).toNat).toNat : Nat) : Int) some_3 Tryd.underlying5 (u8_wrap _ (by omega)) rfl rfl) ?_
    simp only [nz1, nz2, nz3]
    refine lst rfl (m_make (c := #[.int .u8 (((UInt8.ofNat ((48 : Int) + (x16 % (8 : Int))).toNat).toNat : Nat) : Int)]) (T := 5) (fun g => .slice (some ⟨g, 0, none⟩) 1 1) hm27 27 rfl (by unfold execOp; go_simp; try rfl) (fun g38 w36 (hm37 : Mm none (fun _ => True) w w36 [.blk g38 #[.int .u8 (((UInt8.ofNat ((48 : Int) + (x16 % (8 : Int))).toNat).toNat : Nat) : Int)] 5]) => ?_))
    simp only [nz1, nz2, nz3]
    refine lvw 28 (.string (tx ([(UInt8.ofNat ((48 : Int) + (x16 % (8 : Int))).toNat)] : List UInt8))) rfl rfl (r_stringR ([(UInt8.ofNat ((48 : Int) + (x16 % (8 : Int))).toNat)]) (by have h := Rs.blk (enc := eB) (l := ([(UInt8.ofNat ((48 : Int) + (x16 % (8 : Int))).toNat)] : List UInt8)) (hm37.at 0 rfl) rfl rfl eB_len (Nat.le_refl _); unfold Rs at h; rw [eB_map] at h; exact h) Tryd.underlying34 Tryd.underlying5 Tryd.underlying9 rfl rfl) ?_
    simp only [nz1, nz2, nz3]
    refine lvw 29 (.string (tx x17)) rfl rfl (run_mv rfl rfl) ?_
    simp only [nz1, nz2, nz3]
    refine lvw 30 (.string (tx (([(UInt8.ofNat ((48 : Int) + (x16 % (8 : Int))).toNat)] : List UInt8) ++ x17))) rfl rfl (t_cat ([(UInt8.ofNat ((48 : Int) + (x16 % (8 : Int))).toNat)] : List UInt8) x17 (by first | omega | (simp; omega) | (simp only [List.length_append, List.length_cons, List.length_nil] at *; omega)) rfl rfl rfl) ?_
    simp only [nz1, nz2, nz3]
    refine lvw 6 (.string (tx (([(UInt8.ofNat ((48 : Int) + (x16 % (8 : Int))).toNat)] : List UInt8) ++ x17))) rfl rfl (run_as rfl rfl) ?_
    simp only [nz1, nz2, nz3]
    refine wpList_nil ?_
    refine then_n (hK35 _ _ ?_)
    refine wp_region_lit ?_
    refine lvw 31 (.int .i64 (x16)) rfl rfl (run_mv rfl rfl) ?_
    simp only [nz1, nz2, nz3]
    refine lvw 32 (.int .i64 ((x16 / (8 : Int)))) rfl rfl (z_quo x16 (8 : Int) (x16 / (8 : Int)) (by omega) (by rw [IntKind.wrap_i64, Int.tdiv_eq_ediv_of_nonneg (by omega)]; omega) rfl rfl rfl) ?_
    simp only [nz1, nz2, nz3]
    refine lvw 0 (.int .i64 ((x16 / (8 : Int)))) rfl rfl (run_as rfl rfl) ?_
    simp only [nz1, nz2]
    refine wpList_nil ?_
    refine blk_n ?_
    refine then_n (hK34 _ _ ?_)
    refine wp_region_lit ?_
    refine lvw 21 (.int .i64 ((x18 : Nat) : Int)) rfl rfl (run_mv rfl rfl) ?_
    simp only [nz1, nz2, nz3]
    refine lvw 22 (.int .i64 (((x18 + 1) : Nat) : Int)) rfl rfl (r_add x18 1 (show (x18 + 1) < 9223372036854775808 from by omega) rfl rfl rfl) ?_
    simp only [nz1, nz2, nz3]
    refine lvw 7 (.int .i64 (((x18 + 1) : Nat) : Int)) rfl rfl (run_as rfl rfl) ?_
    simp only [nz1, nz2, nz3]
    refine wpList_nil ?_
    refine then_n (hR28 _ _ _ ⟨k20, (x16 / (8 : Int)), (([(UInt8.ofNat ((48 : Int) + (x16 % (8 : Int))).toNat)] : List UInt8) ++ x17), (x18 + 1), (fun qq => List.getD [.int .i64 ((x18 : Nat) : Int), .int .i64 (digits), .bool (decide (((x18 : Nat) : Int) < digits)), .int .i64 ((x18 : Nat) : Int), .int .i64 (((x18 + 1) : Nat) : Int), .int .i64 (x16), .int .i64 ((x16 % (8 : Int))), .int .i64 (((48 : Int) + (x16 % (8 : Int)))), .int .u8 (((UInt8.ofNat ((48 : Int) + (x16 % (8 : Int))).toNat).toNat : Nat) : Int), .slice (some ⟨g38, 0, none⟩) 1 1, .string (tx ([(UInt8.ofNat ((48 : Int) + (x16 % (8 : Int))).toNat)] : List UInt8)), .string (tx x17), .string (tx (([(UInt8.ofNat ((48 : Int) + (x16 % (8 : Int))).toNat)] : List UInt8) ++ x17)), .int .i64 (x16), .int .i64 ((x16 / (8 : Int)))] qq undef), rfl, (by first | omega | (simp; omega) | (simp at *; omega)), (hi21.trans (show roct_m_b0 n digits (roct_m_l0 n digits k20) x16 x17 x18 = roct_m_l0 n digits k20 ((x16 / (8 : Int)), (([(UInt8.ofNat ((48 : Int) + (x16 % (8 : Int))).toNat)] : List UInt8) ++ x17), (x18 + 1)) from by unfold roct_m_b0; rw [if_pos hc33] <;> rfl)), (by first | omega | (simp; omega) | (simp only [List.length_append, List.length_cons, List.length_nil] at *; omega)), rfl, (Mm.reorder hm37 [] (by decide) rfl)⟩ ?_)
    omega
  rintro _ w39 ⟨y22, y23, y24, yu0, hx25, hro, rfl, hm40⟩
  have hq41 : roct_m n digits = roct_m_k0 n digits y22 y23 y24 := (show roct_m n digits = roct_m_k0 n digits y22 y23 y24 from by unfold roct_m; rw [if_neg hs4, if_neg hs7, if_neg hc10, hx25] <;> rfl)
  refine then_n (hK14 _ _ ?_)
  refine wp_seq_k (fun K42 hK42 => ?_)
  refine wp_region_lit ?_
  refine lvw 33 (.string (tx y23)) rfl rfl (run_mv rfl rfl) ?_
  simp only [nz1, nz2, nz3]
  refine lvw 34 (.int .i64 (y22)) rfl rfl (run_mv rfl rfl) ?_
  simp only [nz1, nz2, nz3]
  refine lvw 35 (.bool (decide (y22 = 0))) rfl rfl (z_eql y22 0 rfl rfl rfl) ?_
  simp only [nz1, nz2, nz3]
  refine lvw 4 (.string (tx y23)) rfl rfl (run_as rfl rfl) ?_
  simp only [nz1, nz2, nz3]
  refine lvw 5 (.bool (decide (y22 = 0))) rfl rfl (run_as rfl rfl) ?_
  simp only [nz1, nz2, nz3]
  refine wpList_nil ?_
  refine then_n (hK42 _ _ ?_)
  refine wp_ret ?_
  have he43 : roct_m n digits = (y23, (decide (y22 = 0))) := (hq41.trans (show roct_m_k0 n digits y22 y23 y24 = (y23, (decide (y22 = 0))) from by unfold roct_m_k0; rfl))
  exact ⟨rfl, .tuple #[.string (tx y23), .bool (decide (y22 = 0))], res_tt rfl rfl rfl, ⟨by (rw [he43]; try rfl), hm40.below⟩⟩
theorem run_roct {o : Oper} {a : Act} {w : World} {x0 x1 : Operand} {v0 v1 : Value} (ho : o.op = .call { callee := .value (.func 40), args := #[x0, x1], argTypes := #[3, 3] }) (h0 : a.eval x0 = v0) (h1 : a.eval x1 = v1) :
    (execOp a.eval o).run Tryd.prog w = .ok (.enter 40 #[v0, v1]) w := by
  unfold execOp
  simp only [ho]
  have hf : a.eval (.func 40) = .func (.func 40) #[] #[] := rfl
  generalize a.eval = f at *
  go_simp
end Go.Proofs.YtglnifckngcpkaaDoor.Hd
