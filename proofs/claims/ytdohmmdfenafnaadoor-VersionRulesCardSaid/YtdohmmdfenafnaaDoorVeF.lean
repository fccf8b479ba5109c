/- Layer 12: what grows. -/
import Derived.Test.YtdohmmdfenafnaaDoorVeE
namespace Go.Proofs.YtdohmmdfenafnaaDoor.Ve
open Go.RowKit
open Go.Proofs.YtdohmmdfenafnaaDoor.Sym Go.Proofs.YtdohmmdfenafnaaDoor.Mem
open Go.Proofs.YtdohmmdfenafnaaDoor.Sx hiding Mm m_alloc m_store m_put m_call m_callx m_make m_append r_string r_ixS
set_option linter.unusedVariables false
open Go.Proofs.YtdohmmdfenafnaaDoor.Pa
attribute [local irreducible] wpList Oper.wp

def ldigits_m_b0 (n : Int) (rec : Int × (List UInt8) → Sum (Int × (List UInt8)) ((List UInt8))) (x4 : Int) (x5 : List UInt8) : Sum (Int × (List UInt8)) ((List UInt8)) :=
  if 0 < x4 then
    rec ((x4 / (10 : Int)), (([(UInt8.ofNat ((48 : Int) + (x4 % (10 : Int))).toNat)] : List UInt8) ++ x5))
  else
    if x5 = [] then
      rec ((x4 / (10 : Int)), (([(UInt8.ofNat ((48 : Int) + (x4 % (10 : Int))).toNat)] : List UInt8) ++ x5))
    else
      .inl (x4, x5)
def ldigits_m_l0 (n : Int) : Nat → Int × (List UInt8) → Sum (Int × (List UInt8)) ((List UInt8))
  | 0, zz => .inl zz
  | nq + 1, zz => ldigits_m_b0 n (ldigits_m_l0 n nq) zz.1 zz.2

def ldigits_m_k0 (n : Int) (y9 : Int) (y10 : List UInt8) : (List UInt8) :=
  y10

def ldigits_m (n : Int) : (List UInt8) :=
  fin (ldigits_m_l0 n ((2 * n.toNat + (1 - (([]) : List UInt8).length)) + 1) (n, ([]))) (fun r => r) (fun zz => ldigits_m_k0 n zz.1 zz.2)

set_option maxHeartbeats 4000000 in
set_option maxRecDepth 100000 in
theorem ldigits_any (n : Int) (w : World)  (hp0 : 0 ≤ n) (hp1 : n ≤ 65535) : Calls Tryd.prog 38 #[.int .i64 (n)] w (fun e w' => e = .returned (.string (tx (ldigits_m n))) ∧ Below w.heap.size w w') := by
  go_enter Tryd.func38, Tryd.ntmps38
  have hm00 := Mm.nil none (fun _ => True) w
  have hm0 := hm00
  refine wp_seq_k (fun K1 hK1 => ?_)
  refine wp_region_lit ?_
  refine lvw 2 (.string (tx ([]))) rfl rfl (run_as rfl rfl) ?_
  simp only [nz1, nz2, nz3]
  refine wpList_nil ?_
  refine then_n (hK1 _ _ ?_)
  refine wp_seq_k (fun K2 hK2 => ?_)
  refine wp_region_lit ?_
  refine lvw 3 (.string (tx ([]))) rfl rfl (run_as rfl rfl) ?_
  simp only [nz1, nz2, nz3]
  refine wpList_nil ?_
  refine then_n (hK2 _ _ ?_)
  refine wp_seq_k (fun K3 hK3 => ?_)
  refine wp_cutK (fun a' w' => ∃ (y9 : Int) (y10 : List UInt8) (yu0 : Nat → Value), ldigits_m_l0 n ((2 * n.toNat + (1 - (([]) : List UInt8).length)) + 1) (n, ([])) = .inl (y9, y10) ∧ (0 ≤ y9 ∧ y9 ≤ 65535 ∧ ((y10.length : Nat) : Int) ≤ 100000 - y9) ∧ a' = ⟨#[.int .i64 (y9), undef, .string (tx ([])), .string (tx y10), yu0 0, yu0 1, yu0 2, yu0 3, yu0 4, yu0 5, yu0 6, yu0 7, yu0 8, yu0 9, yu0 10, yu0 11, yu0 12, yu0 13, yu0 14, yu0 15, undef], []⟩ ∧ Mm none (fun _ => True) w w' []) ?_ ?_
  · refine wp_block ?_
    refine wp_loop_n (fun n' a' w' => ∃ (n6 : Nat) (x4 : Int) (x5 : List UInt8) (u0 : Nat → Value), n' = n6 ∧ (2 * x4.toNat + (1 - (x5 : List UInt8).length)) < n6 ∧ ldigits_m_l0 n ((2 * n.toNat + (1 - (([]) : List UInt8).length)) + 1) (n, ([])) = ldigits_m_l0 n n6 (x4, x5) ∧ (0 ≤ x4 ∧ x4 ≤ 65535 ∧ ((x5.length : Nat) : Int) ≤ 100000 - x4) ∧ a' = ⟨#[.int .i64 (x4), undef, .string (tx ([])), .string (tx x5), u0 0, u0 1, u0 2, u0 3, u0 4, u0 5, u0 6, u0 7, u0 8, u0 9, u0 10, u0 11, u0 12, u0 13, u0 14, u0 15, undef], []⟩ ∧ Mm none (fun _ => True) w w' []) ⟨((2 * n.toNat + (1 - (([]) : List UInt8).length)) + 1), n, ([]), (fun qq => List.getD [undef, undef, undef, undef, undef, undef, undef, undef, undef, undef, undef, undef, undef, undef, undef, undef] qq undef), rfl, Nat.lt_succ_self _, rfl, (by first | omega | (simp; done) | (simp; omega) | (simp at *; omega)), rfl, hm0⟩ ?_
    rintro n6 _ w12 ⟨_, x4, x5, u0, rfl, hl16, hi8, hdg, rfl, hm13⟩ R14 hR14
    obtain ⟨k7, rfl⟩ : ∃ k, n6 = k + 1 := ⟨n6 - 1, by omega⟩
    refine wp_seq_k (fun K17 hK17 => ?_)
    refine wp_seq_k (fun K18 hK18 => ?_)
    refine wp_region_lit ?_
    refine lvw 4 (.int .i64 (x4)) rfl rfl (run_mv rfl rfl) ?_
    simp only [nz1, nz2, nz3]
    refine lvb 5 (0 < x4) rfl rfl (z_gtr x4 0 rfl rfl rfl) (fun hs19 => ?_) (fun hs19 => ?_)
    · simp only [nz1, nz2, nz3]
      refine lvw 6 (.bool true) rfl rfl (run_mv rfl rfl) ?_
      simp only [nz1, nz2, nz3]
      refine lst_skip 7 rfl rfl ?_
      simp only [nz1, nz2, nz3]
      refine lst_skip 8 rfl rfl ?_
      simp only [nz1, nz2, nz3]
      refine lvw 9 (.bool true) rfl rfl (run_pick rfl rfl rfl) ?_
      simp only [nz1, nz2, nz3]
      refine wpList_nil ?_
      refine then_n (hK18 _ _ ?_)
      refine cond_t rfl ?_
      refine wp_skip ?_
      refine then_n (hK17 _ _ ?_)
      refine wp_block ?_
      refine wp_seq_k (fun K20 hK20 => ?_)
      refine wp_region_lit ?_
      refine lvw 10 (.int .i64 (x4)) rfl rfl (run_mv rfl rfl) ?_
      simp only [nz1, nz2, nz3]
      refine lvw 11 (.int .i64 ((x4 % (10 : Int)))) rfl rfl (z_rem x4 (10 : Int) (x4 % (10 : Int)) (by omega) (Int.tmod_eq_emod_of_nonneg (by omega)) rfl rfl rfl) ?_
      simp only [nz1, nz2, nz3]
      refine lvw 12 (.int .i64 (((48 : Int) + (x4 % (10 : Int))))) rfl rfl (z_add (48 : Int) (x4 % (10 : Int)) _ (by rw [IntKind.wrap_i64]; omega) rfl rfl rfl) ?_
      simp only [nz1, nz2, nz3]
      refine lvw 13 (.int .u8 (((UInt8.ofNat ((48 : Int) + (x4 % (10 : Int))).toNat).toNat : Nat) : Int)) rfl rfl (z_conv (k' := .u8) ((48 : Int) + (x4 % (10 : Int))) (((UInt8.ofNat ((48 : Int) + (x4 % (10 : Int))).toNat).toNat : Nat) : Int) some_3 Tryd.underlying5 (u8_wrap _ (by omega)) rfl rfl) ?_
      simp only [nz1, nz2, nz3]
      refine lst rfl (m_make (c := #[.int .u8 (((UInt8.ofNat ((48 : Int) + (x4 % (10 : Int))).toNat).toNat : Nat) : Int)]) (T := 5) (fun g => .slice (some ⟨g, 0, none⟩) 1 1) hm13 14 rfl (by unfold execOp; go_simp; try rfl) (fun g23 w21 (hm22 : Mm none (fun _ => True) w w21 [.blk g23 #[.int .u8 (((UInt8.ofNat ((48 : Int) + (x4 % (10 : Int))).toNat).toNat : Nat) : Int)] 5]) => ?_))
      simp only [nz1, nz2, nz3]
      refine lvw 15 (.string (tx ([(UInt8.ofNat ((48 : Int) + (x4 % (10 : Int))).toNat)] : List UInt8))) rfl rfl (r_stringR ([(UInt8.ofNat ((48 : Int) + (x4 % (10 : Int))).toNat)]) (by have h := Rs.blk (enc := eB) (l := ([(UInt8.ofNat ((48 : Int) + (x4 % (10 : Int))).toNat)] : List UInt8)) (hm22.at 0 rfl) rfl rfl eB_len (Nat.le_refl _); unfold Rs at h; rw [eB_map] at h; exact h) Tryd.underlying42 Tryd.underlying5 Tryd.underlying9 rfl rfl) ?_
      simp only [nz1, nz2, nz3]
      refine lvw 16 (.string (tx x5)) rfl rfl (run_mv rfl rfl) ?_
      simp only [nz1, nz2, nz3]
      refine lvw 17 (.string (tx (([(UInt8.ofNat ((48 : Int) + (x4 % (10 : Int))).toNat)] : List UInt8) ++ x5))) rfl rfl (t_cat ([(UInt8.ofNat ((48 : Int) + (x4 % (10 : Int))).toNat)] : List UInt8) x5 (by rw [List.length_singleton]; omega) rfl rfl rfl) ?_
      simp only [nz1, nz2, nz3]
      refine lvw 3 (.string (tx (([(UInt8.ofNat ((48 : Int) + (x4 % (10 : Int))).toNat)] : List UInt8) ++ x5))) rfl rfl (run_as rfl rfl) ?_
      simp only [nz1, nz2, nz3]
      refine wpList_nil ?_
      refine then_n (hK20 _ _ ?_)
      refine wp_region_lit ?_
      refine lvw 18 (.int .i64 (x4)) rfl rfl (run_mv rfl rfl) ?_
      simp only [nz1, nz2, nz3]
      refine lvw 19 (.int .i64 ((x4 / (10 : Int)))) rfl rfl (z_quo x4 (10 : Int) (x4 / (10 : Int)) (by omega) (by rw [IntKind.wrap_i64, Int.tdiv_eq_ediv_of_nonneg (by omega)]; omega) rfl rfl rfl) ?_
      simp only [nz1, nz2, nz3]
      refine lvw 0 (.int .i64 ((x4 / (10 : Int)))) rfl rfl (run_as rfl rfl) ?_
      simp only [nz1, nz2]
      refine wpList_nil ?_
      refine blk_n ?_
      refine then_n (hR14 _ _ _ ⟨k7, (x4 / (10 : Int)), (([(UInt8.ofNat ((48 : Int) + (x4 % (10 : Int))).toNat)] : List UInt8) ++ x5), (fun qq => List.getD [.int .i64 (x4), .bool true, .bool true, undef, undef, .bool true, .int .i64 (x4), .int .i64 ((x4 % (10 : Int))), .int .i64 (((48 : Int) + (x4 % (10 : Int)))), .int .u8 (((UInt8.ofNat ((48 : Int) + (x4 % (10 : Int))).toNat).toNat : Nat) : Int), .slice (some ⟨g23, 0, none⟩) 1 1, .string (tx ([(UInt8.ofNat ((48 : Int) + (x4 % (10 : Int))).toNat)] : List UInt8)), .string (tx x5), .string (tx (([(UInt8.ofNat ((48 : Int) + (x4 % (10 : Int))).toNat)] : List UInt8) ++ x5)), .int .i64 (x4), .int .i64 ((x4 / (10 : Int)))] qq undef), rfl, (by first | (rw [List.length_append, List.length_singleton]; omega) | (have hz := congrArg List.length (show x5 = [] from by assumption); simp only [List.length_nil] at hz; rw [List.length_append, List.length_singleton]; omega)), (hi8.trans (show ldigits_m_b0 n (ldigits_m_l0 n k7) x4 x5 = ldigits_m_l0 n k7 ((x4 / (10 : Int)), (([(UInt8.ofNat ((48 : Int) + (x4 % (10 : Int))).toNat)] : List UInt8) ++ x5)) from by unfold ldigits_m_b0; rw [if_pos hs19] <;> rfl)), (by first | (rw [List.length_append, List.length_singleton]; omega) | (have hz := congrArg List.length (show x5 = [] from by assumption); simp only [List.length_nil] at hz; rw [List.length_append, List.length_singleton]; omega)), rfl, (Mm.reorder hm22 [] (by decide) rfl)⟩ ?_)
      omega
    simp only [nz1, nz2, nz3]
    refine lvw 6 (.bool false) rfl rfl (run_mv rfl rfl) ?_
    simp only [nz1, nz2, nz3]
    refine lvw 7 (.string (tx x5)) rfl rfl (run_mv rfl rfl) ?_
    simp only [nz1, nz2, nz3]
    refine lvw 8 (.bool (decide (x5 = []))) rfl rfl (t_eql x5 ([]) rfl rfl rfl) ?_
    simp only [nz1, nz2, nz3]
    refine lvw 9 (.bool (decide (x5 = []))) rfl rfl (run_pickf rfl rfl rfl) ?_
    simp only [nz1, nz2, nz3]
    refine wpList_nil ?_
    refine then_n (hK18 _ _ ?_)
    refine cond_d (x5 = []) rfl (fun hc24 => ?_) (fun hc24 => ?_)
    rotate_left
    · refine wp_exit ?_
      refine then_x ?_
      refine then_x ?_
      refine blk_x ?_
      refine then_n ?_
      exact ⟨x4, x5, (fun qq => List.getD [.int .i64 (x4), .bool false, .bool false, .string (tx x5), .bool (decide (x5 = [])), .bool (decide (x5 = [])), u0 6, u0 7, u0 8, u0 9, u0 10, u0 11, u0 12, u0 13, u0 14, u0 15] qq undef), (hi8.trans (show ldigits_m_b0 n (ldigits_m_l0 n k7) x4 x5 = .inl (x4, x5) from by unfold ldigits_m_b0; rw [if_neg hs19, if_neg hc24] <;> rfl)), (by first | omega | (simp; done) | (simp; omega) | (simp at *; omega)), rfl, hm13⟩
    refine wp_skip ?_
    refine then_n (hK17 _ _ ?_)
    refine wp_block ?_
    refine wp_seq_k (fun K25 hK25 => ?_)
    refine wp_region_lit ?_
    refine lvw 10 (.int .i64 (x4)) rfl rfl (run_mv rfl rfl) ?_
    simp only [nz1, nz2, nz3]
    refine lvw 11 (.int .i64 ((x4 % (10 : Int)))) rfl rfl (z_rem x4 (10 : Int) (x4 % (10 : Int)) (by omega) (Int.tmod_eq_emod_of_nonneg (by omega)) rfl rfl rfl) ?_
    simp only [nz1, nz2, nz3]
    refine lvw 12 (.int .i64 (((48 : Int) + (x4 % (10 : Int))))) rfl rfl (z_add (48 : Int) (x4 % (10 : Int)) _ (by rw [IntKind.wrap_i64]; omega) rfl rfl rfl) ?_
    simp only [nz1, nz2, nz3]
    refine lvw 13 (.int .u8 (((UInt8.ofNat ((48 : Int) + (x4 % (10 : Int))).toNat).toNat : Nat) : Int)) rfl rfl (z_conv (k' := .u8) ((48 : Int) + (x4 % (10 : Int))) (((UInt8.ofNat ((48 : Int) + (x4 % (10 : Int))).toNat).toNat : Nat) : Int) some_3 Tryd.underlying5 (u8_wrap _ (by omega)) rfl rfl) ?_
    simp only [nz1, nz2, nz3]
    refine lst rfl (m_make (c := #[.int .u8 (((UInt8.ofNat ((48 : Int) + (x4 % (10 : Int))).toNat).toNat : Nat) : Int)]) (T := 5) (fun g => .slice (some ⟨g, 0, none⟩) 1 1) hm13 14 rfl (by unfold execOp; go_simp; try rfl) (fun g28 w26 (hm27 : Mm none (fun _ => True) w w26 [.blk g28 #[.int .u8 (((UInt8.ofNat ((48 : Int) + (x4 % (10 : Int))).toNat).toNat : Nat) : Int)] 5]) => ?_))
    simp only [nz1, nz2, nz3]
    refine lvw 15 (.string (tx ([(UInt8.ofNat ((48 : Int) + (x4 % (10 : Int))).toNat)] : List UInt8))) rfl rfl (r_stringR ([(UInt8.ofNat ((48 : Int) + (x4 % (10 : Int))).toNat)]) (by have h := Rs.blk (enc := eB) (l := ([(UInt8.ofNat ((48 : Int) + (x4 % (10 : Int))).toNat)] : List UInt8)) (hm27.at 0 rfl) rfl rfl eB_len (Nat.le_refl _); unfold Rs at h; rw [eB_map] at h; exact h) Tryd.underlying42 Tryd.underlying5 Tryd.underlying9 rfl rfl) ?_
    simp only [nz1, nz2, nz3]
    refine lvw 16 (.string (tx x5)) rfl rfl (run_mv rfl rfl) ?_
    simp only [nz1, nz2, nz3]
    refine lvw 17 (.string (tx (([(UInt8.ofNat ((48 : Int) + (x4 % (10 : Int))).toNat)] : List UInt8) ++ x5))) rfl rfl (t_cat ([(UInt8.ofNat ((48 : Int) + (x4 % (10 : Int))).toNat)] : List UInt8) x5 (by rw [List.length_singleton]; omega) rfl rfl rfl) ?_
    simp only [nz1, nz2, nz3]
    refine lvw 3 (.string (tx (([(UInt8.ofNat ((48 : Int) + (x4 % (10 : Int))).toNat)] : List UInt8) ++ x5))) rfl rfl (run_as rfl rfl) ?_
    simp only [nz1, nz2, nz3]
    refine wpList_nil ?_
    refine then_n (hK25 _ _ ?_)
    refine wp_region_lit ?_
    refine lvw 18 (.int .i64 (x4)) rfl rfl (run_mv rfl rfl) ?_
    simp only [nz1, nz2, nz3]
    refine lvw 19 (.int .i64 ((x4 / (10 : Int)))) rfl rfl (z_quo x4 (10 : Int) (x4 / (10 : Int)) (by omega) (by rw [IntKind.wrap_i64, Int.tdiv_eq_ediv_of_nonneg (by omega)]; omega) rfl rfl rfl) ?_
    simp only [nz1, nz2, nz3]
    refine lvw 0 (.int .i64 ((x4 / (10 : Int)))) rfl rfl (run_as rfl rfl) ?_
    simp only [nz1, nz2]
    refine wpList_nil ?_
    refine blk_n ?_
    refine then_n (hR14 _ _ _ ⟨k7, (x4 / (10 : Int)), (([(UInt8.ofNat ((48 : Int) + (x4 % (10 : Int))).toNat)] : List UInt8) ++ x5), (fun qq => List.getD [.int .i64 (x4), .bool false, .bool false, .string (tx x5), .bool (decide (x5 = [])), .bool (decide (x5 = [])), .int .i64 (x4), .int .i64 ((x4 % (10 : Int))), .int .i64 (((48 : Int) + (x4 % (10 : Int)))), .int .u8 (((UInt8.ofNat ((48 : Int) + (x4 % (10 : Int))).toNat).toNat : Nat) : Int), .slice (some ⟨g28, 0, none⟩) 1 1, .string (tx ([(UInt8.ofNat ((48 : Int) + (x4 % (10 : Int))).toNat)] : List UInt8)), .string (tx x5), .string (tx (([(UInt8.ofNat ((48 : Int) + (x4 % (10 : Int))).toNat)] : List UInt8) ++ x5)), .int .i64 (x4), .int .i64 ((x4 / (10 : Int)))] qq undef), rfl, (by first | (rw [List.length_append, List.length_singleton]; omega) | (have hz := congrArg List.length (show x5 = [] from by assumption); simp only [List.length_nil] at hz; rw [List.length_append, List.length_singleton]; omega)), (hi8.trans (show ldigits_m_b0 n (ldigits_m_l0 n k7) x4 x5 = ldigits_m_l0 n k7 ((x4 / (10 : Int)), (([(UInt8.ofNat ((48 : Int) + (x4 % (10 : Int))).toNat)] : List UInt8) ++ x5)) from by unfold ldigits_m_b0; rw [if_neg hs19, if_pos hc24] <;> rfl)), (by first | (rw [List.length_append, List.length_singleton]; omega) | (have hz := congrArg List.length (show x5 = [] from by assumption); simp only [List.length_nil] at hz; rw [List.length_append, List.length_singleton]; omega)), rfl, (Mm.reorder hm27 [] (by decide) rfl)⟩ ?_)
    omega
  rintro _ w29 ⟨y9, y10, yu0, hx11, hdg, rfl, hm30⟩
  have hq31 : ldigits_m n = ldigits_m_k0 n y9 y10 := (show ldigits_m n = ldigits_m_k0 n y9 y10 from by unfold ldigits_m; rw [hx11] <;> rfl)
  refine then_n (hK3 _ _ ?_)
  refine wp_seq_k (fun K32 hK32 => ?_)
  refine wp_region_lit ?_
  refine lvw 20 (.string (tx y10)) rfl rfl (run_mv rfl rfl) ?_
  simp only [nz1, nz2, nz3]
  refine lvw 2 (.string (tx y10)) rfl rfl (run_as rfl rfl) ?_
  simp only [nz1, nz2, nz3]
  refine wpList_nil ?_
  refine then_n (hK32 _ _ ?_)
  refine wp_ret ?_
  have he33 : ldigits_m n = y10 := (hq31.trans (show ldigits_m_k0 n y9 y10 = y10 from by unfold ldigits_m_k0; rfl))
  exact ⟨rfl, .string (tx y10), res_t rfl rfl, ⟨by rw [he33], hm30.below⟩⟩
theorem run_ldigits {o : Oper} {a : Act} {w : World} {x0 : Operand} {v0 : Value} (ho : o.op = .call { callee := .value (.func 38), args := #[x0], argTypes := #[3] }) (h0 : a.eval x0 = v0) :
    (execOp a.eval o).run Tryd.prog w = .ok (.enter 38 #[v0]) w := by
  unfold execOp
  simp only [ho]
  have hf : a.eval (.func 38) = .func (.func 38) #[] #[] := rfl
  generalize a.eval = f at *
  go_simp
def vgrows_m (a : List UInt8) (n : UInt8) : Bool :=
  if (!(check_m a)) = true then
    vawake_m
  else
    if (!(check_m ((a ++ [46]) ++ ([(UInt8.ofNat (48 + (n.toNat % 10)))] : List UInt8)))) = true then
      vawake_m
    else
      if (!(check_m ((a ++ [126]) ++ ([(UInt8.ofNat (48 + (n.toNat % 10)))] : List UInt8)))) = true then
        vawake_m
      else
        if (!(check_m ([48] ++ a))) = true then
          vawake_m
        else
          if 48 ≤ by' a 0 then
            if vawake_m = true then
              if (compare_m ((a ++ [46]) ++ ([(UInt8.ofNat (48 + (n.toNat % 10)))] : List UInt8)) a) = 1 then
                if (compare_m ((a ++ [126]) ++ ([(UInt8.ofNat (48 + (n.toNat % 10)))] : List UInt8)) a) = -1 then
                  if ¬ (by' a 0 ≤ 57) then
                    true
                  else
                    (decide ((compare_m ([48] ++ a) a) = 0))
                else
                  false
              else
                false
            else
              false
          else
            if vawake_m = true then
              if (compare_m ((a ++ [46]) ++ ([(UInt8.ofNat (48 + (n.toNat % 10)))] : List UInt8)) a) = 1 then
                if (compare_m ((a ++ [126]) ++ ([(UInt8.ofNat (48 + (n.toNat % 10)))] : List UInt8)) a) = -1 then
                  true
                else
                  false
              else
                false
            else
              false

set_option maxHeartbeats 4000000 in
set_option maxRecDepth 100000 in
theorem vgrows_any (a : List UInt8) (n : UInt8) (w : World)  (hp0 : a.length ≤ 140737488351232) : Calls Tryd.prog 13 #[.string (tx a), .int .u8 ((n.toNat : Nat) : Int)] w (fun e w' => e = .returned (.bool ((vgrows_m a n))) ∧ Below w.heap.size w w') := by
  have hnlt : n.toNat < 256 := n.toNat_lt
  go_enter Tryd.func13, Tryd.ntmps13
  have hm00 := Mm.nil none (fun _ => True) w
  have hm0 := hm00
  refine wp_seq_k (fun K1 hK1 => ?_)
  refine wp_region_lit ?_
  refine lvw 4 (.bool false) rfl rfl (run_as rfl rfl) ?_
  simp only [nz1, nz2, nz3]
  refine wpList_nil ?_
  refine then_n (hK1 _ _ ?_)
  refine wp_seq_k (fun K2 hK2 => ?_)
  refine wp_region_lit ?_
  refine lvw 10 (.int .u8 ((n.toNat : Nat) : Int)) rfl rfl (run_mv rfl rfl) ?_
  simp only [nz1, nz2, nz3]
  refine lvw 11 (.int .u8 (((n.toNat % 10) : Nat) : Int)) rfl rfl (r_rem n.toNat 10 (show n.toNat < 256 from by omega) (by decide) rfl rfl rfl) ?_
  simp only [nz1, nz2, nz3]
  refine lvw 12 (.int .u8 (((UInt8.ofNat (48 + (n.toNat % 10))).toNat : Nat) : Int)) rfl rfl (u_add 48 (n.toNat % 10) rfl rfl rfl) ?_
  simp only [nz1, nz2, nz3]
  refine lst rfl (m_make (c := #[.int .u8 (((UInt8.ofNat (48 + (n.toNat % 10))).toNat : Nat) : Int)]) (T := 5) (fun g => .slice (some ⟨g, 0, none⟩) 1 1) hm0 13 rfl (by unfold execOp; go_simp; try rfl) (fun g5 w3 (hm4 : Mm none (fun _ => True) w w3 [.blk g5 #[.int .u8 (((UInt8.ofNat (48 + (n.toNat % 10))).toNat : Nat) : Int)] 5]) => ?_))
  simp only [nz1, nz2, nz3]
  refine lvw 14 (.string (tx ([(UInt8.ofNat (48 + (n.toNat % 10)))] : List UInt8))) rfl rfl (r_stringR ([(UInt8.ofNat (48 + (n.toNat % 10)))]) (by have h := Rs.blk (enc := eB) (l := ([(UInt8.ofNat (48 + (n.toNat % 10)))] : List UInt8)) (hm4.at 0 rfl) rfl rfl eB_len (Nat.le_refl _); unfold Rs at h; rw [eB_map] at h; exact h) Tryd.underlying42 Tryd.underlying5 Tryd.underlying9 rfl rfl) ?_
  simp only [nz1, nz2, nz3]
  refine lvw 5 (.string (tx ([(UInt8.ofNat (48 + (n.toNat % 10)))] : List UInt8))) rfl rfl (run_as rfl rfl) ?_
  simp only [nz1, nz2, nz3]
  refine wpList_nil ?_
  refine then_n (hK2 _ _ ?_)
  refine wp_seq_k (fun K6 hK6 => ?_)
  refine wp_region_lit ?_
  refine lvw 15 (.string (tx a)) rfl rfl (run_mv rfl rfl) ?_
  simp only [nz1, nz2, nz3]
  refine lvw 16 (.string (tx (a ++ [46]))) rfl rfl (t_cat a ([46]) (by first | omega | (simp; omega)) rfl rfl rfl) ?_
  simp only [nz1, nz2, nz3]
  refine lvw 17 (.string (tx ([(UInt8.ofNat (48 + (n.toNat % 10)))] : List UInt8))) rfl rfl (run_mv rfl rfl) ?_
  simp only [nz1, nz2, nz3]
  refine lvw 18 (.string (tx ((a ++ [46]) ++ ([(UInt8.ofNat (48 + (n.toNat % 10)))] : List UInt8)))) rfl rfl (t_cat (a ++ [46]) ([(UInt8.ofNat (48 + (n.toNat % 10)))] : List UInt8) (by first | omega | (simp; omega)) rfl rfl rfl) ?_
  simp only [nz1, nz2, nz3]
  refine lvw 19 (.string (tx a)) rfl rfl (run_mv rfl rfl) ?_
  simp only [nz1, nz2, nz3]
  refine lvw 20 (.string (tx (a ++ [126]))) rfl rfl (t_cat a ([126]) (by first | omega | (simp; omega)) rfl rfl rfl) ?_
  simp only [nz1, nz2, nz3]
  refine lvw 21 (.string (tx ([(UInt8.ofNat (48 + (n.toNat % 10)))] : List UInt8))) rfl rfl (run_mv rfl rfl) ?_
  simp only [nz1, nz2, nz3]
  refine lvw 22 (.string (tx ((a ++ [126]) ++ ([(UInt8.ofNat (48 + (n.toNat % 10)))] : List UInt8)))) rfl rfl (t_cat (a ++ [126]) ([(UInt8.ofNat (48 + (n.toNat % 10)))] : List UInt8) (by first | omega | (simp; omega)) rfl rfl rfl) ?_
  simp only [nz1, nz2, nz3]
  refine lvw 23 (.string (tx a)) rfl rfl (run_mv rfl rfl) ?_
  simp only [nz1, nz2, nz3]
  refine lvw 24 (.string (tx ([48] ++ a))) rfl rfl (t_cat ([48]) a (by first | omega | (simp; omega)) rfl rfl rfl) ?_
  simp only [nz1, nz2, nz3]
  refine lvw 6 (.string (tx ((a ++ [46]) ++ ([(UInt8.ofNat (48 + (n.toNat % 10)))] : List UInt8)))) rfl rfl (run_as rfl rfl) ?_
  simp only [nz1, nz2, nz3]
  refine lvw 7 (.string (tx ((a ++ [126]) ++ ([(UInt8.ofNat (48 + (n.toNat % 10)))] : List UInt8)))) rfl rfl (run_as rfl rfl) ?_
  simp only [nz1, nz2, nz3]
  refine lvw 8 (.string (tx ([48] ++ a))) rfl rfl (run_as rfl rfl) ?_
  simp only [nz1, nz2, nz3]
  refine wpList_nil ?_
  refine then_n (hK6 _ _ ?_)
  refine wp_seq_k (fun K7 hK7 => ?_)
  refine wp_seq_k (fun K8 hK8 => ?_)
  refine wp_region_lit ?_
  refine lvw 25 (.string (tx a)) rfl rfl (run_mv rfl rfl) ?_
  simp only [nz1, nz2, nz3]
  refine lst rfl (m_call hm4 26 (.bool ((check_m a))) rfl (run_check rfl rfl) (check_any a  _  ) (fun w9 (hm10 : Mm none (fun _ => True) w w9 [.blk g5 #[.int .u8 (((UInt8.ofNat (48 + (n.toNat % 10))).toNat : Nat) : Int)] 5]) => ?_))
  simp only [nz1, nz2, nz3]
  refine lvB 27 (!(check_m a)) rfl rfl (r_not (check_m a) rfl rfl) (fun hs11 => ?_) (fun hs11 => ?_)
  · simp only [nz1, nz2, nz3]
    refine lvw 28 (.bool true) rfl rfl (run_mv rfl rfl) ?_
    simp only [nz1, nz2, nz3]
    refine lst_skip 29 rfl rfl ?_
    simp only [nz1, nz2, nz3]
    refine lst_skip 30 rfl rfl ?_
    simp only [nz1, nz2, nz3]
    refine lst_skip 31 rfl rfl ?_
    simp only [nz1, nz2, nz3]
    refine lvw 32 (.bool true) rfl rfl (run_pick rfl rfl rfl) ?_
    simp only [nz1, nz2, nz3]
    refine lvw 33 (.bool true) rfl rfl (run_mv rfl rfl) ?_
    simp only [nz1, nz2, nz3]
    refine lst_skip 34 rfl rfl ?_
    simp only [nz1, nz2, nz3]
    refine lst_skip 35 rfl rfl ?_
    simp only [nz1, nz2, nz3]
    refine lst_skip 36 rfl rfl ?_
    simp only [nz1, nz2, nz3]
    refine lvw 37 (.bool true) rfl rfl (run_pick rfl rfl rfl) ?_
    simp only [nz1, nz2, nz3]
    refine lvw 38 (.bool true) rfl rfl (run_mv rfl rfl) ?_
    simp only [nz1, nz2, nz3]
    refine lst_skip 39 rfl rfl ?_
    simp only [nz1, nz2, nz3]
    refine lst_skip 40 rfl rfl ?_
    simp only [nz1, nz2, nz3]
    refine lst_skip 41 rfl rfl ?_
    simp only [nz1, nz2, nz3]
    refine lvw 42 (.bool true) rfl rfl (run_pick rfl rfl rfl) ?_
    simp only [nz1, nz2, nz3]
    refine wpList_nil ?_
    refine then_n (hK8 _ _ ?_)
    refine cond_t rfl ?_
    refine wp_seq_k (fun K12 hK12 => ?_)
    refine wp_region_lit ?_
    refine lst rfl (m_call hm10 43 (.bool (vawake_m)) rfl (run_vawake rfl) (vawake_any   _  ) (fun w13 (hm14 : Mm none (fun _ => True) w w13 [.blk g5 #[.int .u8 (((UInt8.ofNat (48 + (n.toNat % 10))).toNat : Nat) : Int)] 5]) => ?_))
    simp only [nz1, nz2, nz3]
    refine lvw 4 (.bool (vawake_m)) rfl rfl (run_as rfl rfl) ?_
    simp only [nz1, nz2, nz3]
    refine wpList_nil ?_
    refine then_n (hK12 _ _ ?_)
    refine wp_ret ?_
    refine then_r ?_
    have he15 : vgrows_m a n = vawake_m := (show vgrows_m a n = vawake_m from by unfold vgrows_m; rw [if_pos hs11] <;> rfl)
    exact ⟨rfl, .bool (vawake_m), res_t rfl rfl, ⟨by rw [he15], hm14.below⟩⟩
  simp only [nz1, nz2, nz3]
  refine lvw 28 (.bool false) rfl rfl (run_mv rfl rfl) ?_
  simp only [nz1, nz2, nz3]
  refine lvw 29 (.string (tx ((a ++ [46]) ++ ([(UInt8.ofNat (48 + (n.toNat % 10)))] : List UInt8)))) rfl rfl (run_mv rfl rfl) ?_
  simp only [nz1, nz2, nz3]
  refine lst rfl (m_call hm10 30 (.bool ((check_m ((a ++ [46]) ++ ([(UInt8.ofNat (48 + (n.toNat % 10)))] : List UInt8))))) rfl (run_check rfl rfl) (check_any ((a ++ [46]) ++ ([(UInt8.ofNat (48 + (n.toNat % 10)))] : List UInt8))  _  ) (fun w16 (hm17 : Mm none (fun _ => True) w w16 [.blk g5 #[.int .u8 (((UInt8.ofNat (48 + (n.toNat % 10))).toNat : Nat) : Int)] 5]) => ?_))
  simp only [nz1, nz2, nz3]
  refine lvB 31 (!(check_m ((a ++ [46]) ++ ([(UInt8.ofNat (48 + (n.toNat % 10)))] : List UInt8)))) rfl rfl (r_not (check_m ((a ++ [46]) ++ ([(UInt8.ofNat (48 + (n.toNat % 10)))] : List UInt8))) rfl rfl) (fun hs18 => ?_) (fun hs18 => ?_)
  · simp only [nz1, nz2, nz3]
    refine lvw 32 (.bool true) rfl rfl (run_pickf rfl rfl rfl) ?_
    simp only [nz1, nz2, nz3]
    refine lvw 33 (.bool true) rfl rfl (run_mv rfl rfl) ?_
    simp only [nz1, nz2, nz3]
    refine lst_skip 34 rfl rfl ?_
    simp only [nz1, nz2, nz3]
    refine lst_skip 35 rfl rfl ?_
    simp only [nz1, nz2, nz3]
    refine lst_skip 36 rfl rfl ?_
    simp only [nz1, nz2, nz3]
    refine lvw 37 (.bool true) rfl rfl (run_pick rfl rfl rfl) ?_
    simp only [nz1, nz2, nz3]
    refine lvw 38 (.bool true) rfl rfl (run_mv rfl rfl) ?_
    simp only [nz1, nz2, nz3]
    refine lst_skip 39 rfl rfl ?_
    simp only [nz1, nz2, nz3]
    refine lst_skip 40 rfl rfl ?_
    simp only [nz1, nz2, nz3]
    refine lst_skip 41 rfl rfl ?_
    simp only [nz1, nz2, nz3]
    refine lvw 42 (.bool true) rfl rfl (run_pick rfl rfl rfl) ?_
    simp only [nz1, nz2, nz3]
    refine wpList_nil ?_
    refine then_n (hK8 _ _ ?_)
    refine cond_t rfl ?_
    refine wp_seq_k (fun K19 hK19 => ?_)
    refine wp_region_lit ?_
    refine lst rfl (m_call hm17 43 (.bool (vawake_m)) rfl (run_vawake rfl) (vawake_any   _  ) (fun w20 (hm21 : Mm none (fun _ => True) w w20 [.blk g5 #[.int .u8 (((UInt8.ofNat (48 + (n.toNat % 10))).toNat : Nat) : Int)] 5]) => ?_))
    simp only [nz1, nz2, nz3]
    refine lvw 4 (.bool (vawake_m)) rfl rfl (run_as rfl rfl) ?_
    simp only [nz1, nz2, nz3]
    refine wpList_nil ?_
    refine then_n (hK19 _ _ ?_)
    refine wp_ret ?_
    refine then_r ?_
    have he22 : vgrows_m a n = vawake_m := (show vgrows_m a n = vawake_m from by unfold vgrows_m; rw [if_neg hs11, if_pos hs18] <;> rfl)
    exact ⟨rfl, .bool (vawake_m), res_t rfl rfl, ⟨by rw [he22], hm21.below⟩⟩
  simp only [nz1, nz2, nz3]
  refine lvw 32 (.bool false) rfl rfl (run_pickf rfl rfl rfl) ?_
  simp only [nz1, nz2, nz3]
  refine lvw 33 (.bool false) rfl rfl (run_mv rfl rfl) ?_
  simp only [nz1, nz2, nz3]
  refine lvw 34 (.string (tx ((a ++ [126]) ++ ([(UInt8.ofNat (48 + (n.toNat % 10)))] : List UInt8)))) rfl rfl (run_mv rfl rfl) ?_
  simp only [nz1, nz2, nz3]
  refine lst rfl (m_call hm17 35 (.bool ((check_m ((a ++ [126]) ++ ([(UInt8.ofNat (48 + (n.toNat % 10)))] : List UInt8))))) rfl (run_check rfl rfl) (check_any ((a ++ [126]) ++ ([(UInt8.ofNat (48 + (n.toNat % 10)))] : List UInt8))  _  ) (fun w23 (hm24 : Mm none (fun _ => True) w w23 [.blk g5 #[.int .u8 (((UInt8.ofNat (48 + (n.toNat % 10))).toNat : Nat) : Int)] 5]) => ?_))
  simp only [nz1, nz2, nz3]
  refine lvB 36 (!(check_m ((a ++ [126]) ++ ([(UInt8.ofNat (48 + (n.toNat % 10)))] : List UInt8)))) rfl rfl (r_not (check_m ((a ++ [126]) ++ ([(UInt8.ofNat (48 + (n.toNat % 10)))] : List UInt8))) rfl rfl) (fun hs25 => ?_) (fun hs25 => ?_)
  · simp only [nz1, nz2, nz3]
    refine lvw 37 (.bool true) rfl rfl (run_pickf rfl rfl rfl) ?_
    simp only [nz1, nz2, nz3]
    refine lvw 38 (.bool true) rfl rfl (run_mv rfl rfl) ?_
    simp only [nz1, nz2, nz3]
    refine lst_skip 39 rfl rfl ?_
    simp only [nz1, nz2, nz3]
    refine lst_skip 40 rfl rfl ?_
    simp only [nz1, nz2, nz3]
    refine lst_skip 41 rfl rfl ?_
    simp only [nz1, nz2, nz3]
    refine lvw 42 (.bool true) rfl rfl (run_pick rfl rfl rfl) ?_
    simp only [nz1, nz2, nz3]
    refine wpList_nil ?_
    refine then_n (hK8 _ _ ?_)
    refine cond_t rfl ?_
    refine wp_seq_k (fun K26 hK26 => ?_)
    refine wp_region_lit ?_
    refine lst rfl (m_call hm24 43 (.bool (vawake_m)) rfl (run_vawake rfl) (vawake_any   _  ) (fun w27 (hm28 : Mm none (fun _ => True) w w27 [.blk g5 #[.int .u8 (((UInt8.ofNat (48 + (n.toNat % 10))).toNat : Nat) : Int)] 5]) => ?_))
    simp only [nz1, nz2, nz3]
    refine lvw 4 (.bool (vawake_m)) rfl rfl (run_as rfl rfl) ?_
    simp only [nz1, nz2, nz3]
    refine wpList_nil ?_
    refine then_n (hK26 _ _ ?_)
    refine wp_ret ?_
    refine then_r ?_
    have he29 : vgrows_m a n = vawake_m := (show vgrows_m a n = vawake_m from by unfold vgrows_m; rw [if_neg hs11, if_neg hs18, if_pos hs25] <;> rfl)
    exact ⟨rfl, .bool (vawake_m), res_t rfl rfl, ⟨by rw [he29], hm28.below⟩⟩
  simp only [nz1, nz2, nz3]
  refine lvw 37 (.bool false) rfl rfl (run_pickf rfl rfl rfl) ?_
  simp only [nz1, nz2, nz3]
  refine lvw 38 (.bool false) rfl rfl (run_mv rfl rfl) ?_
  simp only [nz1, nz2, nz3]
  refine lvw 39 (.string (tx ([48] ++ a))) rfl rfl (run_mv rfl rfl) ?_
  simp only [nz1, nz2, nz3]
  refine lst rfl (m_call hm24 40 (.bool ((check_m ([48] ++ a)))) rfl (run_check rfl rfl) (check_any ([48] ++ a)  _  ) (fun w30 (hm31 : Mm none (fun _ => True) w w30 [.blk g5 #[.int .u8 (((UInt8.ofNat (48 + (n.toNat % 10))).toNat : Nat) : Int)] 5]) => ?_))
  simp only [nz1, nz2, nz3]
  refine lvw 41 (.bool (!(check_m ([48] ++ a)))) rfl rfl (r_not (check_m ([48] ++ a)) rfl rfl) ?_
  simp only [nz1, nz2, nz3]
  refine lvw 42 (.bool (!(check_m ([48] ++ a)))) rfl rfl (run_pickf rfl rfl rfl) ?_
  simp only [nz1, nz2, nz3]
  refine wpList_nil ?_
  refine then_n (hK8 _ _ ?_)
  refine cond_B (!(check_m ([48] ++ a))) rfl (fun hc32 => ?_) (fun hc32 => ?_)
  · refine wp_seq_k (fun K33 hK33 => ?_)
    refine wp_region_lit ?_
    refine lst rfl (m_call hm31 43 (.bool (vawake_m)) rfl (run_vawake rfl) (vawake_any   _  ) (fun w34 (hm35 : Mm none (fun _ => True) w w34 [.blk g5 #[.int .u8 (((UInt8.ofNat (48 + (n.toNat % 10))).toNat : Nat) : Int)] 5]) => ?_))
    simp only [nz1, nz2, nz3]
    refine lvw 4 (.bool (vawake_m)) rfl rfl (run_as rfl rfl) ?_
    simp only [nz1, nz2, nz3]
    refine wpList_nil ?_
    refine then_n (hK33 _ _ ?_)
    refine wp_ret ?_
    refine then_r ?_
    have he36 : vgrows_m a n = vawake_m := (show vgrows_m a n = vawake_m from by unfold vgrows_m; rw [if_neg hs11, if_neg hs18, if_neg hs25, if_pos hc32] <;> rfl)
    exact ⟨rfl, .bool (vawake_m), res_t rfl rfl, ⟨by rw [he36], hm35.below⟩⟩
  refine wp_skip ?_
  refine then_n (hK7 _ _ ?_)
  refine wp_seq_k (fun K37 hK37 => ?_)
  refine wp_region_lit ?_
  refine lvw 44 (.string (tx a)) rfl rfl (run_mv rfl rfl) ?_
  simp only [nz1, nz2, nz3]
  refine lvw 45 (.int .u8 ((by' a 0 : Nat) : Int)) rfl rfl (t_char a 0 (check_pos (by assumption)) Tryd.underlying9 rfl rfl rfl) ?_
  simp only [nz1, nz2, nz3]
  refine lvb 46 (48 ≤ by' a 0) rfl rfl (r_geq (by' a 0) 48 rfl rfl rfl) (fun hs38 => ?_) (fun hs38 => ?_)
  rotate_left
  · simp only [nz1, nz2, nz3]
    refine lvw 47 (.bool false) rfl rfl (run_mv rfl rfl) ?_
    simp only [nz1, nz2, nz3]
    refine lst_skip 48 rfl rfl ?_
    simp only [nz1, nz2, nz3]
    refine lst_skip 49 rfl rfl ?_
    simp only [nz1, nz2, nz3]
    refine lst_skip 50 rfl rfl ?_
    simp only [nz1, nz2, nz3]
    refine lvw 51 (.bool false) rfl rfl (run_pickf rfl rfl rfl) ?_
    simp only [nz1, nz2, nz3]
    refine lvw 9 (.bool false) rfl rfl (run_as rfl rfl) ?_
    simp only [nz1, nz2, nz3]
    refine wpList_nil ?_
    refine then_n (hK37 _ _ ?_)
    refine wp_seq_k (fun K60 hK60 => ?_)
    refine wp_region_lit ?_
    refine lst rfl (m_call hm31 52 (.bool (vawake_m)) rfl (run_vawake rfl) (vawake_any   _  ) (fun w61 (hm62 : Mm none (fun _ => True) w w61 [.blk g5 #[.int .u8 (((UInt8.ofNat (48 + (n.toNat % 10))).toNat : Nat) : Int)] 5]) => ?_))
    simp only [nz1, nz2, nz3]
    by_cases hs63 : vawake_m = true
    rotate_left
    · rw [(Bool.eq_false_iff.2 hs63 : vawake_m = false)]
      refine lvw 53 (.bool false) rfl rfl (run_mv rfl rfl) ?_
      simp only [nz1, nz2, nz3]
      refine lst_skip 54 rfl rfl ?_
      simp only [nz1, nz2, nz3]
      refine lst_skip 55 rfl rfl ?_
      simp only [nz1, nz2, nz3]
      refine lst_skip 56 rfl rfl ?_
      simp only [nz1, nz2, nz3]
      refine lst_skip 57 rfl rfl ?_
      simp only [nz1, nz2, nz3]
      refine lvw 58 (.bool false) rfl rfl (run_pickf rfl rfl rfl) ?_
      simp only [nz1, nz2, nz3]
      refine lvw 59 (.bool false) rfl rfl (run_mv rfl rfl) ?_
      simp only [nz1, nz2, nz3]
      refine lst_skip 60 rfl rfl ?_
      simp only [nz1, nz2, nz3]
      refine lst_skip 61 rfl rfl ?_
      simp only [nz1, nz2, nz3]
      refine lst_skip 62 rfl rfl ?_
      simp only [nz1, nz2, nz3]
      refine lst_skip 63 rfl rfl ?_
      simp only [nz1, nz2, nz3]
      refine lvw 64 (.bool false) rfl rfl (run_pickf rfl rfl rfl) ?_
      simp only [nz1, nz2, nz3]
      refine lvw 65 (.bool false) rfl rfl (run_mv rfl rfl) ?_
      simp only [nz1, nz2, nz3]
      refine lst_skip 66 rfl rfl ?_
      simp only [nz1, nz2, nz3]
      refine lst_skip 67 rfl rfl ?_
      simp only [nz1, nz2, nz3]
      refine lst_skip 68 rfl rfl ?_
      simp only [nz1, nz2, nz3]
      refine lst_skip 69 rfl rfl ?_
      simp only [nz1, nz2, nz3]
      refine lst_skip 70 rfl rfl ?_
      simp only [nz1, nz2, nz3]
      refine lst_skip 71 rfl rfl ?_
      simp only [nz1, nz2, nz3]
      refine lst_skip 72 rfl rfl ?_
      simp only [nz1, nz2, nz3]
      refine lst_skip 73 rfl rfl ?_
      simp only [nz1, nz2, nz3]
      refine lvw 74 (.bool false) rfl rfl (run_pickf rfl rfl rfl) ?_
      simp only [nz1, nz2, nz3]
      refine lvw 4 (.bool false) rfl rfl (run_as rfl rfl) ?_
      simp only [nz1, nz2, nz3]
      refine wpList_nil ?_
      refine then_n (hK60 _ _ ?_)
      refine wp_ret ?_
      have he75 : vgrows_m a n = false := (show vgrows_m a n = false from by unfold vgrows_m; rw [if_neg hs11, if_neg hs18, if_neg hs25, if_neg hc32, if_neg hs38, if_neg hs63] <;> rfl)
      exact ⟨rfl, .bool false, res_t rfl rfl, ⟨by rw [he75], hm62.below⟩⟩
    rw [(hs63 : vawake_m = true)]
    refine lvw 53 (.bool true) rfl rfl (run_mv rfl rfl) ?_
    simp only [nz1, nz2, nz3]
    refine lvw 54 (.string (tx ((a ++ [46]) ++ ([(UInt8.ofNat (48 + (n.toNat % 10)))] : List UInt8)))) rfl rfl (run_mv rfl rfl) ?_
    simp only [nz1, nz2, nz3]
    refine lvw 55 (.string (tx a)) rfl rfl (run_mv rfl rfl) ?_
    simp only [nz1, nz2, nz3]
    refine lst rfl (m_call hm62 56 (.int .i64 ((compare_m ((a ++ [46]) ++ ([(UInt8.ofNat (48 + (n.toNat % 10)))] : List UInt8)) a))) rfl (run_compare rfl rfl rfl) (compare_any ((a ++ [46]) ++ ([(UInt8.ofNat (48 + (n.toNat % 10)))] : List UInt8)) a  _  ) (fun w64 (hm65 : Mm none (fun _ => True) w w64 [.blk g5 #[.int .u8 (((UInt8.ofNat (48 + (n.toNat % 10))).toNat : Nat) : Int)] 5]) => ?_))
    have hf66 : -1 ≤ (compare_m ((a ++ [46]) ++ ([(UInt8.ofNat (48 + (n.toNat % 10)))] : List UInt8)) a) ∧ (compare_m ((a ++ [46]) ++ ([(UInt8.ofNat (48 + (n.toNat % 10)))] : List UInt8)) a) ≤ 1 := compare_rng ((a ++ [46]) ++ ([(UInt8.ofNat (48 + (n.toNat % 10)))] : List UInt8)) a
    simp only [nz1, nz2, nz3]
    refine lvb 57 ((compare_m ((a ++ [46]) ++ ([(UInt8.ofNat (48 + (n.toNat % 10)))] : List UInt8)) a) = 1) rfl rfl (z_eql (compare_m ((a ++ [46]) ++ ([(UInt8.ofNat (48 + (n.toNat % 10)))] : List UInt8)) a) 1 rfl rfl rfl) (fun hs67 => ?_) (fun hs67 => ?_)
    rotate_left
    · simp only [nz1, nz2, nz3]
      refine lvw 58 (.bool false) rfl rfl (run_pick rfl rfl rfl) ?_
      simp only [nz1, nz2, nz3]
      refine lvw 59 (.bool false) rfl rfl (run_mv rfl rfl) ?_
      simp only [nz1, nz2, nz3]
      refine lst_skip 60 rfl rfl ?_
      simp only [nz1, nz2, nz3]
      refine lst_skip 61 rfl rfl ?_
      simp only [nz1, nz2, nz3]
      refine lst_skip 62 rfl rfl ?_
      simp only [nz1, nz2, nz3]
      refine lst_skip 63 rfl rfl ?_
      simp only [nz1, nz2, nz3]
      refine lvw 64 (.bool false) rfl rfl (run_pickf rfl rfl rfl) ?_
      simp only [nz1, nz2, nz3]
      refine lvw 65 (.bool false) rfl rfl (run_mv rfl rfl) ?_
      simp only [nz1, nz2, nz3]
      refine lst_skip 66 rfl rfl ?_
      simp only [nz1, nz2, nz3]
      refine lst_skip 67 rfl rfl ?_
      simp only [nz1, nz2, nz3]
      refine lst_skip 68 rfl rfl ?_
      simp only [nz1, nz2, nz3]
      refine lst_skip 69 rfl rfl ?_
      simp only [nz1, nz2, nz3]
      refine lst_skip 70 rfl rfl ?_
      simp only [nz1, nz2, nz3]
      refine lst_skip 71 rfl rfl ?_
      simp only [nz1, nz2, nz3]
      refine lst_skip 72 rfl rfl ?_
      simp only [nz1, nz2, nz3]
      refine lst_skip 73 rfl rfl ?_
      simp only [nz1, nz2, nz3]
      refine lvw 74 (.bool false) rfl rfl (run_pickf rfl rfl rfl) ?_
      simp only [nz1, nz2, nz3]
      refine lvw 4 (.bool false) rfl rfl (run_as rfl rfl) ?_
      simp only [nz1, nz2, nz3]
      refine wpList_nil ?_
      refine then_n (hK60 _ _ ?_)
      refine wp_ret ?_
      have he74 : vgrows_m a n = false := (show vgrows_m a n = false from by unfold vgrows_m; rw [if_neg hs11, if_neg hs18, if_neg hs25, if_neg hc32, if_neg hs38, if_pos hs63, if_neg hs67] <;> rfl)
      exact ⟨rfl, .bool false, res_t rfl rfl, ⟨by rw [he74], hm65.below⟩⟩
    simp only [nz1, nz2, nz3]
    refine lvw 58 (.bool true) rfl rfl (run_pick rfl rfl rfl) ?_
    simp only [nz1, nz2, nz3]
    refine lvw 59 (.bool true) rfl rfl (run_mv rfl rfl) ?_
    simp only [nz1, nz2, nz3]
    refine lvw 60 (.string (tx ((a ++ [126]) ++ ([(UInt8.ofNat (48 + (n.toNat % 10)))] : List UInt8)))) rfl rfl (run_mv rfl rfl) ?_
    simp only [nz1, nz2, nz3]
    refine lvw 61 (.string (tx a)) rfl rfl (run_mv rfl rfl) ?_
    simp only [nz1, nz2, nz3]
    refine lst rfl (m_call hm65 62 (.int .i64 ((compare_m ((a ++ [126]) ++ ([(UInt8.ofNat (48 + (n.toNat % 10)))] : List UInt8)) a))) rfl (run_compare rfl rfl rfl) (compare_any ((a ++ [126]) ++ ([(UInt8.ofNat (48 + (n.toNat % 10)))] : List UInt8)) a  _  ) (fun w68 (hm69 : Mm none (fun _ => True) w w68 [.blk g5 #[.int .u8 (((UInt8.ofNat (48 + (n.toNat % 10))).toNat : Nat) : Int)] 5]) => ?_))
    have hf70 : -1 ≤ (compare_m ((a ++ [126]) ++ ([(UInt8.ofNat (48 + (n.toNat % 10)))] : List UInt8)) a) ∧ (compare_m ((a ++ [126]) ++ ([(UInt8.ofNat (48 + (n.toNat % 10)))] : List UInt8)) a) ≤ 1 := compare_rng ((a ++ [126]) ++ ([(UInt8.ofNat (48 + (n.toNat % 10)))] : List UInt8)) a
    simp only [nz1, nz2, nz3]
    refine lvb 63 ((compare_m ((a ++ [126]) ++ ([(UInt8.ofNat (48 + (n.toNat % 10)))] : List UInt8)) a) = -1) rfl rfl (z_eql (compare_m ((a ++ [126]) ++ ([(UInt8.ofNat (48 + (n.toNat % 10)))] : List UInt8)) a) (-1) rfl rfl rfl) (fun hs71 => ?_) (fun hs71 => ?_)
    · simp only [nz1, nz2, nz3]
      refine lvw 64 (.bool true) rfl rfl (run_pick rfl rfl rfl) ?_
      simp only [nz1, nz2, nz3]
      refine lvw 65 (.bool true) rfl rfl (run_mv rfl rfl) ?_
      simp only [nz1, nz2, nz3]
      refine lvw 66 (.bool false) rfl rfl (run_mv rfl rfl) ?_
      simp only [nz1, nz2, nz3]
      refine lvw 67 (.bool true) rfl rfl (r_not false rfl rfl) ?_
      simp only [nz1, nz2, nz3]
      refine lvw 68 (.bool true) rfl rfl (run_mv rfl rfl) ?_
      simp only [nz1, nz2, nz3]
      refine lst_skip 69 rfl rfl ?_
      simp only [nz1, nz2, nz3]
      refine lst_skip 70 rfl rfl ?_
      simp only [nz1, nz2, nz3]
      refine lst_skip 71 rfl rfl ?_
      simp only [nz1, nz2, nz3]
      refine lst_skip 72 rfl rfl ?_
      simp only [nz1, nz2, nz3]
      refine lvw 73 (.bool true) rfl rfl (run_pick rfl rfl rfl) ?_
      simp only [nz1, nz2, nz3]
      refine lvw 74 (.bool true) rfl rfl (run_pick rfl rfl rfl) ?_
      simp only [nz1, nz2, nz3]
      refine lvw 4 (.bool true) rfl rfl (run_as rfl rfl) ?_
      simp only [nz1, nz2, nz3]
      refine wpList_nil ?_
      refine then_n (hK60 _ _ ?_)
      refine wp_ret ?_
      have he72 : vgrows_m a n = true := (show vgrows_m a n = true from by unfold vgrows_m; rw [if_neg hs11, if_neg hs18, if_neg hs25, if_neg hc32, if_neg hs38, if_pos hs63, if_pos hs67, if_pos hs71] <;> rfl)
      exact ⟨rfl, .bool true, res_t rfl rfl, ⟨by rw [he72], hm69.below⟩⟩
    simp only [nz1, nz2, nz3]
    refine lvw 64 (.bool false) rfl rfl (run_pick rfl rfl rfl) ?_
    simp only [nz1, nz2, nz3]
    refine lvw 65 (.bool false) rfl rfl (run_mv rfl rfl) ?_
    simp only [nz1, nz2, nz3]
    refine lst_skip 66 rfl rfl ?_
    simp only [nz1, nz2, nz3]
    refine lst_skip 67 rfl rfl ?_
    simp only [nz1, nz2, nz3]
    refine lst_skip 68 rfl rfl ?_
    simp only [nz1, nz2, nz3]
    refine lst_skip 69 rfl rfl ?_
    simp only [nz1, nz2, nz3]
    refine lst_skip 70 rfl rfl ?_
    simp only [nz1, nz2, nz3]
    refine lst_skip 71 rfl rfl ?_
    simp only [nz1, nz2, nz3]
    refine lst_skip 72 rfl rfl ?_
    simp only [nz1, nz2, nz3]
    refine lst_skip 73 rfl rfl ?_
    simp only [nz1, nz2, nz3]
    refine lvw 74 (.bool false) rfl rfl (run_pickf rfl rfl rfl) ?_
    simp only [nz1, nz2, nz3]
    refine lvw 4 (.bool false) rfl rfl (run_as rfl rfl) ?_
    simp only [nz1, nz2, nz3]
    refine wpList_nil ?_
    refine then_n (hK60 _ _ ?_)
    refine wp_ret ?_
    have he73 : vgrows_m a n = false := (show vgrows_m a n = false from by unfold vgrows_m; rw [if_neg hs11, if_neg hs18, if_neg hs25, if_neg hc32, if_neg hs38, if_pos hs63, if_pos hs67, if_neg hs71] <;> rfl)
    exact ⟨rfl, .bool false, res_t rfl rfl, ⟨by rw [he73], hm69.below⟩⟩
  simp only [nz1, nz2, nz3]
  refine lvw 47 (.bool true) rfl rfl (run_mv rfl rfl) ?_
  simp only [nz1, nz2, nz3]
  refine lvw 48 (.string (tx a)) rfl rfl (run_mv rfl rfl) ?_
  simp only [nz1, nz2, nz3]
  refine lvw 49 (.int .u8 ((by' a 0 : Nat) : Int)) rfl rfl (t_char a 0 (check_pos (by assumption)) Tryd.underlying9 rfl rfl rfl) ?_
  simp only [nz1, nz2, nz3]
  refine lvw 50 (.bool (decide (by' a 0 ≤ 57))) rfl rfl (r_leq (by' a 0) 57 rfl rfl rfl) ?_
  simp only [nz1, nz2, nz3]
  refine lvw 51 (.bool (decide (by' a 0 ≤ 57))) rfl rfl (run_pick rfl rfl rfl) ?_
  simp only [nz1, nz2, nz3]
  refine lvw 9 (.bool (decide (by' a 0 ≤ 57))) rfl rfl (run_as rfl rfl) ?_
  simp only [nz1, nz2, nz3]
  refine wpList_nil ?_
  refine then_n (hK37 _ _ ?_)
  refine wp_seq_k (fun K39 hK39 => ?_)
  refine wp_region_lit ?_
  refine lst rfl (m_call hm31 52 (.bool (vawake_m)) rfl (run_vawake rfl) (vawake_any   _  ) (fun w40 (hm41 : Mm none (fun _ => True) w w40 [.blk g5 #[.int .u8 (((UInt8.ofNat (48 + (n.toNat % 10))).toNat : Nat) : Int)] 5]) => ?_))
  simp only [nz1, nz2, nz3]
  by_cases hs42 : vawake_m = true
  rotate_left
  · rw [(Bool.eq_false_iff.2 hs42 : vawake_m = false)]
    refine lvw 53 (.bool false) rfl rfl (run_mv rfl rfl) ?_
    simp only [nz1, nz2, nz3]
    refine lst_skip 54 rfl rfl ?_
    simp only [nz1, nz2, nz3]
    refine lst_skip 55 rfl rfl ?_
    simp only [nz1, nz2, nz3]
    refine lst_skip 56 rfl rfl ?_
    simp only [nz1, nz2, nz3]
    refine lst_skip 57 rfl rfl ?_
    simp only [nz1, nz2, nz3]
    refine lvw 58 (.bool false) rfl rfl (run_pickf rfl rfl rfl) ?_
    simp only [nz1, nz2, nz3]
    refine lvw 59 (.bool false) rfl rfl (run_mv rfl rfl) ?_
    simp only [nz1, nz2, nz3]
    refine lst_skip 60 rfl rfl ?_
    simp only [nz1, nz2, nz3]
    refine lst_skip 61 rfl rfl ?_
    simp only [nz1, nz2, nz3]
    refine lst_skip 62 rfl rfl ?_
    simp only [nz1, nz2, nz3]
    refine lst_skip 63 rfl rfl ?_
    simp only [nz1, nz2, nz3]
    refine lvw 64 (.bool false) rfl rfl (run_pickf rfl rfl rfl) ?_
    simp only [nz1, nz2, nz3]
    refine lvw 65 (.bool false) rfl rfl (run_mv rfl rfl) ?_
    simp only [nz1, nz2, nz3]
    refine lst_skip 66 rfl rfl ?_
    simp only [nz1, nz2, nz3]
    refine lst_skip 67 rfl rfl ?_
    simp only [nz1, nz2, nz3]
    refine lst_skip 68 rfl rfl ?_
    simp only [nz1, nz2, nz3]
    refine lst_skip 69 rfl rfl ?_
    simp only [nz1, nz2, nz3]
    refine lst_skip 70 rfl rfl ?_
    simp only [nz1, nz2, nz3]
    refine lst_skip 71 rfl rfl ?_
    simp only [nz1, nz2, nz3]
    refine lst_skip 72 rfl rfl ?_
    simp only [nz1, nz2, nz3]
    refine lst_skip 73 rfl rfl ?_
    simp only [nz1, nz2, nz3]
    refine lvw 74 (.bool false) rfl rfl (run_pickf rfl rfl rfl) ?_
    simp only [nz1, nz2, nz3]
    refine lvw 4 (.bool false) rfl rfl (run_as rfl rfl) ?_
    simp only [nz1, nz2, nz3]
    refine wpList_nil ?_
    refine then_n (hK39 _ _ ?_)
    refine wp_ret ?_
    have he59 : vgrows_m a n = false := (show vgrows_m a n = false from by unfold vgrows_m; rw [if_neg hs11, if_neg hs18, if_neg hs25, if_neg hc32, if_pos hs38, if_neg hs42] <;> rfl)
    exact ⟨rfl, .bool false, res_t rfl rfl, ⟨by rw [he59], hm41.below⟩⟩
  rw [(hs42 : vawake_m = true)]
  refine lvw 53 (.bool true) rfl rfl (run_mv rfl rfl) ?_
  simp only [nz1, nz2, nz3]
  refine lvw 54 (.string (tx ((a ++ [46]) ++ ([(UInt8.ofNat (48 + (n.toNat % 10)))] : List UInt8)))) rfl rfl (run_mv rfl rfl) ?_
  simp only [nz1, nz2, nz3]
  refine lvw 55 (.string (tx a)) rfl rfl (run_mv rfl rfl) ?_
  simp only [nz1, nz2, nz3]
  refine lst rfl (m_call hm41 56 (.int .i64 ((compare_m ((a ++ [46]) ++ ([(UInt8.ofNat (48 + (n.toNat % 10)))] : List UInt8)) a))) rfl (run_compare rfl rfl rfl) (compare_any ((a ++ [46]) ++ ([(UInt8.ofNat (48 + (n.toNat % 10)))] : List UInt8)) a  _  ) (fun w43 (hm44 : Mm none (fun _ => True) w w43 [.blk g5 #[.int .u8 (((UInt8.ofNat (48 + (n.toNat % 10))).toNat : Nat) : Int)] 5]) => ?_))
  have hf45 : -1 ≤ (compare_m ((a ++ [46]) ++ ([(UInt8.ofNat (48 + (n.toNat % 10)))] : List UInt8)) a) ∧ (compare_m ((a ++ [46]) ++ ([(UInt8.ofNat (48 + (n.toNat % 10)))] : List UInt8)) a) ≤ 1 := compare_rng ((a ++ [46]) ++ ([(UInt8.ofNat (48 + (n.toNat % 10)))] : List UInt8)) a
  simp only [nz1, nz2, nz3]
  refine lvb 57 ((compare_m ((a ++ [46]) ++ ([(UInt8.ofNat (48 + (n.toNat % 10)))] : List UInt8)) a) = 1) rfl rfl (z_eql (compare_m ((a ++ [46]) ++ ([(UInt8.ofNat (48 + (n.toNat % 10)))] : List UInt8)) a) 1 rfl rfl rfl) (fun hs46 => ?_) (fun hs46 => ?_)
  rotate_left
  · simp only [nz1, nz2, nz3]
    refine lvw 58 (.bool false) rfl rfl (run_pick rfl rfl rfl) ?_
    simp only [nz1, nz2, nz3]
    refine lvw 59 (.bool false) rfl rfl (run_mv rfl rfl) ?_
    simp only [nz1, nz2, nz3]
    refine lst_skip 60 rfl rfl ?_
    simp only [nz1, nz2, nz3]
    refine lst_skip 61 rfl rfl ?_
    simp only [nz1, nz2, nz3]
    refine lst_skip 62 rfl rfl ?_
    simp only [nz1, nz2, nz3]
    refine lst_skip 63 rfl rfl ?_
    simp only [nz1, nz2, nz3]
    refine lvw 64 (.bool false) rfl rfl (run_pickf rfl rfl rfl) ?_
    simp only [nz1, nz2, nz3]
    refine lvw 65 (.bool false) rfl rfl (run_mv rfl rfl) ?_
    simp only [nz1, nz2, nz3]
    refine lst_skip 66 rfl rfl ?_
    simp only [nz1, nz2, nz3]
    refine lst_skip 67 rfl rfl ?_
    simp only [nz1, nz2, nz3]
    refine lst_skip 68 rfl rfl ?_
    simp only [nz1, nz2, nz3]
    refine lst_skip 69 rfl rfl ?_
    simp only [nz1, nz2, nz3]
    refine lst_skip 70 rfl rfl ?_
    simp only [nz1, nz2, nz3]
    refine lst_skip 71 rfl rfl ?_
    simp only [nz1, nz2, nz3]
    refine lst_skip 72 rfl rfl ?_
    simp only [nz1, nz2, nz3]
    refine lst_skip 73 rfl rfl ?_
    simp only [nz1, nz2, nz3]
    refine lvw 74 (.bool false) rfl rfl (run_pickf rfl rfl rfl) ?_
    simp only [nz1, nz2, nz3]
    refine lvw 4 (.bool false) rfl rfl (run_as rfl rfl) ?_
    simp only [nz1, nz2, nz3]
    refine wpList_nil ?_
    refine then_n (hK39 _ _ ?_)
    refine wp_ret ?_
    have he58 : vgrows_m a n = false := (show vgrows_m a n = false from by unfold vgrows_m; rw [if_neg hs11, if_neg hs18, if_neg hs25, if_neg hc32, if_pos hs38, if_pos hs42, if_neg hs46] <;> rfl)
    exact ⟨rfl, .bool false, res_t rfl rfl, ⟨by rw [he58], hm44.below⟩⟩
  simp only [nz1, nz2, nz3]
  refine lvw 58 (.bool true) rfl rfl (run_pick rfl rfl rfl) ?_
  simp only [nz1, nz2, nz3]
  refine lvw 59 (.bool true) rfl rfl (run_mv rfl rfl) ?_
  simp only [nz1, nz2, nz3]
  refine lvw 60 (.string (tx ((a ++ [126]) ++ ([(UInt8.ofNat (48 + (n.toNat % 10)))] : List UInt8)))) rfl rfl (run_mv rfl rfl) ?_
  simp only [nz1, nz2, nz3]
  refine lvw 61 (.string (tx a)) rfl rfl (run_mv rfl rfl) ?_
  simp only [nz1, nz2, nz3]
  refine lst rfl (m_call hm44 62 (.int .i64 ((compare_m ((a ++ [126]) ++ ([(UInt8.ofNat (48 + (n.toNat % 10)))] : List UInt8)) a))) rfl (run_compare rfl rfl rfl) (compare_any ((a ++ [126]) ++ ([(UInt8.ofNat (48 + (n.toNat % 10)))] : List UInt8)) a  _  ) (fun w47 (hm48 : Mm none (fun _ => True) w w47 [.blk g5 #[.int .u8 (((UInt8.ofNat (48 + (n.toNat % 10))).toNat : Nat) : Int)] 5]) => ?_))
  have hf49 : -1 ≤ (compare_m ((a ++ [126]) ++ ([(UInt8.ofNat (48 + (n.toNat % 10)))] : List UInt8)) a) ∧ (compare_m ((a ++ [126]) ++ ([(UInt8.ofNat (48 + (n.toNat % 10)))] : List UInt8)) a) ≤ 1 := compare_rng ((a ++ [126]) ++ ([(UInt8.ofNat (48 + (n.toNat % 10)))] : List UInt8)) a
  simp only [nz1, nz2, nz3]
  refine lvb 63 ((compare_m ((a ++ [126]) ++ ([(UInt8.ofNat (48 + (n.toNat % 10)))] : List UInt8)) a) = -1) rfl rfl (z_eql (compare_m ((a ++ [126]) ++ ([(UInt8.ofNat (48 + (n.toNat % 10)))] : List UInt8)) a) (-1) rfl rfl rfl) (fun hs50 => ?_) (fun hs50 => ?_)
  rotate_left
  · simp only [nz1, nz2, nz3]
    refine lvw 64 (.bool false) rfl rfl (run_pick rfl rfl rfl) ?_
    simp only [nz1, nz2, nz3]
    refine lvw 65 (.bool false) rfl rfl (run_mv rfl rfl) ?_
    simp only [nz1, nz2, nz3]
    refine lst_skip 66 rfl rfl ?_
    simp only [nz1, nz2, nz3]
    refine lst_skip 67 rfl rfl ?_
    simp only [nz1, nz2, nz3]
    refine lst_skip 68 rfl rfl ?_
    simp only [nz1, nz2, nz3]
    refine lst_skip 69 rfl rfl ?_
    simp only [nz1, nz2, nz3]
    refine lst_skip 70 rfl rfl ?_
    simp only [nz1, nz2, nz3]
    refine lst_skip 71 rfl rfl ?_
    simp only [nz1, nz2, nz3]
    refine lst_skip 72 rfl rfl ?_
    simp only [nz1, nz2, nz3]
    refine lst_skip 73 rfl rfl ?_
    simp only [nz1, nz2, nz3]
    refine lvw 74 (.bool false) rfl rfl (run_pickf rfl rfl rfl) ?_
    simp only [nz1, nz2, nz3]
    refine lvw 4 (.bool false) rfl rfl (run_as rfl rfl) ?_
    simp only [nz1, nz2, nz3]
    refine wpList_nil ?_
    refine then_n (hK39 _ _ ?_)
    refine wp_ret ?_
    have he57 : vgrows_m a n = false := (show vgrows_m a n = false from by unfold vgrows_m; rw [if_neg hs11, if_neg hs18, if_neg hs25, if_neg hc32, if_pos hs38, if_pos hs42, if_pos hs46, if_neg hs50] <;> rfl)
    exact ⟨rfl, .bool false, res_t rfl rfl, ⟨by rw [he57], hm48.below⟩⟩
  simp only [nz1, nz2, nz3]
  refine lvw 64 (.bool true) rfl rfl (run_pick rfl rfl rfl) ?_
  simp only [nz1, nz2, nz3]
  refine lvw 65 (.bool true) rfl rfl (run_mv rfl rfl) ?_
  simp only [nz1, nz2, nz3]
  refine lvw 66 (.bool (decide (by' a 0 ≤ 57))) rfl rfl (run_mv rfl rfl) ?_
  simp only [nz1, nz2, nz3]
  refine lvb 67 (¬ (by' a 0 ≤ 57)) rfl rfl (r_notD (by' a 0 ≤ 57) rfl rfl) (fun hs51 => ?_) (fun hs51 => ?_)
  · simp only [nz1, nz2, nz3]
    refine lvw 68 (.bool true) rfl rfl (run_mv rfl rfl) ?_
    simp only [nz1, nz2, nz3]
    refine lst_skip 69 rfl rfl ?_
    simp only [nz1, nz2, nz3]
    refine lst_skip 70 rfl rfl ?_
    simp only [nz1, nz2, nz3]
    refine lst_skip 71 rfl rfl ?_
    simp only [nz1, nz2, nz3]
    refine lst_skip 72 rfl rfl ?_
    simp only [nz1, nz2, nz3]
    refine lvw 73 (.bool true) rfl rfl (run_pick rfl rfl rfl) ?_
    simp only [nz1, nz2, nz3]
    refine lvw 74 (.bool true) rfl rfl (run_pick rfl rfl rfl) ?_
    simp only [nz1, nz2, nz3]
    refine lvw 4 (.bool true) rfl rfl (run_as rfl rfl) ?_
    simp only [nz1, nz2, nz3]
    refine wpList_nil ?_
    refine then_n (hK39 _ _ ?_)
    refine wp_ret ?_
    have he52 : vgrows_m a n = true := (show vgrows_m a n = true from by unfold vgrows_m; rw [if_neg hs11, if_neg hs18, if_neg hs25, if_neg hc32, if_pos hs38, if_pos hs42, if_pos hs46, if_pos hs50, if_pos hs51] <;> rfl)
    exact ⟨rfl, .bool true, res_t rfl rfl, ⟨by rw [he52], hm48.below⟩⟩
  simp only [nz1, nz2, nz3]
  refine lvw 68 (.bool false) rfl rfl (run_mv rfl rfl) ?_
  simp only [nz1, nz2, nz3]
  refine lvw 69 (.string (tx ([48] ++ a))) rfl rfl (run_mv rfl rfl) ?_
  simp only [nz1, nz2, nz3]
  refine lvw 70 (.string (tx a)) rfl rfl (run_mv rfl rfl) ?_
  simp only [nz1, nz2, nz3]
  refine lst rfl (m_call hm48 71 (.int .i64 ((compare_m ([48] ++ a) a))) rfl (run_compare rfl rfl rfl) (compare_any ([48] ++ a) a  _  ) (fun w53 (hm54 : Mm none (fun _ => True) w w53 [.blk g5 #[.int .u8 (((UInt8.ofNat (48 + (n.toNat % 10))).toNat : Nat) : Int)] 5]) => ?_))
  have hf55 : -1 ≤ (compare_m ([48] ++ a) a) ∧ (compare_m ([48] ++ a) a) ≤ 1 := compare_rng ([48] ++ a) a
  simp only [nz1, nz2, nz3]
  refine lvw 72 (.bool (decide ((compare_m ([48] ++ a) a) = 0))) rfl rfl (z_eql (compare_m ([48] ++ a) a) 0 rfl rfl rfl) ?_
  simp only [nz1, nz2, nz3]
  refine lvw 73 (.bool (decide ((compare_m ([48] ++ a) a) = 0))) rfl rfl (run_pickf rfl rfl rfl) ?_
  simp only [nz1, nz2, nz3]
  refine lvw 74 (.bool (decide ((compare_m ([48] ++ a) a) = 0))) rfl rfl (run_pick rfl rfl rfl) ?_
  simp only [nz1, nz2, nz3]
  refine lvw 4 (.bool (decide ((compare_m ([48] ++ a) a) = 0))) rfl rfl (run_as rfl rfl) ?_
  simp only [nz1, nz2, nz3]
  refine wpList_nil ?_
  refine then_n (hK39 _ _ ?_)
  refine wp_ret ?_
  have he56 : vgrows_m a n = (decide ((compare_m ([48] ++ a) a) = 0)) := (show vgrows_m a n = (decide ((compare_m ([48] ++ a) a) = 0)) from by unfold vgrows_m; rw [if_neg hs11, if_neg hs18, if_neg hs25, if_neg hc32, if_pos hs38, if_pos hs42, if_pos hs46, if_pos hs50, if_neg hs51] <;> rfl)
  exact ⟨rfl, .bool (decide ((compare_m ([48] ++ a) a) = 0)), res_t rfl rfl, ⟨by rw [he56], hm54.below⟩⟩
theorem run_vgrows {o : Oper} {a : Act} {w : World} {x0 x1 : Operand} {v0 v1 : Value} (ho : o.op = .call { callee := .value (.func 13), args := #[x0, x1], argTypes := #[9, 5] }) (h0 : a.eval x0 = v0) (h1 : a.eval x1 = v1) :
    (execOp a.eval o).run Tryd.prog w = .ok (.enter 13 #[v0, v1]) w := by
  unfold execOp
  simp only [ho]
  have hf : a.eval (.func 13) = .func (.func 13) #[] #[] := rfl
  generalize a.eval = f at *
  go_simp
end Go.Proofs.YtdohmmdfenafnaaDoor.Ve
