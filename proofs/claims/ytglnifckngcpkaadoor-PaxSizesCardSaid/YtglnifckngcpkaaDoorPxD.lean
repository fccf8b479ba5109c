/- Layer 10: the document's digits, keys, places. -/
import Derived.Test.YtglnifckngcpkaaDoorPxT
import Derived.Test.YtglnifckngcpkaaDoorPxK
namespace Go.Proofs.YtglnifckngcpkaaDoor.Px
open Go.RowKit
open Go.Proofs.YtglnifckngcpkaaDoor.Sym Go.Proofs.YtglnifckngcpkaaDoor.Mem
open Go.Proofs.YtglnifckngcpkaaDoor.Sx hiding Mm m_alloc m_store m_put m_call m_callx m_make m_append r_string r_ixS
set_option linter.unusedVariables false
attribute [local irreducible] wpList Oper.wp

def rdig_m_b0 (n : Int) (rec : Int × (List UInt8) → Sum (Int × (List UInt8)) ((List UInt8))) (x4 : Int) (x5 : List UInt8) : Sum (Int × (List UInt8)) ((List UInt8)) :=
  if 0 < x4 then
    rec ((x4 / (10 : Int)), (([(UInt8.ofNat ((48 : Int) + (x4 % (10 : Int))).toNat)] : List UInt8) ++ x5))
  else
    if x5 = [] then
      rec ((x4 / (10 : Int)), (([(UInt8.ofNat ((48 : Int) + (x4 % (10 : Int))).toNat)] : List UInt8) ++ x5))
    else
      .inl (x4, x5)
def rdig_m_l0 (n : Int) : Nat → Int × (List UInt8) → Sum (Int × (List UInt8)) ((List UInt8))
  | 0, zz => .inl zz
  | nq + 1, zz => rdig_m_b0 n (rdig_m_l0 n nq) zz.1 zz.2

def rdig_m_k0 (n : Int) (y9 : Int) (y10 : List UInt8) : (List UInt8) :=
  y10

def rdig_m (n : Int) : (List UInt8) :=
  fin (rdig_m_l0 n ((2 * n.toNat + (1 - (([]) : List UInt8).length)) + 1) (n, ([]))) (fun r => r) (fun zz => rdig_m_k0 n zz.1 zz.2)

set_option maxHeartbeats 4000000 in
set_option maxRecDepth 100000 in
theorem rdig_any (n : Int) (w : World)  (hp0 : 0 ≤ n) (hp1 : n ≤ 100000000) : Calls Tryd.prog 59 #[.int .i64 (n)] w (fun e w' => e = .returned (.string (tx (rdig_m n))) ∧ Below w.heap.size w w') := by
  go_enter Tryd.func59, Tryd.ntmps59
  have hm00 := Mm.nil none (fun _ => True) w
  have hm0 := hm00
  refine wp_seq_k (fun K1 hK1 => ?_)
  refine wp_region_lit ?_
  refine lvw 2 (.string (tx ([]))) rfl rfl (run_as rfl rfl) ?_
  simp only [nz1, nz2, nz3]
  refine wpList_nil ?_
  refine then_n (hK1 _ _ ?_)
  refine wp_seq_k (fun K2 hK2 => ?_)
  refine wp_region_lit ?_
  refine lvw 3 (.string (tx ([]))) rfl rfl (run_as rfl rfl) ?_
  simp only [nz1, nz2, nz3]
  refine wpList_nil ?_
  refine then_n (hK2 _ _ ?_)
  refine wp_seq_k (fun K3 hK3 => ?_)
  refine wp_cutK (fun a' w' => ∃ (y9 : Int) (y10 : List UInt8) (yu0 : Nat → Value), rdig_m_l0 n ((2 * n.toNat + (1 - (([]) : List UInt8).length)) + 1) (n, ([])) = .inl (y9, y10) ∧ (0 ≤ y9 ∧ y9 ≤ 100000000 ∧ ((y10.length : Nat) : Int) ≤ 200000000 - y9) ∧ a' = ⟨#[.int .i64 (y9), undef, .string (tx ([])), .string (tx y10), yu0 0, yu0 1, yu0 2, yu0 3, yu0 4, yu0 5, yu0 6, yu0 7, yu0 8, yu0 9, yu0 10, yu0 11, yu0 12, yu0 13, yu0 14, yu0 15, undef], []⟩ ∧ Mm none (fun _ => True) w w' []) ?_ ?_
  · refine wp_block ?_
    refine wp_loop_n (fun n' a' w' => ∃ (n6 : Nat) (x4 : Int) (x5 : List UInt8) (u0 : Nat → Value), n' = n6 ∧ (2 * x4.toNat + (1 - (x5 : List UInt8).length)) < n6 ∧ rdig_m_l0 n ((2 * n.toNat + (1 - (([]) : List UInt8).length)) + 1) (n, ([])) = rdig_m_l0 n n6 (x4, x5) ∧ (0 ≤ x4 ∧ x4 ≤ 100000000 ∧ ((x5.length : Nat) : Int) ≤ 200000000 - x4) ∧ a' = ⟨#[.int .i64 (x4), undef, .string (tx ([])), .string (tx x5), u0 0, u0 1, u0 2, u0 3, u0 4, u0 5, u0 6, u0 7, u0 8, u0 9, u0 10, u0 11, u0 12, u0 13, u0 14, u0 15, undef], []⟩ ∧ Mm none (fun _ => True) w w' []) ⟨((2 * n.toNat + (1 - (([]) : List UInt8).length)) + 1), n, ([]), (fun qq => List.getD [undef, undef, undef, undef, undef, undef, undef, undef, undef, undef, undef, undef, undef, undef, undef, undef] qq undef), rfl, Nat.lt_succ_self _, rfl, (by first | omega | (simp; done) | (simp; omega) | (simp at *; omega)), rfl, hm0⟩ ?_
    rintro n6 _ w12 ⟨_, x4, x5, u0, rfl, hl16, hi8, hdg, rfl, hm13⟩ R14 hR14
    obtain ⟨k7, rfl⟩ : ∃ k, n6 = k + 1 := ⟨n6 - 1, by omega⟩
    refine wp_seq_k (fun K17 hK17 => ?_)
    refine wp_seq_k (fun K18 hK18 => ?_)
    refine wp_region_lit ?_
    refine lvw 4 (.int .i64 (x4)) rfl rfl (run_mv rfl rfl) ?_
    simp only [nz1, nz2, nz3]
    refine lvb 5 (0 < x4) rfl rfl (z_gtr x4 0 rfl rfl rfl) (fun hs19 => ?_) (fun hs19 => ?_)
    · simp only [nz1, nz2, nz3]
      refine lvw 6 (.bool true) rfl rfl (run_mv rfl rfl) ?_
      simp only [nz1, nz2, nz3]
      refine lst_skip 7 rfl rfl ?_
      simp only [nz1, nz2, nz3]
      refine lst_skip 8 rfl rfl ?_
      simp only [nz1, nz2, nz3]
      refine lvw 9 (.bool true) rfl rfl (run_pick rfl rfl rfl) ?_
      simp only [nz1, nz2, nz3]
      refine wpList_nil ?_
      refine then_n (hK18 _ _ ?_)
      refine cond_t rfl ?_
      refine wp_skip ?_
      refine then_n (hK17 _ _ ?_)
      refine wp_block ?_
      refine wp_seq_k (fun K20 hK20 => ?_)
      refine wp_region_lit ?_
      refine lvw 10 (.int .i64 (x4)) rfl rfl (run_mv rfl rfl) ?_
      simp only [nz1, nz2, nz3]
      refine lvw 11 (.int .i64 ((x4 % (10 : Int)))) rfl rfl (z_rem x4 (10 : Int) (x4 % (10 : Int)) (by omega) (Int.tmod_eq_emod_of_nonneg (by omega)) rfl rfl rfl) ?_
      simp only [nz1, nz2, nz3]
      refine lvw 12 (.int .i64 (((48 : Int) + (x4 % (10 : Int))))) rfl rfl (z_add (48 : Int) (x4 % (10 : Int)) _ (by rw [IntKind.wrap_i64]; omega) rfl rfl rfl) ?_
      simp only [nz1, nz2, nz3]
      refine lvw 13 (.int .u8 (((UInt8.ofNat ((48 : Int) + (x4 % (10 : Int))).toNat).toNat : Nat) : Int)) rfl rfl (z_conv (k' := .u8) ((48 : Int) + (x4 % (10 : Int))) (((UInt8.ofNat ((48 : Int) + (x4 % (10 : Int))).toNat).toNat : Nat) : Int) some_3 Tryd.underlying5 (u8_wrap _ (by omega)) rfl rfl) ?_
      simp only [nz1, nz2, nz3]
      refine lst rfl (m_make (c := #[.int .u8 (((UInt8.ofNat ((48 : Int) + (x4 % (10 : Int))).toNat).toNat : Nat) : Int)]) (T := 5) (fun g => .slice (some ⟨g, 0, none⟩) 1 1) hm13 14 rfl (by unfold execOp; go_simp; try rfl) (fun g23 w21 (hm22 : Mm none (fun _ => True) w w21 [.blk g23 #[.int .u8 (((UInt8.ofNat ((48 : Int) + (x4 % (10 : Int))).toNat).toNat : Nat) : Int)] 5]) => ?_))
      simp only [nz1, nz2, nz3]
      refine lvw 15 (.string (tx ([(UInt8.ofNat ((48 : Int) + (x4 % (10 : Int))).toNat)] : List UInt8))) rfl rfl (r_stringR ([(UInt8.ofNat ((48 : Int) + (x4 % (10 : Int))).toNat)]) (by have h := Rs.blk (enc := eB) (l := ([(UInt8.ofNat ((48 : Int) + (x4 % (10 : Int))).toNat)] : List UInt8)) (hm22.at 0 rfl) rfl rfl eB_len (Nat.le_refl _); unfold Rs at h; rw [eB_map] at h; exact h) Tryd.underlying34 Tryd.underlying5 Tryd.underlying9 rfl rfl) ?_
      simp only [nz1, nz2, nz3]
      refine lvw 16 (.string (tx x5)) rfl rfl (run_mv rfl rfl) ?_
      simp only [nz1, nz2, nz3]
      refine lvw 17 (.string (tx (([(UInt8.ofNat ((48 : Int) + (x4 % (10 : Int))).toNat)] : List UInt8) ++ x5))) rfl rfl (t_cat ([(UInt8.ofNat ((48 : Int) + (x4 % (10 : Int))).toNat)] : List UInt8) x5 (by rw [List.length_singleton]; omega) rfl rfl rfl) ?_
      simp only [nz1, nz2, nz3]
      refine lvw 3 (.string (tx (([(UInt8.ofNat ((48 : Int) + (x4 % (10 : Int))).toNat)] : List UInt8) ++ x5))) rfl rfl (run_as rfl rfl) ?_
      simp only [nz1, nz2, nz3]
      refine wpList_nil ?_
      refine then_n (hK20 _ _ ?_)
      refine wp_region_lit ?_
      refine lvw 18 (.int .i64 (x4)) rfl rfl (run_mv rfl rfl) ?_
      simp only [nz1, nz2, nz3]
      refine lvw 19 (.int .i64 ((x4 / (10 : Int)))) rfl rfl (z_quo x4 (10 : Int) (x4 / (10 : Int)) (by omega) (by rw [IntKind.wrap_i64, Int.tdiv_eq_ediv_of_nonneg (by omega)]; omega) rfl rfl rfl) ?_
      simp only [nz1, nz2, nz3]
      refine lvw 0 (.int .i64 ((x4 / (10 : Int)))) rfl rfl (run_as rfl rfl) ?_
      simp only [nz1, nz2]
      refine wpList_nil ?_
      refine blk_n ?_
      refine then_n (hR14 _ _ _ ⟨k7, (x4 / (10 : Int)), (([(UInt8.ofNat ((48 : Int) + (x4 % (10 : Int))).toNat)] : List UInt8) ++ x5), (fun qq => List.getD [.int .i64 (x4), .bool true, .bool true, undef, undef, .bool true, .int .i64 (x4), .int .i64 ((x4 % (10 : Int))), .int .i64 (((48 : Int) + (x4 % (10 : Int)))), .int .u8 (((UInt8.ofNat ((48 : Int) + (x4 % (10 : Int))).toNat).toNat : Nat) : Int), .slice (some ⟨g23, 0, none⟩) 1 1, .string (tx ([(UInt8.ofNat ((48 : Int) + (x4 % (10 : Int))).toNat)] : List UInt8)), .string (tx x5), .string (tx (([(UInt8.ofNat ((48 : Int) + (x4 % (10 : Int))).toNat)] : List UInt8) ++ x5)), .int .i64 (x4), .int .i64 ((x4 / (10 : Int)))] qq undef), rfl, (by first | (rw [List.length_append, List.length_singleton]; omega) | (have hz := congrArg List.length (show x5 = [] from by assumption); simp only [List.length_nil] at hz; rw [List.length_append, List.length_singleton]; omega)), (hi8.trans (show rdig_m_b0 n (rdig_m_l0 n k7) x4 x5 = rdig_m_l0 n k7 ((x4 / (10 : Int)), (([(UInt8.ofNat ((48 : Int) + (x4 % (10 : Int))).toNat)] : List UInt8) ++ x5)) from by unfold rdig_m_b0; rw [if_pos hs19] <;> rfl)), (by first | (rw [List.length_append, List.length_singleton]; omega) | (have hz := congrArg List.length (show x5 = [] from by assumption); simp only [List.length_nil] at hz; rw [List.length_append, List.length_singleton]; omega)), rfl, (Mm.reorder hm22 [] (by decide) rfl)⟩ ?_)
      omega
    simp only [nz1, nz2, nz3]
    refine lvw 6 (.bool false) rfl rfl (run_mv rfl rfl) ?_
    simp only [nz1, nz2, nz3]
    refine lvw 7 (.string (tx x5)) rfl rfl (run_mv rfl rfl) ?_
    simp only [nz1, nz2, nz3]
    refine lvw 8 (.bool (decide (x5 = []))) rfl rfl (t_eql x5 ([]) rfl rfl rfl) ?_
    simp only [nz1, nz2, nz3]
    refine lvw 9 (.bool (decide (x5 = []))) rfl rfl (run_pickf rfl rfl rfl) ?_
    simp only [nz1, nz2, nz3]
    refine wpList_nil ?_
    refine then_n (hK18 _ _ ?_)
    refine cond_d (x5 = []) rfl (fun hc24 => ?_) (fun hc24 => ?_)
    rotate_left
    · refine wp_exit ?_
      refine then_x ?_
      refine then_x ?_
      refine blk_x ?_
      refine then_n ?_
      exact ⟨x4, x5, (fun qq => List.getD [.int .i64 (x4), .bool false, .bool false, .string (tx x5), .bool (decide (x5 = [])), .bool (decide (x5 = [])), u0 6, u0 7, u0 8, u0 9, u0 10, u0 11, u0 12, u0 13, u0 14, u0 15] qq undef), (hi8.trans (show rdig_m_b0 n (rdig_m_l0 n k7) x4 x5 = .inl (x4, x5) from by unfold rdig_m_b0; rw [if_neg hs19, if_neg hc24] <;> rfl)), (by first | omega | (simp; done) | (simp; omega) | (simp at *; omega)), rfl, hm13⟩
    refine wp_skip ?_
    refine then_n (hK17 _ _ ?_)
    refine wp_block ?_
    refine wp_seq_k (fun K25 hK25 => ?_)
    refine wp_region_lit ?_
    refine lvw 10 (.int .i64 (x4)) rfl rfl (run_mv rfl rfl) ?_
    simp only [nz1, nz2, nz3]
    refine lvw 11 (.int .i64 ((x4 % (10 : Int)))) rfl rfl (z_rem x4 (10 : Int) (x4 % (10 : Int)) (by omega) (Int.tmod_eq_emod_of_nonneg (by omega)) rfl rfl rfl) ?_
    simp only [nz1, nz2, nz3]
    refine lvw 12 (.int .i64 (((48 : Int) + (x4 % (10 : Int))))) rfl rfl (z_add (48 : Int) (x4 % (10 : Int)) _ (by rw [IntKind.wrap_i64]; omega) rfl rfl rfl) ?_
    simp only [nz1, nz2, nz3]
    refine lvw 13 (.int .u8 (((UInt8.ofNat ((48 : Int) + (x4 % (10 : Int))).toNat).toNat : Nat) : Int)) rfl rfl (z_conv (k' := .u8) ((48 : Int) + (x4 % (10 : Int))) (((UInt8.ofNat ((48 : Int) + (x4 % (10 : Int))).toNat).toNat : Nat) : Int) some_3 Tryd.underlying5 (u8_wrap _ (by omega)) rfl rfl) ?_
    simp only [nz1, nz2, nz3]
    refine lst rfl (m_make (c := #[.int .u8 (((UInt8.ofNat ((48 : Int) + (x4 % (10 : Int))).toNat).toNat : Nat) : Int)]) (T := 5) (fun g => .slice (some ⟨g, 0, none⟩) 1 1) hm13 14 rfl (by unfold execOp; go_simp; try rfl) (fun g28 w26 (hm27 : Mm none (fun _ => True) w w26 [.blk g28 #[.int .u8 (((UInt8.ofNat ((48 : Int) + (x4 % (10 : Int))).toNat).toNat : Nat) : Int)] 5]) => ?_))
    simp only [nz1, nz2, nz3]
    refine lvw 15 (.string (tx ([(UInt8.ofNat ((48 : Int) + (x4 % (10 : Int))).toNat)] : List UInt8))) rfl rfl (r_stringR ([(UInt8.ofNat ((48 : Int) + (x4 % (10 : Int))).toNat)]) (by have h := Rs.blk (enc := eB) (l := ([(UInt8.ofNat ((48 : Int) + (x4 % (10 : Int))).toNat)] : List UInt8)) (hm27.at 0 rfl) rfl rfl eB_len (Nat.le_refl _); unfold Rs at h; rw [eB_map] at h; exact h) Tryd.underlying34 Tryd.underlying5 Tryd.underlying9 rfl rfl) ?_
    simp only [nz1, nz2, nz3]
    refine lvw 16 (.string (tx x5)) rfl rfl (run_mv rfl rfl) ?_
    simp only [nz1, nz2, nz3]
    refine lvw 17 (.string (tx (([(UInt8.ofNat ((48 : Int) + (x4 % (10 : Int))).toNat)] : List UInt8) ++ x5))) rfl rfl (t_cat ([(UInt8.ofNat ((48 : Int) + (x4 % (10 : Int))).toNat)] : List UInt8) x5 (by rw [List.length_singleton]; omega) rfl rfl rfl) ?_
    simp only [nz1, nz2, nz3]
    refine lvw 3 (.string (tx (([(UInt8.ofNat ((48 : Int) + (x4 % (10 : Int))).toNat)] : List UInt8) ++ x5))) rfl rfl (run_as rfl rfl) ?_
    simp only [nz1, nz2, nz3]
    refine wpList_nil ?_
    refine then_n (hK25 _ _ ?_)
    refine wp_region_lit ?_
    refine lvw 18 (.int .i64 (x4)) rfl rfl (run_mv rfl rfl) ?_
    simp only [nz1, nz2, nz3]
    refine lvw 19 (.int .i64 ((x4 / (10 : Int)))) rfl rfl (z_quo x4 (10 : Int) (x4 / (10 : Int)) (by omega) (by rw [IntKind.wrap_i64, Int.tdiv_eq_ediv_of_nonneg (by omega)]; omega) rfl rfl rfl) ?_
    simp only [nz1, nz2, nz3]
    refine lvw 0 (.int .i64 ((x4 / (10 : Int)))) rfl rfl (run_as rfl rfl) ?_
    simp only [nz1, nz2]
    refine wpList_nil ?_
    refine blk_n ?_
    refine then_n (hR14 _ _ _ ⟨k7, (x4 / (10 : Int)), (([(UInt8.ofNat ((48 : Int) + (x4 % (10 : Int))).toNat)] : List UInt8) ++ x5), (fun qq => List.getD [.int .i64 (x4), .bool false, .bool false, .string (tx x5), .bool (decide (x5 = [])), .bool (decide (x5 = [])), .int .i64 (x4), .int .i64 ((x4 % (10 : Int))), .int .i64 (((48 : Int) + (x4 % (10 : Int)))), .int .u8 (((UInt8.ofNat ((48 : Int) + (x4 % (10 : Int))).toNat).toNat : Nat) : Int), .slice (some ⟨g28, 0, none⟩) 1 1, .string (tx ([(UInt8.ofNat ((48 : Int) + (x4 % (10 : Int))).toNat)] : List UInt8)), .string (tx x5), .string (tx (([(UInt8.ofNat ((48 : Int) + (x4 % (10 : Int))).toNat)] : List UInt8) ++ x5)), .int .i64 (x4), .int .i64 ((x4 / (10 : Int)))] qq undef), rfl, (by first | (rw [List.length_append, List.length_singleton]; omega) | (have hz := congrArg List.length (show x5 = [] from by assumption); simp only [List.length_nil] at hz; rw [List.length_append, List.length_singleton]; omega)), (hi8.trans (show rdig_m_b0 n (rdig_m_l0 n k7) x4 x5 = rdig_m_l0 n k7 ((x4 / (10 : Int)), (([(UInt8.ofNat ((48 : Int) + (x4 % (10 : Int))).toNat)] : List UInt8) ++ x5)) from by unfold rdig_m_b0; rw [if_neg hs19, if_pos hc24] <;> rfl)), (by first | (rw [List.length_append, List.length_singleton]; omega) | (have hz := congrArg List.length (show x5 = [] from by assumption); simp only [List.length_nil] at hz; rw [List.length_append, List.length_singleton]; omega)), rfl, (Mm.reorder hm27 [] (by decide) rfl)⟩ ?_)
    omega
  rintro _ w29 ⟨y9, y10, yu0, hx11, hdg, rfl, hm30⟩
  have hq31 : rdig_m n = rdig_m_k0 n y9 y10 := (show rdig_m n = rdig_m_k0 n y9 y10 from by unfold rdig_m; rw [hx11] <;> rfl)
  refine then_n (hK3 _ _ ?_)
  refine wp_seq_k (fun K32 hK32 => ?_)
  refine wp_region_lit ?_
  refine lvw 20 (.string (tx y10)) rfl rfl (run_mv rfl rfl) ?_
  simp only [nz1, nz2, nz3]
  refine lvw 2 (.string (tx y10)) rfl rfl (run_as rfl rfl) ?_
  simp only [nz1, nz2, nz3]
  refine wpList_nil ?_
  refine then_n (hK32 _ _ ?_)
  refine wp_ret ?_
  have he33 : rdig_m n = y10 := (hq31.trans (show rdig_m_k0 n y9 y10 = y10 from by unfold rdig_m_k0; rfl))
  exact ⟨rfl, .string (tx y10), res_t rfl rfl, ⟨by rw [he33], hm30.below⟩⟩
theorem run_rdig {o : Oper} {a : Act} {w : World} {x0 : Operand} {v0 : Value} (ho : o.op = .call { callee := .value (.func 59), args := #[x0], argTypes := #[3] }) (h0 : a.eval x0 = v0) :
    (execOp a.eval o).run Tryd.prog w = .ok (.enter 59 #[v0]) w := by
  unfold execOp
  simp only [ho]
  have hf : a.eval (.func 59) = .func (.func 59) #[] #[] := rfl
  generalize a.eval = f at *
  go_simp
def rkey_m_b0 (s : List UInt8) (rec : Nat → Sum (Nat) (Bool)) (x4 : Nat) : Sum (Nat) (Bool) :=
  if x4 < s.length then
    if by' s x4 = 61 then
      .inr false
    else
      if by' s x4 = 0 then
        .inr false
      else
        if by' s x4 = 10 then
          .inr false
        else
          if by' s x4 = 32 then
            .inr false
          else
            rec (x4 + 1)
  else
    .inl x4
def rkey_m_l0 (s : List UInt8) : Nat → Nat → Sum (Nat) (Bool)
  | 0, zz => .inl zz
  | nq + 1, zz => rkey_m_b0 s (rkey_m_l0 s nq) zz

def rkey_m_k0 (s : List UInt8) (y8 : Nat) : Bool :=
  (decide (¬ s = []))

def rkey_m (s : List UInt8) : Bool :=
  fin (rkey_m_l0 s ((s.length - 0) + 1) 0) (fun r => r) (fun zz => rkey_m_k0 s zz)

set_option maxHeartbeats 4000000 in
set_option maxRecDepth 100000 in
theorem rkey_any (s : List UInt8) (w : World)  (hp0 : s.length ≤ 1048576) : Calls Tryd.prog 30 #[.string (tx s)] w (fun e w' => e = .returned (.bool ((rkey_m s))) ∧ Below w.heap.size w w') := by
  go_enter Tryd.func30, Tryd.ntmps30
  have hm00 := Mm.nil none (fun _ => True) w
  have hm0 := hm00
  refine wp_seq_k (fun K1 hK1 => ?_)
  refine wp_region_lit ?_
  refine lvw 2 (.bool false) rfl rfl (run_as rfl rfl) ?_
  simp only [nz1, nz2, nz3]
  refine wpList_nil ?_
  refine then_n (hK1 _ _ ?_)
  refine wp_seq_k (fun K2 hK2 => ?_)
  refine wp_seq_k (fun K3 hK3 => ?_)
  refine wp_region_lit ?_
  refine lvw 3 (.int .i64 0) rfl rfl (run_as rfl rfl) ?_
  simp only [nz1, nz2, nz3]
  refine wpList_nil ?_
  refine then_n (hK3 _ _ ?_)
  refine wp_cutK (fun a' w' => ∃ (y8 : Nat) (yu0 : Nat → Value), rkey_m_l0 s ((s.length - 0) + 1) 0 = .inl y8 ∧ a' = ⟨#[.string (tx s), undef, yu0 0, .int .i64 ((y8 : Nat) : Int), yu0 1, yu0 2, yu0 3, yu0 4, yu0 5, yu0 6, yu0 7, yu0 8, yu0 9, yu0 10, yu0 11, yu0 12, yu0 13, yu0 14, yu0 15, yu0 16, yu0 17, yu0 18, yu0 19, yu0 20, yu0 21, yu0 22, yu0 23, yu0 24, yu0 25, yu0 26, yu0 27, yu0 28, undef, undef], []⟩ ∧ Mm none (fun _ => True) w w' []) ?_ ?_
  · refine wp_block ?_
    refine wp_loop_n (fun n' a' w' => ∃ (n5 : Nat) (x4 : Nat) (u0 : Nat → Value), n' = n5 ∧ (s.length - x4) < n5 ∧ rkey_m_l0 s ((s.length - 0) + 1) 0 = rkey_m_l0 s n5 x4 ∧ a' = ⟨#[.string (tx s), undef, u0 0, .int .i64 ((x4 : Nat) : Int), u0 1, u0 2, u0 3, u0 4, u0 5, u0 6, u0 7, u0 8, u0 9, u0 10, u0 11, u0 12, u0 13, u0 14, u0 15, u0 16, u0 17, u0 18, u0 19, u0 20, u0 21, u0 22, u0 23, u0 24, u0 25, u0 26, u0 27, u0 28, undef, undef], []⟩ ∧ Mm none (fun _ => True) w w' []) ⟨((s.length - 0) + 1), 0, (fun qq => bif Nat.blt qq 24 then List.getD [.bool false, undef, undef, undef, undef, undef, undef, undef, undef, undef, undef, undef, undef, undef, undef, undef, undef, undef, undef, undef, undef, undef, undef, undef] qq undef else List.getD [undef, undef, undef, undef, undef] (qq - 24) undef), rfl, Nat.lt_succ_self _, rfl, rfl, hm0⟩ ?_
    rintro n5 _ w10 ⟨_, x4, u0, rfl, hl14, hi7, rfl, hm11⟩ R12 hR12
    obtain ⟨k6, rfl⟩ : ∃ k, n5 = k + 1 := ⟨n5 - 1, by omega⟩
    refine wp_seq_k (fun K15 hK15 => ?_)
    refine wp_seq_k (fun K16 hK16 => ?_)
    refine wp_region_lit ?_
    refine lvw 4 (.int .i64 ((x4 : Nat) : Int)) rfl rfl (run_mv rfl rfl) ?_
    simp only [nz1, nz2, nz3]
    refine lvw 5 (.string (tx s)) rfl rfl (run_mv rfl rfl) ?_
    simp only [nz1, nz2, nz3]
    refine lvw 6 (.int .i64 ((s.length : Nat) : Int)) rfl rfl (t_len rfl Tryd.underlying9 rfl) ?_
    simp only [nz1, nz2, nz3]
    refine lvw 7 (.bool (decide (x4 < s.length))) rfl rfl (r_lss x4 s.length rfl rfl rfl) ?_
    simp only [nz1, nz2, nz3]
    refine wpList_nil ?_
    refine then_n (hK16 _ _ ?_)
    refine cond_d (x4 < s.length) rfl (fun hc17 => ?_) (fun hc17 => ?_)
    rotate_left
    · refine wp_exit ?_
      refine then_x ?_
      refine then_x ?_
      refine blk_x ?_
      refine then_n ?_
      exact ⟨x4, (fun qq => bif Nat.blt qq 24 then List.getD [u0 0, .int .i64 ((x4 : Nat) : Int), .string (tx s), .int .i64 ((s.length : Nat) : Int), .bool (decide (x4 < s.length)), u0 5, u0 6, u0 7, u0 8, u0 9, u0 10, u0 11, u0 12, u0 13, u0 14, u0 15, u0 16, u0 17, u0 18, u0 19, u0 20, u0 21, u0 22, u0 23] qq undef else List.getD [u0 24, u0 25, u0 26, u0 27, u0 28] (qq - 24) undef), (hi7.trans (show rkey_m_b0 s (rkey_m_l0 s k6) x4 = .inl x4 from by unfold rkey_m_b0; rw [if_neg hc17] <;> rfl)), rfl, hm11⟩
    refine wp_skip ?_
    refine then_n (hK15 _ _ ?_)
    refine wp_seq_k (fun K18 hK18 => ?_)
    refine wp_block ?_
    refine wp_seq_k (fun K19 hK19 => ?_)
    refine wp_region_lit ?_
    refine lvw 10 (.string (tx s)) rfl rfl (run_mv rfl rfl) ?_
    simp only [nz1, nz2, nz3]
    refine lvw 11 (.int .i64 ((x4 : Nat) : Int)) rfl rfl (run_mv rfl rfl) ?_
    simp only [nz1, nz2, nz3]
    refine lvw 12 (.int .u8 ((by' s x4 : Nat) : Int)) rfl rfl (t_char s x4 (by omega) Tryd.underlying9 rfl rfl rfl) ?_
    simp only [nz1, nz2, nz3]
    refine lvb 13 (by' s x4 = 61) rfl rfl (r_eql (by' s x4) 61 rfl rfl rfl) (fun hs20 => ?_) (fun hs20 => ?_)
    · simp only [nz1, nz2, nz3]
      refine lvw 14 (.bool true) rfl rfl (run_mv rfl rfl) ?_
      simp only [nz1, nz2, nz3]
      refine lst_skip 15 rfl rfl ?_
      simp only [nz1, nz2, nz3]
      refine lst_skip 16 rfl rfl ?_
      simp only [nz1, nz2, nz3]
      refine lst_skip 17 rfl rfl ?_
      simp only [nz1, nz2, nz3]
      refine lst_skip 18 rfl rfl ?_
      simp only [nz1, nz2, nz3]
      refine lvw 19 (.bool true) rfl rfl (run_pick rfl rfl rfl) ?_
      simp only [nz1, nz2, nz3]
      refine lvw 20 (.bool true) rfl rfl (run_mv rfl rfl) ?_
      simp only [nz1, nz2, nz3]
      refine lst_skip 21 rfl rfl ?_
      simp only [nz1, nz2, nz3]
      refine lst_skip 22 rfl rfl ?_
      simp only [nz1, nz2, nz3]
      refine lst_skip 23 rfl rfl ?_
      simp only [nz1, nz2, nz3]
      refine lst_skip 24 rfl rfl ?_
      simp only [nz1, nz2, nz3]
      refine lvw 25 (.bool true) rfl rfl (run_pick rfl rfl rfl) ?_
      simp only [nz1, nz2, nz3]
      refine lvw 26 (.bool true) rfl rfl (run_mv rfl rfl) ?_
      simp only [nz1, nz2, nz3]
      refine lst_skip 27 rfl rfl ?_
      simp only [nz1, nz2, nz3]
      refine lst_skip 28 rfl rfl ?_
      simp only [nz1, nz2, nz3]
      refine lst_skip 29 rfl rfl ?_
      simp only [nz1, nz2, nz3]
      refine lst_skip 30 rfl rfl ?_
      simp only [nz1, nz2, nz3]
      refine lvw 31 (.bool true) rfl rfl (run_pick rfl rfl rfl) ?_
      simp only [nz1, nz2, nz3]
      refine wpList_nil ?_
      refine then_n (hK19 _ _ ?_)
      refine cond_t rfl ?_
      refine wp_seq_k (fun K21 hK21 => ?_)
      refine wp_region_lit ?_
      refine lvw 2 (.bool false) rfl rfl (run_as rfl rfl) ?_
      simp only [nz1, nz2, nz3]
      refine wpList_nil ?_
      refine then_n (hK21 _ _ ?_)
      refine wp_ret ?_
      refine blk_r ?_
      refine then_r ?_
      refine then_r ?_
      refine blk_r ?_
      refine then_r ?_
      refine then_r ?_
      have he22 : rkey_m_l0 s ((s.length - 0) + 1) 0 = .inr false := (hi7.trans (show rkey_m_b0 s (rkey_m_l0 s k6) x4 = .inr false from by unfold rkey_m_b0; rw [if_pos hc17, if_pos hs20] <;> rfl))
      have he23 : rkey_m s = false := (show rkey_m s = false from by unfold rkey_m; rw [he22] <;> rfl)
      exact ⟨rfl, .bool false, res_t rfl rfl, ⟨by rw [he23], hm11.below⟩⟩
    simp only [nz1, nz2, nz3]
    refine lvw 14 (.bool false) rfl rfl (run_mv rfl rfl) ?_
    simp only [nz1, nz2, nz3]
    refine lvw 15 (.string (tx s)) rfl rfl (run_mv rfl rfl) ?_
    simp only [nz1, nz2, nz3]
    refine lvw 16 (.int .i64 ((x4 : Nat) : Int)) rfl rfl (run_mv rfl rfl) ?_
    simp only [nz1, nz2, nz3]
    refine lvw 17 (.int .u8 ((by' s x4 : Nat) : Int)) rfl rfl (t_char s x4 (by omega) Tryd.underlying9 rfl rfl rfl) ?_
    simp only [nz1, nz2, nz3]
    refine lvb 18 (by' s x4 = 0) rfl rfl (r_eql (by' s x4) 0 rfl rfl rfl) (fun hs24 => ?_) (fun hs24 => ?_)
    · simp only [nz1, nz2, nz3]
      refine lvw 19 (.bool true) rfl rfl (run_pickf rfl rfl rfl) ?_
      simp only [nz1, nz2, nz3]
      refine lvw 20 (.bool true) rfl rfl (run_mv rfl rfl) ?_
      simp only [nz1, nz2, nz3]
      refine lst_skip 21 rfl rfl ?_
      simp only [nz1, nz2, nz3]
      refine lst_skip 22 rfl rfl ?_
      simp only [nz1, nz2, nz3]
      refine lst_skip 23 rfl rfl ?_
      simp only [nz1, nz2, nz3]
      refine lst_skip 24 rfl rfl ?_
      simp only [nz1, nz2, nz3]
      refine lvw 25 (.bool true) rfl rfl (run_pick rfl rfl rfl) ?_
      simp only [nz1, nz2, nz3]
      refine lvw 26 (.bool true) rfl rfl (run_mv rfl rfl) ?_
      simp only [nz1, nz2, nz3]
      refine lst_skip 27 rfl rfl ?_
      simp only [nz1, nz2, nz3]
      refine lst_skip 28 rfl rfl ?_
      simp only [nz1, nz2, nz3]
      refine lst_skip 29 rfl rfl ?_
      simp only [nz1, nz2, nz3]
      refine lst_skip 30 rfl rfl ?_
      simp only [nz1, nz2, nz3]
      refine lvw 31 (.bool true) rfl rfl (run_pick rfl rfl rfl) ?_
      simp only [nz1, nz2, nz3]
      refine wpList_nil ?_
      refine then_n (hK19 _ _ ?_)
      refine cond_t rfl ?_
      refine wp_seq_k (fun K25 hK25 => ?_)
      refine wp_region_lit ?_
      refine lvw 2 (.bool false) rfl rfl (run_as rfl rfl) ?_
      simp only [nz1, nz2, nz3]
      refine wpList_nil ?_
      refine then_n (hK25 _ _ ?_)
      refine wp_ret ?_
      refine blk_r ?_
      refine then_r ?_
      refine then_r ?_
      refine blk_r ?_
      refine then_r ?_
      refine then_r ?_
      have he26 : rkey_m_l0 s ((s.length - 0) + 1) 0 = .inr false := (hi7.trans (show rkey_m_b0 s (rkey_m_l0 s k6) x4 = .inr false from by unfold rkey_m_b0; rw [if_pos hc17, if_neg hs20, if_pos hs24] <;> rfl))
      have he27 : rkey_m s = false := (show rkey_m s = false from by unfold rkey_m; rw [he26] <;> rfl)
      exact ⟨rfl, .bool false, res_t rfl rfl, ⟨by rw [he27], hm11.below⟩⟩
    simp only [nz1, nz2, nz3]
    refine lvw 19 (.bool false) rfl rfl (run_pickf rfl rfl rfl) ?_
    simp only [nz1, nz2, nz3]
    refine lvw 20 (.bool false) rfl rfl (run_mv rfl rfl) ?_
    simp only [nz1, nz2, nz3]
    refine lvw 21 (.string (tx s)) rfl rfl (run_mv rfl rfl) ?_
    simp only [nz1, nz2, nz3]
    refine lvw 22 (.int .i64 ((x4 : Nat) : Int)) rfl rfl (run_mv rfl rfl) ?_
    simp only [nz1, nz2, nz3]
    refine lvw 23 (.int .u8 ((by' s x4 : Nat) : Int)) rfl rfl (t_char s x4 (by omega) Tryd.underlying9 rfl rfl rfl) ?_
    simp only [nz1, nz2, nz3]
    refine lvb 24 (by' s x4 = 10) rfl rfl (r_eql (by' s x4) 10 rfl rfl rfl) (fun hs28 => ?_) (fun hs28 => ?_)
    · simp only [nz1, nz2, nz3]
      refine lvw 25 (.bool true) rfl rfl (run_pickf rfl rfl rfl) ?_
      simp only [nz1, nz2, nz3]
      refine lvw 26 (.bool true) rfl rfl (run_mv rfl rfl) ?_
      simp only [nz1, nz2, nz3]
      refine lst_skip 27 rfl rfl ?_
      simp only [nz1, nz2, nz3]
      refine lst_skip 28 rfl rfl ?_
      simp only [nz1, nz2, nz3]
      refine lst_skip 29 rfl rfl ?_
      simp only [nz1, nz2, nz3]
      refine lst_skip 30 rfl rfl ?_
      simp only [nz1, nz2, nz3]
      refine lvw 31 (.bool true) rfl rfl (run_pick rfl rfl rfl) ?_
      simp only [nz1, nz2, nz3]
      refine wpList_nil ?_
      refine then_n (hK19 _ _ ?_)
      refine cond_t rfl ?_
      refine wp_seq_k (fun K29 hK29 => ?_)
      refine wp_region_lit ?_
      refine lvw 2 (.bool false) rfl rfl (run_as rfl rfl) ?_
      simp only [nz1, nz2, nz3]
      refine wpList_nil ?_
      refine then_n (hK29 _ _ ?_)
      refine wp_ret ?_
      refine blk_r ?_
      refine then_r ?_
      refine then_r ?_
      refine blk_r ?_
      refine then_r ?_
      refine then_r ?_
      have he30 : rkey_m_l0 s ((s.length - 0) + 1) 0 = .inr false := (hi7.trans (show rkey_m_b0 s (rkey_m_l0 s k6) x4 = .inr false from by unfold rkey_m_b0; rw [if_pos hc17, if_neg hs20, if_neg hs24, if_pos hs28] <;> rfl))
      have he31 : rkey_m s = false := (show rkey_m s = false from by unfold rkey_m; rw [he30] <;> rfl)
      exact ⟨rfl, .bool false, res_t rfl rfl, ⟨by rw [he31], hm11.below⟩⟩
    simp only [nz1, nz2, nz3]
    refine lvw 25 (.bool false) rfl rfl (run_pickf rfl rfl rfl) ?_
    simp only [nz1, nz2, nz3]
    refine lvw 26 (.bool false) rfl rfl (run_mv rfl rfl) ?_
    simp only [nz1, nz2, nz3]
    refine lvw 27 (.string (tx s)) rfl rfl (run_mv rfl rfl) ?_
    simp only [nz1, nz2, nz3]
    refine lvw 28 (.int .i64 ((x4 : Nat) : Int)) rfl rfl (run_mv rfl rfl) ?_
    simp only [nz1, nz2, nz3]
    refine lvw 29 (.int .u8 ((by' s x4 : Nat) : Int)) rfl rfl (t_char s x4 (by omega) Tryd.underlying9 rfl rfl rfl) ?_
    simp only [nz1, nz2, nz3]
    refine lvw 30 (.bool (decide (by' s x4 = 32))) rfl rfl (r_eql (by' s x4) 32 rfl rfl rfl) ?_
    simp only [nz1, nz2, nz3]
    refine lvw 31 (.bool (decide (by' s x4 = 32))) rfl rfl (run_pickf rfl rfl rfl) ?_
    simp only [nz1, nz2, nz3]
    refine wpList_nil ?_
    refine then_n (hK19 _ _ ?_)
    refine cond_d (by' s x4 = 32) rfl (fun hc32 => ?_) (fun hc32 => ?_)
    rotate_left
    · refine wp_skip ?_
      refine blk_n ?_
      refine then_n (hK18 _ _ ?_)
      refine wp_region_lit ?_
      refine lvw 8 (.int .i64 ((x4 : Nat) : Int)) rfl rfl (run_mv rfl rfl) ?_
      simp only [nz1, nz2, nz3]
      refine lvw 9 (.int .i64 (((x4 + 1) : Nat) : Int)) rfl rfl (r_add x4 1 (show (x4 + 1) < 9223372036854775808 from by omega) rfl rfl rfl) ?_
      simp only [nz1, nz2, nz3]
      refine lvw 3 (.int .i64 (((x4 + 1) : Nat) : Int)) rfl rfl (run_as rfl rfl) ?_
      simp only [nz1, nz2, nz3]
      refine wpList_nil ?_
      refine then_n (hR12 _ _ _ ⟨k6, (x4 + 1), (fun qq => bif Nat.blt qq 24 then List.getD [u0 0, .int .i64 ((x4 : Nat) : Int), .string (tx s), .int .i64 ((s.length : Nat) : Int), .bool (decide (x4 < s.length)), .int .i64 ((x4 : Nat) : Int), .int .i64 (((x4 + 1) : Nat) : Int), .string (tx s), .int .i64 ((x4 : Nat) : Int), .int .u8 ((by' s x4 : Nat) : Int), .bool false, .bool false, .string (tx s), .int .i64 ((x4 : Nat) : Int), .int .u8 ((by' s x4 : Nat) : Int), .bool false, .bool false, .bool false, .string (tx s), .int .i64 ((x4 : Nat) : Int), .int .u8 ((by' s x4 : Nat) : Int), .bool false, .bool false, .bool false] qq undef else List.getD [.string (tx s), .int .i64 ((x4 : Nat) : Int), .int .u8 ((by' s x4 : Nat) : Int), .bool (decide (by' s x4 = 32)), .bool (decide (by' s x4 = 32))] (qq - 24) undef), rfl, (by first | omega | (simp; omega) | (simp at *; omega)), (hi7.trans (show rkey_m_b0 s (rkey_m_l0 s k6) x4 = rkey_m_l0 s k6 (x4 + 1) from by unfold rkey_m_b0; rw [if_pos hc17, if_neg hs20, if_neg hs24, if_neg hs28, if_neg hc32] <;> rfl)), rfl, hm11⟩ ?_)
      omega
    refine wp_seq_k (fun K33 hK33 => ?_)
    refine wp_region_lit ?_
    refine lvw 2 (.bool false) rfl rfl (run_as rfl rfl) ?_
    simp only [nz1, nz2, nz3]
    refine wpList_nil ?_
    refine then_n (hK33 _ _ ?_)
    refine wp_ret ?_
    refine blk_r ?_
    refine then_r ?_
    refine then_r ?_
    refine blk_r ?_
    refine then_r ?_
    refine then_r ?_
    have he34 : rkey_m_l0 s ((s.length - 0) + 1) 0 = .inr false := (hi7.trans (show rkey_m_b0 s (rkey_m_l0 s k6) x4 = .inr false from by unfold rkey_m_b0; rw [if_pos hc17, if_neg hs20, if_neg hs24, if_neg hs28, if_pos hc32] <;> rfl))
    have he35 : rkey_m s = false := (show rkey_m s = false from by unfold rkey_m; rw [he34] <;> rfl)
    exact ⟨rfl, .bool false, res_t rfl rfl, ⟨by rw [he35], hm11.below⟩⟩
  rintro _ w36 ⟨y8, yu0, hx9, rfl, hm37⟩
  have hq38 : rkey_m s = rkey_m_k0 s y8 := (show rkey_m s = rkey_m_k0 s y8 from by unfold rkey_m; rw [hx9] <;> rfl)
  refine then_n (hK2 _ _ ?_)
  refine wp_seq_k (fun K39 hK39 => ?_)
  refine wp_region_lit ?_
  refine lvw 32 (.string (tx s)) rfl rfl (run_mv rfl rfl) ?_
  simp only [nz1, nz2, nz3]
  refine lvw 33 (.bool (decide (¬ s = []))) rfl rfl (t_neq s ([]) rfl rfl rfl) ?_
  simp only [nz1, nz2, nz3]
  refine lvw 2 (.bool (decide (¬ s = []))) rfl rfl (run_as rfl rfl) ?_
  simp only [nz1, nz2, nz3]
  refine wpList_nil ?_
  refine then_n (hK39 _ _ ?_)
  refine wp_ret ?_
  have he40 : rkey_m s = (decide (¬ s = [])) := (hq38.trans (show rkey_m_k0 s y8 = (decide (¬ s = [])) from by unfold rkey_m_k0; rfl))
  exact ⟨rfl, .bool (decide (¬ s = [])), res_t rfl rfl, ⟨by rw [he40], hm37.below⟩⟩
theorem run_rkey {o : Oper} {a : Act} {w : World} {x0 : Operand} {v0 : Value} (ho : o.op = .call { callee := .value (.func 30), args := #[x0], argTypes := #[9] }) (h0 : a.eval x0 = v0) :
    (execOp a.eval o).run Tryd.prog w = .ok (.enter 30 #[v0]) w := by
  unfold execOp
  simp only [ho]
  have hf : a.eval (.func 30) = .func (.func 30) #[] #[] := rfl
  generalize a.eval = f at *
  go_simp
def rplace_m_b0 (s : List UInt8) (c : UInt8) (rec : Nat → Sum (Nat) (Int)) (x4 : Nat) : Sum (Nat) (Int) :=
  if x4 < s.length then
    if by' s x4 = c.toNat then
      .inr ((x4 : Nat) : Int)
    else
      rec (x4 + 1)
  else
    .inl x4
def rplace_m_l0 (s : List UInt8) (c : UInt8) : Nat → Nat → Sum (Nat) (Int)
  | 0, zz => .inl zz
  | nq + 1, zz => rplace_m_b0 s c (rplace_m_l0 s c nq) zz

def rplace_m_k0 (s : List UInt8) (c : UInt8) (y8 : Nat) : Int :=
  ((s.length : Nat) : Int)

def rplace_m (s : List UInt8) (c : UInt8) : Int :=
  fin (rplace_m_l0 s c ((s.length - 0) + 1) 0) (fun r => r) (fun zz => rplace_m_k0 s c zz)

set_option maxHeartbeats 4000000 in
set_option maxRecDepth 100000 in
theorem rplace_any (s : List UInt8) (c : UInt8) (w : World)  (hp0 : s.length ≤ 1048576) : Calls Tryd.prog 50 #[.string (tx s), .int .u8 ((c.toNat : Nat) : Int)] w (fun e w' => e = .returned (.int .i64 ((rplace_m s c))) ∧ Below w.heap.size w w') := by
  go_enter Tryd.func50, Tryd.ntmps50
  have hm00 := Mm.nil none (fun _ => True) w
  have hm0 := hm00
  refine wp_seq_k (fun K1 hK1 => ?_)
  refine wp_region_lit ?_
  refine lvw 4 (.int .i64 0) rfl rfl (run_as rfl rfl) ?_
  simp only [nz1, nz2, nz3]
  refine wpList_nil ?_
  refine then_n (hK1 _ _ ?_)
  refine wp_seq_k (fun K2 hK2 => ?_)
  refine wp_seq_k (fun K3 hK3 => ?_)
  refine wp_region_lit ?_
  refine lvw 5 (.int .i64 0) rfl rfl (run_as rfl rfl) ?_
  simp only [nz1, nz2, nz3]
  refine wpList_nil ?_
  refine then_n (hK3 _ _ ?_)
  refine wp_cutK (fun a' w' => ∃ (y8 : Nat) (yu0 : Nat → Value), rplace_m_l0 s c ((s.length - 0) + 1) 0 = .inl y8 ∧ a' = ⟨#[.string (tx s), .int .u8 ((c.toNat : Nat) : Int), undef, undef, yu0 0, .int .i64 ((y8 : Nat) : Int), yu0 1, yu0 2, yu0 3, yu0 4, yu0 5, yu0 6, yu0 7, yu0 8, yu0 9, yu0 10, yu0 11, yu0 12, undef, undef], []⟩ ∧ Mm none (fun _ => True) w w' []) ?_ ?_
  · refine wp_block ?_
    refine wp_loop_n (fun n' a' w' => ∃ (n5 : Nat) (x4 : Nat) (u0 : Nat → Value), n' = n5 ∧ (s.length - x4) < n5 ∧ rplace_m_l0 s c ((s.length - 0) + 1) 0 = rplace_m_l0 s c n5 x4 ∧ a' = ⟨#[.string (tx s), .int .u8 ((c.toNat : Nat) : Int), undef, undef, u0 0, .int .i64 ((x4 : Nat) : Int), u0 1, u0 2, u0 3, u0 4, u0 5, u0 6, u0 7, u0 8, u0 9, u0 10, u0 11, u0 12, undef, undef], []⟩ ∧ Mm none (fun _ => True) w w' []) ⟨((s.length - 0) + 1), 0, (fun qq => List.getD [.int .i64 0, undef, undef, undef, undef, undef, undef, undef, undef, undef, undef, undef, undef] qq undef), rfl, Nat.lt_succ_self _, rfl, rfl, hm0⟩ ?_
    rintro n5 _ w10 ⟨_, x4, u0, rfl, hl14, hi7, rfl, hm11⟩ R12 hR12
    obtain ⟨k6, rfl⟩ : ∃ k, n5 = k + 1 := ⟨n5 - 1, by omega⟩
    refine wp_seq_k (fun K15 hK15 => ?_)
    refine wp_seq_k (fun K16 hK16 => ?_)
    refine wp_region_lit ?_
    refine lvw 6 (.int .i64 ((x4 : Nat) : Int)) rfl rfl (run_mv rfl rfl) ?_
    simp only [nz1, nz2, nz3]
    refine lvw 7 (.string (tx s)) rfl rfl (run_mv rfl rfl) ?_
    simp only [nz1, nz2, nz3]
    refine lvw 8 (.int .i64 ((s.length : Nat) : Int)) rfl rfl (t_len rfl Tryd.underlying9 rfl) ?_
    simp only [nz1, nz2, nz3]
    refine lvw 9 (.bool (decide (x4 < s.length))) rfl rfl (r_lss x4 s.length rfl rfl rfl) ?_
    simp only [nz1, nz2, nz3]
    refine wpList_nil ?_
    refine then_n (hK16 _ _ ?_)
    refine cond_d (x4 < s.length) rfl (fun hc17 => ?_) (fun hc17 => ?_)
    rotate_left
    · refine wp_exit ?_
      refine then_x ?_
      refine then_x ?_
      refine blk_x ?_
      refine then_n ?_
      exact ⟨x4, (fun qq => List.getD [u0 0, .int .i64 ((x4 : Nat) : Int), .string (tx s), .int .i64 ((s.length : Nat) : Int), .bool (decide (x4 < s.length)), u0 5, u0 6, u0 7, u0 8, u0 9, u0 10, u0 11, u0 12] qq undef), (hi7.trans (show rplace_m_b0 s c (rplace_m_l0 s c k6) x4 = .inl x4 from by unfold rplace_m_b0; rw [if_neg hc17] <;> rfl)), rfl, hm11⟩
    refine wp_skip ?_
    refine then_n (hK15 _ _ ?_)
    refine wp_seq_k (fun K18 hK18 => ?_)
    refine wp_block ?_
    refine wp_seq_k (fun K19 hK19 => ?_)
    refine wp_region_lit ?_
    refine lvw 12 (.string (tx s)) rfl rfl (run_mv rfl rfl) ?_
    simp only [nz1, nz2, nz3]
    refine lvw 13 (.int .i64 ((x4 : Nat) : Int)) rfl rfl (run_mv rfl rfl) ?_
    simp only [nz1, nz2, nz3]
    refine lvw 14 (.int .u8 ((by' s x4 : Nat) : Int)) rfl rfl (t_char s x4 (by omega) Tryd.underlying9 rfl rfl rfl) ?_
    simp only [nz1, nz2, nz3]
    refine lvw 15 (.int .u8 ((c.toNat : Nat) : Int)) rfl rfl (run_mv rfl rfl) ?_
    simp only [nz1, nz2, nz3]
    refine lvw 16 (.bool (decide (by' s x4 = c.toNat))) rfl rfl (r_eql (by' s x4) c.toNat rfl rfl rfl) ?_
    simp only [nz1, nz2, nz3]
    refine wpList_nil ?_
    refine then_n (hK19 _ _ ?_)
    refine cond_d (by' s x4 = c.toNat) rfl (fun hc20 => ?_) (fun hc20 => ?_)
    rotate_left
    · refine wp_skip ?_
      refine blk_n ?_
      refine then_n (hK18 _ _ ?_)
      refine wp_region_lit ?_
      refine lvw 10 (.int .i64 ((x4 : Nat) : Int)) rfl rfl (run_mv rfl rfl) ?_
      simp only [nz1, nz2, nz3]
      refine lvw 11 (.int .i64 (((x4 + 1) : Nat) : Int)) rfl rfl (r_add x4 1 (show (x4 + 1) < 9223372036854775808 from by omega) rfl rfl rfl) ?_
      simp only [nz1, nz2, nz3]
      refine lvw 5 (.int .i64 (((x4 + 1) : Nat) : Int)) rfl rfl (run_as rfl rfl) ?_
      simp only [nz1, nz2, nz3]
      refine wpList_nil ?_
      refine then_n (hR12 _ _ _ ⟨k6, (x4 + 1), (fun qq => List.getD [u0 0, .int .i64 ((x4 : Nat) : Int), .string (tx s), .int .i64 ((s.length : Nat) : Int), .bool (decide (x4 < s.length)), .int .i64 ((x4 : Nat) : Int), .int .i64 (((x4 + 1) : Nat) : Int), .string (tx s), .int .i64 ((x4 : Nat) : Int), .int .u8 ((by' s x4 : Nat) : Int), .int .u8 ((c.toNat : Nat) : Int), .bool (decide (by' s x4 = c.toNat)), u0 12] qq undef), rfl, (by first | omega | (simp; omega) | (simp at *; omega)), (hi7.trans (show rplace_m_b0 s c (rplace_m_l0 s c k6) x4 = rplace_m_l0 s c k6 (x4 + 1) from by unfold rplace_m_b0; rw [if_pos hc17, if_neg hc20] <;> rfl)), rfl, hm11⟩ ?_)
      omega
    refine wp_seq_k (fun K21 hK21 => ?_)
    refine wp_region_lit ?_
    refine lvw 17 (.int .i64 ((x4 : Nat) : Int)) rfl rfl (run_mv rfl rfl) ?_
    simp only [nz1, nz2, nz3]
    refine lvw 4 (.int .i64 ((x4 : Nat) : Int)) rfl rfl (run_as rfl rfl) ?_
    simp only [nz1, nz2, nz3]
    refine wpList_nil ?_
    refine then_n (hK21 _ _ ?_)
    refine wp_ret ?_
    refine blk_r ?_
    refine then_r ?_
    refine then_r ?_
    refine blk_r ?_
    refine then_r ?_
    refine then_r ?_
    have he22 : rplace_m_l0 s c ((s.length - 0) + 1) 0 = .inr ((x4 : Nat) : Int) := (hi7.trans (show rplace_m_b0 s c (rplace_m_l0 s c k6) x4 = .inr ((x4 : Nat) : Int) from by unfold rplace_m_b0; rw [if_pos hc17, if_pos hc20] <;> rfl))
    have he23 : rplace_m s c = ((x4 : Nat) : Int) := (show rplace_m s c = ((x4 : Nat) : Int) from by unfold rplace_m; rw [he22] <;> rfl)
    exact ⟨rfl, .int .i64 ((x4 : Nat) : Int), res_t rfl rfl, ⟨by rw [he23], hm11.below⟩⟩
  rintro _ w24 ⟨y8, yu0, hx9, rfl, hm25⟩
  have hq26 : rplace_m s c = rplace_m_k0 s c y8 := (show rplace_m s c = rplace_m_k0 s c y8 from by unfold rplace_m; rw [hx9] <;> rfl)
  refine then_n (hK2 _ _ ?_)
  refine wp_seq_k (fun K27 hK27 => ?_)
  refine wp_region_lit ?_
  refine lvw 18 (.string (tx s)) rfl rfl (run_mv rfl rfl) ?_
  simp only [nz1, nz2, nz3]
  refine lvw 19 (.int .i64 ((s.length : Nat) : Int)) rfl rfl (t_len rfl Tryd.underlying9 rfl) ?_
  simp only [nz1, nz2, nz3]
  refine lvw 4 (.int .i64 ((s.length : Nat) : Int)) rfl rfl (run_as rfl rfl) ?_
  simp only [nz1, nz2, nz3]
  refine wpList_nil ?_
  refine then_n (hK27 _ _ ?_)
  refine wp_ret ?_
  have he28 : rplace_m s c = ((s.length : Nat) : Int) := (hq26.trans (show rplace_m_k0 s c y8 = ((s.length : Nat) : Int) from by unfold rplace_m_k0; rfl))
  exact ⟨rfl, .int .i64 ((s.length : Nat) : Int), res_t rfl rfl, ⟨by rw [he28], hm25.below⟩⟩
theorem run_rplace {o : Oper} {a : Act} {w : World} {x0 x1 : Operand} {v0 v1 : Value} (ho : o.op = .call { callee := .value (.func 50), args := #[x0, x1], argTypes := #[9, 5] }) (h0 : a.eval x0 = v0) (h1 : a.eval x1 = v1) :
    (execOp a.eval o).run Tryd.prog w = .ok (.enter 50 #[v0, v1]) w := by
  unfold execOp
  simp only [ho]
  have hf : a.eval (.func 50) = .func (.func 50) #[] #[] := rfl
  generalize a.eval = f at *
  go_simp
def rlen_m_b0 (s : List UInt8) (rec : Nat × Nat → Sum (Nat × Nat) (Int × Int)) (x4 : Nat) (x5 : Nat) : Sum (Nat × Nat) (Int × Int) :=
  if x5 < s.length then
    if 48 ≤ by' s x5 then
      if by' s x5 ≤ 57 then
        if x5 < 8 then
          rec (((10 * x4) + ((by' s x5) - 48)), (x5 + 1))
        else
          .inl (x4, x5)
      else
        .inl (x4, x5)
    else
      .inl (x4, x5)
  else
    .inl (x4, x5)
def rlen_m_l0 (s : List UInt8) : Nat → Nat × Nat → Sum (Nat × Nat) (Int × Int)
  | 0, zz => .inl zz
  | nq + 1, zz => rlen_m_b0 s (rlen_m_l0 s nq) zz.1 zz.2

def rlen_m_k0 (s : List UInt8) (y9 : Nat) (y10 : Nat) : Int × Int :=
  if y10 = 0 then
    (0, 0)
  else
    if by' s 0 = 48 then
      (0, 0)
    else
      (((y9 : Nat) : Int), ((y10 : Nat) : Int))

def rlen_m (s : List UInt8) : Int × Int :=
  fin (rlen_m_l0 s ((s.length - 0) + 1) (0, 0)) (fun r => r) (fun zz => rlen_m_k0 s zz.1 zz.2)

set_option maxHeartbeats 4000000 in
set_option maxRecDepth 100000 in
theorem rlen_any (s : List UInt8) (w : World)  (hp0 : s.length ≤ 1048576) : Calls Tryd.prog 49 #[.string (tx s)] w (fun e w' => e = .returned (.tuple #[.int .i64 ((rlen_m s).1), .int .i64 ((rlen_m s).2)]) ∧ Below w.heap.size w w') := by
  go_enter Tryd.func49, Tryd.ntmps49
  have hm00 := Mm.nil none (fun _ => True) w
  have hm0 := hm00
  refine wp_seq_k (fun K1 hK1 => ?_)
  refine wp_region_lit ?_
  refine lvw 2 (.int .i64 0) rfl rfl (run_as rfl rfl) ?_
  simp only [nz1, nz2, nz3]
  refine lvw 3 (.int .i64 0) rfl rfl (run_as rfl rfl) ?_
  simp only [nz1, nz2, nz3]
  refine wpList_nil ?_
  refine then_n (hK1 _ _ ?_)
  refine wp_seq_k (fun K2 hK2 => ?_)
  refine wp_region_lit ?_
  refine lvw 4 (.int .i64 0) rfl rfl (run_as rfl rfl) ?_
  simp only [nz1, nz2, nz3]
  refine lvw 5 (.int .i64 0) rfl rfl (run_as rfl rfl) ?_
  simp only [nz1, nz2, nz3]
  refine wpList_nil ?_
  refine then_n (hK2 _ _ ?_)
  refine wp_seq_k (fun K3 hK3 => ?_)
  refine wp_cutK (fun a' w' => ∃ (y9 : Nat) (y10 : Nat) (yu0 : Nat → Value), rlen_m_l0 s ((s.length - 0) + 1) (0, 0) = .inl (y9, y10) ∧ (y9 + 1 ≤ 10 ^ y10 ∧ 10 ^ y10 ≤ 100000000 ∧ y10 ≤ 8 ∧ y10 ≤ s.length) ∧ a' = ⟨#[.string (tx s), undef, .int .i64 0, .int .i64 0, .int .i64 ((y9 : Nat) : Int), .int .i64 ((y10 : Nat) : Int), yu0 0, yu0 1, yu0 2, yu0 3, yu0 4, yu0 5, yu0 6, yu0 7, yu0 8, yu0 9, yu0 10, yu0 11, yu0 12, yu0 13, yu0 14, yu0 15, yu0 16, yu0 17, yu0 18, yu0 19, yu0 20, yu0 21, yu0 22, yu0 23, yu0 24, yu0 25, yu0 26, yu0 27, yu0 28, yu0 29, undef, undef, undef, undef, undef, undef, undef, undef, undef], []⟩ ∧ Mm none (fun _ => True) w w' []) ?_ ?_
  · refine wp_block ?_
    refine wp_loop_n (fun n' a' w' => ∃ (n6 : Nat) (x4 : Nat) (x5 : Nat) (u0 : Nat → Value), n' = n6 ∧ (s.length - x5) < n6 ∧ rlen_m_l0 s ((s.length - 0) + 1) (0, 0) = rlen_m_l0 s n6 (x4, x5) ∧ (x4 + 1 ≤ 10 ^ x5 ∧ 10 ^ x5 ≤ 100000000 ∧ x5 ≤ 8 ∧ x5 ≤ s.length) ∧ a' = ⟨#[.string (tx s), undef, .int .i64 0, .int .i64 0, .int .i64 ((x4 : Nat) : Int), .int .i64 ((x5 : Nat) : Int), u0 0, u0 1, u0 2, u0 3, u0 4, u0 5, u0 6, u0 7, u0 8, u0 9, u0 10, u0 11, u0 12, u0 13, u0 14, u0 15, u0 16, u0 17, u0 18, u0 19, u0 20, u0 21, u0 22, u0 23, u0 24, u0 25, u0 26, u0 27, u0 28, u0 29, undef, undef, undef, undef, undef, undef, undef, undef, undef], []⟩ ∧ Mm none (fun _ => True) w w' []) ⟨((s.length - 0) + 1), 0, 0, (fun qq => bif Nat.blt qq 24 then List.getD [undef, undef, undef, undef, undef, undef, undef, undef, undef, undef, undef, undef, undef, undef, undef, undef, undef, undef, undef, undef, undef, undef, undef, undef] qq undef else List.getD [undef, undef, undef, undef, undef, undef] (qq - 24) undef), rfl, Nat.lt_succ_self _, rfl, ⟨by decide, by decide, by decide, Nat.zero_le _⟩, rfl, hm0⟩ ?_
    rintro n6 _ w12 ⟨_, x4, x5, u0, rfl, hl16, hi8, hrl, rfl, hm13⟩ R14 hR14
    obtain ⟨k7, rfl⟩ : ∃ k, n6 = k + 1 := ⟨n6 - 1, by omega⟩
    refine wp_seq_k (fun K17 hK17 => ?_)
    refine wp_seq_k (fun K18 hK18 => ?_)
    refine wp_region_lit ?_
    refine lvw 6 (.int .i64 ((x5 : Nat) : Int)) rfl rfl (run_mv rfl rfl) ?_
    simp only [nz1, nz2, nz3]
    refine lvw 7 (.string (tx s)) rfl rfl (run_mv rfl rfl) ?_
    simp only [nz1, nz2, nz3]
    refine lvw 8 (.int .i64 ((s.length : Nat) : Int)) rfl rfl (t_len rfl Tryd.underlying9 rfl) ?_
    simp only [nz1, nz2, nz3]
    refine lvb 9 (x5 < s.length) rfl rfl (r_lss x5 s.length rfl rfl rfl) (fun hs19 => ?_) (fun hs19 => ?_)
    rotate_left
    · simp only [nz1, nz2, nz3]
      refine lvw 10 (.bool false) rfl rfl (run_mv rfl rfl) ?_
      simp only [nz1, nz2, nz3]
      refine lst_skip 11 rfl rfl ?_
      simp only [nz1, nz2, nz3]
      refine lst_skip 12 rfl rfl ?_
      simp only [nz1, nz2, nz3]
      refine lst_skip 13 rfl rfl ?_
      simp only [nz1, nz2, nz3]
      refine lst_skip 14 rfl rfl ?_
      simp only [nz1, nz2, nz3]
      refine lvw 15 (.bool false) rfl rfl (run_pickf rfl rfl rfl) ?_
      simp only [nz1, nz2, nz3]
      refine lvw 16 (.bool false) rfl rfl (run_mv rfl rfl) ?_
      simp only [nz1, nz2, nz3]
      refine lst_skip 17 rfl rfl ?_
      simp only [nz1, nz2, nz3]
      refine lst_skip 18 rfl rfl ?_
      simp only [nz1, nz2, nz3]
      refine lst_skip 19 rfl rfl ?_
      simp only [nz1, nz2, nz3]
      refine lst_skip 20 rfl rfl ?_
      simp only [nz1, nz2, nz3]
      refine lvw 21 (.bool false) rfl rfl (run_pickf rfl rfl rfl) ?_
      simp only [nz1, nz2, nz3]
      refine lvw 22 (.bool false) rfl rfl (run_mv rfl rfl) ?_
      simp only [nz1, nz2, nz3]
      refine lst_skip 23 rfl rfl ?_
      simp only [nz1, nz2, nz3]
      refine lst_skip 24 rfl rfl ?_
      simp only [nz1, nz2, nz3]
      refine lvw 25 (.bool false) rfl rfl (run_pickf rfl rfl rfl) ?_
      simp only [nz1, nz2, nz3]
      refine wpList_nil ?_
      refine then_n (hK18 _ _ ?_)
      refine cond_f rfl ?_
      refine wp_exit ?_
      refine then_x ?_
      refine then_x ?_
      refine blk_x ?_
      refine then_n ?_
      exact ⟨x4, x5, (fun qq => bif Nat.blt qq 24 then List.getD [.int .i64 ((x5 : Nat) : Int), .string (tx s), .int .i64 ((s.length : Nat) : Int), .bool false, .bool false, undef, undef, undef, undef, .bool false, .bool false, undef, undef, undef, undef, .bool false, .bool false, undef, undef, .bool false, u0 20, u0 21, u0 22, u0 23] qq undef else List.getD [u0 24, u0 25, u0 26, u0 27, u0 28, u0 29] (qq - 24) undef), (hi8.trans (show rlen_m_b0 s (rlen_m_l0 s k7) x4 x5 = .inl (x4, x5) from by unfold rlen_m_b0; rw [if_neg hs19] <;> rfl)), (by first | omega | (simp; done) | (simp; omega) | (simp at *; omega)), rfl, hm13⟩
    simp only [nz1, nz2, nz3]
    refine lvw 10 (.bool true) rfl rfl (run_mv rfl rfl) ?_
    simp only [nz1, nz2, nz3]
    refine lvw 11 (.string (tx s)) rfl rfl (run_mv rfl rfl) ?_
    simp only [nz1, nz2, nz3]
    refine lvw 12 (.int .i64 ((x5 : Nat) : Int)) rfl rfl (run_mv rfl rfl) ?_
    simp only [nz1, nz2, nz3]
    refine lvw 13 (.int .u8 ((by' s x5 : Nat) : Int)) rfl rfl (t_char s x5 (by omega) Tryd.underlying9 rfl rfl rfl) ?_
    simp only [nz1, nz2, nz3]
    refine lvb 14 (48 ≤ by' s x5) rfl rfl (r_geq (by' s x5) 48 rfl rfl rfl) (fun hs20 => ?_) (fun hs20 => ?_)
    rotate_left
    · simp only [nz1, nz2, nz3]
      refine lvw 15 (.bool false) rfl rfl (run_pick rfl rfl rfl) ?_
      simp only [nz1, nz2, nz3]
      refine lvw 16 (.bool false) rfl rfl (run_mv rfl rfl) ?_
      simp only [nz1, nz2, nz3]
      refine lst_skip 17 rfl rfl ?_
      simp only [nz1, nz2, nz3]
      refine lst_skip 18 rfl rfl ?_
      simp only [nz1, nz2, nz3]
      refine lst_skip 19 rfl rfl ?_
      simp only [nz1, nz2, nz3]
      refine lst_skip 20 rfl rfl ?_
      simp only [nz1, nz2, nz3]
      refine lvw 21 (.bool false) rfl rfl (run_pickf rfl rfl rfl) ?_
      simp only [nz1, nz2, nz3]
      refine lvw 22 (.bool false) rfl rfl (run_mv rfl rfl) ?_
      simp only [nz1, nz2, nz3]
      refine lst_skip 23 rfl rfl ?_
      simp only [nz1, nz2, nz3]
      refine lst_skip 24 rfl rfl ?_
      simp only [nz1, nz2, nz3]
      refine lvw 25 (.bool false) rfl rfl (run_pickf rfl rfl rfl) ?_
      simp only [nz1, nz2, nz3]
      refine wpList_nil ?_
      refine then_n (hK18 _ _ ?_)
      refine cond_f rfl ?_
      refine wp_exit ?_
      refine then_x ?_
      refine then_x ?_
      refine blk_x ?_
      refine then_n ?_
      exact ⟨x4, x5, (fun qq => bif Nat.blt qq 24 then List.getD [.int .i64 ((x5 : Nat) : Int), .string (tx s), .int .i64 ((s.length : Nat) : Int), .bool true, .bool true, .string (tx s), .int .i64 ((x5 : Nat) : Int), .int .u8 ((by' s x5 : Nat) : Int), .bool false, .bool false, .bool false, undef, undef, undef, undef, .bool false, .bool false, undef, undef, .bool false, u0 20, u0 21, u0 22, u0 23] qq undef else List.getD [u0 24, u0 25, u0 26, u0 27, u0 28, u0 29] (qq - 24) undef), (hi8.trans (show rlen_m_b0 s (rlen_m_l0 s k7) x4 x5 = .inl (x4, x5) from by unfold rlen_m_b0; rw [if_pos hs19, if_neg hs20] <;> rfl)), (by first | omega | (simp; done) | (simp; omega) | (simp at *; omega)), rfl, hm13⟩
    simp only [nz1, nz2, nz3]
    refine lvw 15 (.bool true) rfl rfl (run_pick rfl rfl rfl) ?_
    simp only [nz1, nz2, nz3]
    refine lvw 16 (.bool true) rfl rfl (run_mv rfl rfl) ?_
    simp only [nz1, nz2, nz3]
    refine lvw 17 (.string (tx s)) rfl rfl (run_mv rfl rfl) ?_
    simp only [nz1, nz2, nz3]
    refine lvw 18 (.int .i64 ((x5 : Nat) : Int)) rfl rfl (run_mv rfl rfl) ?_
    simp only [nz1, nz2, nz3]
    refine lvw 19 (.int .u8 ((by' s x5 : Nat) : Int)) rfl rfl (t_char s x5 (by omega) Tryd.underlying9 rfl rfl rfl) ?_
    simp only [nz1, nz2, nz3]
    refine lvb 20 (by' s x5 ≤ 57) rfl rfl (r_leq (by' s x5) 57 rfl rfl rfl) (fun hs21 => ?_) (fun hs21 => ?_)
    rotate_left
    · simp only [nz1, nz2, nz3]
      refine lvw 21 (.bool false) rfl rfl (run_pick rfl rfl rfl) ?_
      simp only [nz1, nz2, nz3]
      refine lvw 22 (.bool false) rfl rfl (run_mv rfl rfl) ?_
      simp only [nz1, nz2, nz3]
      refine lst_skip 23 rfl rfl ?_
      simp only [nz1, nz2, nz3]
      refine lst_skip 24 rfl rfl ?_
      simp only [nz1, nz2, nz3]
      refine lvw 25 (.bool false) rfl rfl (run_pickf rfl rfl rfl) ?_
      simp only [nz1, nz2, nz3]
      refine wpList_nil ?_
      refine then_n (hK18 _ _ ?_)
      refine cond_f rfl ?_
      refine wp_exit ?_
      refine then_x ?_
      refine then_x ?_
      refine blk_x ?_
      refine then_n ?_
      exact ⟨x4, x5, (fun qq => bif Nat.blt qq 24 then List.getD [.int .i64 ((x5 : Nat) : Int), .string (tx s), .int .i64 ((s.length : Nat) : Int), .bool true, .bool true, .string (tx s), .int .i64 ((x5 : Nat) : Int), .int .u8 ((by' s x5 : Nat) : Int), .bool true, .bool true, .bool true, .string (tx s), .int .i64 ((x5 : Nat) : Int), .int .u8 ((by' s x5 : Nat) : Int), .bool false, .bool false, .bool false, undef, undef, .bool false, u0 20, u0 21, u0 22, u0 23] qq undef else List.getD [u0 24, u0 25, u0 26, u0 27, u0 28, u0 29] (qq - 24) undef), (hi8.trans (show rlen_m_b0 s (rlen_m_l0 s k7) x4 x5 = .inl (x4, x5) from by unfold rlen_m_b0; rw [if_pos hs19, if_pos hs20, if_neg hs21] <;> rfl)), (by first | omega | (simp; done) | (simp; omega) | (simp at *; omega)), rfl, hm13⟩
    simp only [nz1, nz2, nz3]
    refine lvw 21 (.bool true) rfl rfl (run_pick rfl rfl rfl) ?_
    simp only [nz1, nz2, nz3]
    refine lvw 22 (.bool true) rfl rfl (run_mv rfl rfl) ?_
    simp only [nz1, nz2, nz3]
    refine lvw 23 (.int .i64 ((x5 : Nat) : Int)) rfl rfl (run_mv rfl rfl) ?_
    simp only [nz1, nz2, nz3]
    refine lvw 24 (.bool (decide (x5 < 8))) rfl rfl (r_lss x5 8 rfl rfl rfl) ?_
    simp only [nz1, nz2, nz3]
    refine lvw 25 (.bool (decide (x5 < 8))) rfl rfl (run_pick rfl rfl rfl) ?_
    simp only [nz1, nz2, nz3]
    refine wpList_nil ?_
    refine then_n (hK18 _ _ ?_)
    refine cond_d (x5 < 8) rfl (fun hc22 => ?_) (fun hc22 => ?_)
    rotate_left
    · refine wp_exit ?_
      refine then_x ?_
      refine then_x ?_
      refine blk_x ?_
      refine then_n ?_
      exact ⟨x4, x5, (fun qq => bif Nat.blt qq 24 then List.getD [.int .i64 ((x5 : Nat) : Int), .string (tx s), .int .i64 ((s.length : Nat) : Int), .bool true, .bool true, .string (tx s), .int .i64 ((x5 : Nat) : Int), .int .u8 ((by' s x5 : Nat) : Int), .bool true, .bool true, .bool true, .string (tx s), .int .i64 ((x5 : Nat) : Int), .int .u8 ((by' s x5 : Nat) : Int), .bool true, .bool true, .bool true, .int .i64 ((x5 : Nat) : Int), .bool (decide (x5 < 8)), .bool (decide (x5 < 8)), u0 20, u0 21, u0 22, u0 23] qq undef else List.getD [u0 24, u0 25, u0 26, u0 27, u0 28, u0 29] (qq - 24) undef), (hi8.trans (show rlen_m_b0 s (rlen_m_l0 s k7) x4 x5 = .inl (x4, x5) from by unfold rlen_m_b0; rw [if_pos hs19, if_pos hs20, if_pos hs21, if_neg hc22] <;> rfl)), (by first | omega | (simp; done) | (simp; omega) | (simp at *; omega)), rfl, hm13⟩
    refine wp_skip ?_
    refine then_n (hK17 _ _ ?_)
    refine wp_block ?_
    refine wp_seq_k (fun K23 hK23 => ?_)
    refine wp_region_lit ?_
    refine lvw 26 (.int .i64 ((x4 : Nat) : Int)) rfl rfl (run_mv rfl rfl) ?_
    simp only [nz1, nz2, nz3]
    refine lvw 27 (.int .i64 (((10 * x4) : Nat) : Int)) rfl rfl (r_mul 10 x4 (show (10 * x4) < 9223372036854775808 from by omega) rfl rfl rfl) ?_
    simp only [nz1, nz2, nz3]
    refine lvw 28 (.string (tx s)) rfl rfl (run_mv rfl rfl) ?_
    simp only [nz1, nz2, nz3]
    refine lvw 29 (.int .i64 ((x5 : Nat) : Int)) rfl rfl (run_mv rfl rfl) ?_
    simp only [nz1, nz2, nz3]
    refine lvw 30 (.int .u8 ((by' s x5 : Nat) : Int)) rfl rfl (t_char s x5 (by omega) Tryd.underlying9 rfl rfl rfl) ?_
    simp only [nz1, nz2, nz3]
    refine lvw 31 (.int .u8 ((((by' s x5) - 48) : Nat) : Int)) rfl rfl (r_sub (by' s x5) 48 (show (by' s x5) < 256 from by omega) (by omega) rfl rfl rfl) ?_
    simp only [nz1, nz2, nz3]
    refine lvw 32 (.int .i64 ((((by' s x5) - 48) : Nat) : Int)) rfl rfl (r_conv (k' := .i64) ((by' s x5) - 48) ((by' s x5) - 48) some_5 Tryd.underlying3 (wrap_nat (show _ < 9223372036854775808 from by omega)) rfl rfl) ?_
    simp only [nz1, nz2, nz3]
    refine lvw 33 (.int .i64 ((((10 * x4) + ((by' s x5) - 48)) : Nat) : Int)) rfl rfl (r_add (10 * x4) ((by' s x5) - 48) (show ((10 * x4) + ((by' s x5) - 48)) < 9223372036854775808 from by omega) rfl rfl rfl) ?_
    simp only [nz1, nz2, nz3]
    refine lvw 4 (.int .i64 ((((10 * x4) + ((by' s x5) - 48)) : Nat) : Int)) rfl rfl (run_as rfl rfl) ?_
    simp only [nz1, nz2, nz3]
    refine wpList_nil ?_
    refine then_n (hK23 _ _ ?_)
    refine wp_region_lit ?_
    refine lvw 34 (.int .i64 ((x5 : Nat) : Int)) rfl rfl (run_mv rfl rfl) ?_
    simp only [nz1, nz2, nz3]
    refine lvw 35 (.int .i64 (((x5 + 1) : Nat) : Int)) rfl rfl (r_add x5 1 (show (x5 + 1) < 9223372036854775808 from by omega) rfl rfl rfl) ?_
    simp only [nz1, nz2, nz3]
    refine lvw 5 (.int .i64 (((x5 + 1) : Nat) : Int)) rfl rfl (run_as rfl rfl) ?_
    simp only [nz1, nz2, nz3]
    refine wpList_nil ?_
    refine blk_n ?_
    refine then_n (hR14 _ _ _ ⟨k7, ((10 * x4) + ((by' s x5) - 48)), (x5 + 1), (fun qq => bif Nat.blt qq 24 then List.getD [.int .i64 ((x5 : Nat) : Int), .string (tx s), .int .i64 ((s.length : Nat) : Int), .bool true, .bool true, .string (tx s), .int .i64 ((x5 : Nat) : Int), .int .u8 ((by' s x5 : Nat) : Int), .bool true, .bool true, .bool true, .string (tx s), .int .i64 ((x5 : Nat) : Int), .int .u8 ((by' s x5 : Nat) : Int), .bool true, .bool true, .bool true, .int .i64 ((x5 : Nat) : Int), .bool (decide (x5 < 8)), .bool (decide (x5 < 8)), .int .i64 ((x4 : Nat) : Int), .int .i64 (((10 * x4) : Nat) : Int), .string (tx s), .int .i64 ((x5 : Nat) : Int)] qq undef else List.getD [.int .u8 ((by' s x5 : Nat) : Int), .int .u8 ((((by' s x5) - 48) : Nat) : Int), .int .i64 ((((by' s x5) - 48) : Nat) : Int), .int .i64 ((((10 * x4) + ((by' s x5) - 48)) : Nat) : Int), .int .i64 ((x5 : Nat) : Int), .int .i64 (((x5 + 1) : Nat) : Int)] (qq - 24) undef), rfl, (by first | omega | (simp; omega) | (simp at *; omega)), (hi8.trans (show rlen_m_b0 s (rlen_m_l0 s k7) x4 x5 = rlen_m_l0 s k7 (((10 * x4) + ((by' s x5) - 48)), (x5 + 1)) from by unfold rlen_m_b0; rw [if_pos hs19, if_pos hs20, if_pos hs21, if_pos hc22] <;> rfl)), (by have hq := Nat.pow_le_pow_right (n := 10) (by decide) (show x5 + 1 ≤ 8 from by omega); rw [Nat.pow_succ] at *; omega), rfl, hm13⟩ ?_)
    omega
  rintro _ w24 ⟨y9, y10, yu0, hx11, hrl, rfl, hm25⟩
  have hq26 : rlen_m s = rlen_m_k0 s y9 y10 := (show rlen_m s = rlen_m_k0 s y9 y10 from by unfold rlen_m; rw [hx11] <;> rfl)
  refine then_n (hK3 _ _ ?_)
  refine wp_seq_k (fun K27 hK27 => ?_)
  refine wp_seq_k (fun K28 hK28 => ?_)
  refine wp_region_lit ?_
  refine lvw 36 (.int .i64 ((y10 : Nat) : Int)) rfl rfl (run_mv rfl rfl) ?_
  simp only [nz1, nz2, nz3]
  refine lvb 37 (y10 = 0) rfl rfl (r_eql y10 0 rfl rfl rfl) (fun hs29 => ?_) (fun hs29 => ?_)
  · simp only [nz1, nz2, nz3]
    refine lvw 38 (.bool true) rfl rfl (run_mv rfl rfl) ?_
    simp only [nz1, nz2, nz3]
    refine lst_skip 39 rfl rfl ?_
    simp only [nz1, nz2, nz3]
    refine lst_skip 40 rfl rfl ?_
    simp only [nz1, nz2, nz3]
    refine lst_skip 41 rfl rfl ?_
    simp only [nz1, nz2, nz3]
    refine lvw 42 (.bool true) rfl rfl (run_pick rfl rfl rfl) ?_
    simp only [nz1, nz2, nz3]
    refine wpList_nil ?_
    refine then_n (hK28 _ _ ?_)
    refine cond_t rfl ?_
    refine wp_seq_k (fun K30 hK30 => ?_)
    refine wp_region_lit ?_
    refine lvw 2 (.int .i64 0) rfl rfl (run_as rfl rfl) ?_
    simp only [nz1, nz2, nz3]
    refine lvw 3 (.int .i64 0) rfl rfl (run_as rfl rfl) ?_
    simp only [nz1, nz2, nz3]
    refine wpList_nil ?_
    refine then_n (hK30 _ _ ?_)
    refine wp_ret ?_
    refine then_r ?_
    have he31 : rlen_m s = (0, 0) := (hq26.trans (show rlen_m_k0 s y9 y10 = (0, 0) from by unfold rlen_m_k0; rw [if_pos hs29] <;> rfl))
    exact ⟨rfl, .tuple #[.int .i64 0, .int .i64 0], res_tt rfl rfl rfl, ⟨by rw [he31], hm25.below⟩⟩
  simp only [nz1, nz2, nz3]
  refine lvw 38 (.bool false) rfl rfl (run_mv rfl rfl) ?_
  simp only [nz1, nz2, nz3]
  refine lvw 39 (.string (tx s)) rfl rfl (run_mv rfl rfl) ?_
  simp only [nz1, nz2, nz3]
  refine lvw 40 (.int .u8 ((by' s 0 : Nat) : Int)) rfl rfl (t_char s 0 (by omega) Tryd.underlying9 rfl rfl rfl) ?_
  simp only [nz1, nz2, nz3]
  refine lvw 41 (.bool (decide (by' s 0 = 48))) rfl rfl (r_eql (by' s 0) 48 rfl rfl rfl) ?_
  simp only [nz1, nz2, nz3]
  refine lvw 42 (.bool (decide (by' s 0 = 48))) rfl rfl (run_pickf rfl rfl rfl) ?_
  simp only [nz1, nz2, nz3]
  refine wpList_nil ?_
  refine then_n (hK28 _ _ ?_)
  refine cond_d (by' s 0 = 48) rfl (fun hc32 => ?_) (fun hc32 => ?_)
  · refine wp_seq_k (fun K33 hK33 => ?_)
    refine wp_region_lit ?_
    refine lvw 2 (.int .i64 0) rfl rfl (run_as rfl rfl) ?_
    simp only [nz1, nz2, nz3]
    refine lvw 3 (.int .i64 0) rfl rfl (run_as rfl rfl) ?_
    simp only [nz1, nz2, nz3]
    refine wpList_nil ?_
    refine then_n (hK33 _ _ ?_)
    refine wp_ret ?_
    refine then_r ?_
    have he34 : rlen_m s = (0, 0) := (hq26.trans (show rlen_m_k0 s y9 y10 = (0, 0) from by unfold rlen_m_k0; rw [if_neg hs29, if_pos hc32] <;> rfl))
    exact ⟨rfl, .tuple #[.int .i64 0, .int .i64 0], res_tt rfl rfl rfl, ⟨by rw [he34], hm25.below⟩⟩
  refine wp_skip ?_
  refine then_n (hK27 _ _ ?_)
  refine wp_seq_k (fun K35 hK35 => ?_)
  refine wp_region_lit ?_
  refine lvw 43 (.int .i64 ((y9 : Nat) : Int)) rfl rfl (run_mv rfl rfl) ?_
  simp only [nz1, nz2, nz3]
  refine lvw 44 (.int .i64 ((y10 : Nat) : Int)) rfl rfl (run_mv rfl rfl) ?_
  simp only [nz1, nz2, nz3]
  refine lvw 2 (.int .i64 ((y9 : Nat) : Int)) rfl rfl (run_as rfl rfl) ?_
  simp only [nz1, nz2, nz3]
  refine lvw 3 (.int .i64 ((y10 : Nat) : Int)) rfl rfl (run_as rfl rfl) ?_
  simp only [nz1, nz2, nz3]
  refine wpList_nil ?_
  refine then_n (hK35 _ _ ?_)
  refine wp_ret ?_
  have he36 : rlen_m s = (((y9 : Nat) : Int), ((y10 : Nat) : Int)) := (hq26.trans (show rlen_m_k0 s y9 y10 = (((y9 : Nat) : Int), ((y10 : Nat) : Int)) from by unfold rlen_m_k0; rw [if_neg hs29, if_neg hc32] <;> rfl))
  exact ⟨rfl, .tuple #[.int .i64 ((y9 : Nat) : Int), .int .i64 ((y10 : Nat) : Int)], res_tt rfl rfl rfl, ⟨by rw [he36], hm25.below⟩⟩
theorem run_rlen {o : Oper} {a : Act} {w : World} {x0 : Operand} {v0 : Value} (ho : o.op = .call { callee := .value (.func 49), args := #[x0], argTypes := #[9] }) (h0 : a.eval x0 = v0) :
    (execOp a.eval o).run Tryd.prog w = .ok (.enter 49 #[v0]) w := by
  unfold execOp
  simp only [ho]
  have hf : a.eval (.func 49) = .func (.func 49) #[] #[] := rfl
  generalize a.eval = f at *
  go_simp
def rlast_m_b0 (l : List Par) (key : List UInt8) (rec : (List UInt8) × Bool × Nat → Sum ((List UInt8) × Bool × Nat) ((List UInt8) × Bool)) (x5 : List UInt8) (x6 : Bool) (x7 : Nat) : Sum ((List UInt8) × Bool × Nat) ((List UInt8) × Bool) :=
  if x7 < l.length then
    if (l.getD x7 dPar).key = key then
      rec (((l.getD x7 dPar).value), true, (x7 + 1))
    else
      rec (x5, x6, (x7 + 1))
  else
    .inl (x5, x6, x7)
def rlast_m_l0 (l : List Par) (key : List UInt8) : Nat → (List UInt8) × Bool × Nat → Sum ((List UInt8) × Bool × Nat) ((List UInt8) × Bool)
  | 0, zz => .inl zz
  | nq + 1, zz => rlast_m_b0 l key (rlast_m_l0 l key nq) zz.1 zz.2.1 zz.2.2

def rlast_m_k0 (l : List Par) (key : List UInt8) (y11 : List UInt8) (y12 : Bool) (y13 : Nat) : (List UInt8) × Bool :=
  (y11, y12)

def rlast_m (l : List Par) (key : List UInt8) : (List UInt8) × Bool :=
  fin (rlast_m_l0 l key ((l.length - 0) + 1) (([]), false, 0)) (fun r => r) (fun zz => rlast_m_k0 l key zz.1 zz.2.1 zz.2.2)

set_option maxHeartbeats 4000000 in
set_option maxRecDepth 100000 in
theorem rlast_any (l : List Par) (key : List UInt8) (lv0 : Value) (w : World) (hl : Rs ePar 2 l lv0 w) (hp0 : l.length ≤ 4398046511104) : Calls Tryd.prog 28 #[lv0, .string (tx key)] w (fun e w' => e = .returned (.tuple #[.string (tx ((rlast_m l key).1)), .bool ((rlast_m l key).2)]) ∧ Below w.heap.size w w') := by
  go_enter Tryd.func28, Tryd.ntmps28
  have hm00 := Mm.nil none (fun _ => True) w
  obtain ⟨Fl, hm01⟩ : ∃ Fl, Mm none (fun _ => True) w w [.see (Rs ePar 2 l lv0) Fl] := hm00.come (Rs.all hl)
  have hm0 := hm01
  refine wp_seq_k (fun K1 hK1 => ?_)
  refine wp_region_lit ?_
  refine lvw 4 (.string (tx ([]))) rfl rfl (run_as rfl rfl) ?_
  simp only [nz1, nz2, nz3]
  refine lvw 5 (.bool false) rfl rfl (run_as rfl rfl) ?_
  simp only [nz1, nz2, nz3]
  refine wpList_nil ?_
  refine then_n (hK1 _ _ ?_)
  refine wp_seq_k (fun K2 hK2 => ?_)
  refine wp_region_lit ?_
  refine lvw 6 (.string (tx ([]))) rfl rfl (run_as rfl rfl) ?_
  simp only [nz1, nz2, nz3]
  refine lvw 7 (.bool false) rfl rfl (run_as rfl rfl) ?_
  simp only [nz1, nz2, nz3]
  refine wpList_nil ?_
  refine then_n (hK2 _ _ ?_)
  refine wp_seq_k (fun K3 hK3 => ?_)
  refine wp_seq_k (fun K4 hK4 => ?_)
  refine wp_region_lit ?_
  refine lvw 8 (.int .i64 0) rfl rfl (run_as rfl rfl) ?_
  simp only [nz1, nz2, nz3]
  refine wpList_nil ?_
  refine then_n (hK4 _ _ ?_)
  refine wp_cutK (fun a' w' => ∃ (y11 : List UInt8) (y12 : Bool) (y13 : Nat) (yu0 : Nat → Value), rlast_m_l0 l key ((l.length - 0) + 1) (([]), false, 0) = .inl (y11, y12, y13) ∧ a' = ⟨#[lv0, .string (tx key), undef, undef, .string (tx ([])), .bool false, .string (tx y11), .bool (y12), .int .i64 ((y13 : Nat) : Int), yu0 0, yu0 1, yu0 2, yu0 3, yu0 4, yu0 5, yu0 6, yu0 7, yu0 8, yu0 9, yu0 10, yu0 11, yu0 12, yu0 13, yu0 14, yu0 15, yu0 16, yu0 17, undef, undef], []⟩ ∧ Mm none (fun _ => True) w w' [.see (Rs ePar 2 l lv0) Fl]) ?_ ?_
  · refine wp_block ?_
    refine wp_loop_n (fun n' a' w' => ∃ (n8 : Nat) (x5 : List UInt8) (x6 : Bool) (x7 : Nat) (u0 : Nat → Value), n' = n8 ∧ (l.length - x7) < n8 ∧ rlast_m_l0 l key ((l.length - 0) + 1) (([]), false, 0) = rlast_m_l0 l key n8 (x5, x6, x7) ∧ a' = ⟨#[lv0, .string (tx key), undef, undef, .string (tx ([])), .bool false, .string (tx x5), .bool (x6), .int .i64 ((x7 : Nat) : Int), u0 0, u0 1, u0 2, u0 3, u0 4, u0 5, u0 6, u0 7, u0 8, u0 9, u0 10, u0 11, u0 12, u0 13, u0 14, u0 15, u0 16, u0 17, undef, undef], []⟩ ∧ Mm none (fun _ => True) w w' [.see (Rs ePar 2 l lv0) Fl]) ⟨((l.length - 0) + 1), ([]), false, 0, (fun qq => List.getD [undef, undef, undef, undef, undef, undef, undef, undef, undef, undef, undef, undef, undef, undef, undef, undef, undef, undef] qq undef), rfl, Nat.lt_succ_self _, rfl, rfl, hm0⟩ ?_
    rintro n8 _ w15 ⟨_, x5, x6, x7, u0, rfl, hl19, hi10, rfl, hm16⟩ R17 hR17
    obtain ⟨k9, rfl⟩ : ∃ k, n8 = k + 1 := ⟨n8 - 1, by omega⟩
    refine wp_seq_k (fun K20 hK20 => ?_)
    refine wp_seq_k (fun K21 hK21 => ?_)
    refine wp_region_lit ?_
    refine lvw 9 (.int .i64 ((x7 : Nat) : Int)) rfl rfl (run_mv rfl rfl) ?_
    simp only [nz1, nz2, nz3]
    refine lvw 10 (lv0) rfl rfl (run_mv rfl rfl) ?_
    simp only [nz1, nz2, nz3]
    refine lvw 11 (.int .i64 ((l.length : Nat) : Int)) rfl rfl (s_len ((hm16.see 0 rfl)) rfl Tryd.underlying36 rfl) ?_
    simp only [nz1, nz2, nz3]
    refine lvw 12 (.bool (decide (x7 < l.length))) rfl rfl (r_lss x7 l.length rfl rfl rfl) ?_
    simp only [nz1, nz2, nz3]
    refine wpList_nil ?_
    refine then_n (hK21 _ _ ?_)
    refine cond_d (x7 < l.length) rfl (fun hc22 => ?_) (fun hc22 => ?_)
    rotate_left
    · refine wp_exit ?_
      refine then_x ?_
      refine then_x ?_
      refine blk_x ?_
      refine then_n ?_
      exact ⟨x5, x6, x7, (fun qq => List.getD [.int .i64 ((x7 : Nat) : Int), lv0, .int .i64 ((l.length : Nat) : Int), .bool (decide (x7 < l.length)), u0 4, u0 5, u0 6, u0 7, u0 8, u0 9, u0 10, u0 11, u0 12, u0 13, u0 14, u0 15, u0 16, u0 17] qq undef), (hi10.trans (show rlast_m_b0 l key (rlast_m_l0 l key k9) x5 x6 x7 = .inl (x5, x6, x7) from by unfold rlast_m_b0; rw [if_neg hc22] <;> rfl)), rfl, hm16⟩
    refine wp_skip ?_
    refine then_n (hK20 _ _ ?_)
    refine wp_seq_k (fun K23 hK23 => ?_)
    refine wp_block ?_
    refine wp_seq_k (fun K24 hK24 => ?_)
    refine wp_region_lit ?_
    refine lvw 15 (lv0) rfl rfl (run_mv rfl rfl) ?_
    simp only [nz1, nz2, nz3]
    refine lvw 16 (.int .i64 ((x7 : Nat) : Int)) rfl rfl (run_mv rfl rfl) ?_
    simp only [nz1, nz2, nz3]
    refine lvw 17 (.pointer (some ⟨(bk lv0), (po lv0 + x7 * 2), none⟩)) rfl rfl (r_ixv ((hm16.see 0 rfl)) x7 (by omega) Tryd.underlying36 sz_47 rfl rfl rfl) ?_
    simp only [nz1, nz2, nz3]
    refine lvw 18 (.pointer (some ⟨(bk lv0), ((po lv0 + x7 * 2) + 0), none⟩)) rfl rfl (r_fa47_0 (bk lv0) (po lv0 + x7 * 2) rfl rfl) ?_
    simp only [nz1, nz2, nz3]
    refine lvw 19 (.string (tx ((l.getD x7 dPar).key))) rfl rfl (r_cellw (Rs.cell ((hm16.see 0 rfl)) ePar_len dPar x7 (by omega) 0 _ rfl) Tryd.underlying9 rfl rfl rfl) ?_
    simp only [nz1, nz2, nz3]
    refine lvw 20 (.string (tx key)) rfl rfl (run_mv rfl rfl) ?_
    simp only [nz1, nz2, nz3]
    refine lvw 21 (.bool (decide ((l.getD x7 dPar).key = key))) rfl rfl (t_eql ((l.getD x7 dPar).key) key rfl rfl rfl) ?_
    simp only [nz1, nz2, nz3]
    refine wpList_nil ?_
    refine then_n (hK24 _ _ ?_)
    refine cond_d ((l.getD x7 dPar).key = key) rfl (fun hc25 => ?_) (fun hc25 => ?_)
    rotate_left
    · refine wp_skip ?_
      refine blk_n ?_
      refine then_n (hK23 _ _ ?_)
      refine wp_region_lit ?_
      refine lvw 13 (.int .i64 ((x7 : Nat) : Int)) rfl rfl (run_mv rfl rfl) ?_
      simp only [nz1, nz2, nz3]
      refine lvw 14 (.int .i64 (((x7 + 1) : Nat) : Int)) rfl rfl (r_add x7 1 (show (x7 + 1) < 9223372036854775808 from by omega) rfl rfl rfl) ?_
      simp only [nz1, nz2, nz3]
      refine lvw 8 (.int .i64 (((x7 + 1) : Nat) : Int)) rfl rfl (run_as rfl rfl) ?_
      simp only [nz1, nz2, nz3]
      refine wpList_nil ?_
      refine then_n (hR17 _ _ _ ⟨k9, x5, x6, (x7 + 1), (fun qq => List.getD [.int .i64 ((x7 : Nat) : Int), lv0, .int .i64 ((l.length : Nat) : Int), .bool (decide (x7 < l.length)), .int .i64 ((x7 : Nat) : Int), .int .i64 (((x7 + 1) : Nat) : Int), lv0, .int .i64 ((x7 : Nat) : Int), .pointer (some ⟨(bk lv0), (po lv0 + x7 * 2), none⟩), .pointer (some ⟨(bk lv0), ((po lv0 + x7 * 2) + 0), none⟩), .string (tx ((l.getD x7 dPar).key)), .string (tx key), .bool (decide ((l.getD x7 dPar).key = key)), u0 13, u0 14, u0 15, u0 16, u0 17] qq undef), rfl, (by first | omega | (simp; omega) | (simp at *; omega)), (hi10.trans (show rlast_m_b0 l key (rlast_m_l0 l key k9) x5 x6 x7 = rlast_m_l0 l key k9 (x5, x6, (x7 + 1)) from by unfold rlast_m_b0; rw [if_pos hc22, if_neg hc25] <;> rfl)), rfl, hm16⟩ ?_)
      omega
    refine wp_region_lit ?_
    refine lvw 22 (lv0) rfl rfl (run_mv rfl rfl) ?_
    simp only [nz1, nz2, nz3]
    refine lvw 23 (.int .i64 ((x7 : Nat) : Int)) rfl rfl (run_mv rfl rfl) ?_
    simp only [nz1, nz2, nz3]
    refine lvw 24 (.pointer (some ⟨(bk lv0), (po lv0 + x7 * 2), none⟩)) rfl rfl (r_ixv ((hm16.see 0 rfl)) x7 (by omega) Tryd.underlying36 sz_47 rfl rfl rfl) ?_
    simp only [nz1, nz2, nz3]
    refine lvw 25 (.pointer (some ⟨(bk lv0), ((po lv0 + x7 * 2) + 1), none⟩)) rfl rfl (r_fa47_1 (bk lv0) (po lv0 + x7 * 2) rfl rfl) ?_
    simp only [nz1, nz2, nz3]
    refine lvw 26 (.string (tx ((l.getD x7 dPar).value))) rfl rfl (r_cellw (Rs.cell ((hm16.see 0 rfl)) ePar_len dPar x7 (by omega) 1 _ rfl) Tryd.underlying9 rfl rfl rfl) ?_
    simp only [nz1, nz2, nz3]
    refine lvw 6 (.string (tx ((l.getD x7 dPar).value))) rfl rfl (run_as rfl rfl) ?_
    simp only [nz1, nz2, nz3]
    refine lvw 7 (.bool true) rfl rfl (run_as rfl rfl) ?_
    simp only [nz1, nz2, nz3]
    refine wpList_nil ?_
    refine blk_n ?_
    refine then_n (hK23 _ _ ?_)
    refine wp_region_lit ?_
    refine lvw 13 (.int .i64 ((x7 : Nat) : Int)) rfl rfl (run_mv rfl rfl) ?_
    simp only [nz1, nz2, nz3]
    refine lvw 14 (.int .i64 (((x7 + 1) : Nat) : Int)) rfl rfl (r_add x7 1 (show (x7 + 1) < 9223372036854775808 from by omega) rfl rfl rfl) ?_
    simp only [nz1, nz2, nz3]
    refine lvw 8 (.int .i64 (((x7 + 1) : Nat) : Int)) rfl rfl (run_as rfl rfl) ?_
    simp only [nz1, nz2, nz3]
    refine wpList_nil ?_
    refine then_n (hR17 _ _ _ ⟨k9, ((l.getD x7 dPar).value), true, (x7 + 1), (fun qq => List.getD [.int .i64 ((x7 : Nat) : Int), lv0, .int .i64 ((l.length : Nat) : Int), .bool (decide (x7 < l.length)), .int .i64 ((x7 : Nat) : Int), .int .i64 (((x7 + 1) : Nat) : Int), lv0, .int .i64 ((x7 : Nat) : Int), .pointer (some ⟨(bk lv0), (po lv0 + x7 * 2), none⟩), .pointer (some ⟨(bk lv0), ((po lv0 + x7 * 2) + 0), none⟩), .string (tx ((l.getD x7 dPar).key)), .string (tx key), .bool (decide ((l.getD x7 dPar).key = key)), lv0, .int .i64 ((x7 : Nat) : Int), .pointer (some ⟨(bk lv0), (po lv0 + x7 * 2), none⟩), .pointer (some ⟨(bk lv0), ((po lv0 + x7 * 2) + 1), none⟩), .string (tx ((l.getD x7 dPar).value))] qq undef), rfl, (by first | omega | (simp; omega) | (simp at *; omega)), (hi10.trans (show rlast_m_b0 l key (rlast_m_l0 l key k9) x5 x6 x7 = rlast_m_l0 l key k9 (((l.getD x7 dPar).value), true, (x7 + 1)) from by unfold rlast_m_b0; rw [if_pos hc22, if_pos hc25] <;> rfl)), rfl, hm16⟩ ?_)
    omega
  rintro _ w26 ⟨y11, y12, y13, yu0, hx14, rfl, hm27⟩
  have hq28 : rlast_m l key = rlast_m_k0 l key y11 y12 y13 := (show rlast_m l key = rlast_m_k0 l key y11 y12 y13 from by unfold rlast_m; rw [hx14] <;> rfl)
  refine then_n (hK3 _ _ ?_)
  refine wp_seq_k (fun K29 hK29 => ?_)
  refine wp_region_lit ?_
  refine lvw 27 (.string (tx y11)) rfl rfl (run_mv rfl rfl) ?_
  simp only [nz1, nz2, nz3]
  refine lvw 28 (.bool (y12)) rfl rfl (run_mv rfl rfl) ?_
  simp only [nz1, nz2, nz3]
  refine lvw 4 (.string (tx y11)) rfl rfl (run_as rfl rfl) ?_
  simp only [nz1, nz2, nz3]
  refine lvw 5 (.bool (y12)) rfl rfl (run_as rfl rfl) ?_
  simp only [nz1, nz2, nz3]
  refine wpList_nil ?_
  refine then_n (hK29 _ _ ?_)
  refine wp_ret ?_
  have he30 : rlast_m l key = (y11, y12) := (hq28.trans (show rlast_m_k0 l key y11 y12 y13 = (y11, y12) from by unfold rlast_m_k0; rfl))
  exact ⟨rfl, .tuple #[.string (tx y11), .bool (y12)], res_tt rfl rfl rfl, ⟨by rw [he30], hm27.below⟩⟩
theorem run_rlast {o : Oper} {a : Act} {w : World} {x0 x1 : Operand} {v0 v1 : Value} (ho : o.op = .call { callee := .value (.func 28), args := #[x0, x1], argTypes := #[36, 9] }) (h0 : a.eval x0 = v0) (h1 : a.eval x1 = v1) :
    (execOp a.eval o).run Tryd.prog w = .ok (.enter 28 #[v0, v1]) w := by
  unfold execOp
  simp only [ho]
  have hf : a.eval (.func 28) = .func (.func 28) #[] #[] := rfl
  generalize a.eval = f at *
  go_simp
end Go.Proofs.YtglnifckngcpkaaDoor.Px
