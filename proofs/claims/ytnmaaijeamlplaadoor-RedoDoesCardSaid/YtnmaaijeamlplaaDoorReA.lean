import Derived.Test.YtnmaaijeamlplaaDoorReK
set_option linter.unusedVariables false
set_option linter.unusedSimpArgs false
set_option maxHeartbeats 4000000
set_option maxRecDepth 100000
namespace Go.Proofs.YtnmaaijeamlplaaDoor.Bk
open Go.RowKit
open Go.Proofs.YtnmaaijeamlplaaDoor.Sym Go.Proofs.YtnmaaijeamlplaaDoor.Mem
open Go.Proofs.YtnmaaijeamlplaaDoor.Sx hiding Mm m_alloc m_store m_call m_callx
attribute [local irreducible] rep_m sum_m
attribute [local irreducible] wpList Oper.wp
theorem run_dsum {o : Oper} {a : Act} {w : World} {x0 : Operand} {v0 : Value} (ho : o.op = .call { callee := .value (.func 70), args := #[x0], argTypes := #[9] }) (h0 : a.eval x0 = v0) :
  (execOp a.eval o).run Tryd.prog w = .ok (.enter 70 #[v0]) w := by
 unfold execOp
 simp only [ho]
 have hf : a.eval (.func 70) = .func (.func 70) #[] #[] := rfl
 generalize a.eval = f at *
 go_simp
theorem run_rdsum {o : Oper} {a : Act} {w : World} {x0 : Operand} {v0 : Value} (ho : o.op = .call { callee := .value (.func 74), args := #[x0], argTypes := #[9] }) (h0 : a.eval x0 = v0) :
  (execOp a.eval o).run Tryd.prog w = .ok (.enter 74 #[v0]) w := by
 unfold execOp
 simp only [ho]
 have hf : a.eval (.func 74) = .func (.func 74) #[] #[] := rfl
 generalize a.eval = f at *
 go_simp
theorem run_hpre {o : Oper} {a : Act} {w : World} {x0 x1 : Operand} {v0 v1 : Value} (ho : o.op = .call { callee := .value (.func 75), args := #[x0, x1], argTypes := #[9, 9] }) (h0 : a.eval x0 = v0) (h1 : a.eval x1 = v1) :
  (execOp a.eval o).run Tryd.prog w = .ok (.enter 75 #[v0, v1]) w := by
 unfold execOp
 simp only [ho]
 have hf : a.eval (.func 75) = .func (.func 75) #[] #[] := rfl
 generalize a.eval = f at *
 go_simp
theorem run_join {o : Oper} {a : Act} {w : World} {x0 x1 : Operand} {v0 v1 : Value} (ho : o.op = .call { callee := .value (.func 71), args := #[x0, x1], argTypes := #[22, 9] }) (h0 : a.eval x0 = v0) (h1 : a.eval x1 = v1) :
  (execOp a.eval o).run Tryd.prog w = .ok (.enter 71 #[v0, v1]) w := by
 unfold execOp
 simp only [ho]
 have hf : a.eval (.func 71) = .func (.func 71) #[] #[] := rfl
 generalize a.eval = f at *
 go_simp
def number_m_b0 (n : Int) (size : Int) (rec : Int × Int × (List UInt8) → Sum (Int × Int × (List UInt8)) ((List UInt8))) (x8 : Int) (x9 : Int) (l10 : List UInt8) : Sum (Int × Int × (List UInt8)) ((List UInt8)) :=
 if 0 ≤ x9 then
  rec ((x8 / 256), (x9 - (1 : Int)), (l10.set x9.toNat (UInt8.ofNat (x8 % 256).toNat)))
 else
  .inl (x8, x9, l10)
def number_m_l0 (n : Int) (size : Int) : Nat → Int × Int × (List UInt8) → Sum (Int × Int × (List UInt8)) ((List UInt8))
 | 0, zz => .inl zz
 | nq + 1, zz => number_m_b0 n size (number_m_l0 n size nq) zz.1 zz.2.1 zz.2.2
def number_m_k0 (n : Int) (size : Int) (y14 : Int) (y15 : Int) (y16 : List UInt8) : (List UInt8) :=
 y16
def number_m (n : Int) (size : Int) : (List UInt8) :=
 fin (number_m_l0 n size (((size - (1 : Int)) + 1).toNat + 1) (n, (size - (1 : Int)), (List.replicate size.toNat (0 : UInt8)))) (fun r => r) (fun zz => number_m_k0 n size zz.1 zz.2.1 zz.2.2)
theorem number_any (n : Int) (size : Int) (w : World)  (hp0 : 0 ≤ size) (hp1 : size ≤ 8) : Calls Tryd.prog 60 #[J (n), J (size)] w (fun e w' => e = .returned (.string (tx (number_m n size))) ∧ Below w.heap.size w w') := by
 go_enter Tryd.func60, Tryd.ntmps60
 have hm00 := Mm.nil none (fun _ => True) w
 have hm0 := hm00
 refine wk (fun K1 hK1 => (wq ?_))
 refine la 4 (.string (tx ([]))) ?_
 simp only [nz]
 refine wn (tj (hK1 _ _ (wk (fun K2 hK2 => (wq ?_)))))
 refine lm 7 (J (size)) ?_
 simp only [nz]
 obtain ⟨iq, hiq, hz1, hz2, hz3⟩ := inf_5
 refine lst rfl (m_makeR (enc := eB) (size := 1) size.toNat (0 : UInt8) iq _ hm0 8 rfl rfl Tryd.underlying43 hiq hz1 hz2 hz3 eB_len rfl (show (J size) = J (size.toNat : Int) from by congr 1; omega) (show (J size) = J (size.toNat : Int) from by congr 1; omega) (by omega) (by omega) (fun v5 w3 hm4 => ?_))
 simp only [nz]
 refine la 5 (v5) ?_
 simp only [nz]
 refine wn (tj (hK2 _ _ (wk (fun K6 hK6 => (wk (fun K7 hK7 => (wq ?_)))))))
 refine lm 9 (J (size)) ?_
 refine lw 10 (J ((size - (1 : Int)))) (z_sub size (1 : Int) _ (by rw [IntKind.wrap_i64]; omega) rfl rfl rfl) ?_
 refine la 6 (J ((size - (1 : Int)))) ?_
 simp only [nz]
 refine wn (tj (hK7 _ _ ?_))
 refine wp_cutK (fun a' w' => ∃ (y14 : Int) (y15 : Int) (y16 : List UInt8) (yu0 : Nat → Value), number_m_l0 n size (((size - (1 : Int)) + 1).toNat + 1) (n, (size - (1 : Int)), (List.replicate size.toNat (0 : UInt8))) = .inl (y14, y15, y16) ∧ (y16.length = size.toNat ∧ -1 ≤ y15 ∧ y15 < size) ∧ a' = ⟨#[J (y14), J (size), undef, undef, .string (tx ([])), v5, J (y15), J (size), v5, J (size), J ((size - (1 : Int))), yu0 0, yu0 1, yu0 2, yu0 3, yu0 4, yu0 5, yu0 6, yu0 7, yu0 8, yu0 9, yu0 10, undef, undef], []⟩ ∧ Mm none (fun _ => True) w w' [.row v5 y16.length (y16.flatMap eB) 5 1]) ?_ ?_
 ·refine wp_block ?_
  refine wp_loop_n (fun n' a' w' => ∃ (n11 : Nat) (x8 : Int) (x9 : Int) (l10 : List UInt8) (u0 : Nat → Value), n' = n11 ∧ (x9 + 1).toNat < n11 ∧ number_m_l0 n size (((size - (1 : Int)) + 1).toNat + 1) (n, (size - (1 : Int)), (List.replicate size.toNat (0 : UInt8))) = number_m_l0 n size n11 (x8, x9, l10) ∧ (l10.length = size.toNat ∧ -1 ≤ x9 ∧ x9 < size) ∧ a' = ⟨#[J (x8), J (size), undef, undef, .string (tx ([])), v5, J (x9), J (size), v5, J (size), J ((size - (1 : Int))), u0 0, u0 1, u0 2, u0 3, u0 4, u0 5, u0 6, u0 7, u0 8, u0 9, u0 10, undef, undef], []⟩ ∧ Mm none (fun _ => True) w w' [.row v5 l10.length (l10.flatMap eB) 5 1]) ⟨(((size - (1 : Int)) + 1).toNat + 1), n, (size - (1 : Int)), (List.replicate size.toNat (0 : UInt8)), (fun qq => List.getD [undef, undef, undef, undef, undef, undef, undef, undef, undef, undef, undef] qq undef), rfl, Nat.lt_succ_self _, rfl, ⟨List.length_replicate, by omega, by omega⟩, rfl, hm4⟩ ?_
  rintro n11 _ w18 ⟨_, x8, x9, l10, u0, rfl, hl22, hi13, hnu, rfl, hm19⟩ R20 hR20
  obtain ⟨k12, rfl⟩ : ∃ k, n11 = k + 1 := ⟨n11 - 1, by omega⟩
  refine wk (fun K23 hK23 => (wk (fun K24 hK24 => (wq ?_))))
  refine lm 11 (J (x9)) ?_
  refine lw 12 (.bool (decide (0 ≤ x9))) (z_geq x9 0 rfl rfl rfl) ?_
  simp only [nz]
  refine wn (tj (hK24 _ _ ?_))
  refine cond_d (0 ≤ x9) rfl (fun hc25 => ?_) (fun hc25 => ?_)
  rotate_left
  ·refine wp_exit (then_x (then_x (blk_x ?_)))
   refine tj ?_
   exact ⟨x8, x9, l10, (fun qq => List.getD [J (x9), .bool (decide (0 ≤ x9)), u0 2, u0 3, u0 4, u0 5, u0 6, u0 7, u0 8, u0 9, u0 10] qq undef), (hi13.trans (show number_m_b0 n size (number_m_l0 n size k12) x8 x9 l10 = .inl (x8, x9, l10) from by unfold number_m_b0; rw [if_neg hc25] <;> rfl)), (by omega), rfl, hm19⟩
  refine wp_skip (tj (hK23 _ _ (wk (fun K26 hK26 => ?_))))
  refine wp_block ?_
  refine wk (fun K27 hK27 => (wq ?_))
  refine lm 15 (v5) ?_
  refine lm 16 (J (x9)) ?_
  refine lm 17 (J (x8)) ?_
  simp only [nz]
  refine lw 18 (.int .u8 (((UInt8.ofNat (x8 % 256).toNat).toNat : Nat) : Int)) (z_conv (k' := .u8) x8 (((UInt8.ofNat (x8 % 256).toNat).toNat : Nat) : Int) some_3 Tryd.underlying5 (u8_wrapA _) rfl rfl) ?_
  refine lw 19 (.pointer (some ⟨(bk v5), (po v5 + x9.toNat * 1), none⟩)) (r_ixvZ (Rs.row (hm19.row 0 rfl)) x9 (by omega) (by omega) Tryd.underlying43 sz_5 rfl rfl rfl) ?_
  simp only [nz]
  refine lst rfl (m_setR 0 (l := l10) x9.toNat (UInt8.ofNat (x8 % 256).toNat) (.int .u8 (((UInt8.ofNat (x8 % 256).toNat).toNat : Nat) : Int)) hm19 rfl rfl rfl (by omega) rfl rfl sz_5 eB_len rfl rfl (fun w28 hm29 => ?_))
  refine wn (tj (hK27 _ _ (wq ?_)))
  refine lm 20 (J (x8)) ?_
  refine lw 21 (J ((x8 / 256))) (z_shrA x8 8 _ (by decide) rfl rfl rfl rfl) ?_
  refine la 0 (J ((x8 / 256))) ?_
  simp only [nz1, nz2]
  refine wn (blk_n (tj (hK26 _ _ (wq ?_))))
  refine lm 13 (J (x9)) ?_
  simp only [nz]
  refine lw 14 (J ((x9 - (1 : Int)))) (z_sub x9 (1 : Int) _ (by rw [IntKind.wrap_i64]; omega) rfl rfl rfl) ?_
  refine la 6 (J ((x9 - (1 : Int)))) ?_
  simp only [nz]
  refine wn ?_
  refine tj (hR20 _ _ _ ⟨k12, (x8 / 256), (x9 - (1 : Int)), (l10.set x9.toNat (UInt8.ofNat (x8 % 256).toNat)), (fun qq => List.getD [J (x9), .bool (decide (0 ≤ x9)), J (x9), J ((x9 - (1 : Int))), v5, J (x9), J (x8), .int .u8 (((UInt8.ofNat (x8 % 256).toNat).toNat : Nat) : Int), .pointer (some ⟨(bk v5), (po v5 + x9.toNat * 1), none⟩), J (x8), J ((x8 / 256))] qq undef), rfl, (by omega), (hi13.trans (show number_m_b0 n size (number_m_l0 n size k12) x8 x9 l10 = number_m_l0 n size k12 ((x8 / 256), (x9 - (1 : Int)), (l10.set x9.toNat (UInt8.ofNat (x8 % 256).toNat))) from by unfold number_m_b0; rw [if_pos hc25] <;> rfl)), (by (try rw [List.length_set]); omega), rfl, hm29⟩ ?_)
  omega
 rintro _ w30 ⟨y14, y15, y16, yu0, hx17, hnu, rfl, hm31⟩
 have hq32 : number_m n size = number_m_k0 n size y14 y15 y16 := (show number_m n size = number_m_k0 n size y14 y15 y16 from by unfold number_m; rw [hx17] <;> rfl)
 refine tj (hK6 _ _ (wk (fun K33 hK33 => (wq ?_))))
 refine lm 22 (v5) ?_
 refine lw 23 (.string (tx y16)) (r_stringR y16 (by have h := (Rs.row (hm31.row 0 rfl)); unfold Rs at h; rw [eB_map] at h; exact h) Tryd.underlying43 Tryd.underlying5 Tryd.underlying9 rfl rfl) ?_
 refine la 4 (.string (tx y16)) ?_
 simp only [nz]
 refine wn (tj (hK33 _ _ (wp_ret ?_)))
 have he34 : number_m n size = y16 := (hq32.trans (show number_m_k0 n size y14 y15 y16 = y16 from by unfold number_m_k0; rfl))
 exact ⟨rfl, .string (tx y16), res_t rfl rfl, ⟨by (rw [he34]; try rfl), hm31.below⟩⟩
theorem run_number {o : Oper} {a : Act} {w : World} {x0 x1 : Operand} {v0 v1 : Value} (ho : o.op = .call { callee := .value (.func 60), args := #[x0, x1], argTypes := #[3, 3] }) (h0 : a.eval x0 = v0) (h1 : a.eval x1 = v1) :
  (execOp a.eval o).run Tryd.prog w = .ok (.enter 60 #[v0, v1]) w := by
 unfold execOp
 simp only [ho]
 have hf : a.eval (.func 60) = .func (.func 60) #[] #[] := rfl
 generalize a.eval = f at *
 go_simp
def value_m_b0 (s : List UInt8) (rec : Int × Nat → Sum (Int × Nat) (Int)) (x5 : Int) (x6 : Nat) : Sum (Int × Nat) (Int) :=
 if x6 < s.length then
  rec (((w64 (x5 * 256)) + ((by' s x6 : Nat) : Int)), (x6 + 1))
 else
  .inl (x5, x6)
def value_m_l0 (s : List UInt8) : Nat → Int × Nat → Sum (Int × Nat) (Int)
 | 0, zz => .inl zz
 | nq + 1, zz => value_m_b0 s (value_m_l0 s nq) zz.1 zz.2
def value_m_k0 (s : List UInt8) (y10 : Int) (y11 : Nat) : Int :=
 y10
def value_m (s : List UInt8) : Int :=
 fin (value_m_l0 s ((s.length - 0) + 1) (0, 0)) (fun r => r) (fun zz => value_m_k0 s zz.1 zz.2)
theorem value_any (s : List UInt8) (w : World)  (hp0 : s.length ≤ 1048576) : Calls Tryd.prog 30 #[.string (tx s)] w (fun e w' => e = .returned (J ((value_m s))) ∧ Below w.heap.size w w') := by
 go_enter Tryd.func30, Tryd.ntmps30
 have hm00 := Mm.nil none (fun _ => True) w
 have hm0 := hm00
 refine wk (fun K1 hK1 => (wq ?_))
 refine la 2 (J 0) ?_
 simp only [nz]
 refine wn (tj (hK1 _ _ (wk (fun K2 hK2 => (wq ?_)))))
 refine la 3 (J 0) ?_
 simp only [nz]
 refine wn (tj (hK2 _ _ (wk (fun K3 hK3 => (wk (fun K4 hK4 => (wq ?_)))))))
 refine la 4 (J 0) ?_
 simp only [nz]
 refine wn (tj (hK4 _ _ ?_))
 refine wp_cutK (fun a' w' => ∃ (y10 : Int) (y11 : Nat) (yu0 : Nat → Value), value_m_l0 s ((s.length - 0) + 1) (0, 0) = .inl (y10, y11) ∧ a' = ⟨#[.string (tx s), undef, J 0, J (y10), J (y11 : Int), yu0 0, yu0 1, yu0 2, yu0 3, yu0 4, yu0 5, yu0 6, yu0 7, yu0 8, yu0 9, yu0 10, yu0 11, yu0 12, undef], []⟩ ∧ Mm none (fun _ => True) w w' []) ?_ ?_
 ·refine wp_block ?_
  refine wp_loop_n (fun n' a' w' => ∃ (n7 : Nat) (x5 : Int) (x6 : Nat) (u0 : Nat → Value), n' = n7 ∧ (s.length - x6) < n7 ∧ value_m_l0 s ((s.length - 0) + 1) (0, 0) = value_m_l0 s n7 (x5, x6) ∧ a' = ⟨#[.string (tx s), undef, J 0, J (x5), J (x6 : Int), u0 0, u0 1, u0 2, u0 3, u0 4, u0 5, u0 6, u0 7, u0 8, u0 9, u0 10, u0 11, u0 12, undef], []⟩ ∧ Mm none (fun _ => True) w w' []) ⟨((s.length - 0) + 1), 0, 0, (fun qq => List.getD [undef, undef, undef, undef, undef, undef, undef, undef, undef, undef, undef, undef, undef] qq undef), rfl, Nat.lt_succ_self _, rfl, rfl, hm0⟩ ?_
  rintro n7 _ w13 ⟨_, x5, x6, u0, rfl, hl17, hi9, rfl, hm14⟩ R15 hR15
  obtain ⟨k8, rfl⟩ : ∃ k, n7 = k + 1 := ⟨n7 - 1, by omega⟩
  refine wk (fun K18 hK18 => (wk (fun K19 hK19 => (wq ?_))))
  refine lm 5 (J (x6 : Int)) ?_
  refine lm 6 (.string (tx s)) ?_
  refine lw 7 (J (s.length : Int)) (t_len rfl Tryd.underlying9 rfl) ?_
  simp only [nz]
  refine lw 8 (.bool (decide (x6 < s.length))) (r_lss x6 s.length rfl rfl rfl) ?_
  simp only [nz]
  refine wn (tj (hK19 _ _ ?_))
  refine cond_d (x6 < s.length) rfl (fun hc20 => ?_) (fun hc20 => ?_)
  rotate_left
  ·refine wp_exit (then_x (then_x (blk_x ?_)))
   refine tj ?_
   exact ⟨x5, x6, (fun qq => List.getD [J (x6 : Int), .string (tx s), J (s.length : Int), .bool (decide (x6 < s.length)), u0 4, u0 5, u0 6, u0 7, u0 8, u0 9, u0 10, u0 11, u0 12] qq undef), (hi9.trans (show value_m_b0 s (value_m_l0 s k8) x5 x6 = .inl (x5, x6) from by unfold value_m_b0; rw [if_neg hc20] <;> rfl)), rfl, hm14⟩
  refine wp_skip (tj (hK18 _ _ (wk (fun K21 hK21 => ?_))))
  refine wp_block ?_
  refine wq ?_
  refine lm 11 (J (x5)) ?_
  refine lw 12 (J ((w64 (x5 * 256)))) (z_shl8 x5 rfl rfl rfl) ?_
  refine lm 13 (.string (tx s)) ?_
  simp only [nz]
  refine lm 14 (J (x6 : Int)) ?_
  refine lw 15 (.int .u8 ((by' s x6 : Nat) : Int)) (t_char s x6 (by omega) Tryd.underlying9 rfl rfl rfl) ?_
  refine lw 16 (J ((by' s x6 : Nat) : Int)) (r_conv (k' := .i64) (by' s x6) (by' s x6) some_5 Tryd.underlying3 (wrap_nat (by have := by_lt s x6; show _ < 9223372036854775808; omega)) rfl rfl) ?_
  simp only [nz]
  refine lw 17 (J (((w64 (x5 * 256)) + ((by' s x6 : Nat) : Int)))) (z_or8 (w64 (x5 * 256)) (by' s x6) (w64_low x5).1 (w64_low x5).2.1 (w64_low x5).2.2 (by_lt _ _) rfl rfl rfl) ?_
  refine la 3 (J (((w64 (x5 * 256)) + ((by' s x6 : Nat) : Int)))) ?_
  simp only [nz]
  refine wn (blk_n (tj (hK21 _ _ (wq ?_))))
  refine lm 9 (J (x6 : Int)) ?_
  refine lw 10 (J (((x6 + 1) : Nat) : Int)) (r_add x6 1 (show (x6 + 1) < 9223372036854775808 from by omega) rfl rfl rfl) ?_
  refine la 4 (J (((x6 + 1) : Nat) : Int)) ?_
  simp only [nz]
  refine wn ?_
  refine tj (hR15 _ _ _ ⟨k8, ((w64 (x5 * 256)) + ((by' s x6 : Nat) : Int)), (x6 + 1), (fun qq => List.getD [J (x6 : Int), .string (tx s), J (s.length : Int), .bool (decide (x6 < s.length)), J (x6 : Int), J (((x6 + 1) : Nat) : Int), J (x5), J ((w64 (x5 * 256))), .string (tx s), J (x6 : Int), .int .u8 ((by' s x6 : Nat) : Int), J ((by' s x6 : Nat) : Int), J (((w64 (x5 * 256)) + ((by' s x6 : Nat) : Int)))] qq undef), rfl, (by omega), (hi9.trans (show value_m_b0 s (value_m_l0 s k8) x5 x6 = value_m_l0 s k8 (((w64 (x5 * 256)) + ((by' s x6 : Nat) : Int)), (x6 + 1)) from by unfold value_m_b0; rw [if_pos hc20] <;> rfl)), rfl, hm14⟩ ?_)
  omega
 rintro _ w22 ⟨y10, y11, yu0, hx12, rfl, hm23⟩
 have hq24 : value_m s = value_m_k0 s y10 y11 := (show value_m s = value_m_k0 s y10 y11 from by unfold value_m; rw [hx12] <;> rfl)
 refine tj (hK3 _ _ (wk (fun K25 hK25 => (wq ?_))))
 refine lm 18 (J (y10)) ?_
 refine la 2 (J (y10)) ?_
 simp only [nz]
 refine wn (tj (hK25 _ _ (wp_ret ?_)))
 have he26 : value_m s = y10 := (hq24.trans (show value_m_k0 s y10 y11 = y10 from by unfold value_m_k0; rfl))
 exact ⟨rfl, J (y10), res_t rfl rfl, ⟨by (rw [he26]; try rfl), hm23.below⟩⟩
theorem run_value {o : Oper} {a : Act} {w : World} {x0 : Operand} {v0 : Value} (ho : o.op = .call { callee := .value (.func 30), args := #[x0], argTypes := #[9] }) (h0 : a.eval x0 = v0) :
  (execOp a.eval o).run Tryd.prog w = .ok (.enter 30 #[v0]) w := by
 unfold execOp
 simp only [ho]
 have hf : a.eval (.func 30) = .func (.func 30) #[] #[] := rfl
 generalize a.eval = f at *
 go_simp
def fill_m (s : List UInt8) : (List UInt8) :=
 (s ++ (rep_m ([0]) ((256 : Int) - ((s.length : Nat) : Int))))
theorem fill_any (s : List UInt8) (w : World)  (hp0 : s.length ≤ 256) : Calls Tryd.prog 40 #[.string (tx s)] w (fun e w' => e = .returned (.string (tx (fill_m s))) ∧ Below w.heap.size w w') := by
 go_enter Tryd.func40, Tryd.ntmps40
 have hm00 := Mm.nil none (fun _ => True) w
 have hm0 := hm00
 refine wk (fun K1 hK1 => (wq ?_))
 refine la 2 (.string (tx ([]))) ?_
 simp only [nz]
 refine wn (tj (hK1 _ _ (wk (fun K2 hK2 => (wq ?_)))))
 refine lm 3 (.string (tx s)) ?_
 refine lm 4 (.string (tx s)) ?_
 refine lw 5 (J (s.length : Int)) (t_len rfl Tryd.underlying9 rfl) ?_
 simp only [nz]
 refine lw 6 (J (((256 : Int) - (s.length : Int)))) (z_sub (256 : Int) (s.length : Int) _ (by rw [IntKind.wrap_i64]; omega) rfl rfl rfl) ?_
 simp only [nz]
 refine lst rfl (m_call hm0 7 (.string (tx (rep_m ([0]) ((256 : Int) - (s.length : Int))))) rfl (run_rep rfl rfl rfl) (rep_any ([0]) ((256 : Int) - (s.length : Int))  _  (by omega) (by exact ⟨by rw [List.length_singleton]; omega, by omega⟩)) (fun w3 hm4 => ?_))
 have hf5 : (((rep_m ([0]) ((256 : Int) - ((s.length : Nat) : Int))).length : Nat) : Int) = ((256 : Int) - ((s.length : Nat) : Int)) := rep0_len ((256 : Int) - ((s.length : Nat) : Int)) (by omega)
 simp only [nz]
 refine lw 8 (.string (tx (s ++ (rep_m ([0]) ((256 : Int) - (s.length : Int)))))) (t_cat s (rep_m ([0]) ((256 : Int) - (s.length : Int))) (by omega) rfl rfl rfl) ?_
 refine la 2 (.string (tx (s ++ (rep_m ([0]) ((256 : Int) - (s.length : Int)))))) ?_
 simp only [nz]
 refine wn (tj (hK2 _ _ (wp_ret ?_)))
 have he6 : fill_m s = (s ++ (rep_m ([0]) ((256 : Int) - ((s.length : Nat) : Int)))) := by unfold fill_m; rfl
 exact ⟨rfl, .string (tx (s ++ (rep_m ([0]) ((256 : Int) - (s.length : Int))))), res_t rfl rfl, ⟨by (rw [he6]; try rfl), hm4.below⟩⟩
theorem run_fill {o : Oper} {a : Act} {w : World} {x0 : Operand} {v0 : Value} (ho : o.op = .call { callee := .value (.func 40), args := #[x0], argTypes := #[9] }) (h0 : a.eval x0 = v0) :
  (execOp a.eval o).run Tryd.prog w = .ok (.enter 40 #[v0]) w := by
 unfold execOp
 simp only [ho]
 have hf : a.eval (.func 40) = .func (.func 40) #[] #[] := rfl
 generalize a.eval = f at *
 go_simp
end Go.Proofs.YtnmaaijeamlplaaDoor.Bk
