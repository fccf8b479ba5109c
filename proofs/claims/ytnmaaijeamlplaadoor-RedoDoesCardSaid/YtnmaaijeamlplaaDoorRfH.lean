import Derived.Test.YtnmaaijeamlplaaDoorReH
import Derived.Test.YtnmaaijeamlplaaDoorReG
set_option linter.unusedVariables false
set_option linter.unusedSimpArgs false
set_option maxHeartbeats 4000000
set_option maxRecDepth 100000
namespace Go.Proofs.YtnmaaijeamlplaaDoor.Bk
open Go.RowKit
open Go.Proofs.YtnmaaijeamlplaaDoor.Sym Go.Proofs.YtnmaaijeamlplaaDoor.Mem
open Go.Proofs.YtnmaaijeamlplaaDoor.Sx hiding Mm m_alloc m_store m_call m_callx
attribute [local irreducible] right_m rright_m ready_m rready_m copied_m burn_m put_m get_m flush_m spent_m rput_m rget_m rflush_m blank_m rnew_m same_m
attribute [local irreducible] number_m value_m fill_m beginning_m log_m fits_m lists_m epoch_m
attribute [local irreducible] home_m putall_m
attribute [local irreducible] putfl_m body_m rise_m sized_m current_m join_m sum_m
attribute [local irreducible] format_m rend_m bring_m
attribute [local irreducible] commit_m
attribute [local irreducible] wpList Oper.wp
def rlog_m (d : Dk) : Int :=
 (((d.safe.length / 4) : Nat) : Int)
theorem rlog_any (d : Dk) (dv0 : Value) (dv1 : Value) (w : World) (hd : DkR d dv0 dv1 w) (hp0 : d.safe.length ≤ 8796093022208) (hp1 : d.loose.length ≤ 5864070000000) : Calls Tryd.prog 14 #[.agg #[dv0, dv1, J (d.fuse), .bool (d.down)]] w (fun e w' => e = .returned (J ((rlog_m d))) ∧ Below w.heap.size w w') := by
 go_enter Tryd.func14, Tryd.ntmps14
 have hm00 := Mm.nil none (fun _ => True) w
 obtain ⟨Fd, hm01⟩ : ∃ Fd, Mm none (fun _ => True) w w [.see (DkR d dv0 dv1) Fd] := hm00.come (DkR_all hd)
 have hm0 := hm01
 refine wk (fun K1 hK1 => (wq ?_))
 refine lst rfl (m_alloc (c := #[dv0, dv1, J (d.fuse), .bool (d.down)]) (T := 25) hm0 1 rfl (run_box rfl rfl) (fun g4 w2 hm3 => ?_))
 simp only [nz]
 refine la 2 (J 0) ?_
 simp only [nz]
 refine wn (tj (hK1 _ _ (wk (fun K5 hK5 => (wq ?_)))))
 refine lw 3 (Pp g4 0) (r_fa25_0 g4 0 rfl rfl) ?_
 refine lw 4 (dv0) (r_load (hm3.at 1 rfl) rfl Tryd.underlying22 rfl rfl rfl) ?_
 refine lw 5 (J (d.safe.length : Int)) (s_len ((hm3.see 0 rfl).1) rfl Tryd.underlying22 rfl) ?_
 simp only [nz]
 refine lw 6 (J (((d.safe.length / 4) : Nat) : Int)) (r_quo d.safe.length 4 (show d.safe.length < 9223372036854775808 from by omega) (by decide) rfl rfl rfl) ?_
 refine la 2 (J (((d.safe.length / 4) : Nat) : Int)) ?_
 simp only [nz]
 refine wn (tj (hK5 _ _ (wp_ret ?_)))
 have he6 : rlog_m d = (((d.safe.length / 4) : Nat) : Int) := by unfold rlog_m; rfl
 exact ⟨rfl, J (((d.safe.length / 4) : Nat) : Int), res_t rfl rfl, ⟨by (rw [he6]; try rfl), hm3.below⟩⟩
theorem run_rlog {o : Oper} {a : Act} {w : World} {x0 : Operand} {v0 : Value} (ho : o.op = .call { callee := .value (.func 14), args := #[x0], argTypes := #[25] }) (h0 : a.eval x0 = v0) :
  (execOp a.eval o).run Tryd.prog w = .ok (.enter 14 #[v0]) w := by
 unfold execOp
 simp only [ho]
 have hf : a.eval (.func 14) = .func (.func 14) #[] #[] := rfl
 generalize a.eval = f at *
 go_simp
def four_m (n : Int) : (List UInt8) :=
 ([(UInt8.ofNat ((n / 16777216) % 256).toNat), (UInt8.ofNat ((n / 65536) % 256).toNat), (UInt8.ofNat ((n / 256) % 256).toNat), (UInt8.ofNat (n % 256).toNat)] : List UInt8)
theorem four_any (n : Int) (w : World)   : Calls Tryd.prog 73 #[J (n)] w (fun e w' => e = .returned (.string (tx (four_m n))) ∧ Below w.heap.size w w') := by
 go_enter Tryd.func73, Tryd.ntmps73
 have hm00 := Mm.nil none (fun _ => True) w
 have hm0 := hm00
 refine wk (fun K1 hK1 => (wq ?_))
 refine la 2 (.string (tx ([]))) ?_
 simp only [nz]
 refine wn (tj (hK1 _ _ (wk (fun K2 hK2 => (wq ?_)))))
 refine lm 3 (J (n)) ?_
 refine lw 4 (J ((n / 16777216))) (z_shrA n 24 _ (by decide) rfl rfl rfl rfl) ?_
 refine lw 5 (.int .u8 (((UInt8.ofNat ((n / 16777216) % 256).toNat).toNat : Nat) : Int)) (z_conv (k' := .u8) (n / 16777216) (((UInt8.ofNat ((n / 16777216) % 256).toNat).toNat : Nat) : Int) some_3 Tryd.underlying5 (u8_wrapA _) rfl rfl) ?_
 simp only [nz]
 refine lm 6 (J (n)) ?_
 refine lw 7 (J ((n / 65536))) (z_shrA n 16 _ (by decide) rfl rfl rfl rfl) ?_
 refine lw 8 (.int .u8 (((UInt8.ofNat ((n / 65536) % 256).toNat).toNat : Nat) : Int)) (z_conv (k' := .u8) (n / 65536) (((UInt8.ofNat ((n / 65536) % 256).toNat).toNat : Nat) : Int) some_3 Tryd.underlying5 (u8_wrapA _) rfl rfl) ?_
 simp only [nz]
 refine lm 9 (J (n)) ?_
 refine lw 10 (J ((n / 256))) (z_shrA n 8 _ (by decide) rfl rfl rfl rfl) ?_
 refine lw 11 (.int .u8 (((UInt8.ofNat ((n / 256) % 256).toNat).toNat : Nat) : Int)) (z_conv (k' := .u8) (n / 256) (((UInt8.ofNat ((n / 256) % 256).toNat).toNat : Nat) : Int) some_3 Tryd.underlying5 (u8_wrapA _) rfl rfl) ?_
 simp only [nz]
 refine lm 12 (J (n)) ?_
 refine lw 13 (.int .u8 (((UInt8.ofNat (n % 256).toNat).toNat : Nat) : Int)) (z_conv (k' := .u8) n (((UInt8.ofNat (n % 256).toNat).toNat : Nat) : Int) some_3 Tryd.underlying5 (u8_wrapA _) rfl rfl) ?_
 simp only [nz]
 refine lst rfl (m_make (c := #[.int .u8 (((UInt8.ofNat ((n / 16777216) % 256).toNat).toNat : Nat) : Int), .int .u8 (((UInt8.ofNat ((n / 65536) % 256).toNat).toNat : Nat) : Int), .int .u8 (((UInt8.ofNat ((n / 256) % 256).toNat).toNat : Nat) : Int), .int .u8 (((UInt8.ofNat (n % 256).toNat).toNat : Nat) : Int)]) (T := 5) (fun g => Sl g 0 4 4) hm0 14 rfl (by unfold execOp; go_simp; try rfl) (fun g5 w3 hm4 => ?_))
 simp only [nz]
 refine lw 15 (.string (tx ([(UInt8.ofNat ((n / 16777216) % 256).toNat), (UInt8.ofNat ((n / 65536) % 256).toNat), (UInt8.ofNat ((n / 256) % 256).toNat), (UInt8.ofNat (n % 256).toNat)] : List UInt8))) (r_stringR ([(UInt8.ofNat ((n / 16777216) % 256).toNat), (UInt8.ofNat ((n / 65536) % 256).toNat), (UInt8.ofNat ((n / 256) % 256).toNat), (UInt8.ofNat (n % 256).toNat)]) (by have h := Rs.blk (enc := eB) (l := ([(UInt8.ofNat ((n / 16777216) % 256).toNat), (UInt8.ofNat ((n / 65536) % 256).toNat), (UInt8.ofNat ((n / 256) % 256).toNat), (UInt8.ofNat (n % 256).toNat)] : List UInt8)) (hm4.at 0 rfl) rfl rfl eB_len (Nat.le_refl _); unfold Rs at h; rw [eB_map] at h; exact h) Tryd.underlying43 Tryd.underlying5 Tryd.underlying9 rfl rfl) ?_
 refine la 2 (.string (tx ([(UInt8.ofNat ((n / 16777216) % 256).toNat), (UInt8.ofNat ((n / 65536) % 256).toNat), (UInt8.ofNat ((n / 256) % 256).toNat), (UInt8.ofNat (n % 256).toNat)] : List UInt8))) ?_
 simp only [nz]
 refine wn (tj (hK2 _ _ (wp_ret ?_)))
 have he6 : four_m n = ([(UInt8.ofNat ((n / 16777216) % 256).toNat), (UInt8.ofNat ((n / 65536) % 256).toNat), (UInt8.ofNat ((n / 256) % 256).toNat), (UInt8.ofNat (n % 256).toNat)] : List UInt8) := by unfold four_m; rfl
 exact ⟨rfl, .string (tx ([(UInt8.ofNat ((n / 16777216) % 256).toNat), (UInt8.ofNat ((n / 65536) % 256).toNat), (UInt8.ofNat ((n / 256) % 256).toNat), (UInt8.ofNat (n % 256).toNat)] : List UInt8)), res_t rfl rfl, ⟨by (rw [he6]; try rfl), hm4.below⟩⟩
theorem run_four {o : Oper} {a : Act} {w : World} {x0 : Operand} {v0 : Value} (ho : o.op = .call { callee := .value (.func 73), args := #[x0], argTypes := #[3] }) (h0 : a.eval x0 = v0) :
  (execOp a.eval o).run Tryd.prog w = .ok (.enter 73 #[v0]) w := by
 unfold execOp
 simp only [ho]
 have hf : a.eval (.func 73) = .func (.func 73) #[] #[] := rfl
 generalize a.eval = f at *
 go_simp
def eight_m (n : Int) : (List UInt8) :=
 ((four_m (n / 4294967296)) ++ (four_m n))
theorem eight_any (n : Int) (w : World)   : Calls Tryd.prog 62 #[J (n)] w (fun e w' => e = .returned (.string (tx (eight_m n))) ∧ Below w.heap.size w w') := by
 go_enter Tryd.func62, Tryd.ntmps62
 have hm00 := Mm.nil none (fun _ => True) w
 have hm0 := hm00
 refine wk (fun K1 hK1 => (wq ?_))
 refine la 2 (.string (tx ([]))) ?_
 simp only [nz]
 refine wn (tj (hK1 _ _ (wk (fun K2 hK2 => (wq ?_)))))
 refine lm 3 (J (n)) ?_
 refine lw 4 (J ((n / 4294967296))) (z_shrA n 32 _ (by decide) rfl rfl rfl rfl) ?_
 simp only [nz]
 refine lst rfl (m_call hm0 5 (.string (tx (four_m (n / 4294967296)))) rfl (run_four rfl rfl) (four_any (n / 4294967296)  _  ) (fun w3 hm4 => ?_))
 have hf5 : (four_m (n / 4294967296)).length = 4 := rfl
 simp only [nz]
 refine lm 6 (J (n)) ?_
 simp only [nz]
 refine lst rfl (m_call hm4 7 (.string (tx (four_m n))) rfl (run_four rfl rfl) (four_any n  _  ) (fun w6 hm7 => ?_))
 have hf8 : (four_m n).length = 4 := rfl
 simp only [nz]
 refine lw 8 (.string (tx ((four_m (n / 4294967296)) ++ (four_m n)))) (t_cat (four_m (n / 4294967296)) (four_m n) (by omega) rfl rfl rfl) ?_
 refine la 2 (.string (tx ((four_m (n / 4294967296)) ++ (four_m n)))) ?_
 simp only [nz]
 refine wn (tj (hK2 _ _ (wp_ret ?_)))
 have he9 : eight_m n = ((four_m (n / 4294967296)) ++ (four_m n)) := by unfold eight_m; rfl
 exact ⟨rfl, .string (tx ((four_m (n / 4294967296)) ++ (four_m n))), res_t rfl rfl, ⟨by (rw [he9]; try rfl), hm7.below⟩⟩
theorem run_eight {o : Oper} {a : Act} {w : World} {x0 : Operand} {v0 : Value} (ho : o.op = .call { callee := .value (.func 62), args := #[x0], argTypes := #[3] }) (h0 : a.eval x0 = v0) :
  (execOp a.eval o).run Tryd.prog w = .ok (.enter 62 #[v0]) w := by
 unfold execOp
 simp only [ho]
 have hf : a.eval (.func 62) = .func (.func 62) #[] #[] := rfl
 generalize a.eval = f at *
 go_simp
def rread_m_b0 (s : List UInt8) (rec : Int × Nat → Sum (Int × Nat) (Int)) (x5 : Int) (x6 : Nat) : Sum (Int × Nat) (Int) :=
 if x6 < s.length then
  rec (((w64 (x5 * 256)) + ((by' s x6 : Nat) : Int)), (x6 + 1))
 else
  .inl (x5, x6)
def rread_m_l0 (s : List UInt8) : Nat → Int × Nat → Sum (Int × Nat) (Int)
 | 0, zz => .inl zz
 | nq + 1, zz => rread_m_b0 s (rread_m_l0 s nq) zz.1 zz.2
def rread_m_k0 (s : List UInt8) (y10 : Int) (y11 : Nat) : Int :=
 y10
def rread_m (s : List UInt8) : Int :=
 fin (rread_m_l0 s ((s.length - 0) + 1) (0, 0)) (fun r => r) (fun zz => rread_m_k0 s zz.1 zz.2)
theorem rread_any (s : List UInt8) (w : World)  (hp0 : s.length ≤ 1048576) : Calls Tryd.prog 33 #[.string (tx s)] w (fun e w' => e = .returned (J ((rread_m s))) ∧ Below w.heap.size w w') := by
 go_enter Tryd.func33, Tryd.ntmps33
 have hm00 := Mm.nil none (fun _ => True) w
 have hm0 := hm00
 refine wk (fun K1 hK1 => (wq ?_))
 refine la 2 (J 0) ?_
 simp only [nz]
 refine wn (tj (hK1 _ _ (wk (fun K2 hK2 => (wq ?_)))))
 refine la 3 (J 0) ?_
 simp only [nz]
 refine wn (tj (hK2 _ _ (wk (fun K3 hK3 => (wk (fun K4 hK4 => (wq ?_)))))))
 refine la 4 (J 0) ?_
 simp only [nz]
 refine wn (tj (hK4 _ _ ?_))
 refine wp_cutK (fun a' w' => ∃ (y10 : Int) (y11 : Nat) (yu0 : Nat → Value), rread_m_l0 s ((s.length - 0) + 1) (0, 0) = .inl (y10, y11) ∧ a' = ⟨#[.string (tx s), undef, J 0, J (y10), J (y11 : Int), yu0 0, yu0 1, yu0 2, yu0 3, yu0 4, yu0 5, yu0 6, yu0 7, yu0 8, yu0 9, yu0 10, yu0 11, yu0 12, undef], []⟩ ∧ Mm none (fun _ => True) w w' []) ?_ ?_
 ·refine wp_block ?_
  refine wp_loop_n (fun n' a' w' => ∃ (n7 : Nat) (x5 : Int) (x6 : Nat) (u0 : Nat → Value), n' = n7 ∧ (s.length - x6) < n7 ∧ rread_m_l0 s ((s.length - 0) + 1) (0, 0) = rread_m_l0 s n7 (x5, x6) ∧ a' = ⟨#[.string (tx s), undef, J 0, J (x5), J (x6 : Int), u0 0, u0 1, u0 2, u0 3, u0 4, u0 5, u0 6, u0 7, u0 8, u0 9, u0 10, u0 11, u0 12, undef], []⟩ ∧ Mm none (fun _ => True) w w' []) ⟨((s.length - 0) + 1), 0, 0, (fun qq => List.getD [undef, undef, undef, undef, undef, undef, undef, undef, undef, undef, undef, undef, undef] qq undef), rfl, Nat.lt_succ_self _, rfl, rfl, hm0⟩ ?_
  rintro n7 _ w13 ⟨_, x5, x6, u0, rfl, hl17, hi9, rfl, hm14⟩ R15 hR15
  obtain ⟨k8, rfl⟩ : ∃ k, n7 = k + 1 := ⟨n7 - 1, by omega⟩
  refine wk (fun K18 hK18 => (wk (fun K19 hK19 => (wq ?_))))
  refine lm 5 (J (x6 : Int)) ?_
  refine lm 6 (.string (tx s)) ?_
  refine lw 7 (J (s.length : Int)) (t_len rfl Tryd.underlying9 rfl) ?_
  simp only [nz]
  refine lw 8 (.bool (decide (x6 < s.length))) (r_lss x6 s.length rfl rfl rfl) ?_
  simp only [nz]
  refine wn (tj (hK19 _ _ ?_))
  refine cond_d (x6 < s.length) rfl (fun hc20 => ?_) (fun hc20 => ?_)
  rotate_left
  ·refine wp_exit (then_x (then_x (blk_x ?_)))
   refine tj ?_
   exact ⟨x5, x6, (fun qq => List.getD [J (x6 : Int), .string (tx s), J (s.length : Int), .bool (decide (x6 < s.length)), u0 4, u0 5, u0 6, u0 7, u0 8, u0 9, u0 10, u0 11, u0 12] qq undef), (hi9.trans (show rread_m_b0 s (rread_m_l0 s k8) x5 x6 = .inl (x5, x6) from by unfold rread_m_b0; rw [if_neg hc20] <;> rfl)), rfl, hm14⟩
  refine wp_skip (tj (hK18 _ _ (wk (fun K21 hK21 => ?_))))
  refine wp_block ?_
  refine wq ?_
  refine lm 11 (J (x5)) ?_
  refine lw 12 (J ((w64 (x5 * 256)))) (z_shl8 x5 rfl rfl rfl) ?_
  refine lm 13 (.string (tx s)) ?_
  simp only [nz]
  refine lm 14 (J (x6 : Int)) ?_
  refine lw 15 (.int .u8 ((by' s x6 : Nat) : Int)) (t_char s x6 (by omega) Tryd.underlying9 rfl rfl rfl) ?_
  refine lw 16 (J ((by' s x6 : Nat) : Int)) (r_conv (k' := .i64) (by' s x6) (by' s x6) some_5 Tryd.underlying3 (wrap_nat (by have := by_lt s x6; show _ < 9223372036854775808; omega)) rfl rfl) ?_
  simp only [nz]
  refine lw 17 (J (((w64 (x5 * 256)) + ((by' s x6 : Nat) : Int)))) (z_or8 (w64 (x5 * 256)) (by' s x6) (w64_low x5).1 (w64_low x5).2.1 (w64_low x5).2.2 (by_lt _ _) rfl rfl rfl) ?_
  refine la 3 (J (((w64 (x5 * 256)) + ((by' s x6 : Nat) : Int)))) ?_
  simp only [nz]
  refine wn (blk_n (tj (hK21 _ _ (wq ?_))))
  refine lm 9 (J (x6 : Int)) ?_
  refine lw 10 (J (((x6 + 1) : Nat) : Int)) (r_add x6 1 (show (x6 + 1) < 9223372036854775808 from by omega) rfl rfl rfl) ?_
  refine la 4 (J (((x6 + 1) : Nat) : Int)) ?_
  simp only [nz]
  refine wn ?_
  refine tj (hR15 _ _ _ ⟨k8, ((w64 (x5 * 256)) + ((by' s x6 : Nat) : Int)), (x6 + 1), (fun qq => List.getD [J (x6 : Int), .string (tx s), J (s.length : Int), .bool (decide (x6 < s.length)), J (x6 : Int), J (((x6 + 1) : Nat) : Int), J (x5), J ((w64 (x5 * 256))), .string (tx s), J (x6 : Int), .int .u8 ((by' s x6 : Nat) : Int), J ((by' s x6 : Nat) : Int), J (((w64 (x5 * 256)) + ((by' s x6 : Nat) : Int)))] qq undef), rfl, (by omega), (hi9.trans (show rread_m_b0 s (rread_m_l0 s k8) x5 x6 = rread_m_l0 s k8 (((w64 (x5 * 256)) + ((by' s x6 : Nat) : Int)), (x6 + 1)) from by unfold rread_m_b0; rw [if_pos hc20] <;> rfl)), rfl, hm14⟩ ?_)
  omega
 rintro _ w22 ⟨y10, y11, yu0, hx12, rfl, hm23⟩
 have hq24 : rread_m s = rread_m_k0 s y10 y11 := (show rread_m s = rread_m_k0 s y10 y11 from by unfold rread_m; rw [hx12] <;> rfl)
 refine tj (hK3 _ _ (wk (fun K25 hK25 => (wq ?_))))
 refine lm 18 (J (y10)) ?_
 refine la 2 (J (y10)) ?_
 simp only [nz]
 refine wn (tj (hK25 _ _ (wp_ret ?_)))
 have he26 : rread_m s = y10 := (hq24.trans (show rread_m_k0 s y10 y11 = y10 from by unfold rread_m_k0; rfl))
 exact ⟨rfl, J (y10), res_t rfl rfl, ⟨by (rw [he26]; try rfl), hm23.below⟩⟩
theorem run_rread {o : Oper} {a : Act} {w : World} {x0 : Operand} {v0 : Value} (ho : o.op = .call { callee := .value (.func 33), args := #[x0], argTypes := #[9] }) (h0 : a.eval x0 = v0) :
  (execOp a.eval o).run Tryd.prog w = .ok (.enter 33 #[v0]) w := by
 unfold execOp
 simp only [ho]
 have hf : a.eval (.func 33) = .func (.func 33) #[] #[] := rfl
 generalize a.eval = f at *
 go_simp
def rfull_m_b0 (s : List UInt8) (rec : (List UInt8) → Sum ((List UInt8)) ((List UInt8))) (x3 : List UInt8) : Sum ((List UInt8)) ((List UInt8)) :=
 if x3.length < 256 then
  rec (x3 ++ [0])
 else
  .inl x3
def rfull_m_l0 (s : List UInt8) : Nat → (List UInt8) → Sum ((List UInt8)) ((List UInt8))
 | 0, zz => .inl zz
 | nq + 1, zz => rfull_m_b0 s (rfull_m_l0 s nq) zz
def rfull_m_k0 (s : List UInt8) (y7 : List UInt8) : (List UInt8) :=
 y7
def rfull_m (s : List UInt8) : (List UInt8) :=
 fin (rfull_m_l0 s ((256 - s.length) + 1) s) (fun r => r) (fun zz => rfull_m_k0 s zz)
theorem rfull_any (s : List UInt8) (w : World)  (hp0 : s.length ≤ 256) : Calls Tryd.prog 42 #[.string (tx s)] w (fun e w' => e = .returned (.string (tx (rfull_m s))) ∧ Below w.heap.size w w') := by
 go_enter Tryd.func42, Tryd.ntmps42
 have hm00 := Mm.nil none (fun _ => True) w
 have hm0 := hm00
 refine wk (fun K1 hK1 => (wq ?_))
 refine la 2 (.string (tx ([]))) ?_
 simp only [nz]
 refine wn (tj (hK1 _ _ (wk (fun K2 hK2 => ?_))))
 refine wp_cutK (fun a' w' => ∃ (y7 : List UInt8) (yu0 : Nat → Value), rfull_m_l0 s ((256 - s.length) + 1) s = .inl y7 ∧ (y7.length ≤ 256) ∧ a' = ⟨#[.string (tx y7), undef, .string (tx ([])), yu0 0, yu0 1, yu0 2, yu0 3, yu0 4, undef], []⟩ ∧ Mm none (fun _ => True) w w' []) ?_ ?_
 ·refine wp_block ?_
  refine wp_loop_n (fun n' a' w' => ∃ (n4 : Nat) (x3 : List UInt8) (u0 : Nat → Value), n' = n4 ∧ (256 - x3.length) < n4 ∧ rfull_m_l0 s ((256 - s.length) + 1) s = rfull_m_l0 s n4 x3 ∧ (x3.length ≤ 256) ∧ a' = ⟨#[.string (tx x3), undef, .string (tx ([])), u0 0, u0 1, u0 2, u0 3, u0 4, undef], []⟩ ∧ Mm none (fun _ => True) w w' []) ⟨((256 - s.length) + 1), s, (fun qq => List.getD [undef, undef, undef, undef, undef] qq undef), rfl, Nat.lt_succ_self _, rfl, (by omega), rfl, hm0⟩ ?_
  rintro n4 _ w9 ⟨_, x3, u0, rfl, hl13, hi6, hbl, rfl, hm10⟩ R11 hR11
  obtain ⟨k5, rfl⟩ : ∃ k, n4 = k + 1 := ⟨n4 - 1, by omega⟩
  refine wk (fun K14 hK14 => (wk (fun K15 hK15 => (wq ?_))))
  refine lm 3 (.string (tx x3)) ?_
  refine lw 4 (J (x3.length : Int)) (t_len rfl Tryd.underlying9 rfl) ?_
  refine lw 5 (.bool (decide (x3.length < 256))) (r_lss x3.length 256 rfl rfl rfl) ?_
  simp only [nz]
  refine wn (tj (hK15 _ _ ?_))
  refine cond_d (x3.length < 256) rfl (fun hc16 => ?_) (fun hc16 => ?_)
  rotate_left
  ·refine wp_exit (then_x (then_x (blk_x ?_)))
   refine tj ?_
   exact ⟨x3, (fun qq => List.getD [.string (tx x3), J (x3.length : Int), .bool (decide (x3.length < 256)), u0 3, u0 4] qq undef), (hi6.trans (show rfull_m_b0 s (rfull_m_l0 s k5) x3 = .inl x3 from by unfold rfull_m_b0; rw [if_neg hc16] <;> rfl)), hbl, rfl, hm10⟩
  refine wp_skip (tj (hK14 _ _ ?_))
  refine wp_block ?_
  refine wq ?_
  refine lm 6 (.string (tx x3)) ?_
  refine lw 7 (.string (tx (x3 ++ [0]))) (t_cat x3 ([0]) (by simp; omega) rfl rfl rfl) ?_
  refine la 0 (.string (tx (x3 ++ [0]))) ?_
  simp only [nz1, nz2]
  refine wn (blk_n ?_)
  refine tj (hR11 _ _ _ ⟨k5, (x3 ++ [0]), (fun qq => List.getD [.string (tx x3), J (x3.length : Int), .bool (decide (x3.length < 256)), .string (tx x3), .string (tx (x3 ++ [0]))] qq undef), rfl, (by rw [List.length_append, List.length_singleton]; omega), (hi6.trans (show rfull_m_b0 s (rfull_m_l0 s k5) x3 = rfull_m_l0 s k5 (x3 ++ [0]) from by unfold rfull_m_b0; rw [if_pos hc16] <;> rfl)), (by rw [List.length_append, List.length_singleton]; omega), rfl, hm10⟩ ?_)
  omega
 rintro _ w17 ⟨y7, yu0, hx8, hbl, rfl, hm18⟩
 have hq19 : rfull_m s = rfull_m_k0 s y7 := (show rfull_m s = rfull_m_k0 s y7 from by unfold rfull_m; rw [hx8] <;> rfl)
 refine tj (hK2 _ _ (wk (fun K20 hK20 => (wq ?_))))
 refine lm 8 (.string (tx y7)) ?_
 simp only [nz]
 refine la 2 (.string (tx y7)) ?_
 simp only [nz]
 refine wn (tj (hK20 _ _ (wp_ret ?_)))
 have he21 : rfull_m s = y7 := (hq19.trans (show rfull_m_k0 s y7 = y7 from by unfold rfull_m_k0; rfl))
 exact ⟨rfl, .string (tx y7), res_t rfl rfl, ⟨by (rw [he21]; try rfl), hm18.below⟩⟩
theorem run_rfull {o : Oper} {a : Act} {w : World} {x0 : Operand} {v0 : Value} (ho : o.op = .call { callee := .value (.func 42), args := #[x0], argTypes := #[9] }) (h0 : a.eval x0 = v0) :
  (execOp a.eval o).run Tryd.prog w = .ok (.enter 42 #[v0]) w := by
 unfold execOp
 simp only [ho]
 have hf : a.eval (.func 42) = .func (.func 42) #[] #[] := rfl
 generalize a.eval = f at *
 go_simp
end Go.Proofs.YtnmaaijeamlplaaDoor.Bk
namespace Go.Proofs.YtnmaaijeamlplaaDoor.Bk
open Go.RowKit Go.Proofs.YtnmaaijeamlplaaDoor.Mem
theorem four_is (n : Int) : four_m n = number_m n 4 := by
 have h1 : n / 16777216 = n / 256 / 256 / 256 := by omega
 have h2 : n / 65536 = n / 256 / 256 := by omega
 unfold four_m number_m
 rw [h1, h2]
 rfl
theorem eight_is (n : Int) : eight_m n = number_m n 8 := by
 have h1 : n / 4294967296 / 16777216 = n / 256 / 256 / 256 / 256 / 256 / 256 / 256 := by omega
 have h2 : n / 4294967296 / 65536 = n / 256 / 256 / 256 / 256 / 256 / 256 := by omega
 have h3 : n / 4294967296 / 256 = n / 256 / 256 / 256 / 256 / 256 := by omega
 have h4 : n / 4294967296 = n / 256 / 256 / 256 / 256 := by omega
 have h5 : n / 16777216 = n / 256 / 256 / 256 := by omega
 have h6 : n / 65536 = n / 256 / 256 := by omega
 unfold eight_m four_m number_m
 rw [h1, h2, h3, h4, h5, h6]
 rfl
theorem rread_is (s : List UInt8) : rread_m s = value_m s := by
 have a : ∀ k z, rread_m_l0 s k z = value_m_l0 s k z := by
  intro k
  induction k with
  | zero => intro z; rfl
  | succ k ih =>
   intro z
   show rread_m_b0 s _ z.1 z.2 = value_m_b0 s _ z.1 z.2
   unfold rread_m_b0 value_m_b0
   split
   ·exact ih _
   rfl
 unfold rread_m value_m
 rw [a]
 rfl
theorem rfull_l (s : List UInt8) : ∀ k (x : List UInt8), 256 ≤ x.length + k → x.length ≤ 256 → fin (rfull_m_l0 s (k + 1) x) (fun r => r) (fun zz => rfull_m_k0 s zz) = x ++ List.replicate (256 - x.length) 0
 | k, x, h, hx => by
  show fin (rfull_m_b0 s (rfull_m_l0 s k) x) _ _ = _
  unfold rfull_m_b0
  by_cases h1 : x.length < 256
  ·rw [if_pos h1]
   match k, h with
   | 0, h => omega
   | k + 1, h =>
    rw [rfull_l s k _ (by rw [List.length_append, List.length_singleton]; omega) (by rw [List.length_append, List.length_singleton]; omega), List.length_append, List.length_singleton, show 256 - x.length = (256 - (x.length + 1)) + 1 by omega, List.replicate_succ, List.append_assoc]
    rfl
  rw [if_neg h1, show 256 - x.length = 0 by omega]
  show x = x ++ []
  rw [List.append_nil]
theorem rep0_is (n : Int) : rep_m [0] n = List.replicate n.toNat 0 := by
 have key : ∀ k : Nat, Lib.repeatL ([0] : List UInt8) k = List.replicate k 0 := by
  intro k
  induction k with
  | zero => rfl
  | succ k ih =>
   show ([0] ++ Lib.repeatL [0] k) = _
   rw [ih]
   rfl
 unfold rep_m
 exact key _
theorem rfull_is (s : List UInt8) (h : s.length ≤ 256) : rfull_m s = fill_m s := by
 unfold rfull_m
 rw [rfull_l s (256 - s.length) s (by omega) h]
 unfold fill_m
 rw [rep0_is (256 - ((s.length : Nat) : Int))]
 congr 2
 omega
theorem rfull_len (s : List UInt8) (h : s.length ≤ 256) : (rfull_m s).length = 256 := by rw [rfull_is s h]; exact rfill_len s h
theorem eight_len (n : Int) : (eight_m n).length = 8 := rfl
theorem rget_len (d : Dk) (at_ : Int) : ¬ (rget_m d at_).2 = 0 ∨ (rget_m d at_).1.length = 256 := by
 rw [← get_eq]
 exact get_len d at_
theorem rlog_is (d : Dk) : rlog_m d = log_m d := rfl
theorem rlog_len (d : Dk) : rlog_m d = (((d.safe.length / 4 : Nat)) : Int) := (rlog_is d).trans (log_is d)
theorem four_len (n : Int) : (four_m n).length = 4 := rfl
end Go.Proofs.YtnmaaijeamlplaaDoor.Bk
namespace Go.Proofs.YtnmaaijeamlplaaDoor.Bk
open Go.RowKit
open Go.Proofs.YtnmaaijeamlplaaDoor.Sym Go.Proofs.YtnmaaijeamlplaaDoor.Mem
open Go.Proofs.YtnmaaijeamlplaaDoor.Sx hiding Mm m_alloc m_store m_call m_callx
attribute [local irreducible] right_m rright_m ready_m rready_m copied_m burn_m put_m get_m flush_m spent_m rput_m rget_m rflush_m blank_m rnew_m same_m
attribute [local irreducible] number_m value_m fill_m beginning_m log_m fits_m lists_m epoch_m
attribute [local irreducible] home_m putall_m
attribute [local irreducible] putfl_m body_m rise_m sized_m current_m join_m sum_m
attribute [local irreducible] format_m rend_m bring_m
attribute [local irreducible] commit_m
attribute [local irreducible] rlog_m four_m eight_m rread_m rfull_m
attribute [local irreducible] wpList Oper.wp
def rhead_m (epoch : Int) : (List UInt8) :=
 (rfull_m ([72, 76, 79, 71] ++ (eight_m epoch)))
theorem rhead_any (epoch : Int) (w : World)   : Calls Tryd.prog 34 #[J (epoch)] w (fun e w' => e = .returned (.string (tx (rhead_m epoch))) ∧ Below w.heap.size w w') := by
 go_enter Tryd.func34, Tryd.ntmps34
 have hm00 := Mm.nil none (fun _ => True) w
 have hm0 := hm00
 refine wk (fun K1 hK1 => (wq ?_))
 refine la 2 (.string (tx ([]))) ?_
 simp only [nz]
 refine wn (tj (hK1 _ _ (wk (fun K2 hK2 => (wq ?_)))))
 refine lm 3 (J (epoch)) ?_
 simp only [nz]
 refine lst rfl (m_call hm0 4 (.string (tx (eight_m epoch))) rfl (run_eight rfl rfl) (eight_any epoch  _  ) (fun w3 hm4 => ?_))
 have hf5 : (eight_m epoch).length = 8 := eight_len epoch
 simp only [nz]
 refine lw 5 (.string (tx ([72, 76, 79, 71] ++ (eight_m epoch)))) (t_cat ([72, 76, 79, 71]) (eight_m epoch) (by simp; omega) rfl rfl rfl) ?_
 simp only [nz]
 refine lst rfl (m_call hm4 6 (.string (tx (rfull_m ([72, 76, 79, 71] ++ (eight_m epoch))))) rfl (run_rfull rfl rfl) (rfull_any ([72, 76, 79, 71] ++ (eight_m epoch))  _  (by simp; omega)) (fun w6 hm7 => ?_))
 have hf8 : (rfull_m ([72, 76, 79, 71] ++ (eight_m epoch))).length = 256 := rfull_len ([72, 76, 79, 71] ++ (eight_m epoch)) (by simp; omega)
 simp only [nz]
 refine la 2 (.string (tx (rfull_m ([72, 76, 79, 71] ++ (eight_m epoch))))) ?_
 simp only [nz]
 refine wn (tj (hK2 _ _ (wp_ret ?_)))
 have he9 : rhead_m epoch = (rfull_m ([72, 76, 79, 71] ++ (eight_m epoch))) := by unfold rhead_m; rfl
 exact ⟨rfl, .string (tx (rfull_m ([72, 76, 79, 71] ++ (eight_m epoch)))), res_t rfl rfl, ⟨by (rw [he9]; try rfl), hm7.below⟩⟩
theorem run_rhead {o : Oper} {a : Act} {w : World} {x0 : Operand} {v0 : Value} (ho : o.op = .call { callee := .value (.func 34), args := #[x0], argTypes := #[3] }) (h0 : a.eval x0 = v0) :
  (execOp a.eval o).run Tryd.prog w = .ok (.enter 34 #[v0]) w := by
 unfold execOp
 simp only [ho]
 have hf : a.eval (.func 34) = .func (.func 34) #[] #[] := rfl
 generalize a.eval = f at *
 go_simp
def rlists_m (n : Int) : Int :=
 (((n + (61 : Int)) - (1 : Int)) / (61 : Int))
theorem rlists_any (n : Int) (w : World)  (hp0 : 0 ≤ n) (hp1 : n ≤ 8796093022208) : Calls Tryd.prog 39 #[J (n)] w (fun e w' => e = .returned (J ((rlists_m n))) ∧ Below w.heap.size w w') := by
 go_enter Tryd.func39, Tryd.ntmps39
 have hm00 := Mm.nil none (fun _ => True) w
 have hm0 := hm00
 refine wk (fun K1 hK1 => (wq ?_))
 refine la 2 (J 0) ?_
 simp only [nz]
 refine wn (tj (hK1 _ _ (wk (fun K2 hK2 => (wq ?_)))))
 refine lm 3 (J (n)) ?_
 refine lw 4 (J ((n + (61 : Int)))) (z_add n (61 : Int) _ (by rw [IntKind.wrap_i64]; omega) rfl rfl rfl) ?_
 refine lw 5 (J (((n + (61 : Int)) - (1 : Int)))) (z_sub (n + (61 : Int)) (1 : Int) _ (by rw [IntKind.wrap_i64]; omega) rfl rfl rfl) ?_
 simp only [nz]
 refine lw 6 (J ((((n + (61 : Int)) - (1 : Int)) / (61 : Int)))) (z_quo ((n + (61 : Int)) - (1 : Int)) (61 : Int) (((n + (61 : Int)) - (1 : Int)) / (61 : Int)) (by omega) (by rw [IntKind.wrap_i64, Int.tdiv_eq_ediv_of_nonneg (by omega)]; omega) rfl rfl rfl) ?_
 refine la 2 (J ((((n + (61 : Int)) - (1 : Int)) / (61 : Int)))) ?_
 simp only [nz]
 refine wn (tj (hK2 _ _ (wp_ret ?_)))
 have he3 : rlists_m n = (((n + (61 : Int)) - (1 : Int)) / (61 : Int)) := by unfold rlists_m; rfl
 exact ⟨rfl, J ((((n + (61 : Int)) - (1 : Int)) / (61 : Int))), res_t rfl rfl, ⟨by (rw [he3]; try rfl), hm0.below⟩⟩
theorem run_rlists {o : Oper} {a : Act} {w : World} {x0 : Operand} {v0 : Value} (ho : o.op = .call { callee := .value (.func 39), args := #[x0], argTypes := #[3] }) (h0 : a.eval x0 = v0) :
  (execOp a.eval o).run Tryd.prog w = .ok (.enter 39 #[v0]) w := by
 unfold execOp
 simp only [ho]
 have hf : a.eval (.func 39) = .func (.func 39) #[] #[] := rfl
 generalize a.eval = f at *
 go_simp
theorem rlists_is (n : Int) : rlists_m n = (n + 60) / 61 := by
 unfold rlists_m
 omega
def rfits_m (d : Dk) (n : Int) : Bool :=
 if 0 ≤ n then
  if n ≤ ((d.safe.length : Nat) : Int) then
   (decide ((((rlists_m n) + n) + (2 : Int)) ≤ (rlog_m d)))
  else
   false
 else
  false
theorem rfits_any (d : Dk) (n : Int) (dv0 : Value) (dv1 : Value) (w : World) (hd : DkR d dv0 dv1 w) (hp0 : d.safe.length ≤ 8796093022208) (hp1 : d.loose.length ≤ 5864070000000) : Calls Tryd.prog 16 #[.agg #[dv0, dv1, J (d.fuse), .bool (d.down)], J (n)] w (fun e w' => e = .returned (.bool ((rfits_m d n))) ∧ Below w.heap.size w w') := by
 go_enter Tryd.func16, Tryd.ntmps16
 have hm00 := Mm.nil none (fun _ => True) w
 obtain ⟨Fd, hm01⟩ : ∃ Fd, Mm none (fun _ => True) w w [.see (DkR d dv0 dv1) Fd] := hm00.come (DkR_all hd)
 have hm0 := hm01
 refine wk (fun K1 hK1 => (wq ?_))
 refine lst rfl (m_alloc (c := #[dv0, dv1, J (d.fuse), .bool (d.down)]) (T := 25) hm0 2 rfl (run_box rfl rfl) (fun g4 w2 hm3 => ?_))
 simp only [nz]
 refine la 4 (.bool false) ?_
 simp only [nz]
 refine wn (tj (hK1 _ _ (wk (fun K5 hK5 => ?_))))
 have hm6 := hm3.drew
 refine wp_region_held_drew (S := fun w' => Mem.Blk w' g4 (#[dv0, dv1, J (d.fuse), .bool (d.down)]) 25) (by kernel_rfl) (hm6.at 1 rfl) (fun _ => ?_)
 generalize w2.drew = w7 at *
 refine tk 0 5 (J (n)) rfl rfl (fun _ hw => run_mv rfl rfl) (hm6.at 1 rfl) ?_
 simp only [nz]
 refine tkb 1 6 (0 ≤ n) rfl rfl rfl (fun _ hw => z_geq n 0 rfl rfl rfl) (hm6.at 1 rfl) (fun hs8 => ?_) (fun hs8 => ?_)
 rotate_left
 ·simp only [nz]
  refine tk 2 7 (.bool false) rfl rfl (fun _ hw => run_mv rfl rfl) (hm6.at 1 rfl) ?_
  simp only [nz]
  refine skx 3 8 rfl rfl rfl (hm6.at 1 rfl) ?_
  simp only [nz]
  refine skx 4 9 rfl rfl rfl (hm6.at 1 rfl) ?_
  simp only [nz]
  refine skx 5 10 rfl rfl rfl (hm6.at 1 rfl) ?_
  simp only [nz]
  refine skx 6 11 rfl rfl rfl (hm6.at 1 rfl) ?_
  simp only [nz]
  refine skx 7 12 rfl rfl rfl (hm6.at 1 rfl) ?_
  simp only [nz]
  refine tk 8 13 (.bool false) rfl rfl (fun _ hw => run_pickf rfl rfl rfl) (hm6.at 1 rfl) ?_
  simp only [nz]
  refine tk 9 14 (.bool false) rfl rfl (fun _ hw => run_mv rfl rfl) (hm6.at 1 rfl) ?_
  simp only [nz]
  refine skx 10 15 rfl rfl rfl (hm6.at 1 rfl) ?_
  simp only [nz]
  refine skx 11 16 rfl rfl rfl (hm6.at 1 rfl) ?_
  simp only [nz]
  refine skx 12 17 rfl rfl rfl (hm6.at 1 rfl) ?_
  simp only [nz]
  refine skx 13 18 rfl rfl rfl (hm6.at 1 rfl) ?_
  simp only [nz]
  refine skx 14 19 rfl rfl rfl (hm6.at 1 rfl) ?_
  simp only [nz]
  refine skx 15 20 rfl rfl rfl (hm6.at 1 rfl) ?_
  simp only [nz]
  refine skx 16 21 rfl rfl rfl (hm6.at 1 rfl) ?_
  simp only [nz]
  refine skx 17 22 rfl rfl rfl (hm6.at 1 rfl) ?_
  simp only [nz]
  refine tk 18 23 (.bool false) rfl rfl (fun _ hw => run_pickf rfl rfl rfl) (hm6.at 1 rfl) ?_
  simp only [nz]
  refine one_ready 19 (by kernel_rfl) ?_
  refine opd rfl (wanted_none rfl) (w_value 4 (.bool false) rfl (run_as rfl rfl) ⟨hm6.at 1 rfl, ?_⟩)
  simp only [nz]
  refine wpAnyH_done (by kernel_rfl) ?_ _
  refine tj (hK5 _ _ (wp_ret ?_))
  have he18 : rfits_m d n = false := by unfold rfits_m; rw [if_neg hs8] <;> rfl
  exact ⟨rfl, .bool false, res_t rfl rfl, ⟨by (rw [he18]; try rfl), hm6.below⟩⟩
 simp only [nz]
 refine tk 2 7 (.bool true) rfl rfl (fun _ hw => run_mv rfl rfl) (hm6.at 1 rfl) ?_
 simp only [nz]
 refine Sym.take_at 3 8 (J (n)) rfl rfl (by kernel_rfl) (by kernel_rfl) (by kernel_rfl) (fun _ _ _ h => h) rfl (fun _ hw => run_mv rfl rfl) (hm6.at 1 rfl) ?_
 simp only [nz]
 refine Sym.take_at 4 9 (Pp g4 0) rfl rfl (by kernel_rfl) (by kernel_rfl) (by kernel_rfl) (fun _ _ _ h => h) rfl (fun _ hw => r_fa25_0 g4 0 rfl rfl) (hm6.at 1 rfl) ?_
 simp only [nz]
 refine Sym.take_at 5 10 (dv0) rfl rfl (by kernel_rfl) (by kernel_rfl) (by kernel_rfl) (fun _ _ _ h => h) rfl (fun _ hw => r_load hw rfl Tryd.underlying22 rfl rfl rfl) (hm6.at 1 rfl) ?_
 simp only [nz]
 refine Sym.take_at 6 11 (J (d.safe.length : Int)) rfl rfl (by kernel_rfl) (by kernel_rfl) (by kernel_rfl) (fun _ _ _ h => h) rfl (fun _ hw => s_len ((hm6.see 0 rfl).1) rfl Tryd.underlying22 rfl) (hm6.at 1 rfl) ?_
 simp only [nz]
 refine tkb 7 12 (n ≤ (d.safe.length : Int)) rfl rfl rfl (fun _ hw => z_leq n (d.safe.length : Int) rfl rfl rfl) (hm6.at 1 rfl) (fun hs9 => ?_) (fun hs9 => ?_)
 rotate_left
 ·simp only [nz]
  refine tk 8 13 (.bool false) rfl rfl (fun _ hw => run_pick rfl rfl rfl) (hm6.at 1 rfl) ?_
  simp only [nz]
  refine tk 9 14 (.bool false) rfl rfl (fun _ hw => run_mv rfl rfl) (hm6.at 1 rfl) ?_
  simp only [nz]
  refine skx 10 15 rfl rfl rfl (hm6.at 1 rfl) ?_
  simp only [nz]
  refine skx 11 16 rfl rfl rfl (hm6.at 1 rfl) ?_
  simp only [nz]
  refine skx 12 17 rfl rfl rfl (hm6.at 1 rfl) ?_
  simp only [nz]
  refine skx 13 18 rfl rfl rfl (hm6.at 1 rfl) ?_
  simp only [nz]
  refine skx 14 19 rfl rfl rfl (hm6.at 1 rfl) ?_
  simp only [nz]
  refine skx 15 20 rfl rfl rfl (hm6.at 1 rfl) ?_
  simp only [nz]
  refine skx 16 21 rfl rfl rfl (hm6.at 1 rfl) ?_
  simp only [nz]
  refine skx 17 22 rfl rfl rfl (hm6.at 1 rfl) ?_
  simp only [nz]
  refine tk 18 23 (.bool false) rfl rfl (fun _ hw => run_pickf rfl rfl rfl) (hm6.at 1 rfl) ?_
  simp only [nz]
  refine one_ready 19 (by kernel_rfl) ?_
  refine opd rfl (wanted_none rfl) (w_value 4 (.bool false) rfl (run_as rfl rfl) ⟨hm6.at 1 rfl, ?_⟩)
  simp only [nz]
  refine wpAnyH_done (by kernel_rfl) ?_ _
  refine tj (hK5 _ _ (wp_ret ?_))
  have he17 : rfits_m d n = false := by unfold rfits_m; rw [if_pos hs8, if_neg hs9] <;> rfl
  exact ⟨rfl, .bool false, res_t rfl rfl, ⟨by (rw [he17]; try rfl), hm6.below⟩⟩
 simp only [nz]
 refine tk 8 13 (.bool true) rfl rfl (fun _ hw => run_pick rfl rfl rfl) (hm6.at 1 rfl) ?_
 simp only [nz]
 refine tk 9 14 (.bool true) rfl rfl (fun _ hw => run_mv rfl rfl) (hm6.at 1 rfl) ?_
 simp only [nz]
 refine Sym.take_at 10 15 (J (n)) rfl rfl (by kernel_rfl) (by kernel_rfl) (by kernel_rfl) (fun _ _ _ h => h) rfl (fun _ hw => run_mv rfl rfl) (hm6.at 1 rfl) ?_
 simp only [nz]
 refine Sym.take_at 12 17 (J (n)) rfl rfl (by kernel_rfl) (by kernel_rfl) (by kernel_rfl) (fun _ _ _ h => h) rfl (fun _ hw => run_mv rfl rfl) (hm6.at 1 rfl) ?_
 simp only [nz]
 refine Sym.take_at 15 20 (.agg #[dv0, dv1, J (d.fuse), .bool (d.down)]) rfl rfl (by kernel_rfl) (by kernel_rfl) (by kernel_rfl) (fun _ _ _ h => h) rfl (fun _ hw => r_whole hw Tryd.underlying25 rfl (by exact sz_25) rfl rfl) (hm6.at 1 rfl) ?_
 simp only [nz]
 refine one_ready 11 (by kernel_rfl) ?_
 refine opd rfl rfl (m_call hm6 16 (J ((rlists_m n))) rfl (run_rlists rfl rfl) (rlists_any n  _  (by omega) (by omega)) (fun w10 hm11 => ?_))
 have hf12 : (rlists_m n) = (n + 60) / 61 := rlists_is n
 refine ⟨hm11.at 1 rfl, ?_⟩
 simp only [nz]
 refine Sym.take_at 13 18 (J (((rlists_m n) + n))) rfl rfl (by kernel_rfl) (by kernel_rfl) (by kernel_rfl) (fun _ _ _ h => h) rfl (fun _ hw => z_add (rlists_m n) n _ (by rw [IntKind.wrap_i64]; omega) rfl rfl rfl) (hm11.at 1 rfl) ?_
 simp only [nz]
 refine Sym.take_at 14 19 (J ((((rlists_m n) + n) + (2 : Int)))) rfl rfl (by kernel_rfl) (by kernel_rfl) (by kernel_rfl) (fun _ _ _ h => h) rfl (fun _ hw => z_add ((rlists_m n) + n) (2 : Int) _ (by rw [IntKind.wrap_i64]; omega) rfl rfl rfl) (hm11.at 1 rfl) ?_
 simp only [nz]
 refine one_ready 16 (by kernel_rfl) ?_
 refine opd rfl rfl (m_call hm11 21 (J ((rlog_m d))) rfl (run_rlog rfl rfl) (rlog_any d dv0 dv1 _ (hm11.see 0 rfl) (by omega) (by omega)) (fun w13 hm14 => ?_))
 have hf15 : (rlog_m d) = (((d.safe.length / 4 : Nat)) : Int) := rlog_len d
 refine ⟨hm14.at 1 rfl, ?_⟩
 simp only [nz]
 refine Sym.take_at 17 22 (.bool (decide ((((rlists_m n) + n) + (2 : Int)) ≤ (rlog_m d)))) rfl rfl (by kernel_rfl) (by kernel_rfl) (by kernel_rfl) (fun _ _ _ h => h) rfl (fun _ hw => z_leq (((rlists_m n) + n) + (2 : Int)) (rlog_m d) rfl rfl rfl) (hm14.at 1 rfl) ?_
 simp only [nz]
 refine tk 18 23 (.bool (decide ((((rlists_m n) + n) + (2 : Int)) ≤ (rlog_m d)))) rfl rfl (fun _ hw => run_pick rfl rfl rfl) (hm14.at 1 rfl) ?_
 simp only [nz]
 refine one_ready 19 (by kernel_rfl) ?_
 refine opd rfl (wanted_none rfl) (w_value 4 (.bool (decide ((((rlists_m n) + n) + (2 : Int)) ≤ (rlog_m d)))) rfl (run_as rfl rfl) ⟨hm14.at 1 rfl, ?_⟩)
 simp only [nz]
 refine wpAnyH_done (by kernel_rfl) ?_ _
 refine tj (hK5 _ _ (wp_ret ?_))
 have he16 : rfits_m d n = (decide ((((rlists_m n) + n) + (2 : Int)) ≤ (rlog_m d))) := by unfold rfits_m; rw [if_pos hs8, if_pos hs9] <;> rfl
 exact ⟨rfl, .bool (decide ((((rlists_m n) + n) + (2 : Int)) ≤ (rlog_m d))), res_t rfl rfl, ⟨by (rw [he16]; try rfl), hm14.below⟩⟩
theorem run_rfits {o : Oper} {a : Act} {w : World} {x0 x1 : Operand} {v0 v1 : Value} (ho : o.op = .call { callee := .value (.func 16), args := #[x0, x1], argTypes := #[25, 3] }) (h0 : a.eval x0 = v0) (h1 : a.eval x1 = v1) :
  (execOp a.eval o).run Tryd.prog w = .ok (.enter 16 #[v0, v1]) w := by
 unfold execOp
 simp only [ho]
 have hf : a.eval (.func 16) = .func (.func 16) #[] #[] := rfl
 generalize a.eval = f at *
 go_simp
def repoch_m (d : Dk) : Int × Bool :=
 if ¬ (rget_m d 0).2 = 0 then
  (0, false)
 else
  if ¬ (((rget_m d 0).1).take 4) = [72, 76, 79, 71] then
   (0, false)
  else
   if 1 ≤ (rread_m ((((rget_m d 0).1).take 12).drop 4)) then
    ((rread_m ((((rget_m d 0).1).take 12).drop 4)), (decide ((rget_m d 0).1 = (rhead_m (rread_m ((((rget_m d 0).1).take 12).drop 4))))))
   else
    ((rread_m ((((rget_m d 0).1).take 12).drop 4)), false)
theorem repoch_any (d : Dk) (dv0 : Value) (dv1 : Value) (w : World) (hd : DkR d dv0 dv1 w) (hp0 : d.safe.length ≤ 8796093022208) (hp1 : d.loose.length ≤ 5864070000000) : Calls Tryd.prog 9 #[.agg #[dv0, dv1, J (d.fuse), .bool (d.down)]] w (fun e w' => e = .returned (.tuple #[J ((repoch_m d).1), .bool ((repoch_m d).2)]) ∧ Below w.heap.size w w') := by
 go_enter Tryd.func9, Tryd.ntmps9
 have hm00 := Mm.nil none (fun _ => True) w
 obtain ⟨Fd, hm01⟩ : ∃ Fd, Mm none (fun _ => True) w w [.see (DkR d dv0 dv1) Fd] := hm00.come (DkR_all hd)
 have hm0 := hm01
 refine wk (fun K1 hK1 => (wq ?_))
 refine lst rfl (m_alloc (c := #[dv0, dv1, J (d.fuse), .bool (d.down)]) (T := 25) hm0 1 rfl (run_box rfl rfl) (fun g4 w2 hm3 => ?_))
 simp only [nz]
 refine la 2 (J 0) ?_
 refine la 3 (.bool false) ?_
 simp only [nz]
 refine wn (tj (hK1 _ _ (wk (fun K5 hK5 => (wq ?_)))))
 refine lw 8 (.agg #[dv0, dv1, J (d.fuse), .bool (d.down)]) (r_whole (hm3.at 1 rfl) Tryd.underlying25 rfl (by exact sz_25) rfl rfl) ?_
 simp only [nz]
 refine lst rfl (m_call hm3 9 (.tuple #[.string (tx ((rget_m d 0).1)), J ((rget_m d 0).2)]) rfl (run_rget rfl rfl rfl) (rget_any d 0 dv0 dv1 _ (hm3.see 0 rfl) (by omega) (by omega)) (fun w6 hm7 => ?_))
 have hf8 : ¬ (rget_m d 0).2 = 0 ∨ (rget_m d 0).1.length = 256 := rget_len d 0
 simp only [nz]
 refine lm 7 (.tuple #[.string (tx ((rget_m d 0).1)), J ((rget_m d 0).2)]) ?_
 refine lw 10 (.string (tx ((rget_m d 0).1))) (run_ex rfl rfl rfl) ?_
 refine lw 11 (J ((rget_m d 0).2)) (run_ex rfl rfl rfl) ?_
 simp only [nz]
 refine la 4 (.string (tx ((rget_m d 0).1))) ?_
 refine la 5 (J ((rget_m d 0).2)) ?_
 simp only [nz]
 refine wn (tj (hK5 _ _ (wk (fun K9 hK9 => (wk (fun K10 hK10 => (wq ?_)))))))
 refine lm 12 (J ((rget_m d 0).2)) ?_
 simp only [nz]
 refine lvb 13 (¬ (rget_m d 0).2 = 0) rfl rfl (z_neq ((rget_m d 0).2) 0 rfl rfl rfl) (fun hs11 => ?_) (fun hs11 => ?_)
 ·simp only [nz]
  refine lm 14 (.bool true) ?_
  simp only [nz]
  refine lst_skip 15 rfl rfl ?_
  simp only [nz]
  refine lst_skip 16 rfl rfl ?_
  simp only [nz]
  refine lst_skip 17 rfl rfl ?_
  simp only [nz]
  refine lw 18 (.bool true) (run_pick rfl rfl rfl) ?_
  simp only [nz]
  refine wn (tj (hK10 _ _ ?_))
  refine cond_t rfl ?_
  refine wk (fun K12 hK12 => (wq ?_))
  refine la 2 (J 0) ?_
  refine la 3 (.bool false) ?_
  simp only [nz]
  refine wn (tj (hK12 _ _ (wp_ret (then_r ?_))))
  have he13 : repoch_m d = (0, false) := by unfold repoch_m; rw [if_pos hs11] <;> rfl
  exact ⟨rfl, .tuple #[J 0, .bool false], res_tt rfl rfl rfl, ⟨by (rw [he13]; try rfl), hm7.below⟩⟩
 simp only [nz]
 refine lm 14 (.bool false) ?_
 refine lm 15 (.string (tx ((rget_m d 0).1))) ?_
 refine lw 16 (.string (tx (((rget_m d 0).1).take 4))) (t_to ((rget_m d 0).1) 4 (by omega) Tryd.underlying9 rfl rfl rfl) ?_
 simp only [nz]
 refine lw 17 (.bool (decide (¬ (((rget_m d 0).1).take 4) = [72, 76, 79, 71]))) (t_neq (((rget_m d 0).1).take 4) ([72, 76, 79, 71]) rfl rfl rfl) ?_
 refine lw 18 (.bool (decide (¬ (((rget_m d 0).1).take 4) = [72, 76, 79, 71]))) (run_pickf rfl rfl rfl) ?_
 simp only [nz]
 refine wn (tj (hK10 _ _ ?_))
 refine cond_d (¬ (((rget_m d 0).1).take 4) = [72, 76, 79, 71]) rfl (fun hc14 => ?_) (fun hc14 => ?_)
 ·refine wk (fun K15 hK15 => (wq ?_))
  refine la 2 (J 0) ?_
  refine la 3 (.bool false) ?_
  simp only [nz]
  refine wn (tj (hK15 _ _ (wp_ret (then_r ?_))))
  have he16 : repoch_m d = (0, false) := by unfold repoch_m; rw [if_neg hs11, if_pos hc14] <;> rfl
  exact ⟨rfl, .tuple #[J 0, .bool false], res_tt rfl rfl rfl, ⟨by (rw [he16]; try rfl), hm7.below⟩⟩
 refine wp_skip (tj (hK9 _ _ (wk (fun K17 hK17 => (wq ?_)))))
 refine lm 19 (.string (tx ((rget_m d 0).1))) ?_
 refine lw 20 (.string (tx ((((rget_m d 0).1).take 12).drop 4))) (t_cut ((rget_m d 0).1) 4 12 (by omega) (by omega) Tryd.underlying9 rfl rfl rfl rfl) ?_
 simp only [nz]
 refine lst rfl (m_call hm7 21 (J ((rread_m ((((rget_m d 0).1).take 12).drop 4)))) rfl (run_rread rfl rfl) (rread_any ((((rget_m d 0).1).take 12).drop 4)  _  (by rw [List.length_drop, List.length_take]; omega)) (fun w18 hm19 => ?_))
 simp only [nz]
 refine la 6 (J ((rread_m ((((rget_m d 0).1).take 12).drop 4)))) ?_
 simp only [nz]
 refine wn (tj (hK17 _ _ (wk (fun K20 hK20 => (wq ?_)))))
 refine lm 22 (J ((rread_m ((((rget_m d 0).1).take 12).drop 4)))) ?_
 refine lm 23 (J ((rread_m ((((rget_m d 0).1).take 12).drop 4)))) ?_
 simp only [nz]
 refine lvb 24 (1 ≤ (rread_m ((((rget_m d 0).1).take 12).drop 4))) rfl rfl (z_geq (rread_m ((((rget_m d 0).1).take 12).drop 4)) 1 rfl rfl rfl) (fun hs21 => ?_) (fun hs21 => ?_)
 ·simp only [nz]
  refine lm 25 (.bool true) ?_
  refine lm 26 (.string (tx ((rget_m d 0).1))) ?_
  refine lm 27 (J ((rread_m ((((rget_m d 0).1).take 12).drop 4)))) ?_
  simp only [nz]
  refine lst rfl (m_call hm19 28 (.string (tx (rhead_m (rread_m ((((rget_m d 0).1).take 12).drop 4))))) rfl (run_rhead rfl rfl) (rhead_any (rread_m ((((rget_m d 0).1).take 12).drop 4))  _  ) (fun w22 hm23 => ?_))
  simp only [nz]
  refine lw 29 (.bool (decide ((rget_m d 0).1 = (rhead_m (rread_m ((((rget_m d 0).1).take 12).drop 4)))))) (t_eql ((rget_m d 0).1) (rhead_m (rread_m ((((rget_m d 0).1).take 12).drop 4))) rfl rfl rfl) ?_
  refine lw 30 (.bool (decide ((rget_m d 0).1 = (rhead_m (rread_m ((((rget_m d 0).1).take 12).drop 4)))))) (run_pick rfl rfl rfl) ?_
  refine la 2 (J ((rread_m ((((rget_m d 0).1).take 12).drop 4)))) ?_
  simp only [nz]
  refine la 3 (.bool (decide ((rget_m d 0).1 = (rhead_m (rread_m ((((rget_m d 0).1).take 12).drop 4)))))) ?_
  simp only [nz]
  refine wn (tj (hK20 _ _ (wp_ret ?_)))
  have he24 : repoch_m d = ((rread_m ((((rget_m d 0).1).take 12).drop 4)), (decide ((rget_m d 0).1 = (rhead_m (rread_m ((((rget_m d 0).1).take 12).drop 4)))))) := by unfold repoch_m; rw [if_neg hs11, if_neg hc14, if_pos hs21] <;> rfl
  exact ⟨rfl, .tuple #[J ((rread_m ((((rget_m d 0).1).take 12).drop 4))), .bool (decide ((rget_m d 0).1 = (rhead_m (rread_m ((((rget_m d 0).1).take 12).drop 4)))))], res_tt rfl rfl rfl, ⟨by (rw [he24]; try rfl), hm23.below⟩⟩
 simp only [nz]
 refine lm 25 (.bool false) ?_
 simp only [nz]
 refine lst_skip 26 rfl rfl ?_
 simp only [nz]
 refine lst_skip 27 rfl rfl ?_
 simp only [nz]
 refine lst_skip 28 rfl rfl ?_
 simp only [nz]
 refine lst_skip 29 rfl rfl ?_
 simp only [nz]
 refine lw 30 (.bool false) (run_pickf rfl rfl rfl) ?_
 refine la 2 (J ((rread_m ((((rget_m d 0).1).take 12).drop 4)))) ?_
 refine la 3 (.bool false) ?_
 simp only [nz]
 refine wn (tj (hK20 _ _ (wp_ret ?_)))
 have he25 : repoch_m d = ((rread_m ((((rget_m d 0).1).take 12).drop 4)), false) := by unfold repoch_m; rw [if_neg hs11, if_neg hc14, if_neg hs21] <;> rfl
 exact ⟨rfl, .tuple #[J ((rread_m ((((rget_m d 0).1).take 12).drop 4))), .bool false], res_tt rfl rfl rfl, ⟨by (rw [he25]; try rfl), hm19.below⟩⟩
theorem run_repoch {o : Oper} {a : Act} {w : World} {x0 : Operand} {v0 : Value} (ho : o.op = .call { callee := .value (.func 9), args := #[x0], argTypes := #[25] }) (h0 : a.eval x0 = v0) :
  (execOp a.eval o).run Tryd.prog w = .ok (.enter 9 #[v0]) w := by
 unfold execOp
 simp only [ho]
 have hf : a.eval (.func 9) = .func (.func 9) #[] #[] := rfl
 generalize a.eval = f at *
 go_simp
end Go.Proofs.YtnmaaijeamlplaaDoor.Bk
namespace Go.Proofs.YtnmaaijeamlplaaDoor.Bk
open Go.RowKit Go.Proofs.YtnmaaijeamlplaaDoor.Mem
theorem rhead_is (n : Int) : rhead_m n = beginning_m n := by
 have h := number_len n 8 (by decide) (by decide)
 unfold rhead_m beginning_m
 rw [eight_is, rfull_is _ (by rw [List.length_append]; simp only [List.length_cons, List.length_nil]; omega)]
theorem rfew_of {d : Dk} (h : ¬ (!(rright_m d)) = true) : d.safe.length ≤ 2048 := few_of (by rwa [rright_eq] at h)
theorem reight_of {d : Dk} (h : ¬ (!(rright_m d)) = true) : 8 ≤ d.safe.length := eight_of (by rwa [rright_eq] at h)
theorem rhead_len (n : Int) : (rhead_m n).length = 256 := by rw [rhead_is]; exact beginning_len n
theorem rlists_eq (n : Int) : rlists_m n = lists_m n := (rlists_is n).trans (lists_is n).symm
theorem rfits_eq (d : Dk) (n : Int) : rfits_m d n = fits_m d n := by
 unfold rfits_m fits_m
 rw [rlists_eq, rlog_is]
theorem repoch_eq (d : Dk) : repoch_m d = epoch_m d := by
 unfold repoch_m epoch_m
 rw [← get_eq, rread_is, rhead_is]
end Go.Proofs.YtnmaaijeamlplaaDoor.Bk
