import Derived.Test.YtnmaaijeamlplaaDoorReH
set_option linter.unusedVariables false
set_option linter.unusedSimpArgs false
set_option maxHeartbeats 4000000
set_option maxRecDepth 100000
namespace Go.Proofs.YtnmaaijeamlplaaDoor.Bk
open Go.RowKit
open Go.Proofs.YtnmaaijeamlplaaDoor.Sym Go.Proofs.YtnmaaijeamlplaaDoor.Mem
open Go.Proofs.YtnmaaijeamlplaaDoor.Sx hiding Mm m_alloc m_store m_call m_callx
attribute [local irreducible] right_m rright_m ready_m rready_m copied_m burn_m put_m get_m flush_m spent_m rput_m rget_m rflush_m blank_m rnew_m same_m
attribute [local irreducible] number_m value_m fill_m beginning_m log_m fits_m lists_m epoch_m
attribute [local irreducible] home_m putall_m
attribute [local irreducible] putfl_m body_m rise_m sized_m current_m join_m sum_m
attribute [local irreducible] format_m rend_m bring_m
attribute [local irreducible] commit_m
attribute [local irreducible] wpList Oper.wp
def ended_m (d : Dk) (epoch : Int) (s : List UInt8) : Int :=
 if (!(hpre_m s ([68, 79, 78, 69] ++ (number_m epoch 8)))) = true then
  0
 else
  if ¬ (((0 : Int) ≤ (value_m ((s.take (((([68, 79, 78, 69] ++ (number_m epoch 8)) : List UInt8).length) + 4)).drop ((([68, 79, 78, 69] ++ (number_m epoch 8)) : List UInt8).length))) ∧ ((value_m ((s.take (((([68, 79, 78, 69] ++ (number_m epoch 8)) : List UInt8).length) + 4)).drop ((([68, 79, 78, 69] ++ (number_m epoch 8)) : List UInt8).length))) : Int) ≤ (((d.safe).length : Nat) : Int) ∧ (((value_m ((s.take (((([68, 79, 78, 69] ++ (number_m epoch 8)) : List UInt8).length) + 4)).drop ((([68, 79, 78, 69] ++ (number_m epoch 8)) : List UInt8).length))) : Int) + 60) / 61 + (value_m ((s.take (((([68, 79, 78, 69] ++ (number_m epoch 8)) : List UInt8).length) + 4)).drop ((([68, 79, 78, 69] ++ (number_m epoch 8)) : List UInt8).length))) + 2 ≤ (((((d.safe).length / 4 : Nat)) : Int)))) then
   0
  else
   (value_m ((s.take (((([68, 79, 78, 69] ++ (number_m epoch 8)) : List UInt8).length) + 4)).drop ((([68, 79, 78, 69] ++ (number_m epoch 8)) : List UInt8).length)))
theorem ended_any (d : Dk) (epoch : Int) (s : List UInt8) (dv0 : Value) (dv1 : Value) (w : World) (hd : DkR d dv0 dv1 w) (hp0 : d.safe.length ≤ 8796093022208) (hp1 : d.loose.length ≤ 5864070000000) (hp2 : s.length = 256) : Calls Tryd.prog 54 #[.agg #[dv0, dv1, J (d.fuse), .bool (d.down)], J (epoch), .string (tx s)] w (fun e w' => e = .returned (J ((ended_m d epoch s))) ∧ Below w.heap.size w w') := by
 go_enter Tryd.func54, Tryd.ntmps54
 have hm00 := Mm.nil none (fun _ => True) w
 obtain ⟨Fd, hm01⟩ : ∃ Fd, Mm none (fun _ => True) w w [.see (DkR d dv0 dv1) Fd] := hm00.come (DkR_all hd)
 have hm0 := hm01
 refine wk (fun K1 hK1 => (wq ?_))
 refine lst rfl (m_alloc (c := #[dv0, dv1, J (d.fuse), .bool (d.down)]) (T := 25) hm0 3 rfl (run_box rfl rfl) (fun g4 w2 hm3 => ?_))
 simp only [nz]
 refine la 6 (J 0) ?_
 simp only [nz]
 refine wn (tj (hK1 _ _ (wk (fun K5 hK5 => (wq ?_)))))
 refine lm 9 (J (epoch)) ?_
 simp only [nz]
 refine lst rfl (m_call hm3 10 (.string (tx (number_m epoch 8))) rfl (run_number rfl rfl rfl) (number_any epoch 8  _  (by omega) (by omega)) (fun w6 hm7 => ?_))
 have hf8 : (((number_m epoch 8).length : Nat) : Int) = 8 := number_len epoch 8 (by omega) (by omega)
 simp only [nz]
 refine lw 11 (.string (tx ([68, 79, 78, 69] ++ (number_m epoch 8)))) (t_cat ([68, 79, 78, 69]) (number_m epoch 8) (by simp; omega) rfl rfl rfl) ?_
 refine la 7 (.string (tx ([68, 79, 78, 69] ++ (number_m epoch 8)))) ?_
 simp only [nz]
 refine wn (tj (hK5 _ _ (wk (fun K9 hK9 => (wk (fun K10 hK10 => (wq ?_)))))))
 refine lm 12 (.string (tx s)) ?_
 refine lm 13 (.string (tx ([68, 79, 78, 69] ++ (number_m epoch 8)))) ?_
 simp only [nz]
 refine lst rfl (m_call hm7 14 (.bool ((hpre_m s ([68, 79, 78, 69] ++ (number_m epoch 8))))) rfl (run_hpre rfl rfl rfl) (hpre_any s ([68, 79, 78, 69] ++ (number_m epoch 8))  _  ) (fun w11 hm12 => ?_))
 simp only [nz]
 refine lw 15 (.bool (!(hpre_m s ([68, 79, 78, 69] ++ (number_m epoch 8))))) (r_not (hpre_m s ([68, 79, 78, 69] ++ (number_m epoch 8))) rfl rfl) ?_
 simp only [nz]
 refine wn (tj (hK10 _ _ ?_))
 refine cond_B (!(hpre_m s ([68, 79, 78, 69] ++ (number_m epoch 8)))) rfl (fun hc13 => ?_) (fun hc13 => ?_)
 ·refine wk (fun K14 hK14 => (wq ?_))
  refine la 6 (J 0) ?_
  simp only [nz]
  refine wn (tj (hK14 _ _ (wp_ret (then_r ?_))))
  have he15 : ended_m d epoch s = 0 := by unfold ended_m; rw [if_pos hc13] <;> rfl
  exact ⟨rfl, J 0, res_t rfl rfl, ⟨by (rw [he15]; try rfl), hm12.below⟩⟩
 refine wp_skip (tj (hK9 _ _ (wk (fun K16 hK16 => (wq ?_)))))
 refine lm 16 (.string (tx s)) ?_
 refine lm 17 (.string (tx ([68, 79, 78, 69] ++ (number_m epoch 8)))) ?_
 refine lw 18 (J (((([68, 79, 78, 69] ++ (number_m epoch 8)) : List UInt8).length : Nat) : Int)) (t_len rfl Tryd.underlying9 rfl) ?_
 simp only [nz]
 refine lm 19 (.string (tx ([68, 79, 78, 69] ++ (number_m epoch 8)))) ?_
 refine lw 20 (J (((([68, 79, 78, 69] ++ (number_m epoch 8)) : List UInt8).length : Nat) : Int)) (t_len rfl Tryd.underlying9 rfl) ?_
 refine lw 21 (J (((((([68, 79, 78, 69] ++ (number_m epoch 8)) : List UInt8).length) + 4) : Nat) : Int)) (r_add ((([68, 79, 78, 69] ++ (number_m epoch 8)) : List UInt8).length) 4 (by show _ < 9223372036854775808; simp only [List.length_append, List.length_cons, List.length_nil]; omega) rfl rfl rfl) ?_
 simp only [nz]
 refine lw 22 (.string (tx ((s.take (((([68, 79, 78, 69] ++ (number_m epoch 8)) : List UInt8).length) + 4)).drop ((([68, 79, 78, 69] ++ (number_m epoch 8)) : List UInt8).length)))) (t_cut s ((([68, 79, 78, 69] ++ (number_m epoch 8)) : List UInt8).length) (((([68, 79, 78, 69] ++ (number_m epoch 8)) : List UInt8).length) + 4) (by simp only [List.length_append, List.length_cons, List.length_nil]; omega) (by simp only [List.length_append, List.length_cons, List.length_nil]; omega) Tryd.underlying9 rfl rfl rfl rfl) ?_
 simp only [nz]
 refine lst rfl (m_call hm12 23 (J ((value_m ((s.take (((([68, 79, 78, 69] ++ (number_m epoch 8)) : List UInt8).length) + 4)).drop ((([68, 79, 78, 69] ++ (number_m epoch 8)) : List UInt8).length))))) rfl (run_value rfl rfl) (value_any ((s.take (((([68, 79, 78, 69] ++ (number_m epoch 8)) : List UInt8).length) + 4)).drop ((([68, 79, 78, 69] ++ (number_m epoch 8)) : List UInt8).length))  _  (by rw [List.length_drop, List.length_take]; omega)) (fun w17 hm18 => ?_))
 simp only [nz]
 refine la 8 (J ((value_m ((s.take (((([68, 79, 78, 69] ++ (number_m epoch 8)) : List UInt8).length) + 4)).drop ((([68, 79, 78, 69] ++ (number_m epoch 8)) : List UInt8).length))))) ?_
 simp only [nz]
 refine wn (tj (hK16 _ _ (wk (fun K19 hK19 => (wk (fun K20 hK20 => (wq ?_)))))))
 refine lw 24 (.agg #[dv0, dv1, J (d.fuse), .bool (d.down)]) (r_whole (hm18.at 1 rfl) Tryd.underlying25 rfl (by exact sz_25) rfl rfl) ?_
 refine lm 25 (J ((value_m ((s.take (((([68, 79, 78, 69] ++ (number_m epoch 8)) : List UInt8).length) + 4)).drop ((([68, 79, 78, 69] ++ (number_m epoch 8)) : List UInt8).length))))) ?_
 simp only [nz]
 refine lst rfl (m_call hm18 26 (.bool (decide (((0 : Int) ≤ (value_m ((s.take (((([68, 79, 78, 69] ++ (number_m epoch 8)) : List UInt8).length) + 4)).drop ((([68, 79, 78, 69] ++ (number_m epoch 8)) : List UInt8).length))) ∧ ((value_m ((s.take (((([68, 79, 78, 69] ++ (number_m epoch 8)) : List UInt8).length) + 4)).drop ((([68, 79, 78, 69] ++ (number_m epoch 8)) : List UInt8).length))) : Int) ≤ (((d.safe).length : Nat) : Int) ∧ (((value_m ((s.take (((([68, 79, 78, 69] ++ (number_m epoch 8)) : List UInt8).length) + 4)).drop ((([68, 79, 78, 69] ++ (number_m epoch 8)) : List UInt8).length))) : Int) + 60) / 61 + (value_m ((s.take (((([68, 79, 78, 69] ++ (number_m epoch 8)) : List UInt8).length) + 4)).drop ((([68, 79, 78, 69] ++ (number_m epoch 8)) : List UInt8).length))) + 2 ≤ (((((d.safe).length / 4 : Nat)) : Int)))))) rfl (run_fits rfl rfl rfl) (fitsd_any d (value_m ((s.take (((([68, 79, 78, 69] ++ (number_m epoch 8)) : List UInt8).length) + 4)).drop ((([68, 79, 78, 69] ++ (number_m epoch 8)) : List UInt8).length))) dv0 dv1 _ (hm18.see 0 rfl) (by omega) (by omega)) (fun w21 hm22 => ?_))
 simp only [nz]
 refine lw 27 (.bool (decide (¬ (((0 : Int) ≤ (value_m ((s.take (((([68, 79, 78, 69] ++ (number_m epoch 8)) : List UInt8).length) + 4)).drop ((([68, 79, 78, 69] ++ (number_m epoch 8)) : List UInt8).length))) ∧ ((value_m ((s.take (((([68, 79, 78, 69] ++ (number_m epoch 8)) : List UInt8).length) + 4)).drop ((([68, 79, 78, 69] ++ (number_m epoch 8)) : List UInt8).length))) : Int) ≤ (((d.safe).length : Nat) : Int) ∧ (((value_m ((s.take (((([68, 79, 78, 69] ++ (number_m epoch 8)) : List UInt8).length) + 4)).drop ((([68, 79, 78, 69] ++ (number_m epoch 8)) : List UInt8).length))) : Int) + 60) / 61 + (value_m ((s.take (((([68, 79, 78, 69] ++ (number_m epoch 8)) : List UInt8).length) + 4)).drop ((([68, 79, 78, 69] ++ (number_m epoch 8)) : List UInt8).length))) + 2 ≤ (((((d.safe).length / 4 : Nat)) : Int))))))) (r_notD (((0 : Int) ≤ (value_m ((s.take (((([68, 79, 78, 69] ++ (number_m epoch 8)) : List UInt8).length) + 4)).drop ((([68, 79, 78, 69] ++ (number_m epoch 8)) : List UInt8).length))) ∧ ((value_m ((s.take (((([68, 79, 78, 69] ++ (number_m epoch 8)) : List UInt8).length) + 4)).drop ((([68, 79, 78, 69] ++ (number_m epoch 8)) : List UInt8).length))) : Int) ≤ (((d.safe).length : Nat) : Int) ∧ (((value_m ((s.take (((([68, 79, 78, 69] ++ (number_m epoch 8)) : List UInt8).length) + 4)).drop ((([68, 79, 78, 69] ++ (number_m epoch 8)) : List UInt8).length))) : Int) + 60) / 61 + (value_m ((s.take (((([68, 79, 78, 69] ++ (number_m epoch 8)) : List UInt8).length) + 4)).drop ((([68, 79, 78, 69] ++ (number_m epoch 8)) : List UInt8).length))) + 2 ≤ (((((d.safe).length / 4 : Nat)) : Int)))) rfl rfl) ?_
 simp only [nz]
 refine wn (tj (hK20 _ _ ?_))
 refine cond_d (¬ (((0 : Int) ≤ (value_m ((s.take (((([68, 79, 78, 69] ++ (number_m epoch 8)) : List UInt8).length) + 4)).drop ((([68, 79, 78, 69] ++ (number_m epoch 8)) : List UInt8).length))) ∧ ((value_m ((s.take (((([68, 79, 78, 69] ++ (number_m epoch 8)) : List UInt8).length) + 4)).drop ((([68, 79, 78, 69] ++ (number_m epoch 8)) : List UInt8).length))) : Int) ≤ (((d.safe).length : Nat) : Int) ∧ (((value_m ((s.take (((([68, 79, 78, 69] ++ (number_m epoch 8)) : List UInt8).length) + 4)).drop ((([68, 79, 78, 69] ++ (number_m epoch 8)) : List UInt8).length))) : Int) + 60) / 61 + (value_m ((s.take (((([68, 79, 78, 69] ++ (number_m epoch 8)) : List UInt8).length) + 4)).drop ((([68, 79, 78, 69] ++ (number_m epoch 8)) : List UInt8).length))) + 2 ≤ (((((d.safe).length / 4 : Nat)) : Int))))) rfl (fun hc23 => ?_) (fun hc23 => ?_)
 ·refine wk (fun K24 hK24 => (wq ?_))
  refine la 6 (J 0) ?_
  simp only [nz]
  refine wn (tj (hK24 _ _ (wp_ret (then_r ?_))))
  have he25 : ended_m d epoch s = 0 := by unfold ended_m; rw [if_neg hc13, if_pos hc23] <;> rfl
  exact ⟨rfl, J 0, res_t rfl rfl, ⟨by (rw [he25]; try rfl), hm22.below⟩⟩
 refine wp_skip (tj (hK19 _ _ (wk (fun K26 hK26 => (wq ?_)))))
 refine lm 28 (J ((value_m ((s.take (((([68, 79, 78, 69] ++ (number_m epoch 8)) : List UInt8).length) + 4)).drop ((([68, 79, 78, 69] ++ (number_m epoch 8)) : List UInt8).length))))) ?_
 refine la 6 (J ((value_m ((s.take (((([68, 79, 78, 69] ++ (number_m epoch 8)) : List UInt8).length) + 4)).drop ((([68, 79, 78, 69] ++ (number_m epoch 8)) : List UInt8).length))))) ?_
 simp only [nz]
 refine wn (tj (hK26 _ _ (wp_ret ?_)))
 have he27 : ended_m d epoch s = (value_m ((s.take (((([68, 79, 78, 69] ++ (number_m epoch 8)) : List UInt8).length) + 4)).drop ((([68, 79, 78, 69] ++ (number_m epoch 8)) : List UInt8).length))) := by unfold ended_m; rw [if_neg hc13, if_neg hc23] <;> rfl
 exact ⟨rfl, J ((value_m ((s.take (((([68, 79, 78, 69] ++ (number_m epoch 8)) : List UInt8).length) + 4)).drop ((([68, 79, 78, 69] ++ (number_m epoch 8)) : List UInt8).length)))), res_t rfl rfl, ⟨by (rw [he27]; try rfl), hm22.below⟩⟩
theorem run_ended {o : Oper} {a : Act} {w : World} {x0 x1 x2 : Operand} {v0 v1 v2 : Value} (ho : o.op = .call { callee := .value (.func 54), args := #[x0, x1, x2], argTypes := #[25, 3, 9] }) (h0 : a.eval x0 = v0) (h1 : a.eval x1 = v1) (h2 : a.eval x2 = v2) :
  (execOp a.eval o).run Tryd.prog w = .ok (.enter 54 #[v0, v1, v2]) w := by
 unfold execOp
 simp only [ho]
 have hf : a.eval (.func 54) = .func (.func 54) #[] #[] := rfl
 generalize a.eval = f at *
 go_simp
def readbody_m_b0 (d : Dk) (n : Int) (rec : (List (List UInt8)) × Nat → Sum ((List (List UInt8)) × Nat) ((List (List UInt8)) × Int)) (l13 : List (List UInt8)) (x15 : Nat) : Sum ((List (List UInt8)) × Nat) ((List (List UInt8)) × Int) :=
 if ((x15 : Nat) : Int) < ((lists_m n) + n) then
  if ¬ (get_m d (((2 + x15) : Nat) : Int)).2 = 0 then
   .inr (([] : List (List UInt8)), (get_m d (((2 + x15) : Nat) : Int)).2)
  else
   rec ((l13 ++ [((get_m d (((2 + x15) : Nat) : Int)).1)]), (x15 + 1))
 else
  .inl (l13, x15)
def readbody_m_l0 (d : Dk) (n : Int) : Nat → (List (List UInt8)) × Nat → Sum ((List (List UInt8)) × Nat) ((List (List UInt8)) × Int)
 | 0, zz => .inl zz
 | nq + 1, zz => readbody_m_b0 d n (readbody_m_l0 d n nq) zz.1 zz.2
def readbody_m_k0 (d : Dk) (n : Int) (y19 : List (List UInt8)) (y21 : Nat) : (List (List UInt8)) × Int :=
 (y19, 0)
def readbody_m (d : Dk) (n : Int) : (List (List UInt8)) × Int :=
 fin (readbody_m_l0 d n ((((lists_m n) + n) - ((0 : Nat) : Int)).toNat + 1) (([] : List (List UInt8)), 0)) (fun r => r) (fun zz => readbody_m_k0 d n zz.1 zz.2)
theorem readbody_any (d : Dk) (n : Int) (dv0 : Value) (dv1 : Value) (S : Nat → Prop) (w : World) (hd : From S (DkR d dv0 dv1) w) (hp0 : d.safe.length ≤ 8796093022208) (hp1 : d.loose.length ≤ 5864070000000) (hp2 : 0 ≤ n) (hp3 : n ≤ 100000) : Calls Tryd.prog 55 #[.agg #[dv0, dv1, J (d.fuse), .bool (d.down)], J (n)] w (fun e w' => (∃ v, e = .returned v ∧ ∃ (o0 : Value), v = .tuple #[o0, J ((readbody_m d n).2)] ∧ Gives w w' S (Rs eS 1 ((readbody_m d n).1) o0)) ∧ Below w.heap.size w w') := by
 go_enter Tryd.func55, Tryd.ntmps55
 have hm00 := Mm.nil none S w
 obtain ⟨Fd, hm01⟩ := hm00.come hd
 have hm0 := hm01
 refine wk (fun K1 hK1 => (wq ?_))
 refine lst rfl (m_alloc (c := #[dv0, dv1, J (d.fuse), .bool (d.down)]) (T := 25) hm0 2 rfl (run_box rfl rfl) (fun g4 w2 hm3 => ?_))
 simp only [nz]
 refine la 4 (.slice none 0 0) ?_
 refine la 5 (J 0) ?_
 simp only [nz]
 refine wn (tj (hK1 _ _ (wk (fun K5 hK5 => (wq ?_)))))
 refine la 6 (.slice none 0 0) ?_
 simp only [nz]
 refine wn (tj (hK5 _ _ (wk (fun K6 hK6 => (wk (fun K7 hK7 => (wq ?_)))))))
 refine lm 10 (J (n)) ?_
 simp only [nz]
 refine lst rfl (m_call hm3 11 (J ((lists_m n))) rfl (run_lists rfl rfl) (lists_any n  _  (by omega) (by omega)) (fun w8 hm9 => ?_))
 have hf10 : (lists_m n) = (n + 60) / 61 := lists_is n
 simp only [nz]
 refine lm 12 (J (n)) ?_
 refine lw 13 (J (((lists_m n) + n))) (z_add (lists_m n) n _ (by rw [IntKind.wrap_i64]; omega) rfl rfl rfl) ?_
 refine lm 14 (J 0) ?_
 simp only [nz]
 refine wn (tj (hK7 _ _ ?_))
 have hm12 : Mm none S w w8 [.see (DkR d dv0 dv1) Fd, .blk g4 #[dv0, dv1, J (d.fuse), .bool (d.down)] 25, .row (.slice none 0 0) ([] : List (List UInt8)).length (([] : List (List UInt8)).flatMap eS) 9 1] := hm9.nilrow 9 1
 refine wp_cutK (fun a' w' => ∃ (y19 : List (List UInt8)) (y21 : Nat) (v20 : Value) (yu0 : Nat → Value), readbody_m_l0 d n ((((lists_m n) + n) - ((0 : Nat) : Int)).toNat + 1) (([] : List (List UInt8)), 0) = .inl (y19, y21) ∧ (y19.length ≤ y21) ∧ a' = ⟨#[.agg #[dv0, dv1, J (d.fuse), .bool (d.down)], J (n), Pp g4 0, undef, yu0 0, yu0 1, v20, yu0 2, yu0 3, yu0 4, J (n), J ((lists_m n)), J (n), J (((lists_m n) + n)), J (y21 : Int), yu0 5, yu0 6, yu0 7, yu0 8, yu0 9, yu0 10, yu0 11, yu0 12, yu0 13, yu0 14, yu0 15, yu0 16, yu0 17, yu0 18, yu0 19, yu0 20, yu0 21, undef], []⟩ ∧ Mm none S w w' [.see (DkR d dv0 dv1) Fd, .blk g4 #[dv0, dv1, J (d.fuse), .bool (d.down)] 25, .row v20 y19.length (y19.flatMap eS) 9 1]) ?_ ?_
 ·refine wp_block ?_
  refine wp_loop_n (fun n' a' w' => ∃ (n16 : Nat) (l13 : List (List UInt8)) (x15 : Nat) (v14 : Value) (u0 : Nat → Value), n' = n16 ∧ (((lists_m n) + n) - (x15 : Int)).toNat < n16 ∧ readbody_m_l0 d n ((((lists_m n) + n) - ((0 : Nat) : Int)).toNat + 1) (([] : List (List UInt8)), 0) = readbody_m_l0 d n n16 (l13, x15) ∧ (l13.length ≤ x15) ∧ a' = ⟨#[.agg #[dv0, dv1, J (d.fuse), .bool (d.down)], J (n), Pp g4 0, undef, u0 0, u0 1, v14, u0 2, u0 3, u0 4, J (n), J ((lists_m n)), J (n), J (((lists_m n) + n)), J (x15 : Int), u0 5, u0 6, u0 7, u0 8, u0 9, u0 10, u0 11, u0 12, u0 13, u0 14, u0 15, u0 16, u0 17, u0 18, u0 19, u0 20, u0 21, undef], []⟩ ∧ Mm none S w w' [.see (DkR d dv0 dv1) Fd, .blk g4 #[dv0, dv1, J (d.fuse), .bool (d.down)] 25, .row v14 l13.length (l13.flatMap eS) 9 1]) ⟨((((lists_m n) + n) - ((0 : Nat) : Int)).toNat + 1), ([] : List (List UInt8)), 0, .slice none 0 0, (fun qq => List.getD [.slice none 0 0, J 0, undef, undef, undef, undef, undef, undef, undef, undef, undef, undef, undef, undef, undef, undef, undef, undef, undef, undef, undef, undef] qq undef), rfl, Nat.lt_succ_self _, rfl, (by simp; done), rfl, hm12⟩ ?_
  rintro n16 _ w23 ⟨_, l13, x15, v14, u0, rfl, hl27, hi18, hrb, rfl, hm24⟩ R25 hR25
  obtain ⟨k17, rfl⟩ : ∃ k, n16 = k + 1 := ⟨n16 - 1, by omega⟩
  refine wk (fun K28 hK28 => (wq ?_))
  refine lw 15 (.bool (decide ((x15 : Int) < ((lists_m n) + n)))) (z_lss (x15 : Int) ((lists_m n) + n) rfl rfl rfl) ?_
  simp only [nz]
  refine wn (tj (hK28 _ _ (wk (fun K29 hK29 => ?_))))
  refine cond_d ((x15 : Int) < ((lists_m n) + n)) rfl (fun hc30 => ?_) (fun hc30 => ?_)
  rotate_left
  ·refine wp_exit (then_x (then_x (blk_x ?_)))
   refine tj ?_
   exact ⟨l13, x15, v14, (fun qq => List.getD [u0 0, u0 1, u0 2, u0 3, u0 4, .bool (decide ((x15 : Int) < ((lists_m n) + n))), u0 6, u0 7, u0 8, u0 9, u0 10, u0 11, u0 12, u0 13, u0 14, u0 15, u0 16, u0 17, u0 18, u0 19, u0 20, u0 21] qq undef), (hi18.trans (show readbody_m_b0 d n (readbody_m_l0 d n k17) l13 x15 = .inl (l13, x15) from by unfold readbody_m_b0; rw [if_neg hc30] <;> rfl)), (by omega), rfl, hm24⟩
  refine wp_skip (tj (hK29 _ _ (wk (fun K31 hK31 => ?_))))
  refine wp_block ?_
  refine wk (fun K32 hK32 => (wq ?_))
  refine lm 16 (J (x15 : Int)) ?_
  refine la 7 (J (x15 : Int)) ?_
  simp only [nz]
  refine wn (tj (hK32 _ _ (wk (fun K33 hK33 => (wq ?_)))))
  refine lw 18 (.agg #[dv0, dv1, J (d.fuse), .bool (d.down)]) (r_whole (hm24.at 1 rfl) Tryd.underlying25 rfl (by exact sz_25) rfl rfl) ?_
  refine lm 19 (J (x15 : Int)) ?_
  refine lw 20 (J (((2 + x15) : Nat) : Int)) (r_add 2 x15 (show (2 + x15) < 9223372036854775808 from by omega) rfl rfl rfl) ?_
  simp only [nz]
  refine lst rfl (m_call hm24 21 (.tuple #[.string (tx ((get_m d (((2 + x15) : Nat) : Int)).1)), J ((get_m d (((2 + x15) : Nat) : Int)).2)]) rfl (run_get rfl rfl rfl) (get_any d (((2 + x15) : Nat) : Int) dv0 dv1 _ (hm24.see 0 rfl) (by omega) (by omega)) (fun w34 hm35 => ?_))
  have hf36 : ¬ (get_m d (((2 + x15) : Nat) : Int)).2 = 0 ∨ (get_m d (((2 + x15) : Nat) : Int)).1.length = 256 := get_len d (((2 + x15) : Nat) : Int)
  simp only [nz]
  refine lm 17 (.tuple #[.string (tx ((get_m d (((2 + x15) : Nat) : Int)).1)), J ((get_m d (((2 + x15) : Nat) : Int)).2)]) ?_
  refine lw 22 (.string (tx ((get_m d (((2 + x15) : Nat) : Int)).1))) (run_ex rfl rfl rfl) ?_
  refine lw 23 (J ((get_m d (((2 + x15) : Nat) : Int)).2)) (run_ex rfl rfl rfl) ?_
  simp only [nz]
  refine la 8 (.string (tx ((get_m d (((2 + x15) : Nat) : Int)).1))) ?_
  refine la 9 (J ((get_m d (((2 + x15) : Nat) : Int)).2)) ?_
  simp only [nz]
  refine wn (tj (hK33 _ _ (wk (fun K37 hK37 => (wk (fun K38 hK38 => (wq ?_)))))))
  refine lm 24 (J ((get_m d (((2 + x15) : Nat) : Int)).2)) ?_
  refine lw 25 (.bool (decide (¬ (get_m d (((2 + x15) : Nat) : Int)).2 = 0))) (z_neq ((get_m d (((2 + x15) : Nat) : Int)).2) 0 rfl rfl rfl) ?_
  simp only [nz]
  refine wn (tj (hK38 _ _ ?_))
  refine cond_d (¬ (get_m d (((2 + x15) : Nat) : Int)).2 = 0) rfl (fun hc39 => ?_) (fun hc39 => ?_)
  ·refine wk (fun K40 hK40 => (wq ?_))
   refine lm 26 (J ((get_m d (((2 + x15) : Nat) : Int)).2)) ?_
   refine la 4 (.slice none 0 0) ?_
   refine la 5 (J ((get_m d (((2 + x15) : Nat) : Int)).2)) ?_
   simp only [nz]
   refine wn (tj (hK40 _ _ (wp_ret (then_r (blk_r (then_r (then_r (blk_r (then_r (then_r ?_))))))))))
   have he41 : readbody_m_l0 d n ((((lists_m n) + n) - ((0 : Nat) : Int)).toNat + 1) (([] : List (List UInt8)), 0) = .inr (([] : List (List UInt8)), (get_m d (((2 + x15) : Nat) : Int)).2) := (hi18.trans (show readbody_m_b0 d n (readbody_m_l0 d n k17) l13 x15 = .inr (([] : List (List UInt8)), (get_m d (((2 + x15) : Nat) : Int)).2) from by unfold readbody_m_b0; rw [if_pos hc30, if_pos hc39] <;> rfl))
   have he42 : readbody_m d n = (([] : List (List UInt8)), (get_m d (((2 + x15) : Nat) : Int)).2) := by unfold readbody_m; rw [he41] <;> rfl
   exact ⟨rfl, .tuple #[.slice none 0 0, J ((get_m d (((2 + x15) : Nat) : Int)).2)], res_tt rfl rfl rfl, ⟨⟨_, rfl, (.slice none 0 0), (by rw [he42]), by rw [he42]; exact hm35.give (From.pure (fun W => Rs.nil eS 1 W))⟩, hm35.below⟩⟩
  refine wp_skip (tj (hK37 _ _ (wq ?_)))
  refine lm 27 (v14) ?_
  refine lm 28 (.string (tx ((get_m d (((2 + x15) : Nat) : Int)).1))) ?_
  simp only [nz]
  refine lst rfl (m_make (c := #[.string (tx ((get_m d (((2 + x15) : Nat) : Int)).1))]) (T := 9) (fun g => Sl g 0 1 1) hm35 29 rfl (by unfold execOp; go_simp; try rfl) (fun g45 w43 hm44 => ?_))
  simp only [nz]
  obtain ⟨iq, hiq, hz1, hz2, hz3⟩ := inf_9
  refine lst rfl (m_appendR 2 (l := l13) (l2 := [((get_m d (((2 + x15) : Nat) : Int)).1)]) iq _ _ _ (Sl g45 0 1 1) hm44 rfl 30 rfl rfl Tryd.underlying22 hiq hz1 hz2 hz3 eS_len eS_one rfl (by decide) rfl rfl (Rs.blk (l := [((get_m d (((2 + x15) : Nat) : Int)).1)]) (hm44.at 3 rfl) rfl rfl eS_len (Nat.le_refl _)) (by simp; omega) (by simp; omega) (fun v48 w46 hm47 => ?_))
  simp only [nz]
  refine la 6 (v48) ?_
  simp only [nz]
  refine wn (blk_n (tj (hK31 _ _ (wq ?_))))
  refine lw 31 (J (((x15 + 1) : Nat) : Int)) (r_add x15 1 (show (x15 + 1) < 9223372036854775808 from by omega) rfl rfl rfl) ?_
  refine lm 14 (J (((x15 + 1) : Nat) : Int)) ?_
  simp only [nz]
  refine wn ?_
  refine tj (hR25 _ _ _ ⟨k17, (l13 ++ [((get_m d (((2 + x15) : Nat) : Int)).1)]), (x15 + 1), v48, (fun qq => List.getD [u0 0, u0 1, J (x15 : Int), .string (tx ((get_m d (((2 + x15) : Nat) : Int)).1)), J ((get_m d (((2 + x15) : Nat) : Int)).2), .bool (decide ((x15 : Int) < ((lists_m n) + n))), J (x15 : Int), .tuple #[.string (tx ((get_m d (((2 + x15) : Nat) : Int)).1)), J ((get_m d (((2 + x15) : Nat) : Int)).2)], .agg #[dv0, dv1, J (d.fuse), .bool (d.down)], J (x15 : Int), J (((2 + x15) : Nat) : Int), .tuple #[.string (tx ((get_m d (((2 + x15) : Nat) : Int)).1)), J ((get_m d (((2 + x15) : Nat) : Int)).2)], .string (tx ((get_m d (((2 + x15) : Nat) : Int)).1)), J ((get_m d (((2 + x15) : Nat) : Int)).2), J ((get_m d (((2 + x15) : Nat) : Int)).2), .bool (decide (¬ (get_m d (((2 + x15) : Nat) : Int)).2 = 0)), u0 16, v14, .string (tx ((get_m d (((2 + x15) : Nat) : Int)).1)), Sl g45 0 1 1, v48, J (((x15 + 1) : Nat) : Int)] qq undef), rfl, (by omega), (hi18.trans (show readbody_m_b0 d n (readbody_m_l0 d n k17) l13 x15 = readbody_m_l0 d n k17 ((l13 ++ [((get_m d (((2 + x15) : Nat) : Int)).1)]), (x15 + 1)) from by unfold readbody_m_b0; rw [if_pos hc30, if_neg hc39] <;> rfl)), (by rw [List.length_append, List.length_singleton]; omega), rfl, (Mm.reorder hm47 [0, 1, 2] (by decide) rfl)⟩ ?_)
  omega
 rintro _ w49 ⟨y19, y21, v20, yu0, hx22, hrb, rfl, hm50⟩
 have hq51 : readbody_m d n = readbody_m_k0 d n y19 y21 := (show readbody_m d n = readbody_m_k0 d n y19 y21 from by unfold readbody_m; rw [hx22] <;> rfl)
 refine tj (hK6 _ _ (wk (fun K52 hK52 => (wq ?_))))
 refine lm 32 (v20) ?_
 refine la 4 (v20) ?_
 refine la 5 (J 0) ?_
 simp only [nz]
 refine wn (tj (hK52 _ _ (wp_ret ?_)))
 have hm53 : Mm none S w w49 [.see (DkR d dv0 dv1) Fd, .blk g4 #[dv0, dv1, J (d.fuse), .bool (d.down)] 25, .see (Rs eS 1 y19 v20) (fp v20 (y19.flatMap eS))] := hm50.freeze 2 rfl
 have he54 : readbody_m d n = (y19, 0) := (hq51.trans (show readbody_m_k0 d n y19 y21 = (y19, 0) from by unfold readbody_m_k0; rfl))
 exact ⟨rfl, .tuple #[v20, J 0], res_tt rfl rfl rfl, ⟨⟨_, rfl, v20, (by rw [he54]), by rw [he54]; exact hm53.give (hm53.from 2 rfl)⟩, hm53.below⟩⟩
theorem run_readbody {o : Oper} {a : Act} {w : World} {x0 x1 : Operand} {v0 v1 : Value} (ho : o.op = .call { callee := .value (.func 55), args := #[x0, x1], argTypes := #[25, 3] }) (h0 : a.eval x0 = v0) (h1 : a.eval x1 = v1) :
  (execOp a.eval o).run Tryd.prog w = .ok (.enter 55 #[v0, v1]) w := by
 unfold execOp
 simp only [ho]
 have hf : a.eval (.func 55) = .func (.func 55) #[] #[] := rfl
 generalize a.eval = f at *
 go_simp
end Go.Proofs.YtnmaaijeamlplaaDoor.Bk
namespace Go.Proofs.YtnmaaijeamlplaaDoor.Bk
open Go.RowKit Go.Proofs.YtnmaaijeamlplaaDoor.Mem
theorem ended_of (d : Dk) (epoch : Int) (s : List UInt8) : ended_m d epoch s = 0 ∨ FitsP d (ended_m d epoch s) := by
 unfold ended_m
 split
 ·exact .inl rfl
 split
 ·exact .inl rfl
 next h => exact .inr (Classical.not_not.1 h)
theorem readbody_l (d : Dk) (n : Int) : ∀ (k : Nat) (l : List (List UInt8)) (i : Nat), (lists_m n + n - i).toNat ≤ k → l.length = i → (∀ s ∈ l, s.length = 256) → (((i : Nat) : Int) ≤ lists_m n + n) → ∀ r, fin (readbody_m_l0 d n (k + 1) (l, i)) (fun r => r) (fun zz => readbody_m_k0 d n zz.1 zz.2) = r → r.2 = 0 → ((r.1.length : Nat) : Int) = lists_m n + n ∧ ∀ s ∈ r.1, s.length = 256
 | k, l, i, h, hl, ha, hi, r, hr, hz => by
  have E : readbody_m_l0 d n (k + 1) (l, i) = readbody_m_b0 d n (readbody_m_l0 d n k) l i := rfl
  rw [E] at hr
  unfold readbody_m_b0 at hr
  by_cases h1 : ((i : Nat) : Int) < lists_m n + n
  ·rw [if_pos h1] at hr
   match k, h with
   | 0, h => omega
   | k + 1, h =>
    by_cases h2 : (get_m d (((2 + i) : Nat) : Int)).2 = 0
    ·rw [if_neg (fun c => c h2)] at hr
     refine readbody_l d n k _ (i + 1) (by omega) (by rw [List.length_append, List.length_singleton]; omega) ?_ (by omega) r hr hz
     intro s hs
     rcases List.mem_append.1 hs with hs | hs
     ·exact ha s hs
     rw [List.mem_singleton.1 hs]
     rcases get_len d (((2 + i) : Nat) : Int) with g | g
     ·exact absurd h2 g
     exact g
    rw [if_pos h2] at hr
    have e : r = ([], (get_m d (((2 + i) : Nat) : Int)).2) := hr.symm
    rw [e] at hz
    exact absurd hz h2
  rw [if_neg h1] at hr
  have e : r = (l, 0) := hr.symm
  rw [e]
  exact ⟨by show (l.length : Int) = _; omega, ha⟩
theorem readbody_of (d : Dk) (n : Int) (hn : 0 ≤ lists_m n + n) (h : (readbody_m d n).2 = 0) : ((((readbody_m d n).1.length : Nat)) : Int) = lists_m n + n ∧ ∀ s ∈ (readbody_m d n).1, s.length = 256 :=
 readbody_l d n _ [] 0 (by show _ ≤ (lists_m n + n - ((0 : Nat) : Int)).toNat; omega) rfl (fun s hs => by cases hs) (by omega) _ rfl h
theorem at_of {l : List (List UInt8)} (h : ∀ s ∈ l, s.length = 256) (i : Nat) (hi : i < l.length) : (l.getD i []).length = 256 := by
 rw [List.getD_eq_getElem?_getD, List.getElem?_eq_getElem hi]
 exact h _ (List.getElem_mem hi)
end Go.Proofs.YtnmaaijeamlplaaDoor.Bk
namespace Go.Proofs.YtnmaaijeamlplaaDoor.Bk
open Go.RowKit
open Go.Proofs.YtnmaaijeamlplaaDoor.Sym Go.Proofs.YtnmaaijeamlplaaDoor.Mem
open Go.Proofs.YtnmaaijeamlplaaDoor.Sx hiding Mm m_alloc m_store m_call m_callx
attribute [local irreducible] right_m rright_m ready_m rready_m copied_m burn_m put_m get_m flush_m spent_m rput_m rget_m rflush_m blank_m rnew_m same_m
attribute [local irreducible] number_m value_m fill_m beginning_m log_m fits_m lists_m epoch_m
attribute [local irreducible] home_m putall_m
attribute [local irreducible] putfl_m body_m rise_m sized_m current_m join_m sum_m
attribute [local irreducible] format_m rend_m bring_m
attribute [local irreducible] commit_m
attribute [local irreducible] ended_m readbody_m
attribute [local irreducible] wpList Oper.wp
def writes_m_b0 (sectors : List (List UInt8)) (n : Int) (rec : (List Wr) × Nat → Sum ((List Wr) × Nat) ((List Wr))) (l11 : List Wr) (x13 : Nat) : Sum ((List Wr) × Nat) ((List Wr)) :=
 if ((x13 : Nat) : Int) < n then
  rec ((l11 ++ [(Wr.mk (value_m (((sectors.getD (x13 / 61) []).take ((12 + (4 * (x13 % 61))) + 4)).drop (12 + (4 * (x13 % 61))))) (sectors.getD (((lists_m n) + ((x13 : Nat) : Int)).toNat) []))]), (x13 + 1))
 else
  .inl (l11, x13)
def writes_m_l0 (sectors : List (List UInt8)) (n : Int) : Nat → (List Wr) × Nat → Sum ((List Wr) × Nat) ((List Wr))
 | 0, zz => .inl zz
 | nq + 1, zz => writes_m_b0 sectors n (writes_m_l0 sectors n nq) zz.1 zz.2
def writes_m_k0 (sectors : List (List UInt8)) (n : Int) (y17 : List Wr) (y19 : Nat) : (List Wr) :=
 y17
def writes_m (sectors : List (List UInt8)) (n : Int) : (List Wr) :=
 fin (writes_m_l0 sectors n ((n - ((0 : Nat) : Int)).toNat + 1) (([] : List Wr), 0)) (fun r => r) (fun zz => writes_m_k0 sectors n zz.1 zz.2)
theorem writes_any (sectors : List (List UInt8)) (n : Int) (sectorsv0 : Value) (S : Nat → Prop) (w : World) (hsectors : From S (Rs eS 1 sectors sectorsv0) w) (hp0 : 0 ≤ n) (hp1 : n ≤ 100000) (hp2 : ((sectors.length : Nat) : Int) = (n + 60) / 61 + n) (hp3 : ∀ s ∈ sectors, s.length = 256) : Calls Tryd.prog 56 #[sectorsv0, J (n)] w (fun e w' => (∃ v, e = .returned v ∧ ∃ (o0 : Value), v = o0 ∧ Gives w w' S (Rs eWr 2 (writes_m sectors n) o0)) ∧ Below w.heap.size w w') := by
 go_enter Tryd.func56, Tryd.ntmps56
 have hm00 := Mm.nil none S w
 obtain ⟨Fsectors, hm01⟩ := hm00.come hsectors
 have hm0 := hm01
 refine wk (fun K1 hK1 => (wq ?_))
 refine la 4 (.slice none 0 0) ?_
 simp only [nz]
 refine wn (tj (hK1 _ _ (wk (fun K2 hK2 => (wq ?_)))))
 refine lm 9 (J (n)) ?_
 simp only [nz]
 refine lst rfl (m_call hm0 10 (J ((lists_m n))) rfl (run_lists rfl rfl) (lists_any n  _  (by omega) (by omega)) (fun w3 hm4 => ?_))
 have hf5 : (lists_m n) = (n + 60) / 61 := lists_is n
 simp only [nz]
 refine la 5 (J ((lists_m n))) ?_
 simp only [nz]
 refine wn (tj (hK2 _ _ (wk (fun K6 hK6 => (wq ?_)))))
 refine la 6 (.slice none 0 0) ?_
 simp only [nz]
 refine wn (tj (hK6 _ _ (wk (fun K7 hK7 => (wk (fun K8 hK8 => (wq ?_)))))))
 refine lm 11 (J (n)) ?_
 refine lm 12 (J 0) ?_
 simp only [nz]
 refine wn (tj (hK8 _ _ ?_))
 have hm10 : Mm none S w w3 [.see (Rs eS 1 sectors sectorsv0) Fsectors, .row (.slice none 0 0) ([] : List Wr).length (([] : List Wr).flatMap eWr) 51 2] := hm4.nilrow 51 2
 refine wp_cutK (fun a' w' => ∃ (y17 : List Wr) (y19 : Nat) (v18 : Value) (yu0 : Nat → Value), writes_m_l0 sectors n ((n - ((0 : Nat) : Int)).toNat + 1) (([] : List Wr), 0) = .inl (y17, y19) ∧ (y17.length ≤ y19) ∧ a' = ⟨#[sectorsv0, J (n), undef, undef, .slice none 0 0, J ((lists_m n)), v18, yu0 0, yu0 1, J (n), J ((lists_m n)), J (n), J (y19 : Int), yu0 2, yu0 3, yu0 4, yu0 5, yu0 6, yu0 7, yu0 8, yu0 9, yu0 10, yu0 11, yu0 12, yu0 13, yu0 14, yu0 15, yu0 16, yu0 17, yu0 18, yu0 19, yu0 20, yu0 21, yu0 22, yu0 23, yu0 24, yu0 25, yu0 26, yu0 27, yu0 28, undef], []⟩ ∧ Mm none S w w' [.see (Rs eS 1 sectors sectorsv0) Fsectors, .row v18 y17.length (y17.flatMap eWr) 51 2]) ?_ ?_
 ·refine wp_block ?_
  refine wp_loop_n (fun n' a' w' => ∃ (n14 : Nat) (l11 : List Wr) (x13 : Nat) (v12 : Value) (u0 : Nat → Value), n' = n14 ∧ (n - (x13 : Int)).toNat < n14 ∧ writes_m_l0 sectors n ((n - ((0 : Nat) : Int)).toNat + 1) (([] : List Wr), 0) = writes_m_l0 sectors n n14 (l11, x13) ∧ (l11.length ≤ x13) ∧ a' = ⟨#[sectorsv0, J (n), undef, undef, .slice none 0 0, J ((lists_m n)), v12, u0 0, u0 1, J (n), J ((lists_m n)), J (n), J (x13 : Int), u0 2, u0 3, u0 4, u0 5, u0 6, u0 7, u0 8, u0 9, u0 10, u0 11, u0 12, u0 13, u0 14, u0 15, u0 16, u0 17, u0 18, u0 19, u0 20, u0 21, u0 22, u0 23, u0 24, u0 25, u0 26, u0 27, u0 28, undef], []⟩ ∧ Mm none S w w' [.see (Rs eS 1 sectors sectorsv0) Fsectors, .row v12 l11.length (l11.flatMap eWr) 51 2]) ⟨((n - ((0 : Nat) : Int)).toNat + 1), ([] : List Wr), 0, .slice none 0 0, (fun qq => bif Nat.blt qq 24 then List.getD [undef, undef, undef, undef, undef, undef, undef, undef, undef, undef, undef, undef, undef, undef, undef, undef, undef, undef, undef, undef, undef, undef, undef, undef] qq undef else List.getD [undef, undef, undef, undef, undef] (qq - 24) undef), rfl, Nat.lt_succ_self _, rfl, (by simp; done), rfl, hm10⟩ ?_
  rintro n14 _ w21 ⟨_, l11, x13, v12, u0, rfl, hl25, hi16, hwr, rfl, hm22⟩ R23 hR23
  obtain ⟨k15, rfl⟩ : ∃ k, n14 = k + 1 := ⟨n14 - 1, by omega⟩
  refine wk (fun K26 hK26 => (wq ?_))
  refine lw 13 (.bool (decide ((x13 : Int) < n))) (z_lss (x13 : Int) n rfl rfl rfl) ?_
  simp only [nz]
  refine wn (tj (hK26 _ _ (wk (fun K27 hK27 => ?_))))
  refine cond_d ((x13 : Int) < n) rfl (fun hc28 => ?_) (fun hc28 => ?_)
  rotate_left
  ·refine wp_exit (then_x (then_x (blk_x ?_)))
   refine tj ?_
   exact ⟨l11, x13, v12, (fun qq => bif Nat.blt qq 24 then List.getD [u0 0, u0 1, .bool (decide ((x13 : Int) < n)), u0 3, u0 4, u0 5, u0 6, u0 7, u0 8, u0 9, u0 10, u0 11, u0 12, u0 13, u0 14, u0 15, u0 16, u0 17, u0 18, u0 19, u0 20, u0 21, u0 22, u0 23] qq undef else List.getD [u0 24, u0 25, u0 26, u0 27, u0 28] (qq - 24) undef), (hi16.trans (show writes_m_b0 sectors n (writes_m_l0 sectors n k15) l11 x13 = .inl (l11, x13) from by unfold writes_m_b0; rw [if_neg hc28] <;> rfl)), (by omega), rfl, hm22⟩
  refine wp_skip (tj (hK27 _ _ (wk (fun K29 hK29 => ?_))))
  refine wp_block ?_
  refine wk (fun K30 hK30 => (wq ?_))
  refine lm 14 (J (x13 : Int)) ?_
  refine la 7 (J (x13 : Int)) ?_
  simp only [nz]
  refine wn (tj (hK30 _ _ (wk (fun K31 hK31 => (wq ?_)))))
  refine lm 15 (J (x13 : Int)) ?_
  refine lw 16 (J (((x13 % 61) : Nat) : Int)) (r_rem x13 61 (show x13 < 9223372036854775808 from by omega) (by decide) rfl rfl rfl) ?_
  refine lw 17 (J (((4 * (x13 % 61)) : Nat) : Int)) (r_mul 4 (x13 % 61) (show (4 * (x13 % 61)) < 9223372036854775808 from by omega) rfl rfl rfl) ?_
  simp only [nz]
  refine lw 18 (J (((12 + (4 * (x13 % 61))) : Nat) : Int)) (r_add 12 (4 * (x13 % 61)) (show (12 + (4 * (x13 % 61))) < 9223372036854775808 from by omega) rfl rfl rfl) ?_
  refine la 8 (J (((12 + (4 * (x13 % 61))) : Nat) : Int)) ?_
  simp only [nz]
  refine wn (tj (hK31 _ _ ?_))
  have hm32 := hm22.drew
  refine wp_region_held_drew (S := fun w' => Rs eS 1 sectors sectorsv0 w') (by kernel_rfl) (((hm32.see 0 rfl))) (fun _ => ?_)
  generalize w21.drew = w33 at *
  refine tk 0 19 (v12) rfl rfl (fun _ hw => run_mv rfl rfl) ((hm32.see 0 rfl)) ?_
  simp only [nz]
  refine tk 1 20 (sectorsv0) rfl rfl (fun _ hw => run_mv rfl rfl) ((hm32.see 0 rfl)) ?_
  simp only [nz]
  refine tk 2 21 (J (x13 : Int)) rfl rfl (fun _ hw => run_mv rfl rfl) ((hm32.see 0 rfl)) ?_
  simp only [nz]
  refine tk 3 22 (J (((x13 / 61) : Nat) : Int)) rfl rfl (fun _ hw => r_quo x13 61 (show x13 < 9223372036854775808 from by omega) (by decide) rfl rfl rfl) ((hm32.see 0 rfl)) ?_
  simp only [nz]
  refine tk 4 23 (.pointer (some ⟨(bk sectorsv0), (po sectorsv0 + (x13 / 61) * 1), none⟩)) rfl rfl (fun _ hw => r_ixv ((hm32.see 0 rfl)) (x13 / 61) (by omega) Tryd.underlying22 sz_9 rfl rfl rfl) ((hm32.see 0 rfl)) ?_
  simp only [nz]
  refine tk 5 24 (.string (tx (sectors.getD (x13 / 61) []))) rfl rfl (fun _ hw => r_cellw (Rs.cell hw eS_len [] (x13 / 61) (by omega) 0 _ rfl) Tryd.underlying9 rfl rfl rfl) ((hm32.see 0 rfl)) ?_
  simp only [nz]
  refine tk 6 25 (J (((12 + (4 * (x13 % 61))) : Nat) : Int)) rfl rfl (fun _ hw => run_mv rfl rfl) ((hm32.see 0 rfl)) ?_
  simp only [nz]
  refine tk 7 26 (J (((12 + (4 * (x13 % 61))) : Nat) : Int)) rfl rfl (fun _ hw => run_mv rfl rfl) ((hm32.see 0 rfl)) ?_
  simp only [nz]
  refine tk 8 27 (J ((((12 + (4 * (x13 % 61))) + 4) : Nat) : Int)) rfl rfl (fun _ hw => r_add (12 + (4 * (x13 % 61))) 4 (show ((12 + (4 * (x13 % 61))) + 4) < 9223372036854775808 from by omega) rfl rfl rfl) ((hm32.see 0 rfl)) ?_
  simp only [nz]
  refine tk 9 28 (.string (tx (((sectors.getD (x13 / 61) []).take ((12 + (4 * (x13 % 61))) + 4)).drop (12 + (4 * (x13 % 61)))))) rfl rfl (fun _ hw => t_cut (sectors.getD (x13 / 61) []) (12 + (4 * (x13 % 61))) ((12 + (4 * (x13 % 61))) + 4) (by have hz := at_of (l := sectors) (by assumption) (x13 / 61) (by omega); omega) (by have hz := at_of (l := sectors) (by assumption) (x13 / 61) (by omega); omega) Tryd.underlying9 rfl rfl rfl rfl) ((hm32.see 0 rfl)) ?_
  simp only [nz]
  refine tk 11 30 (sectorsv0) rfl rfl (fun _ hw => run_mv rfl rfl) ((hm32.see 0 rfl)) ?_
  simp only [nz]
  refine tk 12 31 (J ((lists_m n))) rfl rfl (fun _ hw => run_mv rfl rfl) ((hm32.see 0 rfl)) ?_
  simp only [nz]
  refine tk 13 32 (J (x13 : Int)) rfl rfl (fun _ hw => run_mv rfl rfl) ((hm32.see 0 rfl)) ?_
  simp only [nz]
  refine tk 14 33 (J (((lists_m n) + (x13 : Int)))) rfl rfl (fun _ hw => z_add (lists_m n) (x13 : Int) _ (by rw [IntKind.wrap_i64]; omega) rfl rfl rfl) ((hm32.see 0 rfl)) ?_
  simp only [nz]
  refine tk 15 34 (.pointer (some ⟨(bk sectorsv0), (po sectorsv0 + ((lists_m n) + (x13 : Int)).toNat * 1), none⟩)) rfl rfl (fun _ hw => r_ixvZ ((hm32.see 0 rfl)) ((lists_m n) + (x13 : Int)) (by omega) (by omega) Tryd.underlying22 sz_9 rfl rfl rfl) ((hm32.see 0 rfl)) ?_
  simp only [nz]
  refine tk 16 35 (.string (tx (sectors.getD (((lists_m n) + (x13 : Int)).toNat) []))) rfl rfl (fun _ hw => r_cellw (Rs.cell hw eS_len [] (((lists_m n) + (x13 : Int)).toNat) (by omega) 0 _ rfl) Tryd.underlying9 rfl rfl rfl) ((hm32.see 0 rfl)) ?_
  simp only [nz]
  refine one_ready 10 (by kernel_rfl) ?_
  refine opd rfl (wanted_none rfl) (m_call hm32 29 (J ((value_m (((sectors.getD (x13 / 61) []).take ((12 + (4 * (x13 % 61))) + 4)).drop (12 + (4 * (x13 % 61))))))) rfl (run_value rfl rfl) (value_any (((sectors.getD (x13 / 61) []).take ((12 + (4 * (x13 % 61))) + 4)).drop (12 + (4 * (x13 % 61))))  _  (by rw [List.length_drop, List.length_take]; omega)) (fun w34 hm35 => ?_))
  refine ⟨((hm35.see 0 rfl)), ?_⟩
  simp only [nz]
  refine tk 17 36 (.agg #[J ((value_m (((sectors.getD (x13 / 61) []).take ((12 + (4 * (x13 % 61))) + 4)).drop (12 + (4 * (x13 % 61)))))), .string (tx (sectors.getD (((lists_m n) + (x13 : Int)).toNat) []))]) rfl rfl (fun _ hw => by unfold execOp; go_simp; try (first | rfl | (repeat' (first | rfl | apply And.intro)))) ((hm35.see 0 rfl)) ?_
  simp only [nz]
  refine one_ready 18 (by kernel_rfl) ?_
  refine opd rfl (wanted_none rfl) (m_make (c := #[J ((value_m (((sectors.getD (x13 / 61) []).take ((12 + (4 * (x13 % 61))) + 4)).drop (12 + (4 * (x13 % 61)))))), .string (tx (sectors.getD (((lists_m n) + (x13 : Int)).toNat) []))]) (T := 51) (fun g => Sl g 0 1 1) hm35 37 rfl (by unfold execOp; go_simp; try rfl) (fun g38 w36 hm37 => ?_))
  refine ⟨((hm37.see 0 rfl)), ?_⟩
  simp only [nz]
  refine one_ready 19 (by kernel_rfl) ?_
  obtain ⟨iq, hiq, hz1, hz2, hz3⟩ := inf_51
  refine opd rfl (wanted_none rfl) (m_appendR 1 (l := l11) (l2 := [(Wr.mk (value_m (((sectors.getD (x13 / 61) []).take ((12 + (4 * (x13 % 61))) + 4)).drop (12 + (4 * (x13 % 61))))) (sectors.getD (((lists_m n) + (x13 : Int)).toNat) []))]) iq _ _ _ (Sl g38 0 1 1) hm37 rfl 38 rfl rfl Tryd.underlying23 hiq hz1 hz2 hz3 eWr_len eWr_one rfl (by decide) rfl rfl (Rs.blk (l := [(Wr.mk (value_m (((sectors.getD (x13 / 61) []).take ((12 + (4 * (x13 % 61))) + 4)).drop (12 + (4 * (x13 % 61))))) (sectors.getD (((lists_m n) + (x13 : Int)).toNat) []))]) (hm37.at 2 rfl) rfl rfl eWr_len (Nat.le_refl _)) (by simp; omega) (by simp; omega) (fun v41 w39 hm40 => ?_))
  refine ⟨((hm40.see 0 rfl)), ?_⟩
  simp only [nz]
  refine one_ready 20 (by kernel_rfl) ?_
  refine opd rfl (wanted_none rfl) (w_value 6 (v41) rfl (run_as rfl rfl) ⟨((hm40.see 0 rfl)), ?_⟩)
  simp only [nz]
  refine wpAnyH_done (by kernel_rfl) ?_ _
  refine blk_n (tj (hK29 _ _ (wq ?_)))
  refine lw 39 (J (((x13 + 1) : Nat) : Int)) (r_add x13 1 (show (x13 + 1) < 9223372036854775808 from by omega) rfl rfl rfl) ?_
  refine lm 12 (J (((x13 + 1) : Nat) : Int)) ?_
  simp only [nz]
  refine wn ?_
  refine tj (hR23 _ _ _ ⟨k15, (l11 ++ [(Wr.mk (value_m (((sectors.getD (x13 / 61) []).take ((12 + (4 * (x13 % 61))) + 4)).drop (12 + (4 * (x13 % 61))))) (sectors.getD (((lists_m n) + (x13 : Int)).toNat) []))]), (x13 + 1), v41, (fun qq => bif Nat.blt qq 24 then List.getD [J (x13 : Int), J (((12 + (4 * (x13 % 61))) : Nat) : Int), .bool (decide ((x13 : Int) < n)), J (x13 : Int), J (x13 : Int), J (((x13 % 61) : Nat) : Int), J (((4 * (x13 % 61)) : Nat) : Int), J (((12 + (4 * (x13 % 61))) : Nat) : Int), v12, sectorsv0, J (x13 : Int), J (((x13 / 61) : Nat) : Int), .pointer (some ⟨(bk sectorsv0), (po sectorsv0 + (x13 / 61) * 1), none⟩), .string (tx (sectors.getD (x13 / 61) [])), J (((12 + (4 * (x13 % 61))) : Nat) : Int), J (((12 + (4 * (x13 % 61))) : Nat) : Int), J ((((12 + (4 * (x13 % 61))) + 4) : Nat) : Int), .string (tx (((sectors.getD (x13 / 61) []).take ((12 + (4 * (x13 % 61))) + 4)).drop (12 + (4 * (x13 % 61))))), J ((value_m (((sectors.getD (x13 / 61) []).take ((12 + (4 * (x13 % 61))) + 4)).drop (12 + (4 * (x13 % 61)))))), sectorsv0, J ((lists_m n)), J (x13 : Int), J (((lists_m n) + (x13 : Int))), .pointer (some ⟨(bk sectorsv0), (po sectorsv0 + ((lists_m n) + (x13 : Int)).toNat * 1), none⟩)] qq undef else List.getD [.string (tx (sectors.getD (((lists_m n) + (x13 : Int)).toNat) [])), .agg #[J ((value_m (((sectors.getD (x13 / 61) []).take ((12 + (4 * (x13 % 61))) + 4)).drop (12 + (4 * (x13 % 61)))))), .string (tx (sectors.getD (((lists_m n) + (x13 : Int)).toNat) []))], Sl g38 0 1 1, v41, J (((x13 + 1) : Nat) : Int)] (qq - 24) undef), rfl, (by omega), (hi16.trans (show writes_m_b0 sectors n (writes_m_l0 sectors n k15) l11 x13 = writes_m_l0 sectors n k15 ((l11 ++ [(Wr.mk (value_m (((sectors.getD (x13 / 61) []).take ((12 + (4 * (x13 % 61))) + 4)).drop (12 + (4 * (x13 % 61))))) (sectors.getD (((lists_m n) + (x13 : Int)).toNat) []))]), (x13 + 1)) from by unfold writes_m_b0; rw [if_pos hc28] <;> rfl)), (by rw [List.length_append, List.length_singleton]; omega), rfl, (Mm.reorder hm40 [0, 1] (by decide) rfl)⟩ ?_)
  omega
 rintro _ w42 ⟨y17, y19, v18, yu0, hx20, hwr, rfl, hm43⟩
 have hq44 : writes_m sectors n = writes_m_k0 sectors n y17 y19 := (show writes_m sectors n = writes_m_k0 sectors n y17 y19 from by unfold writes_m; rw [hx20] <;> rfl)
 refine tj (hK7 _ _ (wk (fun K45 hK45 => (wq ?_))))
 refine lm 40 (v18) ?_
 refine la 4 (v18) ?_
 simp only [nz]
 refine wn (tj (hK45 _ _ (wp_ret ?_)))
 have hm46 : Mm none S w w42 [.see (Rs eS 1 sectors sectorsv0) Fsectors, .see (Rs eWr 2 y17 v18) (fp v18 (y17.flatMap eWr))] := hm43.freeze 1 rfl
 have he47 : writes_m sectors n = y17 := (hq44.trans (show writes_m_k0 sectors n y17 y19 = y17 from by unfold writes_m_k0; rfl))
 exact ⟨rfl, v18, res_t rfl rfl, ⟨⟨_, rfl, v18, (by rfl), by rw [he47]; exact hm46.give (hm46.from 1 rfl)⟩, hm46.below⟩⟩
theorem run_writes {o : Oper} {a : Act} {w : World} {x0 x1 : Operand} {v0 v1 : Value} (ho : o.op = .call { callee := .value (.func 56), args := #[x0, x1], argTypes := #[22, 3] }) (h0 : a.eval x0 = v0) (h1 : a.eval x1 = v1) :
  (execOp a.eval o).run Tryd.prog w = .ok (.enter 56 #[v0, v1]) w := by
 unfold execOp
 simp only [ho]
 have hf : a.eval (.func 56) = .func (.func 56) #[] #[] := rfl
 generalize a.eval = f at *
 go_simp
end Go.Proofs.YtnmaaijeamlplaaDoor.Bk
namespace Go.Proofs.YtnmaaijeamlplaaDoor.Bk
open Go.RowKit Go.Proofs.YtnmaaijeamlplaaDoor.Mem
def wrOf (sectors : List (List UInt8)) (n : Int) (i : Nat) : Wr := Wr.mk (value_m (((sectors.getD (i / 61) []).take ((12 + (4 * (i % 61))) + 4)).drop (12 + (4 * (i % 61))))) (sectors.getD (((lists_m n) + ((i : Nat) : Int)).toNat) [])
theorem writes_l (sectors : List (List UInt8)) (n : Int) : ∀ (k : Nat) (l : List Wr) (i : Nat), (n - i).toNat ≤ k → fin (writes_m_l0 sectors n (k + 1) (l, i)) (fun r => r) (fun zz => writes_m_k0 sectors n zz.1 zz.2) = l ++ (List.range' i (n - i).toNat).map (wrOf sectors n)
 | k, l, i, h => by
  have E : writes_m_l0 sectors n (k + 1) (l, i) = writes_m_b0 sectors n (writes_m_l0 sectors n k) l i := rfl
  rw [E]
  unfold writes_m_b0
  by_cases h1 : ((i : Nat) : Int) < n
  ·rw [if_pos h1]
   match k, h with
   | 0, h => omega
   | k + 1, h =>
    rw [writes_l sectors n k _ (i + 1) (by omega), show (n - ((i : Nat) : Int)).toNat = (n - ((i + 1 : Nat) : Int)).toNat + 1 by omega, List.range'_succ, List.map_cons, List.append_assoc]
    rfl
  rw [if_neg h1, show (n - ((i : Nat) : Int)).toNat = 0 by omega]
  show l = l ++ []
  rw [List.append_nil]
theorem writes_is (sectors : List (List UInt8)) (n : Int) : writes_m sectors n = (List.range' 0 n.toNat).map (wrOf sectors n) := by
 have h := writes_l sectors n _ [] 0 (Nat.le_refl _)
 have e : (n - ((0 : Nat) : Int)).toNat = n.toNat := by omega
 unfold writes_m
 rw [h, e]
 rfl
theorem writes_len (sectors : List (List UInt8)) (n : Int) : (writes_m sectors n).length = n.toNat := by rw [writes_is, List.length_map, List.length_range']
theorem ended_fit {d : Dk} {epoch : Int} {s : List UInt8} (h1 : ¬ (!(right_m d)) = true) (h2 : ¬ ended_m d epoch s = 0) : 0 ≤ ended_m d epoch s ∧ ended_m d epoch s ≤ 2048 ∧ (ended_m d epoch s + 60) / 61 + ended_m d epoch s ≤ 900 := by
 have h3 := few_of h1
 rcases ended_of d epoch s with h | h
 ·exact absurd h h2
 unfold FitsP at h
 omega
theorem readbody_q {d : Dk} {epoch : Int} {s : List UInt8} (h1 : ¬ (!(right_m d)) = true) (h2 : ¬ ended_m d epoch s = 0) (h3 : ¬ ¬ (readbody_m d (ended_m d epoch s)).2 = 0) : (((readbody_m d (ended_m d epoch s)).1.length : Nat) : Int) = (ended_m d epoch s + 60) / 61 + ended_m d epoch s ∧ (join_m (readbody_m d (ended_m d epoch s)).1 []).length ≤ 250000 ∧ ∀ s' ∈ (readbody_m d (ended_m d epoch s)).1, s'.length = 256 := by
 have a := ended_fit h1 h2
 have b := readbody_of d (ended_m d epoch s) (by rw [lists_is]; omega) (Classical.not_not.1 h3)
 rw [lists_is] at b
 refine ⟨b.1, ?_, b.2⟩
 rw [join_len _ b.2]
 omega
end Go.Proofs.YtnmaaijeamlplaaDoor.Bk
namespace Go.Proofs.YtnmaaijeamlplaaDoor.Bk
open Go.RowKit
open Go.Proofs.YtnmaaijeamlplaaDoor.Sym Go.Proofs.YtnmaaijeamlplaaDoor.Mem
open Go.Proofs.YtnmaaijeamlplaaDoor.Sx hiding Mm m_alloc m_store m_call m_callx
attribute [local irreducible] right_m rright_m ready_m rready_m copied_m burn_m put_m get_m flush_m spent_m rput_m rget_m rflush_m blank_m rnew_m same_m
attribute [local irreducible] number_m value_m fill_m beginning_m log_m fits_m lists_m epoch_m
attribute [local irreducible] home_m putall_m
attribute [local irreducible] putfl_m body_m rise_m sized_m current_m join_m sum_m
attribute [local irreducible] format_m rend_m bring_m
attribute [local irreducible] commit_m
attribute [local irreducible] ended_m readbody_m writes_m
attribute [local irreducible] wpList Oper.wp
def recover_m (d : Dk) : Dk × Int :=
 if (!(right_m d)) = true then
  (d, 1)
 else
  if ¬ (current_m d).2 = 0 then
   (d, (current_m d).2)
  else
   if ¬ (get_m d 1).2 = 0 then
    (d, (get_m d 1).2)
   else
    if (ended_m d ((current_m d).1) ((get_m d 1).1)) = 0 then
     (d, 0)
    else
     if ¬ (readbody_m d (ended_m d ((current_m d).1) ((get_m d 1).1))).2 = 0 then
      (d, (readbody_m d (ended_m d ((current_m d).1) ((get_m d 1).1))).2)
     else
      if ¬ (get_m d 1).1 = (rend_m ((current_m d).1) (ended_m d ((current_m d).1) ((get_m d 1).1)) ((readbody_m d (ended_m d ((current_m d).1) ((get_m d 1).1))).1)) then
       (d, 20)
      else
       if (!(rise_m d (writes_m ((readbody_m d (ended_m d ((current_m d).1) ((get_m d 1).1))).1) (ended_m d ((current_m d).1) ((get_m d 1).1))))) = true then
        (d, 20)
       else
        (((bring_m d ((current_m d).1) (writes_m ((readbody_m d (ended_m d ((current_m d).1) ((get_m d 1).1))).1) (ended_m d ((current_m d).1) ((get_m d 1).1)))).1), (bring_m d ((current_m d).1) (writes_m ((readbody_m d (ended_m d ((current_m d).1) ((get_m d 1).1))).1) (ended_m d ((current_m d).1) ((get_m d 1).1)))).2)
theorem recover_any (d : Dk) (dv0 : Value) (dv1 : Value) (S : Nat → Prop) (w : World) (hd : From S (DkR d dv0 dv1) w) (hT : Laid w) (hp0 : d.safe.length ≤ 8796093021952) (hp1 : d.loose.length ≤ 5864063000000) (hp2 : d.fuse ≤ 9223372036854775807) : Calls Tryd.prog 22 #[.agg #[dv0, dv1, J (d.fuse), .bool (d.down)]] w (fun e w' => (∃ v, e = .returned v ∧ ∃ (o0 : Value) (o1 : Value), v = .tuple #[.agg #[o0, o1, J (((recover_m d).1).fuse), .bool (((recover_m d).1).down)], J ((recover_m d).2)] ∧ Gives w w' S (DkR ((recover_m d).1) o0 o1)) ∧ Below w.heap.size w w') := by
 go_enter Tryd.func22, Tryd.ntmps22
 have hm00 := Mm.nil none S w
 obtain ⟨Fd, hm01⟩ := hm00.come hd
 have hm0 := hm01
 refine wk (fun K1 hK1 => (wq ?_))
 refine lst rfl (m_alloc (c := #[dv0, dv1, J (d.fuse), .bool (d.down)]) (T := 25) hm0 1 rfl (run_box rfl rfl) (fun g4 w2 hm3 => ?_))
 simp only [nz]
 refine lst rfl (m_alloc (c := #[.slice none 0 0, .slice none 0 0, J 0, .bool false]) (T := 25) hm3 2 rfl (by unfold execOp; go_simp; try rfl) (fun g7 w5 hm6 => ?_))
 simp only [nz]
 refine la 3 (J 0) ?_
 simp only [nz]
 refine wn (tj (hK1 _ _ (wk (fun K8 hK8 => (wk (fun K9 hK9 => (wq ?_)))))))
 refine lw 10 (.agg #[dv0, dv1, J (d.fuse), .bool (d.down)]) (r_whole (hm6.at 1 rfl) Tryd.underlying25 rfl (by exact sz_25) rfl rfl) ?_
 simp only [nz]
 refine lst rfl (m_call hm6 11 (.bool ((right_m d))) rfl (run_right rfl rfl) (right_any d dv0 dv1 _ (hm6.see 0 rfl) (by omega)) (fun w10 hm11 => ?_))
 simp only [nz]
 refine lw 12 (.bool (!(right_m d))) (r_not (right_m d) rfl rfl) ?_
 simp only [nz]
 refine wn (tj (hK9 _ _ ?_))
 refine cond_B (!(right_m d)) rfl (fun hc12 => ?_) (fun hc12 => ?_)
 ·refine wk (fun K13 hK13 => (wq ?_))
  refine lw 13 (.agg #[dv0, dv1, J (d.fuse), .bool (d.down)]) (r_whole (hm11.at 1 rfl) Tryd.underlying25 rfl (by exact sz_25) rfl rfl) ?_
  simp only [nz]
  have ho16 := (rd_one ((hm11.see 0 rfl).1))
  have ho17 := (rd_one ((hm11.see 0 rfl).2))
  refine lst rfl (m_store 2 25 _ _ 0 (.agg #[dv0, dv1, J (d.fuse), .bool (d.down)]) (old := #[.slice none 0 0, .slice none 0 0, J 0, .bool false]) (new := #[dv0, dv1, J (d.fuse), .bool (d.down)]) hm11 rfl rfl rfl rfl rfl (by exact sz_25) (show 0 + 4 ≤ 4 from by decide) a4 rfl (fun w14 hm15 => ?_))
  refine la 3 (J 1) ?_
  simp only [nz]
  refine wn (tj (hK13 _ _ (wp_ret (then_r ?_))))
  have he18 : recover_m d = (d, 1) := by unfold recover_m; rw [if_pos hc12] <;> rfl
  exact ⟨rfl, .tuple #[.agg #[dv0, dv1, J (d.fuse), .bool (d.down)], J 1], Mem.res_ct rfl rfl (hm15.at 2 rfl) Tryd.underlying25 rfl (by exact sz_25) rfl, ⟨⟨_, rfl, dv0, dv1, (by rw [he18]), by rw [he18]; exact hm15.give (hm15.from 0 rfl)⟩, hm15.below⟩⟩
 refine wp_skip (tj (hK8 _ _ (wk (fun K19 hK19 => (wq ?_)))))
 refine lw 15 (.agg #[dv0, dv1, J (d.fuse), .bool (d.down)]) (r_whole (hm11.at 1 rfl) Tryd.underlying25 rfl (by exact sz_25) rfl rfl) ?_
 simp only [nz]
 refine lst rfl (m_call hm11 16 (.tuple #[J ((current_m d).1), J ((current_m d).2)]) rfl (run_current rfl rfl) (current_any d dv0 dv1 _ (hm11.see 0 rfl) (by omega) (by omega)) (fun w20 hm21 => ?_))
 simp only [nz]
 refine lm 14 (.tuple #[J ((current_m d).1), J ((current_m d).2)]) ?_
 refine lw 17 (J ((current_m d).1)) (run_ex rfl rfl rfl) ?_
 refine lw 18 (J ((current_m d).2)) (run_ex rfl rfl rfl) ?_
 simp only [nz]
 refine la 4 (J ((current_m d).1)) ?_
 refine la 5 (J ((current_m d).2)) ?_
 simp only [nz]
 refine wn (tj (hK19 _ _ (wk (fun K22 hK22 => (wk (fun K23 hK23 => (wq ?_)))))))
 refine lm 19 (J ((current_m d).2)) ?_
 refine lw 20 (.bool (decide (¬ (current_m d).2 = 0))) (z_neq ((current_m d).2) 0 rfl rfl rfl) ?_
 simp only [nz]
 refine wn (tj (hK23 _ _ ?_))
 refine cond_d (¬ (current_m d).2 = 0) rfl (fun hc24 => ?_) (fun hc24 => ?_)
 ·refine wk (fun K25 hK25 => (wq ?_))
  refine lw 21 (.agg #[dv0, dv1, J (d.fuse), .bool (d.down)]) (r_whole (hm21.at 1 rfl) Tryd.underlying25 rfl (by exact sz_25) rfl rfl) ?_
  refine lm 22 (J ((current_m d).2)) ?_
  simp only [nz]
  have ho28 := (rd_one ((hm21.see 0 rfl).1))
  have ho29 := (rd_one ((hm21.see 0 rfl).2))
  refine lst rfl (m_store 2 25 _ _ 0 (.agg #[dv0, dv1, J (d.fuse), .bool (d.down)]) (old := #[.slice none 0 0, .slice none 0 0, J 0, .bool false]) (new := #[dv0, dv1, J (d.fuse), .bool (d.down)]) hm21 rfl rfl rfl rfl rfl (by exact sz_25) (show 0 + 4 ≤ 4 from by decide) a4 rfl (fun w26 hm27 => ?_))
  refine la 3 (J ((current_m d).2)) ?_
  simp only [nz]
  refine wn (tj (hK25 _ _ (wp_ret (then_r ?_))))
  have he30 : recover_m d = (d, (current_m d).2) := by unfold recover_m; rw [if_neg hc12, if_pos hc24] <;> rfl
  exact ⟨rfl, .tuple #[.agg #[dv0, dv1, J (d.fuse), .bool (d.down)], J ((current_m d).2)], Mem.res_ct rfl rfl (hm27.at 2 rfl) Tryd.underlying25 rfl (by exact sz_25) rfl, ⟨⟨_, rfl, dv0, dv1, (by rw [he30]), by rw [he30]; exact hm27.give (hm27.from 0 rfl)⟩, hm27.below⟩⟩
 refine wp_skip (tj (hK22 _ _ (wk (fun K31 hK31 => (wq ?_)))))
 refine lw 24 (.agg #[dv0, dv1, J (d.fuse), .bool (d.down)]) (r_whole (hm21.at 1 rfl) Tryd.underlying25 rfl (by exact sz_25) rfl rfl) ?_
 simp only [nz]
 refine lst rfl (m_call hm21 25 (.tuple #[.string (tx ((get_m d 1).1)), J ((get_m d 1).2)]) rfl (run_get rfl rfl rfl) (get_any d 1 dv0 dv1 _ (hm21.see 0 rfl) (by omega) (by omega)) (fun w32 hm33 => ?_))
 have hf34 : ¬ (get_m d 1).2 = 0 ∨ (get_m d 1).1.length = 256 := get_len d 1
 simp only [nz]
 refine lm 23 (.tuple #[.string (tx ((get_m d 1).1)), J ((get_m d 1).2)]) ?_
 refine lw 26 (.string (tx ((get_m d 1).1))) (run_ex rfl rfl rfl) ?_
 refine lw 27 (J ((get_m d 1).2)) (run_ex rfl rfl rfl) ?_
 simp only [nz]
 refine la 6 (.string (tx ((get_m d 1).1))) ?_
 refine la 5 (J ((get_m d 1).2)) ?_
 simp only [nz]
 refine wn (tj (hK31 _ _ (wk (fun K35 hK35 => (wk (fun K36 hK36 => (wq ?_)))))))
 refine lm 28 (J ((get_m d 1).2)) ?_
 refine lw 29 (.bool (decide (¬ (get_m d 1).2 = 0))) (z_neq ((get_m d 1).2) 0 rfl rfl rfl) ?_
 simp only [nz]
 refine wn (tj (hK36 _ _ ?_))
 refine cond_d (¬ (get_m d 1).2 = 0) rfl (fun hc37 => ?_) (fun hc37 => ?_)
 ·refine wk (fun K38 hK38 => (wq ?_))
  refine lw 30 (.agg #[dv0, dv1, J (d.fuse), .bool (d.down)]) (r_whole (hm33.at 1 rfl) Tryd.underlying25 rfl (by exact sz_25) rfl rfl) ?_
  refine lm 31 (J ((get_m d 1).2)) ?_
  simp only [nz]
  have ho41 := (rd_one ((hm33.see 0 rfl).1))
  have ho42 := (rd_one ((hm33.see 0 rfl).2))
  refine lst rfl (m_store 2 25 _ _ 0 (.agg #[dv0, dv1, J (d.fuse), .bool (d.down)]) (old := #[.slice none 0 0, .slice none 0 0, J 0, .bool false]) (new := #[dv0, dv1, J (d.fuse), .bool (d.down)]) hm33 rfl rfl rfl rfl rfl (by exact sz_25) (show 0 + 4 ≤ 4 from by decide) a4 rfl (fun w39 hm40 => ?_))
  refine la 3 (J ((get_m d 1).2)) ?_
  simp only [nz]
  refine wn (tj (hK38 _ _ (wp_ret (then_r ?_))))
  have he43 : recover_m d = (d, (get_m d 1).2) := by unfold recover_m; rw [if_neg hc12, if_neg hc24, if_pos hc37] <;> rfl
  exact ⟨rfl, .tuple #[.agg #[dv0, dv1, J (d.fuse), .bool (d.down)], J ((get_m d 1).2)], Mem.res_ct rfl rfl (hm40.at 2 rfl) Tryd.underlying25 rfl (by exact sz_25) rfl, ⟨⟨_, rfl, dv0, dv1, (by rw [he43]), by rw [he43]; exact hm40.give (hm40.from 0 rfl)⟩, hm40.below⟩⟩
 refine wp_skip (tj (hK35 _ _ (wk (fun K44 hK44 => (wq ?_)))))
 refine lw 32 (.agg #[dv0, dv1, J (d.fuse), .bool (d.down)]) (r_whole (hm33.at 1 rfl) Tryd.underlying25 rfl (by exact sz_25) rfl rfl) ?_
 refine lm 33 (J ((current_m d).1)) ?_
 refine lm 34 (.string (tx ((get_m d 1).1))) ?_
 simp only [nz]
 refine lst rfl (m_call hm33 35 (J ((ended_m d ((current_m d).1) ((get_m d 1).1)))) rfl (run_ended rfl rfl rfl rfl) (ended_any d ((current_m d).1) ((get_m d 1).1) dv0 dv1 _ (hm33.see 0 rfl) (by omega) (by omega) (by omega)) (fun w45 hm46 => ?_))
 have hf47 : (ended_m d ((current_m d).1) ((get_m d 1).1)) = 0 ∨ FitsP d (ended_m d ((current_m d).1) ((get_m d 1).1)) := ended_of d ((current_m d).1) ((get_m d 1).1)
 simp only [nz]
 refine la 7 (J ((ended_m d ((current_m d).1) ((get_m d 1).1)))) ?_
 simp only [nz]
 refine wn (tj (hK44 _ _ (wk (fun K48 hK48 => (wk (fun K49 hK49 => (wq ?_)))))))
 refine lm 36 (J ((ended_m d ((current_m d).1) ((get_m d 1).1)))) ?_
 refine lw 37 (.bool (decide ((ended_m d ((current_m d).1) ((get_m d 1).1)) = 0))) (z_eql (ended_m d ((current_m d).1) ((get_m d 1).1)) 0 rfl rfl rfl) ?_
 simp only [nz]
 refine wn (tj (hK49 _ _ ?_))
 refine cond_d ((ended_m d ((current_m d).1) ((get_m d 1).1)) = 0) rfl (fun hc50 => ?_) (fun hc50 => ?_)
 ·refine wk (fun K51 hK51 => (wq ?_))
  refine lw 38 (.agg #[dv0, dv1, J (d.fuse), .bool (d.down)]) (r_whole (hm46.at 1 rfl) Tryd.underlying25 rfl (by exact sz_25) rfl rfl) ?_
  simp only [nz]
  have ho54 := (rd_one ((hm46.see 0 rfl).1))
  have ho55 := (rd_one ((hm46.see 0 rfl).2))
  refine lst rfl (m_store 2 25 _ _ 0 (.agg #[dv0, dv1, J (d.fuse), .bool (d.down)]) (old := #[.slice none 0 0, .slice none 0 0, J 0, .bool false]) (new := #[dv0, dv1, J (d.fuse), .bool (d.down)]) hm46 rfl rfl rfl rfl rfl (by exact sz_25) (show 0 + 4 ≤ 4 from by decide) a4 rfl (fun w52 hm53 => ?_))
  refine la 3 (J 0) ?_
  simp only [nz]
  refine wn (tj (hK51 _ _ (wp_ret (then_r ?_))))
  have he56 : recover_m d = (d, 0) := by unfold recover_m; rw [if_neg hc12, if_neg hc24, if_neg hc37, if_pos hc50] <;> rfl
  exact ⟨rfl, .tuple #[.agg #[dv0, dv1, J (d.fuse), .bool (d.down)], J 0], Mem.res_ct rfl rfl (hm53.at 2 rfl) Tryd.underlying25 rfl (by exact sz_25) rfl, ⟨⟨_, rfl, dv0, dv1, (by rw [he56]), by rw [he56]; exact hm53.give (hm53.from 0 rfl)⟩, hm53.below⟩⟩
 refine wp_skip (tj (hK48 _ _ (wk (fun K57 hK57 => (wq ?_)))))
 refine lw 40 (.agg #[dv0, dv1, J (d.fuse), .bool (d.down)]) (r_whole (hm46.at 1 rfl) Tryd.underlying25 rfl (by exact sz_25) rfl rfl) ?_
 refine lm 41 (J ((ended_m d ((current_m d).1) ((get_m d 1).1)))) ?_
 simp only [nz]
 refine lst rfl (m_callx hm46 42 rfl (run_readbody rfl rfl rfl) (readbody_any d (ended_m d ((current_m d).1) ((get_m d 1).1)) dv0 dv1 (seeS _) _ (hm46.from 0 rfl) (by omega) (by omega) (by have h2048 := few_of (d := d) (by assumption); first | omega | (have hcu := cur_of (d := d) (by omega); omega) | (have hef := ended_fit (d := d) (by assumption) (by assumption); omega) | (have hrb := readbody_q (d := d) (by assumption) (by assumption) (by assumption); first | exact hrb.2.2 | exact hrb.2.1 | exact hrb.1 | omega) | (have hef := ended_fit (d := d) (by assumption) (by assumption); have hrb := readbody_q (d := d) (by assumption) (by assumption) (by assumption); omega) | exact rise_ats (d := d) (by assumption) (by assumption) | (have hef := ended_fit (d := d) (by assumption) (by assumption); rw [writes_len]; omega)) (by have h2048 := few_of (d := d) (by assumption); first | omega | (have hcu := cur_of (d := d) (by omega); omega) | (have hef := ended_fit (d := d) (by assumption) (by assumption); omega) | (have hrb := readbody_q (d := d) (by assumption) (by assumption) (by assumption); first | exact hrb.2.2 | exact hrb.2.1 | exact hrb.1 | omega) | (have hef := ended_fit (d := d) (by assumption) (by assumption); have hrb := readbody_q (d := d) (by assumption) (by assumption) (by assumption); omega) | exact rise_ats (d := d) (by assumption) (by assumption) | (have hef := ended_fit (d := d) (by assumption) (by assumption); rw [writes_len]; omega))) (fun vv63 w58 hR64 hb65 hm59 => ?_))
 obtain ⟨v60, rfl, hg66⟩ := hR64
 obtain ⟨F62, hm67⟩ : ∃ F62, Mm none S w w58 [.see (DkR d dv0 dv1) Fd, .blk g4 #[dv0, dv1, J (d.fuse), .bool (d.down)] 25, .blk g7 #[.slice none 0 0, .slice none 0 0, J 0, .bool false] 25, .see (Rs eS 1 ((readbody_m d (ended_m d ((current_m d).1) ((get_m d 1).1))).1) v60) F62] := Mm.tookS hm46 hb65 hg66
 clear hm59 hg66 hb65
 simp only [nz]
 refine lm 39 (.tuple #[v60, J ((readbody_m d (ended_m d ((current_m d).1) ((get_m d 1).1))).2)]) ?_
 refine lw 43 (v60) (run_ex rfl rfl rfl) ?_
 refine lw 44 (J ((readbody_m d (ended_m d ((current_m d).1) ((get_m d 1).1))).2)) (run_ex rfl rfl rfl) ?_
 simp only [nz]
 refine la 8 (v60) ?_
 refine la 5 (J ((readbody_m d (ended_m d ((current_m d).1) ((get_m d 1).1))).2)) ?_
 simp only [nz]
 refine wn (tj (hK57 _ _ (wk (fun K68 hK68 => (wk (fun K69 hK69 => (wq ?_)))))))
 refine lm 45 (J ((readbody_m d (ended_m d ((current_m d).1) ((get_m d 1).1))).2)) ?_
 refine lw 46 (.bool (decide (¬ (readbody_m d (ended_m d ((current_m d).1) ((get_m d 1).1))).2 = 0))) (z_neq ((readbody_m d (ended_m d ((current_m d).1) ((get_m d 1).1))).2) 0 rfl rfl rfl) ?_
 simp only [nz]
 refine wn (tj (hK69 _ _ ?_))
 refine cond_d (¬ (readbody_m d (ended_m d ((current_m d).1) ((get_m d 1).1))).2 = 0) rfl (fun hc70 => ?_) (fun hc70 => ?_)
 ·refine wk (fun K71 hK71 => (wq ?_))
  refine lw 47 (.agg #[dv0, dv1, J (d.fuse), .bool (d.down)]) (r_whole (hm67.at 1 rfl) Tryd.underlying25 rfl (by exact sz_25) rfl rfl) ?_
  refine lm 48 (J ((readbody_m d (ended_m d ((current_m d).1) ((get_m d 1).1))).2)) ?_
  simp only [nz]
  have ho74 := (rd_one ((hm67.see 0 rfl).1))
  have ho75 := (rd_one ((hm67.see 0 rfl).2))
  refine lst rfl (m_store 2 25 _ _ 0 (.agg #[dv0, dv1, J (d.fuse), .bool (d.down)]) (old := #[.slice none 0 0, .slice none 0 0, J 0, .bool false]) (new := #[dv0, dv1, J (d.fuse), .bool (d.down)]) hm67 rfl rfl rfl rfl rfl (by exact sz_25) (show 0 + 4 ≤ 4 from by decide) a4 rfl (fun w72 hm73 => ?_))
  refine la 3 (J ((readbody_m d (ended_m d ((current_m d).1) ((get_m d 1).1))).2)) ?_
  simp only [nz]
  refine wn (tj (hK71 _ _ (wp_ret (then_r ?_))))
  have he76 : recover_m d = (d, (readbody_m d (ended_m d ((current_m d).1) ((get_m d 1).1))).2) := by unfold recover_m; rw [if_neg hc12, if_neg hc24, if_neg hc37, if_neg hc50, if_pos hc70] <;> rfl
  exact ⟨rfl, .tuple #[.agg #[dv0, dv1, J (d.fuse), .bool (d.down)], J ((readbody_m d (ended_m d ((current_m d).1) ((get_m d 1).1))).2)], Mem.res_ct rfl rfl (hm73.at 2 rfl) Tryd.underlying25 rfl (by exact sz_25) rfl, ⟨⟨_, rfl, dv0, dv1, (by rw [he76]), by rw [he76]; exact hm73.give (hm73.from 0 rfl)⟩, hm73.below⟩⟩
 refine wp_skip (tj (hK68 _ _ (wk (fun K77 hK77 => (wq ?_)))))
 refine lm 49 (v60) ?_
 refine lm 50 (J ((ended_m d ((current_m d).1) ((get_m d 1).1)))) ?_
 simp only [nz]
 refine lst rfl (m_callx hm67 51 rfl (run_writes rfl rfl rfl) (writes_any ((readbody_m d (ended_m d ((current_m d).1) ((get_m d 1).1))).1) (ended_m d ((current_m d).1) ((get_m d 1).1)) v60 (seeS _) _ (hm67.from 3 rfl) (by have h2048 := few_of (d := d) (by assumption); first | omega | (have hcu := cur_of (d := d) (by omega); omega) | (have hef := ended_fit (d := d) (by assumption) (by assumption); omega) | (have hrb := readbody_q (d := d) (by assumption) (by assumption) (by assumption); first | exact hrb.2.2 | exact hrb.2.1 | exact hrb.1 | omega) | (have hef := ended_fit (d := d) (by assumption) (by assumption); have hrb := readbody_q (d := d) (by assumption) (by assumption) (by assumption); omega) | exact rise_ats (d := d) (by assumption) (by assumption) | (have hef := ended_fit (d := d) (by assumption) (by assumption); rw [writes_len]; omega)) (by have h2048 := few_of (d := d) (by assumption); first | omega | (have hcu := cur_of (d := d) (by omega); omega) | (have hef := ended_fit (d := d) (by assumption) (by assumption); omega) | (have hrb := readbody_q (d := d) (by assumption) (by assumption) (by assumption); first | exact hrb.2.2 | exact hrb.2.1 | exact hrb.1 | omega) | (have hef := ended_fit (d := d) (by assumption) (by assumption); have hrb := readbody_q (d := d) (by assumption) (by assumption) (by assumption); omega) | exact rise_ats (d := d) (by assumption) (by assumption) | (have hef := ended_fit (d := d) (by assumption) (by assumption); rw [writes_len]; omega)) (by have h2048 := few_of (d := d) (by assumption); first | omega | (have hcu := cur_of (d := d) (by omega); omega) | (have hef := ended_fit (d := d) (by assumption) (by assumption); omega) | (have hrb := readbody_q (d := d) (by assumption) (by assumption) (by assumption); first | exact hrb.2.2 | exact hrb.2.1 | exact hrb.1 | omega) | (have hef := ended_fit (d := d) (by assumption) (by assumption); have hrb := readbody_q (d := d) (by assumption) (by assumption) (by assumption); omega) | exact rise_ats (d := d) (by assumption) (by assumption) | (have hef := ended_fit (d := d) (by assumption) (by assumption); rw [writes_len]; omega)) (by have h2048 := few_of (d := d) (by assumption); first | omega | (have hcu := cur_of (d := d) (by omega); omega) | (have hef := ended_fit (d := d) (by assumption) (by assumption); omega) | (have hrb := readbody_q (d := d) (by assumption) (by assumption) (by assumption); first | exact hrb.2.2 | exact hrb.2.1 | exact hrb.1 | omega) | (have hef := ended_fit (d := d) (by assumption) (by assumption); have hrb := readbody_q (d := d) (by assumption) (by assumption) (by assumption); omega) | exact rise_ats (d := d) (by assumption) (by assumption) | (have hef := ended_fit (d := d) (by assumption) (by assumption); rw [writes_len]; omega))) (fun v80 w78 hR84 hb85 hm79 => ?_))
 obtain ⟨_, rfl, hg86⟩ := hR84
 obtain ⟨F82, hm87⟩ : ∃ F82, Mm none S w w78 [.see (DkR d dv0 dv1) Fd, .blk g4 #[dv0, dv1, J (d.fuse), .bool (d.down)] 25, .blk g7 #[.slice none 0 0, .slice none 0 0, J 0, .bool false] 25, .see (Rs eS 1 ((readbody_m d (ended_m d ((current_m d).1) ((get_m d 1).1))).1) v60) F62, .see (Rs eWr 2 (writes_m ((readbody_m d (ended_m d ((current_m d).1) ((get_m d 1).1))).1) (ended_m d ((current_m d).1) ((get_m d 1).1))) v80) F82] := Mm.tookS hm67 hb85 hg86
 clear hm79 hg86 hb85
 simp only [nz]
 refine la 9 (v80) ?_
 simp only [nz]
 refine wn (tj (hK77 _ _ (wk (fun K88 hK88 => (wk (fun K89 hK89 => (wq ?_)))))))
 refine lm 52 (.string (tx ((get_m d 1).1))) ?_
 refine lm 53 (J ((current_m d).1)) ?_
 refine lm 54 (J ((ended_m d ((current_m d).1) ((get_m d 1).1)))) ?_
 simp only [nz]
 refine lm 55 (v60) ?_
 simp only [nz]
 refine lst rfl (m_call hm87 56 (.string (tx (rend_m ((current_m d).1) (ended_m d ((current_m d).1) ((get_m d 1).1)) ((readbody_m d (ended_m d ((current_m d).1) ((get_m d 1).1))).1)))) rfl (run_rend rfl rfl rfl rfl) (rend_any ((current_m d).1) (ended_m d ((current_m d).1) ((get_m d 1).1)) ((readbody_m d (ended_m d ((current_m d).1) ((get_m d 1).1))).1) v60 _ (hm87.see 3 rfl) (Laid.below hT hm87.below) (by have h2048 := few_of (d := d) (by assumption); first | omega | (have hcu := cur_of (d := d) (by omega); omega) | (have hef := ended_fit (d := d) (by assumption) (by assumption); omega) | (have hrb := readbody_q (d := d) (by assumption) (by assumption) (by assumption); first | exact hrb.2.2 | exact hrb.2.1 | exact hrb.1 | omega) | (have hef := ended_fit (d := d) (by assumption) (by assumption); have hrb := readbody_q (d := d) (by assumption) (by assumption) (by assumption); omega) | exact rise_ats (d := d) (by assumption) (by assumption) | (have hef := ended_fit (d := d) (by assumption) (by assumption); rw [writes_len]; omega)) (by have h2048 := few_of (d := d) (by assumption); first | omega | (have hcu := cur_of (d := d) (by omega); omega) | (have hef := ended_fit (d := d) (by assumption) (by assumption); omega) | (have hrb := readbody_q (d := d) (by assumption) (by assumption) (by assumption); first | exact hrb.2.2 | exact hrb.2.1 | exact hrb.1 | omega) | (have hef := ended_fit (d := d) (by assumption) (by assumption); have hrb := readbody_q (d := d) (by assumption) (by assumption) (by assumption); omega) | exact rise_ats (d := d) (by assumption) (by assumption) | (have hef := ended_fit (d := d) (by assumption) (by assumption); rw [writes_len]; omega))) (fun w90 hm91 => ?_))
 have hf92 : (rend_m ((current_m d).1) (ended_m d ((current_m d).1) ((get_m d 1).1)) ((readbody_m d (ended_m d ((current_m d).1) ((get_m d 1).1))).1)).length = 256 := rend_len ((current_m d).1) (ended_m d ((current_m d).1) ((get_m d 1).1)) ((readbody_m d (ended_m d ((current_m d).1) ((get_m d 1).1))).1)
 simp only [nz]
 refine lvb 57 (¬ (get_m d 1).1 = (rend_m ((current_m d).1) (ended_m d ((current_m d).1) ((get_m d 1).1)) ((readbody_m d (ended_m d ((current_m d).1) ((get_m d 1).1))).1))) rfl rfl (t_neq ((get_m d 1).1) (rend_m ((current_m d).1) (ended_m d ((current_m d).1) ((get_m d 1).1)) ((readbody_m d (ended_m d ((current_m d).1) ((get_m d 1).1))).1)) rfl rfl rfl) (fun hs93 => ?_) (fun hs93 => ?_)
 ·simp only [nz]
  refine lm 58 (.bool true) ?_
  simp only [nz]
  refine lst_skip 59 rfl rfl ?_
  simp only [nz]
  refine lst_skip 60 rfl rfl ?_
  simp only [nz]
  refine lst_skip 61 rfl rfl ?_
  simp only [nz]
  refine lst_skip 62 rfl rfl ?_
  simp only [nz]
  refine lw 63 (.bool true) (run_pick rfl rfl rfl) ?_
  simp only [nz]
  refine wn (tj (hK89 _ _ ?_))
  refine cond_t rfl ?_
  refine wk (fun K94 hK94 => (wq ?_))
  refine lw 64 (.agg #[dv0, dv1, J (d.fuse), .bool (d.down)]) (r_whole (hm91.at 1 rfl) Tryd.underlying25 rfl (by exact sz_25) rfl rfl) ?_
  simp only [nz]
  have ho97 := (rd_one ((hm91.see 0 rfl).1))
  have ho98 := (rd_one ((hm91.see 0 rfl).2))
  refine lst rfl (m_store 2 25 _ _ 0 (.agg #[dv0, dv1, J (d.fuse), .bool (d.down)]) (old := #[.slice none 0 0, .slice none 0 0, J 0, .bool false]) (new := #[dv0, dv1, J (d.fuse), .bool (d.down)]) hm91 rfl rfl rfl rfl rfl (by exact sz_25) (show 0 + 4 ≤ 4 from by decide) a4 rfl (fun w95 hm96 => ?_))
  refine la 3 (J 20) ?_
  simp only [nz]
  refine wn (tj (hK94 _ _ (wp_ret (then_r ?_))))
  have he99 : recover_m d = (d, 20) := by unfold recover_m; rw [if_neg hc12, if_neg hc24, if_neg hc37, if_neg hc50, if_neg hc70, if_pos hs93] <;> rfl
  exact ⟨rfl, .tuple #[.agg #[dv0, dv1, J (d.fuse), .bool (d.down)], J 20], Mem.res_ct rfl rfl (hm96.at 2 rfl) Tryd.underlying25 rfl (by exact sz_25) rfl, ⟨⟨_, rfl, dv0, dv1, (by rw [he99]), by rw [he99]; exact hm96.give (hm96.from 0 rfl)⟩, hm96.below⟩⟩
 simp only [nz]
 refine lm 58 (.bool false) ?_
 refine lw 59 (.agg #[dv0, dv1, J (d.fuse), .bool (d.down)]) (r_whole (hm91.at 1 rfl) Tryd.underlying25 rfl (by exact sz_25) rfl rfl) ?_
 refine lm 60 (v80) ?_
 simp only [nz]
 refine lst rfl (m_call hm91 61 (.bool ((rise_m d (writes_m ((readbody_m d (ended_m d ((current_m d).1) ((get_m d 1).1))).1) (ended_m d ((current_m d).1) ((get_m d 1).1)))))) rfl (run_rise rfl rfl rfl) (rise_any d (writes_m ((readbody_m d (ended_m d ((current_m d).1) ((get_m d 1).1))).1) (ended_m d ((current_m d).1) ((get_m d 1).1))) dv0 dv1 v80 _ (hm91.see 0 rfl) (hm91.see 4 rfl) (by omega) (by omega) (by have h2048 := few_of (d := d) (by assumption); first | omega | (have hcu := cur_of (d := d) (by omega); omega) | (have hef := ended_fit (d := d) (by assumption) (by assumption); omega) | (have hrb := readbody_q (d := d) (by assumption) (by assumption) (by assumption); first | exact hrb.2.2 | exact hrb.2.1 | exact hrb.1 | omega) | (have hef := ended_fit (d := d) (by assumption) (by assumption); have hrb := readbody_q (d := d) (by assumption) (by assumption) (by assumption); omega) | exact rise_ats (d := d) (by assumption) (by assumption) | (have hef := ended_fit (d := d) (by assumption) (by assumption); rw [writes_len]; omega))) (fun w100 hm101 => ?_))
 simp only [nz]
 refine lw 62 (.bool (!(rise_m d (writes_m ((readbody_m d (ended_m d ((current_m d).1) ((get_m d 1).1))).1) (ended_m d ((current_m d).1) ((get_m d 1).1)))))) (r_not (rise_m d (writes_m ((readbody_m d (ended_m d ((current_m d).1) ((get_m d 1).1))).1) (ended_m d ((current_m d).1) ((get_m d 1).1)))) rfl rfl) ?_
 refine lw 63 (.bool (!(rise_m d (writes_m ((readbody_m d (ended_m d ((current_m d).1) ((get_m d 1).1))).1) (ended_m d ((current_m d).1) ((get_m d 1).1)))))) (run_pickf rfl rfl rfl) ?_
 simp only [nz]
 refine wn (tj (hK89 _ _ ?_))
 refine cond_B (!(rise_m d (writes_m ((readbody_m d (ended_m d ((current_m d).1) ((get_m d 1).1))).1) (ended_m d ((current_m d).1) ((get_m d 1).1))))) rfl (fun hc102 => ?_) (fun hc102 => ?_)
 ·refine wk (fun K103 hK103 => (wq ?_))
  refine lw 64 (.agg #[dv0, dv1, J (d.fuse), .bool (d.down)]) (r_whole (hm101.at 1 rfl) Tryd.underlying25 rfl (by exact sz_25) rfl rfl) ?_
  simp only [nz]
  have ho106 := (rd_one ((hm101.see 0 rfl).1))
  have ho107 := (rd_one ((hm101.see 0 rfl).2))
  refine lst rfl (m_store 2 25 _ _ 0 (.agg #[dv0, dv1, J (d.fuse), .bool (d.down)]) (old := #[.slice none 0 0, .slice none 0 0, J 0, .bool false]) (new := #[dv0, dv1, J (d.fuse), .bool (d.down)]) hm101 rfl rfl rfl rfl rfl (by exact sz_25) (show 0 + 4 ≤ 4 from by decide) a4 rfl (fun w104 hm105 => ?_))
  refine la 3 (J 20) ?_
  simp only [nz]
  refine wn (tj (hK103 _ _ (wp_ret (then_r ?_))))
  have he108 : recover_m d = (d, 20) := by unfold recover_m; rw [if_neg hc12, if_neg hc24, if_neg hc37, if_neg hc50, if_neg hc70, if_neg hs93, if_pos hc102] <;> rfl
  exact ⟨rfl, .tuple #[.agg #[dv0, dv1, J (d.fuse), .bool (d.down)], J 20], Mem.res_ct rfl rfl (hm105.at 2 rfl) Tryd.underlying25 rfl (by exact sz_25) rfl, ⟨⟨_, rfl, dv0, dv1, (by rw [he108]), by rw [he108]; exact hm105.give (hm105.from 0 rfl)⟩, hm105.below⟩⟩
 refine wp_skip (tj (hK88 _ _ (wk (fun K109 hK109 => (wq ?_)))))
 refine lw 65 (.agg #[dv0, dv1, J (d.fuse), .bool (d.down)]) (r_whole (hm101.at 1 rfl) Tryd.underlying25 rfl (by exact sz_25) rfl rfl) ?_
 refine lm 66 (J ((current_m d).1)) ?_
 refine lm 67 (v80) ?_
 simp only [nz]
 refine lst rfl (m_callx hm101 68 rfl (run_bring rfl rfl rfl rfl) (bring_any d ((current_m d).1) (writes_m ((readbody_m d (ended_m d ((current_m d).1) ((get_m d 1).1))).1) (ended_m d ((current_m d).1) ((get_m d 1).1))) dv0 dv1 v80 (seeS _) _ (hm101.from 0 rfl) (hm101.from 4 rfl) (by omega) (by omega) (by omega) (by have h2048 := few_of (d := d) (by assumption); first | omega | (have hcu := cur_of (d := d) (by omega); omega) | (have hef := ended_fit (d := d) (by assumption) (by assumption); omega) | (have hrb := readbody_q (d := d) (by assumption) (by assumption) (by assumption); first | exact hrb.2.2 | exact hrb.2.1 | exact hrb.1 | omega) | (have hef := ended_fit (d := d) (by assumption) (by assumption); have hrb := readbody_q (d := d) (by assumption) (by assumption) (by assumption); omega) | exact rise_ats (d := d) (by assumption) (by assumption) | (have hef := ended_fit (d := d) (by assumption) (by assumption); rw [writes_len]; omega)) (by have h2048 := few_of (d := d) (by assumption); first | omega | (have hcu := cur_of (d := d) (by omega); omega) | (have hef := ended_fit (d := d) (by assumption) (by assumption); omega) | (have hrb := readbody_q (d := d) (by assumption) (by assumption) (by assumption); first | exact hrb.2.2 | exact hrb.2.1 | exact hrb.1 | omega) | (have hef := ended_fit (d := d) (by assumption) (by assumption); have hrb := readbody_q (d := d) (by assumption) (by assumption) (by assumption); omega) | exact rise_ats (d := d) (by assumption) (by assumption) | (have hef := ended_fit (d := d) (by assumption) (by assumption); rw [writes_len]; omega)) (by have h2048 := few_of (d := d) (by assumption); first | omega | (have hcu := cur_of (d := d) (by omega); omega) | (have hef := ended_fit (d := d) (by assumption) (by assumption); omega) | (have hrb := readbody_q (d := d) (by assumption) (by assumption) (by assumption); first | exact hrb.2.2 | exact hrb.2.1 | exact hrb.1 | omega) | (have hef := ended_fit (d := d) (by assumption) (by assumption); have hrb := readbody_q (d := d) (by assumption) (by assumption) (by assumption); omega) | exact rise_ats (d := d) (by assumption) (by assumption) | (have hef := ended_fit (d := d) (by assumption) (by assumption); rw [writes_len]; omega)) (by have h2048 := few_of (d := d) (by assumption); first | omega | (have hcu := cur_of (d := d) (by omega); omega) | (have hef := ended_fit (d := d) (by assumption) (by assumption); omega) | (have hrb := readbody_q (d := d) (by assumption) (by assumption) (by assumption); first | exact hrb.2.2 | exact hrb.2.1 | exact hrb.1 | omega) | (have hef := ended_fit (d := d) (by assumption) (by assumption); have hrb := readbody_q (d := d) (by assumption) (by assumption) (by assumption); omega) | exact rise_ats (d := d) (by assumption) (by assumption) | (have hef := ended_fit (d := d) (by assumption) (by assumption); rw [writes_len]; omega))) (fun vv116 w110 hR117 hb118 hm111 => ?_))
 obtain ⟨v112, v113, rfl, hg119⟩ := hR117
 obtain ⟨F115, hm120⟩ : ∃ F115, Mm none S w w110 [.see (DkR d dv0 dv1) Fd, .blk g4 #[dv0, dv1, J (d.fuse), .bool (d.down)] 25, .blk g7 #[.slice none 0 0, .slice none 0 0, J 0, .bool false] 25, .see (Rs eS 1 ((readbody_m d (ended_m d ((current_m d).1) ((get_m d 1).1))).1) v60) F62, .see (Rs eWr 2 (writes_m ((readbody_m d (ended_m d ((current_m d).1) ((get_m d 1).1))).1) (ended_m d ((current_m d).1) ((get_m d 1).1))) v80) F82, .see (DkR ((bring_m d ((current_m d).1) (writes_m ((readbody_m d (ended_m d ((current_m d).1) ((get_m d 1).1))).1) (ended_m d ((current_m d).1) ((get_m d 1).1)))).1) v112 v113) F115] := Mm.tookS hm101 hb118 hg119
 clear hm111 hg119 hb118
 simp only [nz]
 refine lw 69 (.agg #[v112, v113, J (((bring_m d ((current_m d).1) (writes_m ((readbody_m d (ended_m d ((current_m d).1) ((get_m d 1).1))).1) (ended_m d ((current_m d).1) ((get_m d 1).1)))).1).fuse), .bool (((bring_m d ((current_m d).1) (writes_m ((readbody_m d (ended_m d ((current_m d).1) ((get_m d 1).1))).1) (ended_m d ((current_m d).1) ((get_m d 1).1)))).1).down)]) (run_ex rfl rfl rfl) ?_
 refine lw 70 (J ((bring_m d ((current_m d).1) (writes_m ((readbody_m d (ended_m d ((current_m d).1) ((get_m d 1).1))).1) (ended_m d ((current_m d).1) ((get_m d 1).1)))).2)) (run_ex rfl rfl rfl) ?_
 simp only [nz]
 have ho123 := (rd_one ((hm120.see 5 rfl).1))
 have ho124 := (rd_one ((hm120.see 5 rfl).2))
 refine lst rfl (m_store 2 25 _ _ 0 (.agg #[v112, v113, J (((bring_m d ((current_m d).1) (writes_m ((readbody_m d (ended_m d ((current_m d).1) ((get_m d 1).1))).1) (ended_m d ((current_m d).1) ((get_m d 1).1)))).1).fuse), .bool (((bring_m d ((current_m d).1) (writes_m ((readbody_m d (ended_m d ((current_m d).1) ((get_m d 1).1))).1) (ended_m d ((current_m d).1) ((get_m d 1).1)))).1).down)]) (old := #[.slice none 0 0, .slice none 0 0, J 0, .bool false]) (new := #[v112, v113, J (((bring_m d ((current_m d).1) (writes_m ((readbody_m d (ended_m d ((current_m d).1) ((get_m d 1).1))).1) (ended_m d ((current_m d).1) ((get_m d 1).1)))).1).fuse), .bool (((bring_m d ((current_m d).1) (writes_m ((readbody_m d (ended_m d ((current_m d).1) ((get_m d 1).1))).1) (ended_m d ((current_m d).1) ((get_m d 1).1)))).1).down)]) hm120 rfl rfl rfl rfl rfl (by exact sz_25) (show 0 + 4 ≤ 4 from by decide) a4 rfl (fun w121 hm122 => ?_))
 refine la 3 (J ((bring_m d ((current_m d).1) (writes_m ((readbody_m d (ended_m d ((current_m d).1) ((get_m d 1).1))).1) (ended_m d ((current_m d).1) ((get_m d 1).1)))).2)) ?_
 simp only [nz]
 refine wn (tj (hK109 _ _ (wp_ret ?_)))
 have he125 : recover_m d = (((bring_m d ((current_m d).1) (writes_m ((readbody_m d (ended_m d ((current_m d).1) ((get_m d 1).1))).1) (ended_m d ((current_m d).1) ((get_m d 1).1)))).1), (bring_m d ((current_m d).1) (writes_m ((readbody_m d (ended_m d ((current_m d).1) ((get_m d 1).1))).1) (ended_m d ((current_m d).1) ((get_m d 1).1)))).2) := by unfold recover_m; rw [if_neg hc12, if_neg hc24, if_neg hc37, if_neg hc50, if_neg hc70, if_neg hs93, if_neg hc102] <;> rfl
 exact ⟨rfl, .tuple #[.agg #[v112, v113, J (((bring_m d ((current_m d).1) (writes_m ((readbody_m d (ended_m d ((current_m d).1) ((get_m d 1).1))).1) (ended_m d ((current_m d).1) ((get_m d 1).1)))).1).fuse), .bool (((bring_m d ((current_m d).1) (writes_m ((readbody_m d (ended_m d ((current_m d).1) ((get_m d 1).1))).1) (ended_m d ((current_m d).1) ((get_m d 1).1)))).1).down)], J ((bring_m d ((current_m d).1) (writes_m ((readbody_m d (ended_m d ((current_m d).1) ((get_m d 1).1))).1) (ended_m d ((current_m d).1) ((get_m d 1).1)))).2)], Mem.res_ct rfl rfl (hm122.at 2 rfl) Tryd.underlying25 rfl (by exact sz_25) rfl, ⟨⟨_, rfl, v112, v113, (by rw [he125]), by rw [he125]; exact hm122.give (hm122.from 5 rfl)⟩, hm122.below⟩⟩
theorem run_recover {o : Oper} {a : Act} {w : World} {x0 : Operand} {v0 : Value} (ho : o.op = .call { callee := .value (.func 22), args := #[x0], argTypes := #[25] }) (h0 : a.eval x0 = v0) :
  (execOp a.eval o).run Tryd.prog w = .ok (.enter 22 #[v0]) w := by
 unfold execOp
 simp only [ho]
 have hf : a.eval (.func 22) = .func (.func 22) #[] #[] := rfl
 generalize a.eval = f at *
 go_simp
end Go.Proofs.YtnmaaijeamlplaaDoor.Bk
