import Derived.Test.YtnmaaijeamlplaaDoorReB
set_option linter.unusedVariables false
set_option linter.unusedSimpArgs false
set_option maxHeartbeats 4000000
set_option maxRecDepth 100000
namespace Go.Proofs.YtnmaaijeamlplaaDoor.Bk
open Go.RowKit
open Go.Proofs.YtnmaaijeamlplaaDoor.Sym Go.Proofs.YtnmaaijeamlplaaDoor.Mem
open Go.Proofs.YtnmaaijeamlplaaDoor.Sx hiding Mm m_alloc m_store m_call m_callx
attribute [local irreducible] right_m rright_m ready_m rready_m copied_m burn_m put_m get_m flush_m spent_m rput_m rget_m rflush_m blank_m rnew_m same_m
attribute [local irreducible] number_m value_m fill_m beginning_m log_m fits_m lists_m epoch_m
attribute [local irreducible] wpList Oper.wp
theorem log_is (d : Dk) : log_m d = (((d.safe.length / 4 : Nat)) : Int) := by
 unfold log_m
 omega
def home_m_b0 (d : Dk) (rec : (List (List UInt8)) × Int → Sum ((List (List UInt8)) × Int) ((List (List UInt8)) × Int)) (l20 : List (List UInt8)) (x22 : Int) : Sum ((List (List UInt8)) × Int) ((List (List UInt8)) × Int) :=
 if x22 < ((d.safe.length : Nat) : Int) then
  if ¬ (get_m d x22).2 = 0 then
   .inr (([] : List (List UInt8)), (get_m d x22).2)
  else
   rec ((l20 ++ [((get_m d x22).1)]), (x22 + (1 : Int)))
 else
  .inl (l20, x22)
def home_m_l0 (d : Dk) : Nat → (List (List UInt8)) × Int → Sum ((List (List UInt8)) × Int) ((List (List UInt8)) × Int)
 | 0, zz => .inl zz
 | nq + 1, zz => home_m_b0 d (home_m_l0 d nq) zz.1 zz.2
def home_m_k0 (d : Dk) (y26 : List (List UInt8)) (y28 : Int) : (List (List UInt8)) × Int :=
 (y26, 0)
def home_m (d : Dk) : (List (List UInt8)) × Int :=
 if (!(right_m d)) = true then
  (([] : List (List UInt8)), 1)
 else
  fin (home_m_l0 d ((((d.safe.length : Nat) : Int) - (log_m d)).toNat + 1) (([] : List (List UInt8)), (log_m d))) (fun r => r) (fun zz => home_m_k0 d zz.1 zz.2)
theorem home_any (d : Dk) (dv0 : Value) (dv1 : Value) (S : Nat → Prop) (w : World) (hd : From S (DkR d dv0 dv1) w) (hp0 : d.safe.length ≤ 8796093022208) (hp1 : d.loose.length ≤ 5864070000000) : Calls Tryd.prog 10 #[.agg #[dv0, dv1, J (d.fuse), .bool (d.down)]] w (fun e w' => (∃ v, e = .returned v ∧ ∃ (o0 : Value), v = .tuple #[o0, J ((home_m d).2)] ∧ Gives w w' S (Rs eS 1 ((home_m d).1) o0)) ∧ Below w.heap.size w w') := by
 go_enter Tryd.func10, Tryd.ntmps10
 have hm00 := Mm.nil none S w
 obtain ⟨Fd, hm01⟩ := hm00.come hd
 have hm0 := hm01
 refine wk (fun K1 hK1 => (wq ?_))
 refine lst rfl (m_alloc (c := #[dv0, dv1, J (d.fuse), .bool (d.down)]) (T := 25) hm0 1 rfl (run_box rfl rfl) (fun g4 w2 hm3 => ?_))
 simp only [nz]
 refine la 2 (.slice none 0 0) ?_
 refine la 3 (J 0) ?_
 simp only [nz]
 refine wn (tj (hK1 _ _ (wk (fun K5 hK5 => (wk (fun K6 hK6 => (wq ?_)))))))
 refine lw 8 (.agg #[dv0, dv1, J (d.fuse), .bool (d.down)]) (r_whole (hm3.at 1 rfl) Tryd.underlying25 rfl (by exact sz_25) rfl rfl) ?_
 simp only [nz]
 refine lst rfl (m_call hm3 9 (.bool ((right_m d))) rfl (run_right rfl rfl) (right_any d dv0 dv1 _ (hm3.see 0 rfl) (by omega)) (fun w7 hm8 => ?_))
 simp only [nz]
 refine lw 10 (.bool (!(right_m d))) (r_not (right_m d) rfl rfl) ?_
 simp only [nz]
 refine wn (tj (hK6 _ _ ?_))
 refine cond_B (!(right_m d)) rfl (fun hc9 => ?_) (fun hc9 => ?_)
 ·refine wk (fun K10 hK10 => (wq ?_))
  refine la 2 (.slice none 0 0) ?_
  refine la 3 (J 1) ?_
  simp only [nz]
  refine wn (tj (hK10 _ _ (wp_ret (then_r ?_))))
  have he11 : home_m d = (([] : List (List UInt8)), 1) := by unfold home_m; rw [if_pos hc9] <;> rfl
  exact ⟨rfl, .tuple #[.slice none 0 0, J 1], res_tt rfl rfl rfl, ⟨⟨_, rfl, (.slice none 0 0), (by rw [he11]), by rw [he11]; exact hm8.give (From.pure (fun W => Rs.nil eS 1 W))⟩, hm8.below⟩⟩
 refine wp_skip (tj (hK5 _ _ (wk (fun K12 hK12 => (wq ?_)))))
 refine la 4 (.slice none 0 0) ?_
 simp only [nz]
 refine wn (tj (hK12 _ _ (wk (fun K13 hK13 => (wk (fun K14 hK14 => (wq ?_)))))))
 refine lw 11 (.agg #[dv0, dv1, J (d.fuse), .bool (d.down)]) (r_whole (hm8.at 1 rfl) Tryd.underlying25 rfl (by exact sz_25) rfl rfl) ?_
 simp only [nz]
 refine lst rfl (m_call hm8 12 (J ((log_m d))) rfl (run_log rfl rfl) (log_any d dv0 dv1 _ (hm8.see 0 rfl) (by omega) (by omega)) (fun w15 hm16 => ?_))
 have hf17 : (log_m d) = (((d.safe.length / 4 : Nat)) : Int) := log_is d
 simp only [nz]
 refine la 5 (J ((log_m d))) ?_
 simp only [nz]
 refine wn (tj (hK14 _ _ ?_))
 have hm19 : Mm none S w w15 [.see (DkR d dv0 dv1) Fd, .blk g4 #[dv0, dv1, J (d.fuse), .bool (d.down)] 25, .row (.slice none 0 0) ([] : List (List UInt8)).length (([] : List (List UInt8)).flatMap eS) 9 1] := hm16.nilrow 9 1
 refine wp_cutK (fun a' w' => ∃ (y26 : List (List UInt8)) (y28 : Int) (v27 : Value) (yu0 : Nat → Value), home_m_l0 d (((d.safe.length : Int) - (log_m d)).toNat + 1) (([] : List (List UInt8)), (log_m d)) = .inl (y26, y28) ∧ (y26.length ≤ y28 ∧ y28 ≤ d.safe.length) ∧ a' = ⟨#[.agg #[dv0, dv1, J (d.fuse), .bool (d.down)], Pp g4 0, yu0 0, yu0 1, v27, J (y28), yu0 2, yu0 3, .agg #[dv0, dv1, J (d.fuse), .bool (d.down)], .bool ((right_m d)), .bool (!(right_m d)), .agg #[dv0, dv1, J (d.fuse), .bool (d.down)], J ((log_m d)), yu0 4, yu0 5, yu0 6, yu0 7, yu0 8, yu0 9, yu0 10, yu0 11, yu0 12, yu0 13, yu0 14, yu0 15, yu0 16, yu0 17, yu0 18, yu0 19, yu0 20, yu0 21, yu0 22, yu0 23, undef], []⟩ ∧ Mm none S w w' [.see (DkR d dv0 dv1) Fd, .blk g4 #[dv0, dv1, J (d.fuse), .bool (d.down)] 25, .row v27 y26.length (y26.flatMap eS) 9 1]) ?_ ?_
 ·refine wp_block ?_
  refine wp_loop_n (fun n' a' w' => ∃ (n23 : Nat) (l20 : List (List UInt8)) (x22 : Int) (v21 : Value) (u0 : Nat → Value), n' = n23 ∧ ((d.safe.length : Int) - x22).toNat < n23 ∧ home_m_l0 d (((d.safe.length : Int) - (log_m d)).toNat + 1) (([] : List (List UInt8)), (log_m d)) = home_m_l0 d n23 (l20, x22) ∧ (l20.length ≤ x22 ∧ x22 ≤ d.safe.length) ∧ a' = ⟨#[.agg #[dv0, dv1, J (d.fuse), .bool (d.down)], Pp g4 0, u0 0, u0 1, v21, J (x22), u0 2, u0 3, .agg #[dv0, dv1, J (d.fuse), .bool (d.down)], .bool ((right_m d)), .bool (!(right_m d)), .agg #[dv0, dv1, J (d.fuse), .bool (d.down)], J ((log_m d)), u0 4, u0 5, u0 6, u0 7, u0 8, u0 9, u0 10, u0 11, u0 12, u0 13, u0 14, u0 15, u0 16, u0 17, u0 18, u0 19, u0 20, u0 21, u0 22, u0 23, undef], []⟩ ∧ Mm none S w w' [.see (DkR d dv0 dv1) Fd, .blk g4 #[dv0, dv1, J (d.fuse), .bool (d.down)] 25, .row v21 l20.length (l20.flatMap eS) 9 1]) ⟨(((d.safe.length : Int) - (log_m d)).toNat + 1), ([] : List (List UInt8)), (log_m d), .slice none 0 0, (fun qq => List.getD [.slice none 0 0, J 0, undef, undef, undef, undef, undef, undef, undef, undef, undef, undef, undef, undef, undef, undef, undef, undef, undef, undef, undef, undef, undef, undef] qq undef), rfl, Nat.lt_succ_self _, rfl, (by simp; omega), rfl, hm19⟩ ?_
  rintro n23 _ w30 ⟨_, l20, x22, v21, u0, rfl, hl34, hi25, hho, rfl, hm31⟩ R32 hR32
  obtain ⟨k24, rfl⟩ : ∃ k, n23 = k + 1 := ⟨n23 - 1, by omega⟩
  refine wk (fun K35 hK35 => (wk (fun K36 hK36 => (wq ?_))))
  refine lm 13 (J (x22)) ?_
  refine lw 14 (Pp g4 0) (r_fa25_0 g4 0 rfl rfl) ?_
  refine lw 15 (dv0) (r_load (hm31.at 1 rfl) rfl Tryd.underlying22 rfl rfl rfl) ?_
  simp only [nz]
  refine lw 16 (J (d.safe.length : Int)) (s_len ((hm31.see 0 rfl).1) rfl Tryd.underlying22 rfl) ?_
  refine lw 17 (.bool (decide (x22 < (d.safe.length : Int)))) (z_lss x22 (d.safe.length : Int) rfl rfl rfl) ?_
  simp only [nz]
  refine wn (tj (hK36 _ _ ?_))
  refine cond_d (x22 < (d.safe.length : Int)) rfl (fun hc37 => ?_) (fun hc37 => ?_)
  rotate_left
  ·refine wp_exit (then_x (then_x (blk_x ?_)))
   refine tj ?_
   exact ⟨l20, x22, v21, (fun qq => List.getD [u0 0, u0 1, u0 2, u0 3, J (x22), Pp g4 0, dv0, J (d.safe.length : Int), .bool (decide (x22 < (d.safe.length : Int))), u0 9, u0 10, u0 11, u0 12, u0 13, u0 14, u0 15, u0 16, u0 17, u0 18, u0 19, u0 20, u0 21, u0 22, u0 23] qq undef), (hi25.trans (show home_m_b0 d (home_m_l0 d k24) l20 x22 = .inl (l20, x22) from by unfold home_m_b0; rw [if_neg hc37] <;> rfl)), (by omega), rfl, hm31⟩
  refine wp_skip (tj (hK35 _ _ (wk (fun K38 hK38 => ?_))))
  refine wp_block ?_
  refine wk (fun K39 hK39 => (wq ?_))
  refine lw 21 (.agg #[dv0, dv1, J (d.fuse), .bool (d.down)]) (r_whole (hm31.at 1 rfl) Tryd.underlying25 rfl (by exact sz_25) rfl rfl) ?_
  refine lm 22 (J (x22)) ?_
  simp only [nz]
  refine lst rfl (m_call hm31 23 (.tuple #[.string (tx ((get_m d x22).1)), J ((get_m d x22).2)]) rfl (run_get rfl rfl rfl) (get_any d x22 dv0 dv1 _ (hm31.see 0 rfl) (by omega) (by omega)) (fun w40 hm41 => ?_))
  have hf42 : ¬ (get_m d x22).2 = 0 ∨ (get_m d x22).1.length = 256 := get_len d x22
  simp only [nz]
  refine lm 20 (.tuple #[.string (tx ((get_m d x22).1)), J ((get_m d x22).2)]) ?_
  refine lw 24 (.string (tx ((get_m d x22).1))) (run_ex rfl rfl rfl) ?_
  refine lw 25 (J ((get_m d x22).2)) (run_ex rfl rfl rfl) ?_
  simp only [nz]
  refine la 6 (.string (tx ((get_m d x22).1))) ?_
  refine la 7 (J ((get_m d x22).2)) ?_
  simp only [nz]
  refine wn (tj (hK39 _ _ (wk (fun K43 hK43 => (wk (fun K44 hK44 => (wq ?_)))))))
  refine lm 26 (J ((get_m d x22).2)) ?_
  refine lw 27 (.bool (decide (¬ (get_m d x22).2 = 0))) (z_neq ((get_m d x22).2) 0 rfl rfl rfl) ?_
  simp only [nz]
  refine wn (tj (hK44 _ _ ?_))
  refine cond_d (¬ (get_m d x22).2 = 0) rfl (fun hc45 => ?_) (fun hc45 => ?_)
  ·refine wk (fun K46 hK46 => (wq ?_))
   refine lm 28 (J ((get_m d x22).2)) ?_
   refine la 2 (.slice none 0 0) ?_
   refine la 3 (J ((get_m d x22).2)) ?_
   simp only [nz]
   refine wn (tj (hK46 _ _ (wp_ret (then_r (blk_r (then_r (then_r (blk_r (then_r (then_r ?_))))))))))
   have he47 : home_m_l0 d ((((d.safe.length : Nat) : Int) - (log_m d)).toNat + 1) (([] : List (List UInt8)), (log_m d)) = .inr (([] : List (List UInt8)), (get_m d x22).2) := (hi25.trans (show home_m_b0 d (home_m_l0 d k24) l20 x22 = .inr (([] : List (List UInt8)), (get_m d x22).2) from by unfold home_m_b0; rw [if_pos hc37, if_pos hc45] <;> rfl))
   have he48 : home_m d = (([] : List (List UInt8)), (get_m d x22).2) := by unfold home_m; rw [if_neg hc9, he47] <;> rfl
   exact ⟨rfl, .tuple #[.slice none 0 0, J ((get_m d x22).2)], res_tt rfl rfl rfl, ⟨⟨_, rfl, (.slice none 0 0), (by rw [he48]), by rw [he48]; exact hm41.give (From.pure (fun W => Rs.nil eS 1 W))⟩, hm41.below⟩⟩
  refine wp_skip (tj (hK43 _ _ (wq ?_)))
  refine lm 29 (v21) ?_
  refine lm 30 (.string (tx ((get_m d x22).1))) ?_
  simp only [nz]
  refine lst rfl (m_make (c := #[.string (tx ((get_m d x22).1))]) (T := 9) (fun g => Sl g 0 1 1) hm41 31 rfl (by unfold execOp; go_simp; try rfl) (fun g51 w49 hm50 => ?_))
  simp only [nz]
  obtain ⟨iq, hiq, hz1, hz2, hz3⟩ := inf_9
  refine lst rfl (m_appendR 2 (l := l20) (l2 := [((get_m d x22).1)]) iq _ _ _ (Sl g51 0 1 1) hm50 rfl 32 rfl rfl Tryd.underlying22 hiq hz1 hz2 hz3 eS_len eS_one rfl (by decide) rfl rfl (Rs.blk (l := [((get_m d x22).1)]) (hm50.at 3 rfl) rfl rfl eS_len (Nat.le_refl _)) (by simp; omega) (by simp; omega) (fun v54 w52 hm53 => ?_))
  simp only [nz]
  refine la 4 (v54) ?_
  simp only [nz]
  refine wn (blk_n (tj (hK38 _ _ (wq ?_))))
  refine lm 18 (J (x22)) ?_
  refine lw 19 (J ((x22 + (1 : Int)))) (z_add x22 (1 : Int) _ (by rw [IntKind.wrap_i64]; omega) rfl rfl rfl) ?_
  refine la 5 (J ((x22 + (1 : Int)))) ?_
  simp only [nz]
  refine wn ?_
  refine tj (hR32 _ _ _ ⟨k24, (l20 ++ [((get_m d x22).1)]), (x22 + (1 : Int)), v54, (fun qq => List.getD [u0 0, u0 1, .string (tx ((get_m d x22).1)), J ((get_m d x22).2), J (x22), Pp g4 0, dv0, J (d.safe.length : Int), .bool (decide (x22 < (d.safe.length : Int))), J (x22), J ((x22 + (1 : Int))), .tuple #[.string (tx ((get_m d x22).1)), J ((get_m d x22).2)], .agg #[dv0, dv1, J (d.fuse), .bool (d.down)], J (x22), .tuple #[.string (tx ((get_m d x22).1)), J ((get_m d x22).2)], .string (tx ((get_m d x22).1)), J ((get_m d x22).2), J ((get_m d x22).2), .bool (decide (¬ (get_m d x22).2 = 0)), u0 19, v21, .string (tx ((get_m d x22).1)), Sl g51 0 1 1, v54] qq undef), rfl, (by omega), (hi25.trans (show home_m_b0 d (home_m_l0 d k24) l20 x22 = home_m_l0 d k24 ((l20 ++ [((get_m d x22).1)]), (x22 + (1 : Int))) from by unfold home_m_b0; rw [if_pos hc37, if_neg hc45] <;> rfl)), (by rw [List.length_append, List.length_singleton]; omega), rfl, (Mm.reorder hm53 [0, 1, 2] (by decide) rfl)⟩ ?_)
  omega
 rintro _ w55 ⟨y26, y28, v27, yu0, hx29, hho, rfl, hm56⟩
 have hq57 : home_m d = home_m_k0 d y26 y28 := (show home_m d = home_m_k0 d y26 y28 from by unfold home_m; rw [if_neg hc9, hx29] <;> rfl)
 refine tj (hK13 _ _ (wk (fun K58 hK58 => (wq ?_))))
 refine lm 33 (v27) ?_
 refine la 2 (v27) ?_
 refine la 3 (J 0) ?_
 simp only [nz]
 refine wn (tj (hK58 _ _ (wp_ret ?_)))
 have hm59 : Mm none S w w55 [.see (DkR d dv0 dv1) Fd, .blk g4 #[dv0, dv1, J (d.fuse), .bool (d.down)] 25, .see (Rs eS 1 y26 v27) (fp v27 (y26.flatMap eS))] := hm56.freeze 2 rfl
 have he60 : home_m d = (y26, 0) := (hq57.trans (show home_m_k0 d y26 y28 = (y26, 0) from by unfold home_m_k0; rfl))
 exact ⟨rfl, .tuple #[v27, J 0], res_tt rfl rfl rfl, ⟨⟨_, rfl, v27, (by rw [he60]), by rw [he60]; exact hm59.give (hm59.from 2 rfl)⟩, hm59.below⟩⟩
theorem run_home {o : Oper} {a : Act} {w : World} {x0 : Operand} {v0 : Value} (ho : o.op = .call { callee := .value (.func 10), args := #[x0], argTypes := #[25] }) (h0 : a.eval x0 = v0) :
  (execOp a.eval o).run Tryd.prog w = .ok (.enter 10 #[v0]) w := by
 unfold execOp
 simp only [ho]
 have hf : a.eval (.func 10) = .func (.func 10) #[] #[] := rfl
 generalize a.eval = f at *
 go_simp
def putall_m_b0 (d : Dk) (at_ : Int) (l : List (List UInt8)) (rec : Nat × (List (List UInt8)) × (List Wr) × Int × Bool × (List (List UInt8)) × (List Wr) × Nat × Bool → Sum (Nat × (List (List UInt8)) × (List Wr) × Int × Bool × (List (List UInt8)) × (List Wr) × Nat × Bool) (Dk × Int)) (x10 : Nat) (l11 : List (List UInt8)) (l15 : List Wr) (x19 : Int) (x20 : Bool) (l21 : List (List UInt8)) (l25 : List Wr) (x29 : Nat) (x30 : Bool) : Sum (Nat × (List (List UInt8)) × (List Wr) × Int × Bool × (List (List UInt8)) × (List Wr) × Nat × Bool) (Dk × Int) :=
 if x10 < l.length then
  if ¬ (put_m (Dk.mk l11 l15 x19 x20) (at_ + ((x10 : Nat) : Int)) (l.getD x10 [])).2 = 0 then
   .inr (((put_m (Dk.mk l11 l15 x19 x20) (at_ + ((x10 : Nat) : Int)) (l.getD x10 [])).1), (put_m (Dk.mk l11 l15 x19 x20) (at_ + ((x10 : Nat) : Int)) (l.getD x10 [])).2)
  else
   rec ((x10 + 1), (((put_m (Dk.mk l11 l15 x19 x20) (at_ + ((x10 : Nat) : Int)) (l.getD x10 [])).1).safe), (((put_m (Dk.mk l11 l15 x19 x20) (at_ + ((x10 : Nat) : Int)) (l.getD x10 [])).1).loose), ((put_m (Dk.mk l11 l15 x19 x20) (at_ + ((x10 : Nat) : Int)) (l.getD x10 [])).1).fuse, (((put_m (Dk.mk l11 l15 x19 x20) (at_ + ((x10 : Nat) : Int)) (l.getD x10 [])).1).down), l21, l25, x29, x30)
 else
  .inl (x10, l11, l15, x19, x20, l21, l25, x29, x30)
def putall_m_l0 (d : Dk) (at_ : Int) (l : List (List UInt8)) : Nat → Nat × (List (List UInt8)) × (List Wr) × Int × Bool × (List (List UInt8)) × (List Wr) × Nat × Bool → Sum (Nat × (List (List UInt8)) × (List Wr) × Int × Bool × (List (List UInt8)) × (List Wr) × Nat × Bool) (Dk × Int)
 | 0, zz => .inl zz
 | nq + 1, zz => putall_m_b0 d at_ l (putall_m_l0 d at_ l nq) zz.1 zz.2.1 zz.2.2.1 zz.2.2.2.1 zz.2.2.2.2.1 zz.2.2.2.2.2.1 zz.2.2.2.2.2.2.1 zz.2.2.2.2.2.2.2.1 zz.2.2.2.2.2.2.2.2
def putall_m_k0 (d : Dk) (at_ : Int) (l : List (List UInt8)) (y46 : Nat) (y47 : List (List UInt8)) (y50 : List Wr) (y53 : Int) (y54 : Bool) (y55 : List (List UInt8)) (y58 : List Wr) (y61 : Nat) (y62 : Bool) : Dk × Int :=
 ((Dk.mk y47 y50 y53 y54), 0)
def putall_m (d : Dk) (at_ : Int) (l : List (List UInt8)) : Dk × Int :=
 fin (putall_m_l0 d at_ l ((l.length - 0) + 1) (0, d.safe, d.loose, d.fuse, d.down, ([] : List (List UInt8)), ([] : List Wr), 0, false)) (fun r => r) (fun zz => putall_m_k0 d at_ l zz.1 zz.2.1 zz.2.2.1 zz.2.2.2.1 zz.2.2.2.2.1 zz.2.2.2.2.2.1 zz.2.2.2.2.2.2.1 zz.2.2.2.2.2.2.2.1 zz.2.2.2.2.2.2.2.2)
theorem putall_any (d : Dk) (at_ : Int) (l : List (List UInt8)) (dv0 : Value) (dv1 : Value) (lv0 : Value) (S : Nat → Prop) (w : World) (hd : From S (DkR d dv0 dv1) w) (hl : From S (Rs eS 1 l lv0) w) (hp0 : d.safe.length ≤ 8796093021952) (hp1 : d.loose.length ≤ 5864065000000) (hp2 : d.fuse ≤ 9223372036854775807) (hp3 : l.length ≤ 100000) (hp4 : -1000000 ≤ at_) (hp5 : at_ ≤ 1000000) : Calls Tryd.prog 66 #[.agg #[dv0, dv1, J (d.fuse), .bool (d.down)], J (at_), lv0] w (fun e w' => (∃ v, e = .returned v ∧ ∃ (o0 : Value) (o1 : Value), v = .tuple #[.agg #[o0, o1, J (((putall_m d at_ l).1).fuse), .bool (((putall_m d at_ l).1).down)], J ((putall_m d at_ l).2)] ∧ Gives w w' S (DkR ((putall_m d at_ l).1) o0 o1)) ∧ Below w.heap.size w w') := by
 go_enter Tryd.func66, Tryd.ntmps66
 have hm00 := Mm.nil none S w
 obtain ⟨Fd, hm01⟩ := hm00.come hd
 obtain ⟨Fl, hm02⟩ := hm01.come hl
 have hm0 := hm02
 refine wk (fun K1 hK1 => (wq ?_))
 refine lst rfl (m_alloc (c := #[dv0, dv1, J (d.fuse), .bool (d.down)]) (T := 25) hm0 3 rfl (run_box rfl rfl) (fun g4 w2 hm3 => ?_))
 simp only [nz]
 refine lst rfl (m_alloc (c := #[.slice none 0 0, .slice none 0 0, J 0, .bool false]) (T := 25) hm3 6 rfl (by unfold execOp; go_simp; try rfl) (fun g7 w5 hm6 => ?_))
 simp only [nz]
 refine la 7 (J 0) ?_
 simp only [nz]
 refine wn (tj (hK1 _ _ (wk (fun K8 hK8 => (wk (fun K9 hK9 => (wq ?_)))))))
 refine lm 12 (lv0) ?_
 refine lw 13 (J (l.length : Int)) (s_len ((hm6.see 1 rfl)) rfl Tryd.underlying22 rfl) ?_
 refine lm 14 (J 0) ?_
 simp only [nz]
 refine wn (tj (hK9 _ _ ?_))
 obtain ⟨F31, hm32⟩ : ∃ F31, Mm none S w w5 [.see (DkR d dv0 dv1) Fd, .see (Rs eS 1 l lv0) Fl, .blk g4 #[dv0, dv1, J (d.fuse), .bool (d.down)] 25, .blk g7 #[.slice none 0 0, .slice none 0 0, J 0, .bool false] 25, .see (Rs eS 1 d.safe dv0) F31] := hm6.derive ((hm6.from 0 rfl).mono (fun _ h => h.1))
 obtain ⟨F34, hm35⟩ : ∃ F34, Mm none S w w5 [.see (DkR d dv0 dv1) Fd, .see (Rs eS 1 l lv0) Fl, .blk g4 #[dv0, dv1, J (d.fuse), .bool (d.down)] 25, .blk g7 #[.slice none 0 0, .slice none 0 0, J 0, .bool false] 25, .see (Rs eS 1 d.safe dv0) F31, .see (Rs eWr 2 d.loose dv1) F34] := hm32.derive ((hm32.from 0 rfl).mono (fun _ h => h.2))
 obtain ⟨F37, hm38⟩ : ∃ F37, Mm none S w w5 [.see (DkR d dv0 dv1) Fd, .see (Rs eS 1 l lv0) Fl, .blk g4 #[dv0, dv1, J (d.fuse), .bool (d.down)] 25, .blk g7 #[.slice none 0 0, .slice none 0 0, J 0, .bool false] 25, .see (Rs eS 1 d.safe dv0) F31, .see (Rs eWr 2 d.loose dv1) F34, .see (Rs eS 1 ([] : List (List UInt8)) (.slice none 0 0)) F37] := hm35.derive (From.pure (fun W => Rs.nil eS 1 W))
 obtain ⟨F40, hm41⟩ : ∃ F40, Mm none S w w5 [.see (DkR d dv0 dv1) Fd, .see (Rs eS 1 l lv0) Fl, .blk g4 #[dv0, dv1, J (d.fuse), .bool (d.down)] 25, .blk g7 #[.slice none 0 0, .slice none 0 0, J 0, .bool false] 25, .see (Rs eS 1 d.safe dv0) F31, .see (Rs eWr 2 d.loose dv1) F34, .see (Rs eS 1 ([] : List (List UInt8)) (.slice none 0 0)) F37, .see (Rs eWr 2 ([] : List Wr) (.slice none 0 0)) F40] := hm38.derive (From.pure (fun W => Rs.nil eWr 2 W))
 refine wp_cutK (fun a' w' => ∃ (y46 : Nat) (y47 : List (List UInt8)) (y50 : List Wr) (y53 : Int) (y54 : Bool) (y55 : List (List UInt8)) (y58 : List Wr) (y61 : Nat) (y62 : Bool) (v48 : Value) (F49 : Nat → Prop) (v51 : Value) (F52 : Nat → Prop) (v56 : Value) (F57 : Nat → Prop) (v59 : Value) (F60 : Nat → Prop) (yu0 : Nat → Value), putall_m_l0 d at_ l ((l.length - 0) + 1) (0, d.safe, d.loose, d.fuse, d.down, ([] : List (List UInt8)), ([] : List Wr), 0, false) = .inl (y46, y47, y50, y53, y54, y55, y58, y61, y62) ∧ (y47.length = d.safe.length ∧ y50.length ≤ d.loose.length + y46 ∧ y53 ≤ 9223372036854775807 ∧ y46 ≤ l.length) ∧ a' = ⟨#[.agg #[dv0, dv1, J (d.fuse), .bool (d.down)], J (at_), lv0, Pp g4 0, undef, undef, Pp g7 0, yu0 0, yu0 1, yu0 2, yu0 3, yu0 4, lv0, J (l.length : Int), J (y46 : Int), yu0 5, yu0 6, yu0 7, yu0 8, yu0 9, yu0 10, yu0 11, yu0 12, yu0 13, yu0 14, yu0 15, yu0 16, yu0 17, yu0 18, yu0 19, yu0 20, yu0 21, yu0 22, yu0 23, undef], []⟩ ∧ Mm none S w w' [.see (DkR d dv0 dv1) Fd, .see (Rs eS 1 l lv0) Fl, .blk g4 #[v48, v51, J (y53), .bool (y54)] 25, .blk g7 #[v56, v59, J (y61 : Int), .bool (y62)] 25, .see (Rs eS 1 y47 v48) F49, .see (Rs eWr 2 y50 v51) F52, .see (Rs eS 1 y55 v56) F57, .see (Rs eWr 2 y58 v59) F60]) ?_ ?_
 ·refine wp_block ?_
  refine wp_loop_n (fun n' a' w' => ∃ (n43 : Nat) (x10 : Nat) (l11 : List (List UInt8)) (l15 : List Wr) (x19 : Int) (x20 : Bool) (l21 : List (List UInt8)) (l25 : List Wr) (x29 : Nat) (x30 : Bool) (v12 : Value) (F13 : Nat → Prop) (v16 : Value) (F17 : Nat → Prop) (v22 : Value) (F23 : Nat → Prop) (v26 : Value) (F27 : Nat → Prop) (u0 : Nat → Value), n' = n43 ∧ (l.length - x10) < n43 ∧ putall_m_l0 d at_ l ((l.length - 0) + 1) (0, d.safe, d.loose, d.fuse, d.down, ([] : List (List UInt8)), ([] : List Wr), 0, false) = putall_m_l0 d at_ l n43 (x10, l11, l15, x19, x20, l21, l25, x29, x30) ∧ (l11.length = d.safe.length ∧ l15.length ≤ d.loose.length + x10 ∧ x19 ≤ 9223372036854775807 ∧ x10 ≤ l.length) ∧ a' = ⟨#[.agg #[dv0, dv1, J (d.fuse), .bool (d.down)], J (at_), lv0, Pp g4 0, undef, undef, Pp g7 0, u0 0, u0 1, u0 2, u0 3, u0 4, lv0, J (l.length : Int), J (x10 : Int), u0 5, u0 6, u0 7, u0 8, u0 9, u0 10, u0 11, u0 12, u0 13, u0 14, u0 15, u0 16, u0 17, u0 18, u0 19, u0 20, u0 21, u0 22, u0 23, undef], []⟩ ∧ Mm none S w w' [.see (DkR d dv0 dv1) Fd, .see (Rs eS 1 l lv0) Fl, .blk g4 #[v12, v16, J (x19), .bool (x20)] 25, .blk g7 #[v22, v26, J (x29 : Int), .bool (x30)] 25, .see (Rs eS 1 l11 v12) F13, .see (Rs eWr 2 l15 v16) F17, .see (Rs eS 1 l21 v22) F23, .see (Rs eWr 2 l25 v26) F27]) ⟨((l.length - 0) + 1), 0, d.safe, d.loose, d.fuse, d.down, ([] : List (List UInt8)), ([] : List Wr), 0, false, dv0, F31, dv1, F34, .slice none 0 0, F37, .slice none 0 0, F40, (fun qq => List.getD [J 0, undef, undef, undef, undef, undef, undef, undef, undef, undef, undef, undef, undef, undef, undef, undef, undef, undef, undef, undef, undef, undef, undef, undef] qq undef), rfl, Nat.lt_succ_self _, rfl, (by omega), rfl, hm41⟩ ?_
  rintro n43 _ w64 ⟨_, x10, l11, l15, x19, x20, l21, l25, x29, x30, v12, F13, v16, F17, v22, F23, v26, F27, u0, rfl, hl68, hi45, hpa, rfl, hm65⟩ R66 hR66
  obtain ⟨k44, rfl⟩ : ∃ k, n43 = k + 1 := ⟨n43 - 1, by omega⟩
  refine wk (fun K69 hK69 => (wq ?_))
  refine lw 15 (.bool (decide (x10 < l.length))) (r_lss x10 l.length rfl rfl rfl) ?_
  simp only [nz]
  refine wn (tj (hK69 _ _ (wk (fun K70 hK70 => ?_))))
  refine cond_d (x10 < l.length) rfl (fun hc71 => ?_) (fun hc71 => ?_)
  rotate_left
  ·refine wp_exit (then_x (then_x (blk_x ?_)))
   refine tj ?_
   obtain ⟨F122, hm123⟩ := hm65.derive (hm65.from 4 rfl)
   obtain ⟨F125, hm126⟩ := hm123.derive (hm123.from 5 rfl)
   obtain ⟨F128, hm129⟩ := hm126.derive (hm126.from 6 rfl)
   obtain ⟨F131, hm132⟩ := hm129.derive (hm129.from 7 rfl)
   exact ⟨x10, l11, l15, x19, x20, l21, l25, x29, x30, v12, F122, v16, F125, v22, F128, v26, F131, (fun qq => List.getD [u0 0, u0 1, u0 2, u0 3, u0 4, .bool (decide (x10 < l.length)), u0 6, u0 7, u0 8, u0 9, u0 10, u0 11, u0 12, u0 13, u0 14, u0 15, u0 16, u0 17, u0 18, u0 19, u0 20, u0 21, u0 22, u0 23] qq undef), (hi45.trans (show putall_m_b0 d at_ l (putall_m_l0 d at_ l k44) x10 l11 l15 x19 x20 l21 l25 x29 x30 = .inl (x10, l11, l15, x19, x20, l21, l25, x29, x30) from by unfold putall_m_b0; rw [if_neg hc71] <;> rfl)), (by omega), rfl, (Mm.reorder hm132 [0, 1, 2, 3, 8, 9, 10, 11] (by decide) rfl)⟩
  refine wp_skip (tj (hK70 _ _ (wk (fun K72 hK72 => ?_))))
  refine wp_block ?_
  refine wk (fun K73 hK73 => (wq ?_))
  refine lm 16 (J (x10 : Int)) ?_
  refine lw 17 (.pointer (some ⟨(bk lv0), (po lv0 + x10 * 1), none⟩)) (r_ixv ((hm65.see 1 rfl)) x10 (by omega) Tryd.underlying22 sz_9 rfl rfl rfl) ?_
  refine lw 18 (.string (tx (l.getD x10 []))) (r_cellw (Rs.cell ((hm65.see 1 rfl)) eS_len [] x10 (by omega) 0 _ rfl) Tryd.underlying9 rfl rfl rfl) ?_
  simp only [nz]
  refine la 8 (J (x10 : Int)) ?_
  refine la 9 (.string (tx (l.getD x10 []))) ?_
  simp only [nz]
  refine wn (tj (hK73 _ _ (wk (fun K74 hK74 => (wq ?_)))))
  refine lw 20 (.agg #[v12, v16, J (x19), .bool (x20)]) (r_whole (hm65.at 2 rfl) Tryd.underlying25 rfl (by exact sz_25) rfl rfl) ?_
  refine lm 21 (J (at_)) ?_
  refine lm 22 (J (x10 : Int)) ?_
  simp only [nz]
  refine lw 23 (J ((at_ + (x10 : Int)))) (z_add at_ (x10 : Int) _ (by rw [IntKind.wrap_i64]; omega) rfl rfl rfl) ?_
  refine lm 24 (.string (tx (l.getD x10 []))) ?_
  simp only [nz]
  refine lst rfl (m_callx hm65 25 rfl (run_put rfl rfl rfl rfl) (put_any (Dk.mk l11 l15 x19 x20) (at_ + (x10 : Int)) (l.getD x10 []) v12 v16 (seeS _) _ ((hm65.from 4 rfl).and (hm65.from 5 rfl)) (by simp; omega) (by simp; omega) (by simp; omega)) (fun vv81 w75 hR82 hb83 hm76 => ?_))
  obtain ⟨v77, v78, rfl, hg84⟩ := hR82
  obtain ⟨F80, hm85⟩ : ∃ F80, Mm none S w w75 [.see (DkR d dv0 dv1) Fd, .see (Rs eS 1 l lv0) Fl, .blk g4 #[v12, v16, J (x19), .bool (x20)] 25, .blk g7 #[v22, v26, J (x29 : Int), .bool (x30)] 25, .see (Rs eS 1 l11 v12) F13, .see (Rs eWr 2 l15 v16) F17, .see (Rs eS 1 l21 v22) F23, .see (Rs eWr 2 l25 v26) F27, .see (DkR ((put_m (Dk.mk l11 l15 x19 x20) (at_ + (x10 : Int)) (l.getD x10 [])).1) v77 v78) F80] := Mm.tookS hm65 hb83 hg84
  clear hm76 hg84 hb83
  have hf86 : (put_m (Dk.mk l11 l15 x19 x20) (at_ + ((x10 : Nat) : Int)) (l.getD x10 [])).1.safe.length = l11.length := (put_near (Dk.mk l11 l15 x19 x20) (at_ + ((x10 : Nat) : Int)) (l.getD x10 [])).1
  have hf87 : (put_m (Dk.mk l11 l15 x19 x20) (at_ + ((x10 : Nat) : Int)) (l.getD x10 [])).1.loose.length ≤ l15.length + 1 := (put_near (Dk.mk l11 l15 x19 x20) (at_ + ((x10 : Nat) : Int)) (l.getD x10 [])).2.1
  have hf88 : (put_m (Dk.mk l11 l15 x19 x20) (at_ + ((x10 : Nat) : Int)) (l.getD x10 [])).1.fuse ≤ 9223372036854775807 := (put_near (Dk.mk l11 l15 x19 x20) (at_ + ((x10 : Nat) : Int)) (l.getD x10 [])).2.2 (show x19 ≤ 9223372036854775807 from (by omega))
  simp only [nz]
  refine lm 19 (.tuple #[.agg #[v77, v78, J (((put_m (Dk.mk l11 l15 x19 x20) (at_ + (x10 : Int)) (l.getD x10 [])).1).fuse), .bool (((put_m (Dk.mk l11 l15 x19 x20) (at_ + (x10 : Int)) (l.getD x10 [])).1).down)], J ((put_m (Dk.mk l11 l15 x19 x20) (at_ + (x10 : Int)) (l.getD x10 [])).2)]) ?_
  refine lw 26 (.agg #[v77, v78, J (((put_m (Dk.mk l11 l15 x19 x20) (at_ + (x10 : Int)) (l.getD x10 [])).1).fuse), .bool (((put_m (Dk.mk l11 l15 x19 x20) (at_ + (x10 : Int)) (l.getD x10 [])).1).down)]) (run_ex rfl rfl rfl) ?_
  refine lw 27 (J ((put_m (Dk.mk l11 l15 x19 x20) (at_ + (x10 : Int)) (l.getD x10 [])).2)) (run_ex rfl rfl rfl) ?_
  simp only [nz]
  refine lst rfl (m_alloc (c := #[.slice none 0 0, .slice none 0 0, J 0, .bool false]) (T := 25) hm85 10 rfl (by unfold execOp; go_simp; try rfl) (fun g91 w89 hm90 => ?_))
  simp only [nz]
  have ho94 := (rd_one ((hm90.see 8 rfl).1))
  have ho95 := (rd_one ((hm90.see 8 rfl).2))
  refine lst rfl (m_store 9 25 _ _ 0 (.agg #[v77, v78, J (((put_m (Dk.mk l11 l15 x19 x20) (at_ + (x10 : Int)) (l.getD x10 [])).1).fuse), .bool (((put_m (Dk.mk l11 l15 x19 x20) (at_ + (x10 : Int)) (l.getD x10 [])).1).down)]) (old := #[.slice none 0 0, .slice none 0 0, J 0, .bool false]) (new := #[v77, v78, J (((put_m (Dk.mk l11 l15 x19 x20) (at_ + (x10 : Int)) (l.getD x10 [])).1).fuse), .bool (((put_m (Dk.mk l11 l15 x19 x20) (at_ + (x10 : Int)) (l.getD x10 [])).1).down)]) hm90 rfl rfl rfl rfl rfl (by exact sz_25) (show 0 + 4 ≤ 4 from by decide) a4 rfl (fun w92 hm93 => ?_))
  refine la 11 (J ((put_m (Dk.mk l11 l15 x19 x20) (at_ + (x10 : Int)) (l.getD x10 [])).2)) ?_
  simp only [nz]
  refine wn (tj (hK74 _ _ (wk (fun K96 hK96 => (wk (fun K97 hK97 => (wq ?_)))))))
  refine lm 28 (J ((put_m (Dk.mk l11 l15 x19 x20) (at_ + (x10 : Int)) (l.getD x10 [])).2)) ?_
  refine lw 29 (.bool (decide (¬ (put_m (Dk.mk l11 l15 x19 x20) (at_ + (x10 : Int)) (l.getD x10 [])).2 = 0))) (z_neq ((put_m (Dk.mk l11 l15 x19 x20) (at_ + (x10 : Int)) (l.getD x10 [])).2) 0 rfl rfl rfl) ?_
  simp only [nz]
  refine wn (tj (hK97 _ _ ?_))
  refine cond_d (¬ (put_m (Dk.mk l11 l15 x19 x20) (at_ + (x10 : Int)) (l.getD x10 [])).2 = 0) rfl (fun hc98 => ?_) (fun hc98 => ?_)
  rotate_left
  ·refine wp_skip (tj (hK96 _ _ (wq ?_)))
   refine lw 32 (.agg #[v77, v78, J (((put_m (Dk.mk l11 l15 x19 x20) (at_ + (x10 : Int)) (l.getD x10 [])).1).fuse), .bool (((put_m (Dk.mk l11 l15 x19 x20) (at_ + (x10 : Int)) (l.getD x10 [])).1).down)]) (r_whole (hm93.at 9 rfl) Tryd.underlying25 rfl (by exact sz_25) rfl rfl) ?_
   simp only [nz]
   have ho108 := (rd_one ((hm93.see 8 rfl).1))
   have ho109 := (rd_one ((hm93.see 8 rfl).2))
   refine lst rfl (m_store 2 25 _ _ 0 (.agg #[v77, v78, J (((put_m (Dk.mk l11 l15 x19 x20) (at_ + (x10 : Int)) (l.getD x10 [])).1).fuse), .bool (((put_m (Dk.mk l11 l15 x19 x20) (at_ + (x10 : Int)) (l.getD x10 [])).1).down)]) (old := #[v12, v16, J (x19), .bool (x20)]) (new := #[v77, v78, J (((put_m (Dk.mk l11 l15 x19 x20) (at_ + (x10 : Int)) (l.getD x10 [])).1).fuse), .bool (((put_m (Dk.mk l11 l15 x19 x20) (at_ + (x10 : Int)) (l.getD x10 [])).1).down)]) hm93 rfl rfl rfl rfl rfl (by exact sz_25) (show 0 + 4 ≤ 4 from by decide) a4 rfl (fun w106 hm107 => ?_))
   refine wn (blk_n (tj (hK72 _ _ (wq ?_))))
   refine lw 33 (J (((x10 + 1) : Nat) : Int)) (r_add x10 1 (show (x10 + 1) < 9223372036854775808 from by omega) rfl rfl rfl) ?_
   refine lm 14 (J (((x10 + 1) : Nat) : Int)) ?_
   simp only [nz]
   refine wn ?_
   obtain ⟨F110, hm111⟩ : ∃ F110, Mm none S w w106 [.see (DkR d dv0 dv1) Fd, .see (Rs eS 1 l lv0) Fl, .blk g4 #[v77, v78, J (((put_m (Dk.mk l11 l15 x19 x20) (at_ + (x10 : Int)) (l.getD x10 [])).1).fuse), .bool (((put_m (Dk.mk l11 l15 x19 x20) (at_ + (x10 : Int)) (l.getD x10 [])).1).down)] 25, .blk g7 #[v22, v26, J (x29 : Int), .bool (x30)] 25, .see (Rs eS 1 l11 v12) F13, .see (Rs eWr 2 l15 v16) F17, .see (Rs eS 1 l21 v22) F23, .see (Rs eWr 2 l25 v26) F27, .see (DkR ((put_m (Dk.mk l11 l15 x19 x20) (at_ + (x10 : Int)) (l.getD x10 [])).1) v77 v78) F80, .blk g91 #[v77, v78, J (((put_m (Dk.mk l11 l15 x19 x20) (at_ + (x10 : Int)) (l.getD x10 [])).1).fuse), .bool (((put_m (Dk.mk l11 l15 x19 x20) (at_ + (x10 : Int)) (l.getD x10 [])).1).down)] 25, .see (Rs eS 1 (((put_m (Dk.mk l11 l15 x19 x20) (at_ + (x10 : Int)) (l.getD x10 [])).1).safe) v77) F110] := hm107.derive ((hm107.from 8 rfl).mono (fun _ h => h.1))
   obtain ⟨F113, hm114⟩ : ∃ F113, Mm none S w w106 [.see (DkR d dv0 dv1) Fd, .see (Rs eS 1 l lv0) Fl, .blk g4 #[v77, v78, J (((put_m (Dk.mk l11 l15 x19 x20) (at_ + (x10 : Int)) (l.getD x10 [])).1).fuse), .bool (((put_m (Dk.mk l11 l15 x19 x20) (at_ + (x10 : Int)) (l.getD x10 [])).1).down)] 25, .blk g7 #[v22, v26, J (x29 : Int), .bool (x30)] 25, .see (Rs eS 1 l11 v12) F13, .see (Rs eWr 2 l15 v16) F17, .see (Rs eS 1 l21 v22) F23, .see (Rs eWr 2 l25 v26) F27, .see (DkR ((put_m (Dk.mk l11 l15 x19 x20) (at_ + (x10 : Int)) (l.getD x10 [])).1) v77 v78) F80, .blk g91 #[v77, v78, J (((put_m (Dk.mk l11 l15 x19 x20) (at_ + (x10 : Int)) (l.getD x10 [])).1).fuse), .bool (((put_m (Dk.mk l11 l15 x19 x20) (at_ + (x10 : Int)) (l.getD x10 [])).1).down)] 25, .see (Rs eS 1 (((put_m (Dk.mk l11 l15 x19 x20) (at_ + (x10 : Int)) (l.getD x10 [])).1).safe) v77) F110, .see (Rs eWr 2 (((put_m (Dk.mk l11 l15 x19 x20) (at_ + (x10 : Int)) (l.getD x10 [])).1).loose) v78) F113] := hm111.derive ((hm111.from 8 rfl).mono (fun _ h => h.2))
   obtain ⟨F116, hm117⟩ := hm114.derive (hm114.from 6 rfl)
   obtain ⟨F119, hm120⟩ := hm117.derive (hm117.from 7 rfl)
   refine tj (hR66 _ _ _ ⟨k44, (x10 + 1), (((put_m (Dk.mk l11 l15 x19 x20) (at_ + (x10 : Int)) (l.getD x10 [])).1).safe), (((put_m (Dk.mk l11 l15 x19 x20) (at_ + (x10 : Int)) (l.getD x10 [])).1).loose), ((put_m (Dk.mk l11 l15 x19 x20) (at_ + (x10 : Int)) (l.getD x10 [])).1).fuse, (((put_m (Dk.mk l11 l15 x19 x20) (at_ + (x10 : Int)) (l.getD x10 [])).1).down), l21, l25, x29, x30, v77, F110, v78, F113, v22, F116, v26, F119, (fun qq => List.getD [u0 0, J (x10 : Int), .string (tx (l.getD x10 [])), Pp g91 0, J ((put_m (Dk.mk l11 l15 x19 x20) (at_ + (x10 : Int)) (l.getD x10 [])).2), .bool (decide (x10 < l.length)), J (x10 : Int), .pointer (some ⟨(bk lv0), (po lv0 + x10 * 1), none⟩), .string (tx (l.getD x10 [])), .tuple #[.agg #[v77, v78, J (((put_m (Dk.mk l11 l15 x19 x20) (at_ + (x10 : Int)) (l.getD x10 [])).1).fuse), .bool (((put_m (Dk.mk l11 l15 x19 x20) (at_ + (x10 : Int)) (l.getD x10 [])).1).down)], J ((put_m (Dk.mk l11 l15 x19 x20) (at_ + (x10 : Int)) (l.getD x10 [])).2)], .agg #[v12, v16, J (x19), .bool (x20)], J (at_), J (x10 : Int), J ((at_ + (x10 : Int))), .string (tx (l.getD x10 [])), .tuple #[.agg #[v77, v78, J (((put_m (Dk.mk l11 l15 x19 x20) (at_ + (x10 : Int)) (l.getD x10 [])).1).fuse), .bool (((put_m (Dk.mk l11 l15 x19 x20) (at_ + (x10 : Int)) (l.getD x10 [])).1).down)], J ((put_m (Dk.mk l11 l15 x19 x20) (at_ + (x10 : Int)) (l.getD x10 [])).2)], .agg #[v77, v78, J (((put_m (Dk.mk l11 l15 x19 x20) (at_ + (x10 : Int)) (l.getD x10 [])).1).fuse), .bool (((put_m (Dk.mk l11 l15 x19 x20) (at_ + (x10 : Int)) (l.getD x10 [])).1).down)], J ((put_m (Dk.mk l11 l15 x19 x20) (at_ + (x10 : Int)) (l.getD x10 [])).2), J ((put_m (Dk.mk l11 l15 x19 x20) (at_ + (x10 : Int)) (l.getD x10 [])).2), .bool (decide (¬ (put_m (Dk.mk l11 l15 x19 x20) (at_ + (x10 : Int)) (l.getD x10 [])).2 = 0)), u0 20, u0 21, .agg #[v77, v78, J (((put_m (Dk.mk l11 l15 x19 x20) (at_ + (x10 : Int)) (l.getD x10 [])).1).fuse), .bool (((put_m (Dk.mk l11 l15 x19 x20) (at_ + (x10 : Int)) (l.getD x10 [])).1).down)], J (((x10 + 1) : Nat) : Int)] qq undef), rfl, (by omega), (hi45.trans (show putall_m_b0 d at_ l (putall_m_l0 d at_ l k44) x10 l11 l15 x19 x20 l21 l25 x29 x30 = putall_m_l0 d at_ l k44 ((x10 + 1), (((put_m (Dk.mk l11 l15 x19 x20) (at_ + (x10 : Int)) (l.getD x10 [])).1).safe), (((put_m (Dk.mk l11 l15 x19 x20) (at_ + (x10 : Int)) (l.getD x10 [])).1).loose), ((put_m (Dk.mk l11 l15 x19 x20) (at_ + (x10 : Int)) (l.getD x10 [])).1).fuse, (((put_m (Dk.mk l11 l15 x19 x20) (at_ + (x10 : Int)) (l.getD x10 [])).1).down), l21, l25, x29, x30) from by unfold putall_m_b0; rw [if_pos hc71, if_neg hc98] <;> rfl)), (by omega), rfl, (Mm.reorder hm120 [0, 1, 2, 3, 10, 11, 12, 13] (by decide) rfl)⟩ ?_)
   omega
  refine wk (fun K99 hK99 => (wq ?_))
  refine lw 30 (.agg #[v77, v78, J (((put_m (Dk.mk l11 l15 x19 x20) (at_ + (x10 : Int)) (l.getD x10 [])).1).fuse), .bool (((put_m (Dk.mk l11 l15 x19 x20) (at_ + (x10 : Int)) (l.getD x10 [])).1).down)]) (r_whole (hm93.at 9 rfl) Tryd.underlying25 rfl (by exact sz_25) rfl rfl) ?_
  refine lm 31 (J ((put_m (Dk.mk l11 l15 x19 x20) (at_ + (x10 : Int)) (l.getD x10 [])).2)) ?_
  simp only [nz]
  have ho102 := (rd_one ((hm93.see 8 rfl).1))
  have ho103 := (rd_one ((hm93.see 8 rfl).2))
  refine lst rfl (m_store 3 25 _ _ 0 (.agg #[v77, v78, J (((put_m (Dk.mk l11 l15 x19 x20) (at_ + (x10 : Int)) (l.getD x10 [])).1).fuse), .bool (((put_m (Dk.mk l11 l15 x19 x20) (at_ + (x10 : Int)) (l.getD x10 [])).1).down)]) (old := #[v22, v26, J (x29 : Int), .bool (x30)]) (new := #[v77, v78, J (((put_m (Dk.mk l11 l15 x19 x20) (at_ + (x10 : Int)) (l.getD x10 [])).1).fuse), .bool (((put_m (Dk.mk l11 l15 x19 x20) (at_ + (x10 : Int)) (l.getD x10 [])).1).down)]) hm93 rfl rfl rfl rfl rfl (by exact sz_25) (show 0 + 4 ≤ 4 from by decide) a4 rfl (fun w100 hm101 => ?_))
  refine la 7 (J ((put_m (Dk.mk l11 l15 x19 x20) (at_ + (x10 : Int)) (l.getD x10 [])).2)) ?_
  simp only [nz]
  refine wn (tj (hK99 _ _ (wp_ret (then_r (blk_r (then_r (then_r (blk_r (then_r (then_r ?_))))))))))
  have he104 : putall_m_l0 d at_ l ((l.length - 0) + 1) (0, d.safe, d.loose, d.fuse, d.down, ([] : List (List UInt8)), ([] : List Wr), 0, false) = .inr (((put_m (Dk.mk l11 l15 x19 x20) (at_ + ((x10 : Nat) : Int)) (l.getD x10 [])).1), (put_m (Dk.mk l11 l15 x19 x20) (at_ + ((x10 : Nat) : Int)) (l.getD x10 [])).2) := (hi45.trans (show putall_m_b0 d at_ l (putall_m_l0 d at_ l k44) x10 l11 l15 x19 x20 l21 l25 x29 x30 = .inr (((put_m (Dk.mk l11 l15 x19 x20) (at_ + ((x10 : Nat) : Int)) (l.getD x10 [])).1), (put_m (Dk.mk l11 l15 x19 x20) (at_ + ((x10 : Nat) : Int)) (l.getD x10 [])).2) from by unfold putall_m_b0; rw [if_pos hc71, if_pos hc98] <;> rfl))
  have he105 : putall_m d at_ l = (((put_m (Dk.mk l11 l15 x19 x20) (at_ + ((x10 : Nat) : Int)) (l.getD x10 [])).1), (put_m (Dk.mk l11 l15 x19 x20) (at_ + ((x10 : Nat) : Int)) (l.getD x10 [])).2) := by unfold putall_m; rw [he104] <;> rfl
  exact ⟨rfl, .tuple #[.agg #[v77, v78, J (((put_m (Dk.mk l11 l15 x19 x20) (at_ + (x10 : Int)) (l.getD x10 [])).1).fuse), .bool (((put_m (Dk.mk l11 l15 x19 x20) (at_ + (x10 : Int)) (l.getD x10 [])).1).down)], J ((put_m (Dk.mk l11 l15 x19 x20) (at_ + (x10 : Int)) (l.getD x10 [])).2)], Mem.res_ct rfl rfl (hm101.at 3 rfl) Tryd.underlying25 rfl (by exact sz_25) rfl, ⟨⟨_, rfl, v77, v78, (by rw [he105]), by rw [he105]; exact hm101.give (hm101.from 8 rfl)⟩, hm101.below⟩⟩
 rintro _ w134 ⟨y46, y47, y50, y53, y54, y55, y58, y61, y62, v48, F49, v51, F52, v56, F57, v59, F60, yu0, hx63, hpa, rfl, hm135⟩
 have hq136 : putall_m d at_ l = putall_m_k0 d at_ l y46 y47 y50 y53 y54 y55 y58 y61 y62 := (show putall_m d at_ l = putall_m_k0 d at_ l y46 y47 y50 y53 y54 y55 y58 y61 y62 from by unfold putall_m; rw [hx63] <;> rfl)
 refine tj (hK8 _ _ (wk (fun K137 hK137 => (wq ?_))))
 refine lw 34 (.agg #[v48, v51, J (y53), .bool (y54)]) (r_whole (hm135.at 2 rfl) Tryd.underlying25 rfl (by exact sz_25) rfl rfl) ?_
 simp only [nz]
 have ho140 := (rd_one ((hm135.see 4 rfl)))
 have ho141 := (rd_one ((hm135.see 5 rfl)))
 refine lst rfl (m_store 3 25 _ _ 0 (.agg #[v48, v51, J (y53), .bool (y54)]) (old := #[v56, v59, J (y61 : Int), .bool (y62)]) (new := #[v48, v51, J (y53), .bool (y54)]) hm135 rfl rfl rfl rfl rfl (by exact sz_25) (show 0 + 4 ≤ 4 from by decide) a4 rfl (fun w138 hm139 => ?_))
 refine la 7 (J 0) ?_
 simp only [nz]
 refine wn (tj (hK137 _ _ (wp_ret ?_)))
 have he142 : putall_m d at_ l = ((Dk.mk y47 y50 y53 y54), 0) := (hq136.trans (show putall_m_k0 d at_ l y46 y47 y50 y53 y54 y55 y58 y61 y62 = ((Dk.mk y47 y50 y53 y54), 0) from by unfold putall_m_k0; rfl))
 exact ⟨rfl, .tuple #[.agg #[v48, v51, J (y53), .bool (y54)], J 0], Mem.res_ct rfl rfl (hm139.at 3 rfl) Tryd.underlying25 rfl (by exact sz_25) rfl, ⟨⟨_, rfl, v48, v51, (by rw [he142]), by rw [he142]; exact hm139.give ((hm139.from 4 rfl).and (hm139.from 5 rfl))⟩, hm139.below⟩⟩
theorem run_putall {o : Oper} {a : Act} {w : World} {x0 x1 x2 : Operand} {v0 v1 v2 : Value} (ho : o.op = .call { callee := .value (.func 66), args := #[x0, x1, x2], argTypes := #[25, 3, 22] }) (h0 : a.eval x0 = v0) (h1 : a.eval x1 = v1) (h2 : a.eval x2 = v2) :
  (execOp a.eval o).run Tryd.prog w = .ok (.enter 66 #[v0, v1, v2]) w := by
 unfold execOp
 simp only [ho]
 have hf : a.eval (.func 66) = .func (.func 66) #[] #[] := rfl
 generalize a.eval = f at *
 go_simp
end Go.Proofs.YtnmaaijeamlplaaDoor.Bk
