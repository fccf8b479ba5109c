import Derived.Test.YtnmaaijeamlplaaDoorBkT
set_option linter.unusedVariables false
set_option linter.unusedSimpArgs false
set_option maxHeartbeats 4000000
set_option maxRecDepth 100000
namespace Go.Proofs.YtnmaaijeamlplaaDoor.Bk
open Go.RowKit
open Go.Proofs.YtnmaaijeamlplaaDoor.Sym Go.Proofs.YtnmaaijeamlplaaDoor.Mem
open Go.Proofs.YtnmaaijeamlplaaDoor.Sx hiding Mm m_alloc m_store m_call m_callx
attribute [local irreducible] wpList Oper.wp
def full_m (s : List UInt8) : Bool :=
 (decide (s.length = 256))
theorem full_any (s : List UInt8) (w : World)   : Calls Tryd.prog 63 #[.string (tx s)] w (fun e w' => e = .returned (.bool ((full_m s))) ∧ Below w.heap.size w w') := by
 go_enter Tryd.func63, Tryd.ntmps63
 have hm00 := Mm.nil none (fun _ => True) w
 have hm0 := hm00
 refine wk (fun K1 hK1 => (wq ?_))
 refine la 2 (.bool false) ?_
 simp only [nz]
 refine wn (tj (hK1 _ _ (wk (fun K2 hK2 => (wq ?_)))))
 refine lm 3 (.string (tx s)) ?_
 refine lw 4 (J (s.length : Int)) (t_len rfl Tryd.underlying9 rfl) ?_
 refine lw 5 (.bool (decide (s.length = 256))) (r_eql s.length 256 rfl rfl rfl) ?_
 simp only [nz]
 refine la 2 (.bool (decide (s.length = 256))) ?_
 simp only [nz]
 refine wn (tj (hK2 _ _ (wp_ret ?_)))
 have he3 : full_m s = (decide (s.length = 256)) := by unfold full_m; rfl
 exact ⟨rfl, .bool (decide (s.length = 256)), res_t rfl rfl, ⟨by (rw [he3]; try rfl), hm0.below⟩⟩
theorem run_full {o : Oper} {a : Act} {w : World} {x0 : Operand} {v0 : Value} (ho : o.op = .call { callee := .value (.func 63), args := #[x0], argTypes := #[9] }) (h0 : a.eval x0 = v0) :
  (execOp a.eval o).run Tryd.prog w = .ok (.enter 63 #[v0]) w := by
 unfold execOp
 simp only [ho]
 have hf : a.eval (.func 63) = .func (.func 63) #[] #[] := rfl
 generalize a.eval = f at *
 go_simp
def right_m_b0 (d : Dk) (rec : Nat → Sum (Nat) (Bool)) (x16 : Nat) : Sum (Nat) (Bool) :=
 if x16 < d.safe.length then
  if (!(full_m (d.safe.getD x16 []))) = true then
   .inr false
  else
   rec (x16 + 1)
 else
  .inl x16
def right_m_l0 (d : Dk) : Nat → Nat → Sum (Nat) (Bool)
 | 0, zz => .inl zz
 | nq + 1, zz => right_m_b0 d (right_m_l0 d nq) zz
def right_m_b1 (d : Dk) (y20 : Nat) (rec : Nat → Sum (Nat) (Bool)) (x44 : Nat) : Sum (Nat) (Bool) :=
 if x44 < d.loose.length then
  if (d.loose.getD x44 dWr).at_ < 0 then
   .inr false
  else
   if ((d.safe.length : Nat) : Int) ≤ (d.loose.getD x44 dWr).at_ then
    .inr false
   else
    if (!(full_m ((d.loose.getD x44 dWr).data))) = true then
     .inr false
    else
     rec (x44 + 1)
 else
  .inl x44
def right_m_l1 (d : Dk) (y20 : Nat) : Nat → Nat → Sum (Nat) (Bool)
 | 0, zz => .inl zz
 | nq + 1, zz => right_m_b1 d y20 (right_m_l1 d y20 nq) zz
def right_m_k1 (d : Dk) (y20 : Nat) (y48 : Nat) : Bool :=
 true
def right_m_k0 (d : Dk) (y20 : Nat) : Bool :=
 fin (right_m_l1 d y20 ((d.loose.length - 0) + 1) 0) (fun r => r) (fun zz => right_m_k1 d y20 zz)
def right_m (d : Dk) : Bool :=
 if d.safe.length < 32 then
  false
 else
  if 2048 < d.safe.length then
   false
  else
   fin (right_m_l0 d ((d.safe.length - 0) + 1) 0) (fun r => r) (fun zz => right_m_k0 d zz)
theorem right_any (d : Dk) (dv0 : Value) (dv1 : Value) (w : World) (hd : DkR d dv0 dv1 w) (hp0 : d.loose.length ≤ 5864070000000) : Calls Tryd.prog 35 #[.agg #[dv0, dv1, J (d.fuse), .bool (d.down)]] w (fun e w' => e = .returned (.bool ((right_m d))) ∧ Below w.heap.size w w') := by
 go_enter Tryd.func35, Tryd.ntmps35
 have hm00 := Mm.nil none (fun _ => True) w
 obtain ⟨Fd, hm01⟩ : ∃ Fd, Mm none (fun _ => True) w w [.see (DkR d dv0 dv1) Fd] := hm00.come (DkR_all hd)
 have hm0 := hm01
 refine wk (fun K1 hK1 => (wq ?_))
 refine lst rfl (m_alloc (c := #[dv0, dv1, J (d.fuse), .bool (d.down)]) (T := 25) hm0 1 rfl (run_box rfl rfl) (fun g4 w2 hm3 => ?_))
 simp only [nz]
 refine la 2 (.bool false) ?_
 simp only [nz]
 refine wn (tj (hK1 _ _ (wk (fun K5 hK5 => (wq ?_)))))
 refine lw 8 (Pp g4 0) (r_fa25_0 g4 0 rfl rfl) ?_
 refine lw 9 (dv0) (r_load (hm3.at 1 rfl) rfl Tryd.underlying22 rfl rfl rfl) ?_
 refine lw 10 (J (d.safe.length : Int)) (s_len ((hm3.see 0 rfl).1) rfl Tryd.underlying22 rfl) ?_
 simp only [nz]
 refine la 3 (J (d.safe.length : Int)) ?_
 simp only [nz]
 refine wn (tj (hK5 _ _ (wk (fun K6 hK6 => (wk (fun K7 hK7 => (wq ?_)))))))
 refine lm 11 (J (d.safe.length : Int)) ?_
 simp only [nz]
 refine lvb 12 (d.safe.length < 32) rfl rfl (r_lss d.safe.length 32 rfl rfl rfl) (fun hs8 => ?_) (fun hs8 => ?_)
 ·simp only [nz]
  refine lm 13 (.bool true) ?_
  simp only [nz]
  refine lst_skip 14 rfl rfl ?_
  simp only [nz]
  refine lst_skip 15 rfl rfl ?_
  simp only [nz]
  refine lw 16 (.bool true) (run_pick rfl rfl rfl) ?_
  simp only [nz]
  refine wn (tj (hK7 _ _ ?_))
  refine cond_t rfl ?_
  refine wk (fun K9 hK9 => (wq ?_))
  refine la 2 (.bool false) ?_
  simp only [nz]
  refine wn (tj (hK9 _ _ (wp_ret (then_r ?_))))
  have he10 : right_m d = false := by unfold right_m; rw [if_pos hs8] <;> rfl
  exact ⟨rfl, .bool false, res_t rfl rfl, ⟨by (rw [he10]; try rfl), hm3.below⟩⟩
 simp only [nz]
 refine lm 13 (.bool false) ?_
 refine lm 14 (J (d.safe.length : Int)) ?_
 refine lw 15 (.bool (decide (2048 < d.safe.length))) (r_gtr d.safe.length 2048 rfl rfl rfl) ?_
 simp only [nz]
 refine lw 16 (.bool (decide (2048 < d.safe.length))) (run_pickf rfl rfl rfl) ?_
 simp only [nz]
 refine wn (tj (hK7 _ _ ?_))
 refine cond_d (2048 < d.safe.length) rfl (fun hc11 => ?_) (fun hc11 => ?_)
 ·refine wk (fun K12 hK12 => (wq ?_))
  refine la 2 (.bool false) ?_
  simp only [nz]
  refine wn (tj (hK12 _ _ (wp_ret (then_r ?_))))
  have he13 : right_m d = false := by unfold right_m; rw [if_neg hs8, if_pos hc11] <;> rfl
  exact ⟨rfl, .bool false, res_t rfl rfl, ⟨by (rw [he13]; try rfl), hm3.below⟩⟩
 refine wp_skip (tj (hK6 _ _ (wk (fun K14 hK14 => (wk (fun K15 hK15 => (wq ?_)))))))
 refine lw 17 (Pp g4 0) (r_fa25_0 g4 0 rfl rfl) ?_
 refine lw 18 (dv0) (r_load (hm3.at 1 rfl) rfl Tryd.underlying22 rfl rfl rfl) ?_
 refine lw 19 (J (d.safe.length : Int)) (s_len ((hm3.see 0 rfl).1) rfl Tryd.underlying22 rfl) ?_
 simp only [nz]
 refine lm 20 (J 0) ?_
 simp only [nz]
 refine wn (tj (hK15 _ _ ?_))
 refine wp_cutK (fun a' w' => ∃ (y20 : Nat) (yu0 : Nat → Value), right_m_l0 d ((d.safe.length - 0) + 1) 0 = .inl y20 ∧ a' = ⟨#[.agg #[dv0, dv1, J (d.fuse), .bool (d.down)], Pp g4 0, yu0 0, J (d.safe.length : Int), undef, yu0 1, undef, undef, Pp g4 0, dv0, J (d.safe.length : Int), J (d.safe.length : Int), .bool false, .bool false, J (d.safe.length : Int), .bool (decide (2048 < d.safe.length)), .bool (decide (2048 < d.safe.length)), Pp g4 0, dv0, J (d.safe.length : Int), J (y20 : Int), yu0 2, yu0 3, yu0 4, yu0 5, yu0 6, yu0 7, yu0 8, undef, undef, undef, undef, undef, undef, undef, undef, undef, undef, undef, undef, undef, undef, undef, undef, undef, undef, undef, undef, undef, undef, undef], []⟩ ∧ Mm none (fun _ => True) w w' [.see (DkR d dv0 dv1) Fd, .blk g4 #[dv0, dv1, J (d.fuse), .bool (d.down)] 25]) ?_ ?_
 ·refine wp_block ?_
  refine wp_loop_n (fun n' a' w' => ∃ (n17 : Nat) (x16 : Nat) (u0 : Nat → Value), n' = n17 ∧ (d.safe.length - x16) < n17 ∧ right_m_l0 d ((d.safe.length - 0) + 1) 0 = right_m_l0 d n17 x16 ∧ a' = ⟨#[.agg #[dv0, dv1, J (d.fuse), .bool (d.down)], Pp g4 0, u0 0, J (d.safe.length : Int), undef, u0 1, undef, undef, Pp g4 0, dv0, J (d.safe.length : Int), J (d.safe.length : Int), .bool false, .bool false, J (d.safe.length : Int), .bool (decide (2048 < d.safe.length)), .bool (decide (2048 < d.safe.length)), Pp g4 0, dv0, J (d.safe.length : Int), J (x16 : Int), u0 2, u0 3, u0 4, u0 5, u0 6, u0 7, u0 8, undef, undef, undef, undef, undef, undef, undef, undef, undef, undef, undef, undef, undef, undef, undef, undef, undef, undef, undef, undef, undef, undef, undef], []⟩ ∧ Mm none (fun _ => True) w w' [.see (DkR d dv0 dv1) Fd, .blk g4 #[dv0, dv1, J (d.fuse), .bool (d.down)] 25]) ⟨((d.safe.length - 0) + 1), 0, (fun qq => List.getD [.bool false, undef, undef, undef, undef, undef, undef, undef, undef] qq undef), rfl, Nat.lt_succ_self _, rfl, rfl, hm3⟩ ?_
  rintro n17 _ w22 ⟨_, x16, u0, rfl, hl26, hi19, rfl, hm23⟩ R24 hR24
  obtain ⟨k18, rfl⟩ : ∃ k, n17 = k + 1 := ⟨n17 - 1, by omega⟩
  refine wk (fun K27 hK27 => (wq ?_))
  refine lw 21 (.bool (decide (x16 < d.safe.length))) (r_lss x16 d.safe.length rfl rfl rfl) ?_
  simp only [nz]
  refine wn (tj (hK27 _ _ (wk (fun K28 hK28 => ?_))))
  refine cond_d (x16 < d.safe.length) rfl (fun hc29 => ?_) (fun hc29 => ?_)
  rotate_left
  ·refine wp_exit (then_x (then_x (blk_x ?_)))
   refine tj ?_
   exact ⟨x16, (fun qq => List.getD [u0 0, u0 1, .bool (decide (x16 < d.safe.length)), u0 3, u0 4, u0 5, u0 6, u0 7, u0 8] qq undef), (hi19.trans (show right_m_b0 d (right_m_l0 d k18) x16 = .inl x16 from by unfold right_m_b0; rw [if_neg hc29] <;> rfl)), rfl, hm23⟩
  refine wp_skip (tj (hK28 _ _ (wk (fun K30 hK30 => ?_))))
  refine wp_block ?_
  refine wk (fun K31 hK31 => (wq ?_))
  refine lw 22 (.pointer (some ⟨(bk dv0), (po dv0 + x16 * 1), none⟩)) (r_ixv ((hm23.see 0 rfl).1) x16 (by omega) Tryd.underlying22 sz_9 rfl rfl rfl) ?_
  refine lw 23 (.string (tx (d.safe.getD x16 []))) (r_cellw (Rs.cell ((hm23.see 0 rfl).1) eS_len [] x16 (by omega) 0 _ rfl) Tryd.underlying9 rfl rfl rfl) ?_
  refine la 5 (.string (tx (d.safe.getD x16 []))) ?_
  simp only [nz]
  refine wn (tj (hK31 _ _ (wk (fun K32 hK32 => (wq ?_)))))
  refine lm 24 (.string (tx (d.safe.getD x16 []))) ?_
  simp only [nz]
  refine lst rfl (m_call hm23 25 (.bool ((full_m (d.safe.getD x16 [])))) rfl (run_full rfl rfl) (full_any (d.safe.getD x16 [])  _  ) (fun w33 hm34 => ?_))
  simp only [nz]
  refine lw 26 (.bool (!(full_m (d.safe.getD x16 [])))) (r_not (full_m (d.safe.getD x16 [])) rfl rfl) ?_
  simp only [nz]
  refine wn (tj (hK32 _ _ ?_))
  refine cond_B (!(full_m (d.safe.getD x16 []))) rfl (fun hc35 => ?_) (fun hc35 => ?_)
  rotate_left
  ·refine wp_skip (blk_n (tj (hK30 _ _ (wq ?_))))
   refine lw 27 (J (((x16 + 1) : Nat) : Int)) (r_add x16 1 (show (x16 + 1) < 9223372036854775808 from by omega) rfl rfl rfl) ?_
   refine lm 20 (J (((x16 + 1) : Nat) : Int)) ?_
   simp only [nz]
   refine wn ?_
   refine tj (hR24 _ _ _ ⟨k18, (x16 + 1), (fun qq => List.getD [u0 0, .string (tx (d.safe.getD x16 [])), .bool (decide (x16 < d.safe.length)), .pointer (some ⟨(bk dv0), (po dv0 + x16 * 1), none⟩), .string (tx (d.safe.getD x16 [])), .string (tx (d.safe.getD x16 [])), .bool ((full_m (d.safe.getD x16 []))), .bool (!(full_m (d.safe.getD x16 []))), J (((x16 + 1) : Nat) : Int)] qq undef), rfl, (by omega), (hi19.trans (show right_m_b0 d (right_m_l0 d k18) x16 = right_m_l0 d k18 (x16 + 1) from by unfold right_m_b0; rw [if_pos hc29, if_neg hc35] <;> rfl)), rfl, hm34⟩ ?_)
   omega
  refine wk (fun K36 hK36 => (wq ?_))
  refine la 2 (.bool false) ?_
  simp only [nz]
  refine wn (tj (hK36 _ _ (wp_ret (blk_r (then_r (then_r (blk_r (then_r (then_r ?_)))))))))
  have he37 : right_m_l0 d ((d.safe.length - 0) + 1) 0 = .inr false := (hi19.trans (show right_m_b0 d (right_m_l0 d k18) x16 = .inr false from by unfold right_m_b0; rw [if_pos hc29, if_pos hc35] <;> rfl))
  have he38 : right_m d = false := by unfold right_m; rw [if_neg hs8, if_neg hc11, he37] <;> rfl
  exact ⟨rfl, .bool false, res_t rfl rfl, ⟨by (rw [he38]; try rfl), hm34.below⟩⟩
 rintro _ w39 ⟨y20, yu0, hx21, rfl, hm40⟩
 have hq41 : right_m d = right_m_k0 d y20 := (show right_m d = right_m_k0 d y20 from by unfold right_m; rw [if_neg hs8, if_neg hc11, hx21] <;> rfl)
 refine tj (hK14 _ _ (wk (fun K42 hK42 => (wk (fun K43 hK43 => (wq ?_))))))
 refine lw 28 (Pp g4 1) (r_fa25_1 g4 0 rfl rfl) ?_
 refine lw 29 (dv1) (r_load (hm40.at 1 rfl) rfl Tryd.underlying23 rfl rfl rfl) ?_
 refine lw 30 (J (d.loose.length : Int)) (s_len ((hm40.see 0 rfl).2) rfl Tryd.underlying23 rfl) ?_
 simp only [nz]
 refine lm 31 (J 0) ?_
 simp only [nz]
 refine wn (tj (hK43 _ _ ?_))
 refine wp_cutK (fun a' w' => ∃ (y48 : Nat) (yu1 : Nat → Value), right_m_l1 d y20 ((d.loose.length - 0) + 1) 0 = .inl y48 ∧ a' = ⟨#[.agg #[dv0, dv1, J (d.fuse), .bool (d.down)], Pp g4 0, yu1 0, J (d.safe.length : Int), undef, yu0 1, undef, yu1 1, Pp g4 0, dv0, J (d.safe.length : Int), J (d.safe.length : Int), .bool false, .bool false, J (d.safe.length : Int), .bool (decide (2048 < d.safe.length)), .bool (decide (2048 < d.safe.length)), Pp g4 0, dv0, J (d.safe.length : Int), J (y20 : Int), yu0 2, yu0 3, yu0 4, yu0 5, yu0 6, yu0 7, yu0 8, Pp g4 1, dv1, J (d.loose.length : Int), J (y48 : Int), yu1 2, yu1 3, yu1 4, yu1 5, yu1 6, yu1 7, yu1 8, yu1 9, yu1 10, yu1 11, yu1 12, yu1 13, yu1 14, yu1 15, yu1 16, yu1 17, yu1 18, yu1 19, yu1 20], []⟩ ∧ Mm none (fun _ => True) w w' [.see (DkR d dv0 dv1) Fd, .blk g4 #[dv0, dv1, J (d.fuse), .bool (d.down)] 25]) ?_ ?_
 ·refine wp_block ?_
  refine wp_loop_n (fun n' a' w' => ∃ (n45 : Nat) (x44 : Nat) (u1 : Nat → Value), n' = n45 ∧ (d.loose.length - x44) < n45 ∧ right_m_l1 d y20 ((d.loose.length - 0) + 1) 0 = right_m_l1 d y20 n45 x44 ∧ a' = ⟨#[.agg #[dv0, dv1, J (d.fuse), .bool (d.down)], Pp g4 0, u1 0, J (d.safe.length : Int), undef, yu0 1, undef, u1 1, Pp g4 0, dv0, J (d.safe.length : Int), J (d.safe.length : Int), .bool false, .bool false, J (d.safe.length : Int), .bool (decide (2048 < d.safe.length)), .bool (decide (2048 < d.safe.length)), Pp g4 0, dv0, J (d.safe.length : Int), J (y20 : Int), yu0 2, yu0 3, yu0 4, yu0 5, yu0 6, yu0 7, yu0 8, Pp g4 1, dv1, J (d.loose.length : Int), J (x44 : Int), u1 2, u1 3, u1 4, u1 5, u1 6, u1 7, u1 8, u1 9, u1 10, u1 11, u1 12, u1 13, u1 14, u1 15, u1 16, u1 17, u1 18, u1 19, u1 20], []⟩ ∧ Mm none (fun _ => True) w w' [.see (DkR d dv0 dv1) Fd, .blk g4 #[dv0, dv1, J (d.fuse), .bool (d.down)] 25]) ⟨((d.loose.length - 0) + 1), 0, (fun qq => List.getD [yu0 0, undef, undef, undef, undef, undef, undef, undef, undef, undef, undef, undef, undef, undef, undef, undef, undef, undef, undef, undef, undef] qq undef), rfl, Nat.lt_succ_self _, rfl, rfl, hm40⟩ ?_
  rintro n45 _ w50 ⟨_, x44, u1, rfl, hl54, hi47, rfl, hm51⟩ R52 hR52
  obtain ⟨k46, rfl⟩ : ∃ k, n45 = k + 1 := ⟨n45 - 1, by omega⟩
  refine wk (fun K55 hK55 => (wq ?_))
  refine lw 32 (.bool (decide (x44 < d.loose.length))) (r_lss x44 d.loose.length rfl rfl rfl) ?_
  simp only [nz]
  refine wn (tj (hK55 _ _ (wk (fun K56 hK56 => ?_))))
  refine cond_d (x44 < d.loose.length) rfl (fun hc57 => ?_) (fun hc57 => ?_)
  rotate_left
  ·refine wp_exit (then_x (then_x (blk_x ?_)))
   refine tj ?_
   exact ⟨x44, (fun qq => List.getD [u1 0, u1 1, .bool (decide (x44 < d.loose.length)), u1 3, u1 4, u1 5, u1 6, u1 7, u1 8, u1 9, u1 10, u1 11, u1 12, u1 13, u1 14, u1 15, u1 16, u1 17, u1 18, u1 19, u1 20] qq undef), (hi47.trans (show right_m_b1 d y20 (right_m_l1 d y20 k46) x44 = .inl x44 from by unfold right_m_b1; rw [if_neg hc57] <;> rfl)), rfl, hm51⟩
  refine wp_skip (tj (hK56 _ _ (wk (fun K58 hK58 => ?_))))
  refine wp_block ?_
  refine wk (fun K59 hK59 => (wq ?_))
  refine lw 33 (.pointer (some ⟨(bk dv1), (po dv1 + x44 * 2), none⟩)) (r_ixv ((hm51.see 0 rfl).2) x44 (by omega) Tryd.underlying23 sz_51 rfl rfl rfl) ?_
  refine lw 34 (.agg #[J ((d.loose.getD x44 dWr).at_), .string (tx ((d.loose.getD x44 dWr).data))]) (r_partw (fun j u hj => Rs.cell ((hm51.see 0 rfl).2) eWr_len dWr x44 (by omega) j u (arr_get hj)) Tryd.underlying51 rfl (by exact sz_51) rfl rfl) ?_
  simp only [nz]
  refine lst rfl (m_alloc (c := #[J 0, .string (tx ([]))]) (T := 51) hm51 7 rfl (by unfold execOp; go_simp; try rfl) (fun g62 w60 hm61 => ?_))
  simp only [nz]
  refine lst rfl (m_store 2 51 _ _ 0 (.agg #[J ((d.loose.getD x44 dWr).at_), .string (tx ((d.loose.getD x44 dWr).data))]) (old := #[J 0, .string (tx ([]))]) (new := #[J ((d.loose.getD x44 dWr).at_), .string (tx ((d.loose.getD x44 dWr).data))]) hm61 rfl rfl rfl rfl rfl (by exact sz_51) (show 0 + 2 ≤ 2 from by decide) (by simp [Value.cells, Value.oneCell']) rfl (fun w63 hm64 => ?_))
  refine wn (tj (hK59 _ _ (wk (fun K65 hK65 => (wq ?_)))))
  refine lw 35 (Pp g62 0) (r_fa51_0 g62 0 rfl rfl) ?_
  refine lw 36 (J ((d.loose.getD x44 dWr).at_)) (r_load (hm64.at 2 rfl) rfl Tryd.underlying3 rfl rfl rfl) ?_
  simp only [nz]
  refine lvb 37 ((d.loose.getD x44 dWr).at_ < 0) rfl rfl (z_lss ((d.loose.getD x44 dWr).at_) 0 rfl rfl rfl) (fun hs66 => ?_) (fun hs66 => ?_)
  ·simp only [nz]
   refine lm 38 (.bool true) ?_
   simp only [nz]
   refine lst_skip 39 rfl rfl ?_
   simp only [nz]
   refine lst_skip 40 rfl rfl ?_
   simp only [nz]
   refine lst_skip 41 rfl rfl ?_
   simp only [nz]
   refine lst_skip 42 rfl rfl ?_
   simp only [nz]
   refine lw 43 (.bool true) (run_pick rfl rfl rfl) ?_
   refine lm 44 (.bool true) ?_
   simp only [nz]
   refine lst_skip 45 rfl rfl ?_
   simp only [nz]
   refine lst_skip 46 rfl rfl ?_
   simp only [nz]
   refine lst_skip 47 rfl rfl ?_
   simp only [nz]
   refine lst_skip 48 rfl rfl ?_
   simp only [nz]
   refine lw 49 (.bool true) (run_pick rfl rfl rfl) ?_
   simp only [nz]
   refine wn (tj (hK65 _ _ ?_))
   refine cond_t rfl ?_
   refine wk (fun K67 hK67 => (wq ?_))
   refine la 2 (.bool false) ?_
   simp only [nz]
   refine wn (tj (hK67 _ _ (wp_ret (blk_r (then_r (then_r (blk_r (then_r (then_r ?_)))))))))
   have he68 : right_m_l1 d y20 ((d.loose.length - 0) + 1) 0 = .inr false := (hi47.trans (show right_m_b1 d y20 (right_m_l1 d y20 k46) x44 = .inr false from by unfold right_m_b1; rw [if_pos hc57, if_pos hs66] <;> rfl))
   have he69 : right_m d = false := (hq41.trans (show right_m_k0 d y20 = false from by unfold right_m_k0; rw [he68] <;> rfl))
   exact ⟨rfl, .bool false, res_t rfl rfl, ⟨by (rw [he69]; try rfl), hm64.below⟩⟩
  simp only [nz]
  refine lm 38 (.bool false) ?_
  refine lw 39 (Pp g62 0) (r_fa51_0 g62 0 rfl rfl) ?_
  refine lw 40 (J ((d.loose.getD x44 dWr).at_)) (r_load (hm64.at 2 rfl) rfl Tryd.underlying3 rfl rfl rfl) ?_
  simp only [nz]
  refine lm 41 (J (d.safe.length : Int)) ?_
  simp only [nz]
  refine lvb 42 ((d.safe.length : Int) ≤ (d.loose.getD x44 dWr).at_) rfl rfl (z_geq ((d.loose.getD x44 dWr).at_) (d.safe.length : Int) rfl rfl rfl) (fun hs70 => ?_) (fun hs70 => ?_)
  ·simp only [nz]
   refine lw 43 (.bool true) (run_pickf rfl rfl rfl) ?_
   refine lm 44 (.bool true) ?_
   simp only [nz]
   refine lst_skip 45 rfl rfl ?_
   simp only [nz]
   refine lst_skip 46 rfl rfl ?_
   simp only [nz]
   refine lst_skip 47 rfl rfl ?_
   simp only [nz]
   refine lst_skip 48 rfl rfl ?_
   simp only [nz]
   refine lw 49 (.bool true) (run_pick rfl rfl rfl) ?_
   simp only [nz]
   refine wn (tj (hK65 _ _ ?_))
   refine cond_t rfl ?_
   refine wk (fun K71 hK71 => (wq ?_))
   refine la 2 (.bool false) ?_
   simp only [nz]
   refine wn (tj (hK71 _ _ (wp_ret (blk_r (then_r (then_r (blk_r (then_r (then_r ?_)))))))))
   have he72 : right_m_l1 d y20 ((d.loose.length - 0) + 1) 0 = .inr false := (hi47.trans (show right_m_b1 d y20 (right_m_l1 d y20 k46) x44 = .inr false from by unfold right_m_b1; rw [if_pos hc57, if_neg hs66, if_pos hs70] <;> rfl))
   have he73 : right_m d = false := (hq41.trans (show right_m_k0 d y20 = false from by unfold right_m_k0; rw [he72] <;> rfl))
   exact ⟨rfl, .bool false, res_t rfl rfl, ⟨by (rw [he73]; try rfl), hm64.below⟩⟩
  simp only [nz]
  refine lw 43 (.bool false) (run_pickf rfl rfl rfl) ?_
  refine lm 44 (.bool false) ?_
  refine lw 45 (Pp g62 1) (r_fa51_1 g62 0 rfl rfl) ?_
  simp only [nz]
  refine lw 46 (.string (tx ((d.loose.getD x44 dWr).data))) (r_load (hm64.at 2 rfl) rfl Tryd.underlying9 rfl rfl rfl) ?_
  simp only [nz]
  refine lst rfl (m_call hm64 47 (.bool ((full_m ((d.loose.getD x44 dWr).data)))) rfl (run_full rfl rfl) (full_any ((d.loose.getD x44 dWr).data)  _  ) (fun w74 hm75 => ?_))
  simp only [nz]
  refine lw 48 (.bool (!(full_m ((d.loose.getD x44 dWr).data)))) (r_not (full_m ((d.loose.getD x44 dWr).data)) rfl rfl) ?_
  refine lw 49 (.bool (!(full_m ((d.loose.getD x44 dWr).data)))) (run_pickf rfl rfl rfl) ?_
  simp only [nz]
  refine wn (tj (hK65 _ _ ?_))
  refine cond_B (!(full_m ((d.loose.getD x44 dWr).data))) rfl (fun hc76 => ?_) (fun hc76 => ?_)
  rotate_left
  ·refine wp_skip (blk_n (tj (hK58 _ _ (wq ?_))))
   refine lw 50 (J (((x44 + 1) : Nat) : Int)) (r_add x44 1 (show (x44 + 1) < 9223372036854775808 from by omega) rfl rfl rfl) ?_
   refine lm 31 (J (((x44 + 1) : Nat) : Int)) ?_
   simp only [nz]
   refine wn ?_
   refine tj (hR52 _ _ _ ⟨k46, (x44 + 1), (fun qq => List.getD [u1 0, Pp g62 0, .bool (decide (x44 < d.loose.length)), .pointer (some ⟨(bk dv1), (po dv1 + x44 * 2), none⟩), .agg #[J ((d.loose.getD x44 dWr).at_), .string (tx ((d.loose.getD x44 dWr).data))], Pp g62 0, J ((d.loose.getD x44 dWr).at_), .bool false, .bool false, Pp g62 0, J ((d.loose.getD x44 dWr).at_), J (d.safe.length : Int), .bool false, .bool false, .bool false, Pp g62 1, .string (tx ((d.loose.getD x44 dWr).data)), .bool ((full_m ((d.loose.getD x44 dWr).data))), .bool (!(full_m ((d.loose.getD x44 dWr).data))), .bool (!(full_m ((d.loose.getD x44 dWr).data))), J (((x44 + 1) : Nat) : Int)] qq undef), rfl, (by omega), (hi47.trans (show right_m_b1 d y20 (right_m_l1 d y20 k46) x44 = right_m_l1 d y20 k46 (x44 + 1) from by unfold right_m_b1; rw [if_pos hc57, if_neg hs66, if_neg hs70, if_neg hc76] <;> rfl)), rfl, (Mm.reorder hm75 [0, 1] (by decide) rfl)⟩ ?_)
   omega
  refine wk (fun K77 hK77 => (wq ?_))
  refine la 2 (.bool false) ?_
  simp only [nz]
  refine wn (tj (hK77 _ _ (wp_ret (blk_r (then_r (then_r (blk_r (then_r (then_r ?_)))))))))
  have he78 : right_m_l1 d y20 ((d.loose.length - 0) + 1) 0 = .inr false := (hi47.trans (show right_m_b1 d y20 (right_m_l1 d y20 k46) x44 = .inr false from by unfold right_m_b1; rw [if_pos hc57, if_neg hs66, if_neg hs70, if_pos hc76] <;> rfl))
  have he79 : right_m d = false := (hq41.trans (show right_m_k0 d y20 = false from by unfold right_m_k0; rw [he78] <;> rfl))
  exact ⟨rfl, .bool false, res_t rfl rfl, ⟨by (rw [he79]; try rfl), hm75.below⟩⟩
 rintro _ w80 ⟨y48, yu1, hx49, rfl, hm81⟩
 have hq82 : right_m d = right_m_k1 d y20 y48 := (hq41.trans (show right_m_k0 d y20 = right_m_k1 d y20 y48 from by unfold right_m_k0; rw [hx49] <;> rfl))
 refine tj (hK42 _ _ (wk (fun K83 hK83 => (wq ?_))))
 refine la 2 (.bool true) ?_
 simp only [nz]
 refine wn (tj (hK83 _ _ (wp_ret ?_)))
 have he84 : right_m d = true := (hq82.trans (show right_m_k1 d y20 y48 = true from by unfold right_m_k1; rfl))
 exact ⟨rfl, .bool true, res_t rfl rfl, ⟨by (rw [he84]; try rfl), hm81.below⟩⟩
theorem run_right {o : Oper} {a : Act} {w : World} {x0 : Operand} {v0 : Value} (ho : o.op = .call { callee := .value (.func 35), args := #[x0], argTypes := #[25] }) (h0 : a.eval x0 = v0) :
  (execOp a.eval o).run Tryd.prog w = .ok (.enter 35 #[v0]) w := by
 unfold execOp
 simp only [ho]
 have hf : a.eval (.func 35) = .func (.func 35) #[] #[] := rfl
 generalize a.eval = f at *
 go_simp
def rright_m_b0 (d : Dk) (rec : Nat → Sum (Nat) (Bool)) (x15 : Nat) : Sum (Nat) (Bool) :=
 if x15 < d.safe.length then
  if ¬ (d.safe.getD x15 []).length = 256 then
   .inr false
  else
   rec (x15 + 1)
 else
  .inl x15
def rright_m_l0 (d : Dk) : Nat → Nat → Sum (Nat) (Bool)
 | 0, zz => .inl zz
 | nq + 1, zz => rright_m_b0 d (rright_m_l0 d nq) zz
def rright_m_b1 (d : Dk) (y19 : Nat) (rec : Nat → Sum (Nat) (Bool)) (x40 : Nat) : Sum (Nat) (Bool) :=
 if x40 < d.loose.length then
  if (d.loose.getD x40 dWr).at_ < 0 then
   .inr false
  else
   if ((d.safe.length : Nat) : Int) ≤ (d.loose.getD x40 dWr).at_ then
    .inr false
   else
    if ¬ ((d.loose.getD x40 dWr).data).length = 256 then
     .inr false
    else
     rec (x40 + 1)
 else
  .inl x40
def rright_m_l1 (d : Dk) (y19 : Nat) : Nat → Nat → Sum (Nat) (Bool)
 | 0, zz => .inl zz
 | nq + 1, zz => rright_m_b1 d y19 (rright_m_l1 d y19 nq) zz
def rright_m_k1 (d : Dk) (y19 : Nat) (y44 : Nat) : Bool :=
 true
def rright_m_k0 (d : Dk) (y19 : Nat) : Bool :=
 fin (rright_m_l1 d y19 ((d.loose.length - 0) + 1) 0) (fun r => r) (fun zz => rright_m_k1 d y19 zz)
def rright_m (d : Dk) : Bool :=
 if d.safe.length < 32 then
  false
 else
  if 2048 < d.safe.length then
   false
  else
   fin (rright_m_l0 d ((d.safe.length - 0) + 1) 0) (fun r => r) (fun zz => rright_m_k0 d zz)
theorem rright_any (d : Dk) (dv0 : Value) (dv1 : Value) (w : World) (hd : DkR d dv0 dv1 w) (hp0 : d.loose.length ≤ 5864070000000) : Calls Tryd.prog 36 #[.agg #[dv0, dv1, J (d.fuse), .bool (d.down)]] w (fun e w' => e = .returned (.bool ((rright_m d))) ∧ Below w.heap.size w w') := by
 go_enter Tryd.func36, Tryd.ntmps36
 have hm00 := Mm.nil none (fun _ => True) w
 obtain ⟨Fd, hm01⟩ : ∃ Fd, Mm none (fun _ => True) w w [.see (DkR d dv0 dv1) Fd] := hm00.come (DkR_all hd)
 have hm0 := hm01
 refine wk (fun K1 hK1 => (wq ?_))
 refine lst rfl (m_alloc (c := #[dv0, dv1, J (d.fuse), .bool (d.down)]) (T := 25) hm0 1 rfl (run_box rfl rfl) (fun g4 w2 hm3 => ?_))
 simp only [nz]
 refine la 2 (.bool false) ?_
 simp only [nz]
 refine wn (tj (hK1 _ _ (wk (fun K5 hK5 => (wk (fun K6 hK6 => (wq ?_)))))))
 refine lw 5 (Pp g4 0) (r_fa25_0 g4 0 rfl rfl) ?_
 refine lw 6 (dv0) (r_load (hm3.at 1 rfl) rfl Tryd.underlying22 rfl rfl rfl) ?_
 refine lw 7 (J (d.safe.length : Int)) (s_len ((hm3.see 0 rfl).1) rfl Tryd.underlying22 rfl) ?_
 simp only [nz]
 refine lvb 8 (d.safe.length < 32) rfl rfl (r_lss d.safe.length 32 rfl rfl rfl) (fun hs7 => ?_) (fun hs7 => ?_)
 ·simp only [nz]
  refine lm 9 (.bool true) ?_
  simp only [nz]
  refine lst_skip 10 rfl rfl ?_
  simp only [nz]
  refine lst_skip 11 rfl rfl ?_
  simp only [nz]
  refine lst_skip 12 rfl rfl ?_
  simp only [nz]
  refine lst_skip 13 rfl rfl ?_
  simp only [nz]
  refine lw 14 (.bool true) (run_pick rfl rfl rfl) ?_
  simp only [nz]
  refine wn (tj (hK6 _ _ ?_))
  refine cond_t rfl ?_
  refine wk (fun K8 hK8 => (wq ?_))
  refine la 2 (.bool false) ?_
  simp only [nz]
  refine wn (tj (hK8 _ _ (wp_ret (then_r ?_))))
  have he9 : rright_m d = false := by unfold rright_m; rw [if_pos hs7] <;> rfl
  exact ⟨rfl, .bool false, res_t rfl rfl, ⟨by (rw [he9]; try rfl), hm3.below⟩⟩
 simp only [nz]
 refine lm 9 (.bool false) ?_
 refine lw 10 (Pp g4 0) (r_fa25_0 g4 0 rfl rfl) ?_
 refine lw 11 (dv0) (r_load (hm3.at 1 rfl) rfl Tryd.underlying22 rfl rfl rfl) ?_
 simp only [nz]
 refine lw 12 (J (d.safe.length : Int)) (s_len ((hm3.see 0 rfl).1) rfl Tryd.underlying22 rfl) ?_
 refine lw 13 (.bool (decide (2048 < d.safe.length))) (r_gtr d.safe.length 2048 rfl rfl rfl) ?_
 refine lw 14 (.bool (decide (2048 < d.safe.length))) (run_pickf rfl rfl rfl) ?_
 simp only [nz]
 refine wn (tj (hK6 _ _ ?_))
 refine cond_d (2048 < d.safe.length) rfl (fun hc10 => ?_) (fun hc10 => ?_)
 ·refine wk (fun K11 hK11 => (wq ?_))
  refine la 2 (.bool false) ?_
  simp only [nz]
  refine wn (tj (hK11 _ _ (wp_ret (then_r ?_))))
  have he12 : rright_m d = false := by unfold rright_m; rw [if_neg hs7, if_pos hc10] <;> rfl
  exact ⟨rfl, .bool false, res_t rfl rfl, ⟨by (rw [he12]; try rfl), hm3.below⟩⟩
 refine wp_skip (tj (hK5 _ _ (wk (fun K13 hK13 => (wk (fun K14 hK14 => (wq ?_)))))))
 refine la 3 (J 0) ?_
 simp only [nz]
 refine wn (tj (hK14 _ _ ?_))
 refine wp_cutK (fun a' w' => ∃ (y19 : Nat) (yu0 : Nat → Value), rright_m_l0 d ((d.safe.length - 0) + 1) 0 = .inl y19 ∧ a' = ⟨#[.agg #[dv0, dv1, J (d.fuse), .bool (d.down)], Pp g4 0, yu0 0, J (y19 : Int), undef, Pp g4 0, dv0, J (d.safe.length : Int), .bool false, .bool false, Pp g4 0, dv0, J (d.safe.length : Int), .bool (decide (2048 < d.safe.length)), .bool (decide (2048 < d.safe.length)), yu0 1, yu0 2, yu0 3, yu0 4, yu0 5, yu0 6, yu0 7, yu0 8, yu0 9, yu0 10, yu0 11, yu0 12, yu0 13, yu0 14, undef, undef, undef, undef, undef, undef, undef, undef, undef, undef, undef, undef, undef, undef, undef, undef, undef, undef, undef, undef, undef, undef, undef, undef, undef, undef, undef, undef, undef, undef, undef, undef, undef, undef, undef, undef], []⟩ ∧ Mm none (fun _ => True) w w' [.see (DkR d dv0 dv1) Fd, .blk g4 #[dv0, dv1, J (d.fuse), .bool (d.down)] 25]) ?_ ?_
 ·refine wp_block ?_
  refine wp_loop_n (fun n' a' w' => ∃ (n16 : Nat) (x15 : Nat) (u0 : Nat → Value), n' = n16 ∧ (d.safe.length - x15) < n16 ∧ rright_m_l0 d ((d.safe.length - 0) + 1) 0 = rright_m_l0 d n16 x15 ∧ a' = ⟨#[.agg #[dv0, dv1, J (d.fuse), .bool (d.down)], Pp g4 0, u0 0, J (x15 : Int), undef, Pp g4 0, dv0, J (d.safe.length : Int), .bool false, .bool false, Pp g4 0, dv0, J (d.safe.length : Int), .bool (decide (2048 < d.safe.length)), .bool (decide (2048 < d.safe.length)), u0 1, u0 2, u0 3, u0 4, u0 5, u0 6, u0 7, u0 8, u0 9, u0 10, u0 11, u0 12, u0 13, u0 14, undef, undef, undef, undef, undef, undef, undef, undef, undef, undef, undef, undef, undef, undef, undef, undef, undef, undef, undef, undef, undef, undef, undef, undef, undef, undef, undef, undef, undef, undef, undef, undef, undef, undef, undef, undef], []⟩ ∧ Mm none (fun _ => True) w w' [.see (DkR d dv0 dv1) Fd, .blk g4 #[dv0, dv1, J (d.fuse), .bool (d.down)] 25]) ⟨((d.safe.length - 0) + 1), 0, (fun qq => List.getD [.bool false, undef, undef, undef, undef, undef, undef, undef, undef, undef, undef, undef, undef, undef, undef] qq undef), rfl, Nat.lt_succ_self _, rfl, rfl, hm3⟩ ?_
  rintro n16 _ w21 ⟨_, x15, u0, rfl, hl25, hi18, rfl, hm22⟩ R23 hR23
  obtain ⟨k17, rfl⟩ : ∃ k, n16 = k + 1 := ⟨n16 - 1, by omega⟩
  refine wk (fun K26 hK26 => (wk (fun K27 hK27 => (wq ?_))))
  refine lm 15 (J (x15 : Int)) ?_
  refine lw 16 (Pp g4 0) (r_fa25_0 g4 0 rfl rfl) ?_
  refine lw 17 (dv0) (r_load (hm22.at 1 rfl) rfl Tryd.underlying22 rfl rfl rfl) ?_
  simp only [nz]
  refine lw 18 (J (d.safe.length : Int)) (s_len ((hm22.see 0 rfl).1) rfl Tryd.underlying22 rfl) ?_
  refine lw 19 (.bool (decide (x15 < d.safe.length))) (r_lss x15 d.safe.length rfl rfl rfl) ?_
  simp only [nz]
  refine wn (tj (hK27 _ _ ?_))
  refine cond_d (x15 < d.safe.length) rfl (fun hc28 => ?_) (fun hc28 => ?_)
  rotate_left
  ·refine wp_exit (then_x (then_x (blk_x ?_)))
   refine tj ?_
   exact ⟨x15, (fun qq => List.getD [u0 0, J (x15 : Int), Pp g4 0, dv0, J (d.safe.length : Int), .bool (decide (x15 < d.safe.length)), u0 6, u0 7, u0 8, u0 9, u0 10, u0 11, u0 12, u0 13, u0 14] qq undef), (hi18.trans (show rright_m_b0 d (rright_m_l0 d k17) x15 = .inl x15 from by unfold rright_m_b0; rw [if_neg hc28] <;> rfl)), rfl, hm22⟩
  refine wp_skip (tj (hK26 _ _ (wk (fun K29 hK29 => ?_))))
  refine wp_block ?_
  refine wk (fun K30 hK30 => (wq ?_))
  refine lw 22 (Pp g4 0) (r_fa25_0 g4 0 rfl rfl) ?_
  refine lw 23 (dv0) (r_load (hm22.at 1 rfl) rfl Tryd.underlying22 rfl rfl rfl) ?_
  refine lm 24 (J (x15 : Int)) ?_
  simp only [nz]
  refine lw 25 (.pointer (some ⟨(bk dv0), (po dv0 + x15 * 1), none⟩)) (r_ixv ((hm22.see 0 rfl).1) x15 (by omega) Tryd.underlying22 sz_9 rfl rfl rfl) ?_
  refine lw 26 (.string (tx (d.safe.getD x15 []))) (r_cellw (Rs.cell ((hm22.see 0 rfl).1) eS_len [] x15 (by omega) 0 _ rfl) Tryd.underlying9 rfl rfl rfl) ?_
  refine lw 27 (J (((d.safe.getD x15 []).length : Nat) : Int)) (t_len rfl Tryd.underlying9 rfl) ?_
  simp only [nz]
  refine lw 28 (.bool (decide (¬ (d.safe.getD x15 []).length = 256))) (r_neq ((d.safe.getD x15 []).length) 256 rfl rfl rfl) ?_
  simp only [nz]
  refine wn (tj (hK30 _ _ ?_))
  refine cond_d (¬ (d.safe.getD x15 []).length = 256) rfl (fun hc31 => ?_) (fun hc31 => ?_)
  rotate_left
  ·refine wp_skip (blk_n (tj (hK29 _ _ (wq ?_))))
   refine lm 20 (J (x15 : Int)) ?_
   refine lw 21 (J (((x15 + 1) : Nat) : Int)) (r_add x15 1 (show (x15 + 1) < 9223372036854775808 from by omega) rfl rfl rfl) ?_
   refine la 3 (J (((x15 + 1) : Nat) : Int)) ?_
   simp only [nz]
   refine wn ?_
   refine tj (hR23 _ _ _ ⟨k17, (x15 + 1), (fun qq => List.getD [u0 0, J (x15 : Int), Pp g4 0, dv0, J (d.safe.length : Int), .bool (decide (x15 < d.safe.length)), J (x15 : Int), J (((x15 + 1) : Nat) : Int), Pp g4 0, dv0, J (x15 : Int), .pointer (some ⟨(bk dv0), (po dv0 + x15 * 1), none⟩), .string (tx (d.safe.getD x15 [])), J (((d.safe.getD x15 []).length : Nat) : Int), .bool (decide (¬ (d.safe.getD x15 []).length = 256))] qq undef), rfl, (by omega), (hi18.trans (show rright_m_b0 d (rright_m_l0 d k17) x15 = rright_m_l0 d k17 (x15 + 1) from by unfold rright_m_b0; rw [if_pos hc28, if_neg hc31] <;> rfl)), rfl, hm22⟩ ?_)
   omega
  refine wk (fun K32 hK32 => (wq ?_))
  refine la 2 (.bool false) ?_
  simp only [nz]
  refine wn (tj (hK32 _ _ (wp_ret (blk_r (then_r (then_r (blk_r (then_r (then_r ?_)))))))))
  have he33 : rright_m_l0 d ((d.safe.length - 0) + 1) 0 = .inr false := (hi18.trans (show rright_m_b0 d (rright_m_l0 d k17) x15 = .inr false from by unfold rright_m_b0; rw [if_pos hc28, if_pos hc31] <;> rfl))
  have he34 : rright_m d = false := by unfold rright_m; rw [if_neg hs7, if_neg hc10, he33] <;> rfl
  exact ⟨rfl, .bool false, res_t rfl rfl, ⟨by (rw [he34]; try rfl), hm22.below⟩⟩
 rintro _ w35 ⟨y19, yu0, hx20, rfl, hm36⟩
 have hq37 : rright_m d = rright_m_k0 d y19 := (show rright_m d = rright_m_k0 d y19 from by unfold rright_m; rw [if_neg hs7, if_neg hc10, hx20] <;> rfl)
 refine tj (hK13 _ _ (wk (fun K38 hK38 => (wk (fun K39 hK39 => (wq ?_))))))
 refine la 4 (J 0) ?_
 simp only [nz]
 refine wn (tj (hK39 _ _ ?_))
 refine wp_cutK (fun a' w' => ∃ (y44 : Nat) (yu1 : Nat → Value), rright_m_l1 d y19 ((d.loose.length - 0) + 1) 0 = .inl y44 ∧ a' = ⟨#[.agg #[dv0, dv1, J (d.fuse), .bool (d.down)], Pp g4 0, yu1 0, J (y19 : Int), J (y44 : Int), Pp g4 0, dv0, J (d.safe.length : Int), .bool false, .bool false, Pp g4 0, dv0, J (d.safe.length : Int), .bool (decide (2048 < d.safe.length)), .bool (decide (2048 < d.safe.length)), yu0 1, yu0 2, yu0 3, yu0 4, yu0 5, yu0 6, yu0 7, yu0 8, yu0 9, yu0 10, yu0 11, yu0 12, yu0 13, yu0 14, yu1 1, yu1 2, yu1 3, yu1 4, yu1 5, yu1 6, yu1 7, yu1 8, yu1 9, yu1 10, yu1 11, yu1 12, yu1 13, yu1 14, yu1 15, yu1 16, yu1 17, yu1 18, yu1 19, yu1 20, yu1 21, yu1 22, yu1 23, yu1 24, yu1 25, yu1 26, yu1 27, yu1 28, yu1 29, yu1 30, yu1 31, yu1 32, yu1 33, yu1 34, yu1 35, yu1 36], []⟩ ∧ Mm none (fun _ => True) w w' [.see (DkR d dv0 dv1) Fd, .blk g4 #[dv0, dv1, J (d.fuse), .bool (d.down)] 25]) ?_ ?_
 ·refine wp_block ?_
  refine wp_loop_n (fun n' a' w' => ∃ (n41 : Nat) (x40 : Nat) (u1 : Nat → Value), n' = n41 ∧ (d.loose.length - x40) < n41 ∧ rright_m_l1 d y19 ((d.loose.length - 0) + 1) 0 = rright_m_l1 d y19 n41 x40 ∧ a' = ⟨#[.agg #[dv0, dv1, J (d.fuse), .bool (d.down)], Pp g4 0, u1 0, J (y19 : Int), J (x40 : Int), Pp g4 0, dv0, J (d.safe.length : Int), .bool false, .bool false, Pp g4 0, dv0, J (d.safe.length : Int), .bool (decide (2048 < d.safe.length)), .bool (decide (2048 < d.safe.length)), yu0 1, yu0 2, yu0 3, yu0 4, yu0 5, yu0 6, yu0 7, yu0 8, yu0 9, yu0 10, yu0 11, yu0 12, yu0 13, yu0 14, u1 1, u1 2, u1 3, u1 4, u1 5, u1 6, u1 7, u1 8, u1 9, u1 10, u1 11, u1 12, u1 13, u1 14, u1 15, u1 16, u1 17, u1 18, u1 19, u1 20, u1 21, u1 22, u1 23, u1 24, u1 25, u1 26, u1 27, u1 28, u1 29, u1 30, u1 31, u1 32, u1 33, u1 34, u1 35, u1 36], []⟩ ∧ Mm none (fun _ => True) w w' [.see (DkR d dv0 dv1) Fd, .blk g4 #[dv0, dv1, J (d.fuse), .bool (d.down)] 25]) ⟨((d.loose.length - 0) + 1), 0, (fun qq => bif Nat.blt qq 24 then List.getD [yu0 0, undef, undef, undef, undef, undef, undef, undef, undef, undef, undef, undef, undef, undef, undef, undef, undef, undef, undef, undef, undef, undef, undef, undef] qq undef else List.getD [undef, undef, undef, undef, undef, undef, undef, undef, undef, undef, undef, undef, undef] (qq - 24) undef), rfl, Nat.lt_succ_self _, rfl, rfl, hm36⟩ ?_
  rintro n41 _ w46 ⟨_, x40, u1, rfl, hl50, hi43, rfl, hm47⟩ R48 hR48
  obtain ⟨k42, rfl⟩ : ∃ k, n41 = k + 1 := ⟨n41 - 1, by omega⟩
  refine wk (fun K51 hK51 => (wk (fun K52 hK52 => (wq ?_))))
  refine lm 29 (J (x40 : Int)) ?_
  refine lw 30 (Pp g4 1) (r_fa25_1 g4 0 rfl rfl) ?_
  refine lw 31 (dv1) (r_load (hm47.at 1 rfl) rfl Tryd.underlying23 rfl rfl rfl) ?_
  simp only [nz]
  refine lw 32 (J (d.loose.length : Int)) (s_len ((hm47.see 0 rfl).2) rfl Tryd.underlying23 rfl) ?_
  refine lw 33 (.bool (decide (x40 < d.loose.length))) (r_lss x40 d.loose.length rfl rfl rfl) ?_
  simp only [nz]
  refine wn (tj (hK52 _ _ ?_))
  refine cond_d (x40 < d.loose.length) rfl (fun hc53 => ?_) (fun hc53 => ?_)
  rotate_left
  ·refine wp_exit (then_x (then_x (blk_x ?_)))
   refine tj ?_
   exact ⟨x40, (fun qq => bif Nat.blt qq 24 then List.getD [u1 0, J (x40 : Int), Pp g4 1, dv1, J (d.loose.length : Int), .bool (decide (x40 < d.loose.length)), u1 6, u1 7, u1 8, u1 9, u1 10, u1 11, u1 12, u1 13, u1 14, u1 15, u1 16, u1 17, u1 18, u1 19, u1 20, u1 21, u1 22, u1 23] qq undef else List.getD [u1 24, u1 25, u1 26, u1 27, u1 28, u1 29, u1 30, u1 31, u1 32, u1 33, u1 34, u1 35, u1 36] (qq - 24) undef), (hi43.trans (show rright_m_b1 d y19 (rright_m_l1 d y19 k42) x40 = .inl x40 from by unfold rright_m_b1; rw [if_neg hc53] <;> rfl)), rfl, hm47⟩
  refine wp_skip (tj (hK51 _ _ (wk (fun K54 hK54 => ?_))))
  refine wp_block ?_
  refine wk (fun K55 hK55 => ?_)
  have hm56 := hm47.drew
  refine wp_region_held_drew (S := fun w' => Mem.Blk w' g4 (#[dv0, dv1, J (d.fuse), .bool (d.down)]) 25 ∧ Rs eWr 2 d.loose dv1 w') (by kernel_rfl) (⟨hm56.at 1 rfl, ((hm56.see 0 rfl).2)⟩) (fun _ => ?_)
  generalize w46.drew = w57 at *
  refine tk 0 36 (Pp g4 1) rfl rfl (fun _ hw => r_fa25_1 g4 0 rfl rfl) (⟨hm56.at 1 rfl, ((hm56.see 0 rfl).2)⟩) ?_
  simp only [nz]
  refine tk 1 37 (dv1) rfl rfl (fun _ hw => r_load hw.1 rfl Tryd.underlying23 rfl rfl rfl) (⟨hm56.at 1 rfl, ((hm56.see 0 rfl).2)⟩) ?_
  simp only [nz]
  refine tk 2 38 (J (x40 : Int)) rfl rfl (fun _ hw => run_mv rfl rfl) (⟨hm56.at 1 rfl, ((hm56.see 0 rfl).2)⟩) ?_
  simp only [nz]
  refine tk 3 39 (.pointer (some ⟨(bk dv1), (po dv1 + x40 * 2), none⟩)) rfl rfl (fun _ hw => r_ixv ((hm56.see 0 rfl).2) x40 (by omega) Tryd.underlying23 sz_51 rfl rfl rfl) (⟨hm56.at 1 rfl, ((hm56.see 0 rfl).2)⟩) ?_
  simp only [nz]
  refine tk 4 40 (.pointer (some ⟨(bk dv1), ((po dv1 + x40 * 2) + 0), none⟩)) rfl rfl (fun _ hw => r_fa51_0 (bk dv1) (po dv1 + x40 * 2) rfl rfl) (⟨hm56.at 1 rfl, ((hm56.see 0 rfl).2)⟩) ?_
  simp only [nz]
  refine tk 5 41 (J ((d.loose.getD x40 dWr).at_)) rfl rfl (fun _ hw => r_cellw (Rs.cell hw.2 eWr_len dWr x40 (by omega) 0 _ rfl) Tryd.underlying3 rfl rfl rfl) (⟨hm56.at 1 rfl, ((hm56.see 0 rfl).2)⟩) ?_
  simp only [nz]
  refine tkb 6 42 ((d.loose.getD x40 dWr).at_ < 0) rfl rfl rfl (fun _ hw => z_lss ((d.loose.getD x40 dWr).at_) 0 rfl rfl rfl) (⟨hm56.at 1 rfl, ((hm56.see 0 rfl).2)⟩) (fun hs58 => ?_) (fun hs58 => ?_)
  ·simp only [nz]
   refine tk 7 43 (.bool true) rfl rfl (fun _ hw => run_mv rfl rfl) (⟨hm56.at 1 rfl, ((hm56.see 0 rfl).2)⟩) ?_
   simp only [nz]
   refine skx 8 44 rfl rfl rfl (⟨hm56.at 1 rfl, ((hm56.see 0 rfl).2)⟩) ?_
   simp only [nz]
   refine skx 9 45 rfl rfl rfl (⟨hm56.at 1 rfl, ((hm56.see 0 rfl).2)⟩) ?_
   simp only [nz]
   refine skx 10 46 rfl rfl rfl (⟨hm56.at 1 rfl, ((hm56.see 0 rfl).2)⟩) ?_
   simp only [nz]
   refine skx 11 47 rfl rfl rfl (⟨hm56.at 1 rfl, ((hm56.see 0 rfl).2)⟩) ?_
   simp only [nz]
   refine skx 12 48 rfl rfl rfl (⟨hm56.at 1 rfl, ((hm56.see 0 rfl).2)⟩) ?_
   simp only [nz]
   refine skx 13 49 rfl rfl rfl (⟨hm56.at 1 rfl, ((hm56.see 0 rfl).2)⟩) ?_
   simp only [nz]
   refine skx 14 50 rfl rfl rfl (⟨hm56.at 1 rfl, ((hm56.see 0 rfl).2)⟩) ?_
   simp only [nz]
   refine skx 15 51 rfl rfl rfl (⟨hm56.at 1 rfl, ((hm56.see 0 rfl).2)⟩) ?_
   simp only [nz]
   refine skx 16 52 rfl rfl rfl (⟨hm56.at 1 rfl, ((hm56.see 0 rfl).2)⟩) ?_
   simp only [nz]
   refine skx 17 53 rfl rfl rfl (⟨hm56.at 1 rfl, ((hm56.see 0 rfl).2)⟩) ?_
   simp only [nz]
   refine tk 18 54 (.bool true) rfl rfl (fun _ hw => run_pick rfl rfl rfl) (⟨hm56.at 1 rfl, ((hm56.see 0 rfl).2)⟩) ?_
   simp only [nz]
   refine tk 19 55 (.bool true) rfl rfl (fun _ hw => run_mv rfl rfl) (⟨hm56.at 1 rfl, ((hm56.see 0 rfl).2)⟩) ?_
   simp only [nz]
   refine skx 20 56 rfl rfl rfl (⟨hm56.at 1 rfl, ((hm56.see 0 rfl).2)⟩) ?_
   simp only [nz]
   refine skx 21 57 rfl rfl rfl (⟨hm56.at 1 rfl, ((hm56.see 0 rfl).2)⟩) ?_
   simp only [nz]
   refine skx 22 58 rfl rfl rfl (⟨hm56.at 1 rfl, ((hm56.see 0 rfl).2)⟩) ?_
   simp only [nz]
   refine skx 23 59 rfl rfl rfl (⟨hm56.at 1 rfl, ((hm56.see 0 rfl).2)⟩) ?_
   simp only [nz]
   refine skx 24 60 rfl rfl rfl (⟨hm56.at 1 rfl, ((hm56.see 0 rfl).2)⟩) ?_
   simp only [nz]
   refine skx 25 61 rfl rfl rfl (⟨hm56.at 1 rfl, ((hm56.see 0 rfl).2)⟩) ?_
   simp only [nz]
   refine skx 26 62 rfl rfl rfl (⟨hm56.at 1 rfl, ((hm56.see 0 rfl).2)⟩) ?_
   simp only [nz]
   refine skx 27 63 rfl rfl rfl (⟨hm56.at 1 rfl, ((hm56.see 0 rfl).2)⟩) ?_
   simp only [nz]
   refine tk 28 64 (.bool true) rfl rfl (fun _ hw => run_pick rfl rfl rfl) (⟨hm56.at 1 rfl, ((hm56.see 0 rfl).2)⟩) ?_
   simp only [nz]
   refine wpAnyH_done (by kernel_rfl) ?_ _
   refine tj (hK55 _ _ ?_)
   refine cond_t rfl ?_
   refine wk (fun K59 hK59 => (wq ?_))
   refine la 2 (.bool false) ?_
   simp only [nz]
   refine wn (tj (hK59 _ _ (wp_ret (blk_r (then_r (then_r (blk_r (then_r (then_r ?_)))))))))
   have he60 : rright_m_l1 d y19 ((d.loose.length - 0) + 1) 0 = .inr false := (hi43.trans (show rright_m_b1 d y19 (rright_m_l1 d y19 k42) x40 = .inr false from by unfold rright_m_b1; rw [if_pos hc53, if_pos hs58] <;> rfl))
   have he61 : rright_m d = false := (hq37.trans (show rright_m_k0 d y19 = false from by unfold rright_m_k0; rw [he60] <;> rfl))
   exact ⟨rfl, .bool false, res_t rfl rfl, ⟨by (rw [he61]; try rfl), hm56.below⟩⟩
  simp only [nz]
  refine tk 7 43 (.bool false) rfl rfl (fun _ hw => run_mv rfl rfl) (⟨hm56.at 1 rfl, ((hm56.see 0 rfl).2)⟩) ?_
  simp only [nz]
  refine Sym.take_at 8 44 (Pp g4 1) rfl rfl (by kernel_rfl) (by kernel_rfl) (by kernel_rfl) (fun _ _ _ h => h) rfl (fun _ hw => r_fa25_1 g4 0 rfl rfl) (⟨hm56.at 1 rfl, ((hm56.see 0 rfl).2)⟩) ?_
  simp only [nz]
  refine Sym.take_at 9 45 (dv1) rfl rfl (by kernel_rfl) (by kernel_rfl) (by kernel_rfl) (fun _ _ _ h => h) rfl (fun _ hw => r_load hw.1 rfl Tryd.underlying23 rfl rfl rfl) (⟨hm56.at 1 rfl, ((hm56.see 0 rfl).2)⟩) ?_
  simp only [nz]
  refine Sym.take_at 10 46 (J (x40 : Int)) rfl rfl (by kernel_rfl) (by kernel_rfl) (by kernel_rfl) (fun _ _ _ h => h) rfl (fun _ hw => run_mv rfl rfl) (⟨hm56.at 1 rfl, ((hm56.see 0 rfl).2)⟩) ?_
  simp only [nz]
  refine Sym.take_at 11 47 (.pointer (some ⟨(bk dv1), (po dv1 + x40 * 2), none⟩)) rfl rfl (by kernel_rfl) (by kernel_rfl) (by kernel_rfl) (fun _ _ _ h => h) rfl (fun _ hw => r_ixv ((hm56.see 0 rfl).2) x40 (by omega) Tryd.underlying23 sz_51 rfl rfl rfl) (⟨hm56.at 1 rfl, ((hm56.see 0 rfl).2)⟩) ?_
  simp only [nz]
  refine Sym.take_at 12 48 (.pointer (some ⟨(bk dv1), ((po dv1 + x40 * 2) + 0), none⟩)) rfl rfl (by kernel_rfl) (by kernel_rfl) (by kernel_rfl) (fun _ _ _ h => h) rfl (fun _ hw => r_fa51_0 (bk dv1) (po dv1 + x40 * 2) rfl rfl) (⟨hm56.at 1 rfl, ((hm56.see 0 rfl).2)⟩) ?_
  simp only [nz]
  refine Sym.take_at 13 49 (J ((d.loose.getD x40 dWr).at_)) rfl rfl (by kernel_rfl) (by kernel_rfl) (by kernel_rfl) (fun _ _ _ h => h) rfl (fun _ hw => r_cellw (Rs.cell hw.2 eWr_len dWr x40 (by omega) 0 _ rfl) Tryd.underlying3 rfl rfl rfl) (⟨hm56.at 1 rfl, ((hm56.see 0 rfl).2)⟩) ?_
  simp only [nz]
  refine Sym.take_at 14 50 (Pp g4 0) rfl rfl (by kernel_rfl) (by kernel_rfl) (by kernel_rfl) (fun _ _ _ h => h) rfl (fun _ hw => r_fa25_0 g4 0 rfl rfl) (⟨hm56.at 1 rfl, ((hm56.see 0 rfl).2)⟩) ?_
  simp only [nz]
  refine Sym.take_at 15 51 (dv0) rfl rfl (by kernel_rfl) (by kernel_rfl) (by kernel_rfl) (fun _ _ _ h => h) rfl (fun _ hw => r_load hw.1 rfl Tryd.underlying22 rfl rfl rfl) (⟨hm56.at 1 rfl, ((hm56.see 0 rfl).2)⟩) ?_
  simp only [nz]
  refine Sym.take_at 16 52 (J (d.safe.length : Int)) rfl rfl (by kernel_rfl) (by kernel_rfl) (by kernel_rfl) (fun _ _ _ h => h) rfl (fun _ hw => s_len ((hm56.see 0 rfl).1) rfl Tryd.underlying22 rfl) (⟨hm56.at 1 rfl, ((hm56.see 0 rfl).2)⟩) ?_
  simp only [nz]
  refine tkb 17 53 ((d.safe.length : Int) ≤ (d.loose.getD x40 dWr).at_) rfl rfl rfl (fun _ hw => z_geq ((d.loose.getD x40 dWr).at_) (d.safe.length : Int) rfl rfl rfl) (⟨hm56.at 1 rfl, ((hm56.see 0 rfl).2)⟩) (fun hs62 => ?_) (fun hs62 => ?_)
  ·simp only [nz]
   refine tk 18 54 (.bool true) rfl rfl (fun _ hw => run_pickf rfl rfl rfl) (⟨hm56.at 1 rfl, ((hm56.see 0 rfl).2)⟩) ?_
   simp only [nz]
   refine tk 19 55 (.bool true) rfl rfl (fun _ hw => run_mv rfl rfl) (⟨hm56.at 1 rfl, ((hm56.see 0 rfl).2)⟩) ?_
   simp only [nz]
   refine skx 20 56 rfl rfl rfl (⟨hm56.at 1 rfl, ((hm56.see 0 rfl).2)⟩) ?_
   simp only [nz]
   refine skx 21 57 rfl rfl rfl (⟨hm56.at 1 rfl, ((hm56.see 0 rfl).2)⟩) ?_
   simp only [nz]
   refine skx 22 58 rfl rfl rfl (⟨hm56.at 1 rfl, ((hm56.see 0 rfl).2)⟩) ?_
   simp only [nz]
   refine skx 23 59 rfl rfl rfl (⟨hm56.at 1 rfl, ((hm56.see 0 rfl).2)⟩) ?_
   simp only [nz]
   refine skx 24 60 rfl rfl rfl (⟨hm56.at 1 rfl, ((hm56.see 0 rfl).2)⟩) ?_
   simp only [nz]
   refine skx 25 61 rfl rfl rfl (⟨hm56.at 1 rfl, ((hm56.see 0 rfl).2)⟩) ?_
   simp only [nz]
   refine skx 26 62 rfl rfl rfl (⟨hm56.at 1 rfl, ((hm56.see 0 rfl).2)⟩) ?_
   simp only [nz]
   refine skx 27 63 rfl rfl rfl (⟨hm56.at 1 rfl, ((hm56.see 0 rfl).2)⟩) ?_
   simp only [nz]
   refine tk 28 64 (.bool true) rfl rfl (fun _ hw => run_pick rfl rfl rfl) (⟨hm56.at 1 rfl, ((hm56.see 0 rfl).2)⟩) ?_
   simp only [nz]
   refine wpAnyH_done (by kernel_rfl) ?_ _
   refine tj (hK55 _ _ ?_)
   refine cond_t rfl ?_
   refine wk (fun K63 hK63 => (wq ?_))
   refine la 2 (.bool false) ?_
   simp only [nz]
   refine wn (tj (hK63 _ _ (wp_ret (blk_r (then_r (then_r (blk_r (then_r (then_r ?_)))))))))
   have he64 : rright_m_l1 d y19 ((d.loose.length - 0) + 1) 0 = .inr false := (hi43.trans (show rright_m_b1 d y19 (rright_m_l1 d y19 k42) x40 = .inr false from by unfold rright_m_b1; rw [if_pos hc53, if_neg hs58, if_pos hs62] <;> rfl))
   have he65 : rright_m d = false := (hq37.trans (show rright_m_k0 d y19 = false from by unfold rright_m_k0; rw [he64] <;> rfl))
   exact ⟨rfl, .bool false, res_t rfl rfl, ⟨by (rw [he65]; try rfl), hm56.below⟩⟩
  simp only [nz]
  refine tk 18 54 (.bool false) rfl rfl (fun _ hw => run_pickf rfl rfl rfl) (⟨hm56.at 1 rfl, ((hm56.see 0 rfl).2)⟩) ?_
  simp only [nz]
  refine tk 19 55 (.bool false) rfl rfl (fun _ hw => run_mv rfl rfl) (⟨hm56.at 1 rfl, ((hm56.see 0 rfl).2)⟩) ?_
  simp only [nz]
  refine Sym.take_at 20 56 (Pp g4 1) rfl rfl (by kernel_rfl) (by kernel_rfl) (by kernel_rfl) (fun _ _ _ h => h) rfl (fun _ hw => r_fa25_1 g4 0 rfl rfl) (⟨hm56.at 1 rfl, ((hm56.see 0 rfl).2)⟩) ?_
  simp only [nz]
  refine Sym.take_at 21 57 (dv1) rfl rfl (by kernel_rfl) (by kernel_rfl) (by kernel_rfl) (fun _ _ _ h => h) rfl (fun _ hw => r_load hw.1 rfl Tryd.underlying23 rfl rfl rfl) (⟨hm56.at 1 rfl, ((hm56.see 0 rfl).2)⟩) ?_
  simp only [nz]
  refine Sym.take_at 22 58 (J (x40 : Int)) rfl rfl (by kernel_rfl) (by kernel_rfl) (by kernel_rfl) (fun _ _ _ h => h) rfl (fun _ hw => run_mv rfl rfl) (⟨hm56.at 1 rfl, ((hm56.see 0 rfl).2)⟩) ?_
  simp only [nz]
  refine Sym.take_at 23 59 (.pointer (some ⟨(bk dv1), (po dv1 + x40 * 2), none⟩)) rfl rfl (by kernel_rfl) (by kernel_rfl) (by kernel_rfl) (fun _ _ _ h => h) rfl (fun _ hw => r_ixv ((hm56.see 0 rfl).2) x40 (by omega) Tryd.underlying23 sz_51 rfl rfl rfl) (⟨hm56.at 1 rfl, ((hm56.see 0 rfl).2)⟩) ?_
  simp only [nz]
  refine Sym.take_at 24 60 (.pointer (some ⟨(bk dv1), ((po dv1 + x40 * 2) + 1), none⟩)) rfl rfl (by kernel_rfl) (by kernel_rfl) (by kernel_rfl) (fun _ _ _ h => h) rfl (fun _ hw => r_fa51_1 (bk dv1) (po dv1 + x40 * 2) rfl rfl) (⟨hm56.at 1 rfl, ((hm56.see 0 rfl).2)⟩) ?_
  simp only [nz]
  refine Sym.take_at 25 61 (.string (tx ((d.loose.getD x40 dWr).data))) rfl rfl (by kernel_rfl) (by kernel_rfl) (by kernel_rfl) (fun _ _ _ h => h) rfl (fun _ hw => r_cellw (Rs.cell hw.2 eWr_len dWr x40 (by omega) 1 _ rfl) Tryd.underlying9 rfl rfl rfl) (⟨hm56.at 1 rfl, ((hm56.see 0 rfl).2)⟩) ?_
  simp only [nz]
  refine Sym.take_at 26 62 (J ((((d.loose.getD x40 dWr).data).length : Nat) : Int)) rfl rfl (by kernel_rfl) (by kernel_rfl) (by kernel_rfl) (fun _ _ _ h => h) rfl (fun _ hw => t_len rfl Tryd.underlying9 rfl) (⟨hm56.at 1 rfl, ((hm56.see 0 rfl).2)⟩) ?_
  simp only [nz]
  refine Sym.take_at 27 63 (.bool (decide (¬ ((d.loose.getD x40 dWr).data).length = 256))) rfl rfl (by kernel_rfl) (by kernel_rfl) (by kernel_rfl) (fun _ _ _ h => h) rfl (fun _ hw => r_neq (((d.loose.getD x40 dWr).data).length) 256 rfl rfl rfl) (⟨hm56.at 1 rfl, ((hm56.see 0 rfl).2)⟩) ?_
  simp only [nz]
  refine tk 28 64 (.bool (decide (¬ ((d.loose.getD x40 dWr).data).length = 256))) rfl rfl (fun _ hw => run_pickf rfl rfl rfl) (⟨hm56.at 1 rfl, ((hm56.see 0 rfl).2)⟩) ?_
  simp only [nz]
  refine wpAnyH_done (by kernel_rfl) ?_ _
  refine tj (hK55 _ _ ?_)
  refine cond_d (¬ ((d.loose.getD x40 dWr).data).length = 256) rfl (fun hc66 => ?_) (fun hc66 => ?_)
  rotate_left
  ·refine wp_skip (blk_n (tj (hK54 _ _ (wq ?_))))
   refine lm 34 (J (x40 : Int)) ?_
   refine lw 35 (J (((x40 + 1) : Nat) : Int)) (r_add x40 1 (show (x40 + 1) < 9223372036854775808 from by omega) rfl rfl rfl) ?_
   refine la 4 (J (((x40 + 1) : Nat) : Int)) ?_
   simp only [nz]
   refine wn ?_
   refine tj (hR48 _ _ _ ⟨k42, (x40 + 1), (fun qq => bif Nat.blt qq 24 then List.getD [u1 0, J (x40 : Int), Pp g4 1, dv1, J (d.loose.length : Int), .bool (decide (x40 < d.loose.length)), J (x40 : Int), J (((x40 + 1) : Nat) : Int), Pp g4 1, dv1, J (x40 : Int), .pointer (some ⟨(bk dv1), (po dv1 + x40 * 2), none⟩), .pointer (some ⟨(bk dv1), ((po dv1 + x40 * 2) + 0), none⟩), J ((d.loose.getD x40 dWr).at_), .bool false, .bool false, Pp g4 1, dv1, J (x40 : Int), .pointer (some ⟨(bk dv1), (po dv1 + x40 * 2), none⟩), .pointer (some ⟨(bk dv1), ((po dv1 + x40 * 2) + 0), none⟩), J ((d.loose.getD x40 dWr).at_), Pp g4 0, dv0] qq undef else List.getD [J (d.safe.length : Int), .bool false, .bool false, .bool false, Pp g4 1, dv1, J (x40 : Int), .pointer (some ⟨(bk dv1), (po dv1 + x40 * 2), none⟩), .pointer (some ⟨(bk dv1), ((po dv1 + x40 * 2) + 1), none⟩), .string (tx ((d.loose.getD x40 dWr).data)), J ((((d.loose.getD x40 dWr).data).length : Nat) : Int), .bool (decide (¬ ((d.loose.getD x40 dWr).data).length = 256)), .bool (decide (¬ ((d.loose.getD x40 dWr).data).length = 256))] (qq - 24) undef), rfl, (by omega), (hi43.trans (show rright_m_b1 d y19 (rright_m_l1 d y19 k42) x40 = rright_m_l1 d y19 k42 (x40 + 1) from by unfold rright_m_b1; rw [if_pos hc53, if_neg hs58, if_neg hs62, if_neg hc66] <;> rfl)), rfl, hm56⟩ ?_)
   omega
  refine wk (fun K67 hK67 => (wq ?_))
  refine la 2 (.bool false) ?_
  simp only [nz]
  refine wn (tj (hK67 _ _ (wp_ret (blk_r (then_r (then_r (blk_r (then_r (then_r ?_)))))))))
  have he68 : rright_m_l1 d y19 ((d.loose.length - 0) + 1) 0 = .inr false := (hi43.trans (show rright_m_b1 d y19 (rright_m_l1 d y19 k42) x40 = .inr false from by unfold rright_m_b1; rw [if_pos hc53, if_neg hs58, if_neg hs62, if_pos hc66] <;> rfl))
  have he69 : rright_m d = false := (hq37.trans (show rright_m_k0 d y19 = false from by unfold rright_m_k0; rw [he68] <;> rfl))
  exact ⟨rfl, .bool false, res_t rfl rfl, ⟨by (rw [he69]; try rfl), hm56.below⟩⟩
 rintro _ w70 ⟨y44, yu1, hx45, rfl, hm71⟩
 have hq72 : rright_m d = rright_m_k1 d y19 y44 := (hq37.trans (show rright_m_k0 d y19 = rright_m_k1 d y19 y44 from by unfold rright_m_k0; rw [hx45] <;> rfl))
 refine tj (hK38 _ _ (wk (fun K73 hK73 => (wq ?_))))
 refine la 2 (.bool true) ?_
 simp only [nz]
 refine wn (tj (hK73 _ _ (wp_ret ?_)))
 have he74 : rright_m d = true := (hq72.trans (show rright_m_k1 d y19 y44 = true from by unfold rright_m_k1; rfl))
 exact ⟨rfl, .bool true, res_t rfl rfl, ⟨by (rw [he74]; try rfl), hm71.below⟩⟩
theorem run_rright {o : Oper} {a : Act} {w : World} {x0 : Operand} {v0 : Value} (ho : o.op = .call { callee := .value (.func 36), args := #[x0], argTypes := #[25] }) (h0 : a.eval x0 = v0) :
  (execOp a.eval o).run Tryd.prog w = .ok (.enter 36 #[v0]) w := by
 unfold execOp
 simp only [ho]
 have hf : a.eval (.func 36) = .func (.func 36) #[] #[] := rfl
 generalize a.eval = f at *
 go_simp
def ready_m (d : Dk) : Int :=
 if (!(right_m d)) = true then
  1
 else
  if d.down = true then
   11
  else
   0
theorem ready_any (d : Dk) (dv0 : Value) (dv1 : Value) (w : World) (hd : DkR d dv0 dv1 w) (hp0 : d.loose.length ≤ 5864070000000) : Calls Tryd.prog 59 #[.agg #[dv0, dv1, J (d.fuse), .bool (d.down)]] w (fun e w' => e = .returned (J ((ready_m d))) ∧ Below w.heap.size w w') := by
 go_enter Tryd.func59, Tryd.ntmps59
 have hm00 := Mm.nil none (fun _ => True) w
 obtain ⟨Fd, hm01⟩ : ∃ Fd, Mm none (fun _ => True) w w [.see (DkR d dv0 dv1) Fd] := hm00.come (DkR_all hd)
 have hm0 := hm01
 refine wk (fun K1 hK1 => (wq ?_))
 refine lst rfl (m_alloc (c := #[dv0, dv1, J (d.fuse), .bool (d.down)]) (T := 25) hm0 1 rfl (run_box rfl rfl) (fun g4 w2 hm3 => ?_))
 simp only [nz]
 refine la 2 (J 0) ?_
 simp only [nz]
 refine wn (tj (hK1 _ _ (wk (fun K5 hK5 => ?_))))
 refine wp_block ?_
 refine wk (fun K6 hK6 => (wq ?_))
 refine lw 4 (.agg #[dv0, dv1, J (d.fuse), .bool (d.down)]) (r_whole (hm3.at 1 rfl) Tryd.underlying25 rfl (by exact sz_25) rfl rfl) ?_
 simp only [nz]
 refine lst rfl (m_call hm3 5 (.bool ((right_m d))) rfl (run_right rfl rfl) (right_any d dv0 dv1 _ (hm3.see 0 rfl) (by omega)) (fun w7 hm8 => ?_))
 simp only [nz]
 refine lw 6 (.bool (!(right_m d))) (r_not (right_m d) rfl rfl) ?_
 refine la 3 (.bool (!(right_m d))) ?_
 simp only [nz]
 refine wn (tj (hK6 _ _ ?_))
 refine cond_B (!(right_m d)) rfl (fun hc9 => ?_) (fun hc9 => ?_)
 ·refine wk (fun K10 hK10 => (wq ?_))
  refine la 2 (J 1) ?_
  simp only [nz]
  refine wn (tj (hK10 _ _ (wp_ret (blk_r (then_r ?_)))))
  have he11 : ready_m d = 1 := by unfold ready_m; rw [if_pos hc9] <;> rfl
  exact ⟨rfl, J 1, res_t rfl rfl, ⟨by (rw [he11]; try rfl), hm8.below⟩⟩
 refine wk (fun K12 hK12 => (wq ?_))
 refine lw 8 (Pp g4 3) (r_fa25_3 g4 0 rfl rfl) ?_
 refine lw 9 (.bool (d.down)) (r_load (hm8.at 1 rfl) rfl Tryd.underlying4 rfl rfl rfl) ?_
 refine la 7 (.bool (d.down)) ?_
 simp only [nz]
 refine wn (tj (hK12 _ _ ?_))
 refine cond_B d.down rfl (fun hc13 => ?_) (fun hc13 => ?_)
 ·refine wk (fun K14 hK14 => (wq ?_))
  refine la 2 (J 11) ?_
  simp only [nz]
  refine wn (tj (hK14 _ _ (wp_ret (blk_r (then_r ?_)))))
  have he15 : ready_m d = 11 := by unfold ready_m; rw [if_neg hc9, if_pos hc13] <;> rfl
  exact ⟨rfl, J 11, res_t rfl rfl, ⟨by (rw [he15]; try rfl), hm8.below⟩⟩
 refine wp_skip (blk_n (tj (hK5 _ _ (wk (fun K16 hK16 => (wq ?_))))))
 refine la 2 (J 0) ?_
 simp only [nz]
 refine wn (tj (hK16 _ _ (wp_ret ?_)))
 have he17 : ready_m d = 0 := by unfold ready_m; rw [if_neg hc9, if_neg hc13] <;> rfl
 exact ⟨rfl, J 0, res_t rfl rfl, ⟨by (rw [he17]; try rfl), hm8.below⟩⟩
theorem run_ready {o : Oper} {a : Act} {w : World} {x0 : Operand} {v0 : Value} (ho : o.op = .call { callee := .value (.func 59), args := #[x0], argTypes := #[25] }) (h0 : a.eval x0 = v0) :
  (execOp a.eval o).run Tryd.prog w = .ok (.enter 59 #[v0]) w := by
 unfold execOp
 simp only [ho]
 have hf : a.eval (.func 59) = .func (.func 59) #[] #[] := rfl
 generalize a.eval = f at *
 go_simp
def rready_m (d : Dk) : Int :=
 if (!(rright_m d)) = true then
  1
 else
  if d.down = true then
   11
  else
   0
theorem rready_any (d : Dk) (dv0 : Value) (dv1 : Value) (w : World) (hd : DkR d dv0 dv1 w) (hp0 : d.loose.length ≤ 5864070000000) : Calls Tryd.prog 61 #[.agg #[dv0, dv1, J (d.fuse), .bool (d.down)]] w (fun e w' => e = .returned (J ((rready_m d))) ∧ Below w.heap.size w w') := by
 go_enter Tryd.func61, Tryd.ntmps61
 have hm00 := Mm.nil none (fun _ => True) w
 obtain ⟨Fd, hm01⟩ : ∃ Fd, Mm none (fun _ => True) w w [.see (DkR d dv0 dv1) Fd] := hm00.come (DkR_all hd)
 have hm0 := hm01
 refine wk (fun K1 hK1 => (wq ?_))
 refine lst rfl (m_alloc (c := #[dv0, dv1, J (d.fuse), .bool (d.down)]) (T := 25) hm0 1 rfl (run_box rfl rfl) (fun g4 w2 hm3 => ?_))
 simp only [nz]
 refine la 2 (J 0) ?_
 simp only [nz]
 refine wn (tj (hK1 _ _ (wk (fun K5 hK5 => ?_))))
 refine wp_block ?_
 refine wk (fun K6 hK6 => (wq ?_))
 refine lw 4 (.agg #[dv0, dv1, J (d.fuse), .bool (d.down)]) (r_whole (hm3.at 1 rfl) Tryd.underlying25 rfl (by exact sz_25) rfl rfl) ?_
 simp only [nz]
 refine lst rfl (m_call hm3 5 (.bool ((rright_m d))) rfl (run_rright rfl rfl) (rright_any d dv0 dv1 _ (hm3.see 0 rfl) (by omega)) (fun w7 hm8 => ?_))
 simp only [nz]
 refine lw 6 (.bool (!(rright_m d))) (r_not (rright_m d) rfl rfl) ?_
 refine la 3 (.bool (!(rright_m d))) ?_
 simp only [nz]
 refine wn (tj (hK6 _ _ ?_))
 refine cond_B (!(rright_m d)) rfl (fun hc9 => ?_) (fun hc9 => ?_)
 ·refine wk (fun K10 hK10 => (wq ?_))
  refine la 2 (J 1) ?_
  simp only [nz]
  refine wn (tj (hK10 _ _ (wp_ret (blk_r (then_r ?_)))))
  have he11 : rready_m d = 1 := by unfold rready_m; rw [if_pos hc9] <;> rfl
  exact ⟨rfl, J 1, res_t rfl rfl, ⟨by (rw [he11]; try rfl), hm8.below⟩⟩
 refine wk (fun K12 hK12 => (wq ?_))
 refine lw 8 (Pp g4 3) (r_fa25_3 g4 0 rfl rfl) ?_
 refine lw 9 (.bool (d.down)) (r_load (hm8.at 1 rfl) rfl Tryd.underlying4 rfl rfl rfl) ?_
 refine la 7 (.bool (d.down)) ?_
 simp only [nz]
 refine wn (tj (hK12 _ _ ?_))
 refine cond_B d.down rfl (fun hc13 => ?_) (fun hc13 => ?_)
 ·refine wk (fun K14 hK14 => (wq ?_))
  refine la 2 (J 11) ?_
  simp only [nz]
  refine wn (tj (hK14 _ _ (wp_ret (blk_r (then_r ?_)))))
  have he15 : rready_m d = 11 := by unfold rready_m; rw [if_neg hc9, if_pos hc13] <;> rfl
  exact ⟨rfl, J 11, res_t rfl rfl, ⟨by (rw [he15]; try rfl), hm8.below⟩⟩
 refine wp_skip (blk_n (tj (hK5 _ _ (wk (fun K16 hK16 => (wq ?_))))))
 refine la 2 (J 0) ?_
 simp only [nz]
 refine wn (tj (hK16 _ _ (wp_ret ?_)))
 have he17 : rready_m d = 0 := by unfold rready_m; rw [if_neg hc9, if_neg hc13] <;> rfl
 exact ⟨rfl, J 0, res_t rfl rfl, ⟨by (rw [he17]; try rfl), hm8.below⟩⟩
theorem run_rready {o : Oper} {a : Act} {w : World} {x0 : Operand} {v0 : Value} (ho : o.op = .call { callee := .value (.func 61), args := #[x0], argTypes := #[25] }) (h0 : a.eval x0 = v0) :
  (execOp a.eval o).run Tryd.prog w = .ok (.enter 61 #[v0]) w := by
 unfold execOp
 simp only [ho]
 have hf : a.eval (.func 61) = .func (.func 61) #[] #[] := rfl
 generalize a.eval = f at *
 go_simp
end Go.Proofs.YtnmaaijeamlplaaDoor.Bk
