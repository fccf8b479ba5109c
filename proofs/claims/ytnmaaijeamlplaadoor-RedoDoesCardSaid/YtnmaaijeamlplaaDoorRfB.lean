import Derived.Test.YtnmaaijeamlplaaDoorRfH
set_option linter.unusedVariables false
set_option linter.unusedSimpArgs false
namespace Go.Proofs.YtnmaaijeamlplaaDoor.Bk
open Go.RowKit
open Go.Proofs.YtnmaaijeamlplaaDoor.Sym Go.Proofs.YtnmaaijeamlplaaDoor.Mem
open Go.Proofs.YtnmaaijeamlplaaDoor.Sx hiding Mm m_alloc m_store m_call m_callx
attribute [local irreducible] right_m rright_m ready_m rready_m copied_m burn_m put_m get_m flush_m spent_m rput_m rget_m rflush_m blank_m rnew_m same_m
attribute [local irreducible] number_m value_m fill_m beginning_m log_m fits_m lists_m epoch_m
attribute [local irreducible] home_m putall_m
attribute [local irreducible] putfl_m body_m rise_m sized_m current_m join_m sum_m
attribute [local irreducible] format_m rend_m bring_m
attribute [local irreducible] commit_m
attribute [local irreducible] rlog_m four_m eight_m rread_m rfull_m
attribute [local irreducible] wpList Oper.wp
def rbody_m_b1 (epoch : Int) (l : List Wr) (l7 : List (List UInt8)) (x9 : Nat) (rec : (List UInt8) × Nat → Sum ((List UInt8) × Nat) ((List (List UInt8)))) (x35 : List UInt8) (x36 : Nat) : Sum ((List UInt8) × Nat) ((List (List UInt8))) :=
 if x36 < l.length then
  if x36 < (x9 + 61) then
   rec ((x35 ++ (four_m ((l.getD x36 dWr).at_))), (x36 + 1))
  else
   .inl (x35, x36)
 else
  .inl (x35, x36)
def rbody_m_l1 (epoch : Int) (l : List Wr) (l7 : List (List UInt8)) (x9 : Nat) : Nat → (List UInt8) × Nat → Sum ((List UInt8) × Nat) ((List (List UInt8)))
 | 0, zz => .inl zz
 | nq + 1, zz => rbody_m_b1 epoch l l7 x9 (rbody_m_l1 epoch l l7 x9 nq) zz.1 zz.2
def rbody_m_k1 (epoch : Int) (l : List Wr) (l7 : List (List UInt8)) (x9 : Nat) (rec : (List (List UInt8)) × Nat → Sum ((List (List UInt8)) × Nat) ((List (List UInt8)))) (y40 : List UInt8) (y41 : Nat) : Sum ((List (List UInt8)) × Nat) ((List (List UInt8))) :=
 rec ((l7 ++ [(rfull_m y40)]), (x9 + 61))
def rbody_m_b0 (epoch : Int) (l : List Wr) (rec : (List (List UInt8)) × Nat → Sum ((List (List UInt8)) × Nat) ((List (List UInt8)))) (l7 : List (List UInt8)) (x9 : Nat) : Sum ((List (List UInt8)) × Nat) ((List (List UInt8))) :=
 if x9 < l.length then
  fin (rbody_m_l1 epoch l l7 x9 ((l.length - x9) + 1) (((eight_m epoch) ++ (four_m ((l.length : Nat) : Int))), x9)) .inr (fun zz => rbody_m_k1 epoch l l7 x9 rec zz.1 zz.2)
 else
  .inl (l7, x9)
def rbody_m_l0 (epoch : Int) (l : List Wr) : Nat → (List (List UInt8)) × Nat → Sum ((List (List UInt8)) × Nat) ((List (List UInt8)))
 | 0, zz => .inl zz
 | nq + 1, zz => rbody_m_b0 epoch l (rbody_m_l0 epoch l nq) zz.1 zz.2
def rbody_m_b2 (epoch : Int) (l : List Wr) (y13 : List (List UInt8)) (y15 : Nat) (rec : (List (List UInt8)) × Nat → Sum ((List (List UInt8)) × Nat) ((List (List UInt8)))) (l73 : List (List UInt8)) (x75 : Nat) : Sum ((List (List UInt8)) × Nat) ((List (List UInt8))) :=
 if x75 < l.length then
  rec ((l73 ++ [((l.getD x75 dWr).data)]), (x75 + 1))
 else
  .inl (l73, x75)
def rbody_m_l2 (epoch : Int) (l : List Wr) (y13 : List (List UInt8)) (y15 : Nat) : Nat → (List (List UInt8)) × Nat → Sum ((List (List UInt8)) × Nat) ((List (List UInt8)))
 | 0, zz => .inl zz
 | nq + 1, zz => rbody_m_b2 epoch l y13 y15 (rbody_m_l2 epoch l y13 y15 nq) zz.1 zz.2
def rbody_m_k2 (epoch : Int) (l : List Wr) (y13 : List (List UInt8)) (y15 : Nat) (y79 : List (List UInt8)) (y81 : Nat) : (List (List UInt8)) :=
 y79
def rbody_m_k0 (epoch : Int) (l : List Wr) (y13 : List (List UInt8)) (y15 : Nat) : (List (List UInt8)) :=
 fin (rbody_m_l2 epoch l y13 y15 ((l.length - 0) + 1) (y13, 0)) (fun r => r) (fun zz => rbody_m_k2 epoch l y13 y15 zz.1 zz.2)
def rbody_m (epoch : Int) (l : List Wr) : (List (List UInt8)) :=
 fin (rbody_m_l0 epoch l ((l.length - 0) + 1) (([] : List (List UInt8)), 0)) (fun r => r) (fun zz => rbody_m_k0 epoch l zz.1 zz.2)
set_option maxHeartbeats 4000000 in
set_option maxRecDepth 100000 in
theorem rbody_any (epoch : Int) (l : List Wr) (lv0 : Value) (w : World) (hl : Rs eWr 2 l lv0 w) (hp0 : l.length ≤ 1000000) : Calls Tryd.prog 51 #[J (epoch), lv0] w (fun e w' => (∃ v, e = .returned v ∧ ∃ o0 : Value, v = o0 ∧ w'.ownsRow w.heap.size 9 1 o0 (rbody_m epoch l).length ((rbody_m epoch l).flatMap eS)) ∧ Below w.heap.size w w') := by
 go_enter Tryd.func51, Tryd.ntmps51
 have hm00 := Mm.nil none (fun _ => True) w
 obtain ⟨Fl, hm01⟩ : ∃ Fl, Mm none (fun _ => True) w w [.see (Rs eWr 2 l lv0) Fl] := hm00.come (Rs.all hl)
 have hm0 := hm01
 refine wk (fun K1 hK1 => (wq ?_))
 refine la 4 (.slice none 0 0) ?_
 simp only [nz]
 refine wn (tj (hK1 _ _ (wk (fun K2 hK2 => (wq ?_)))))
 refine la 5 (.slice none 0 0) ?_
 simp only [nz]
 refine wn (tj (hK2 _ _ (wk (fun K3 hK3 => (wk (fun K4 hK4 => (wq ?_)))))))
 refine la 6 (J 0) ?_
 simp only [nz]
 refine wn (tj (hK4 _ _ ?_))
 have hm6 : Mm none (fun _ => True) w w [.see (Rs eWr 2 l lv0) Fl, .row (.slice none 0 0) ([] : List (List UInt8)).length (([] : List (List UInt8)).flatMap eS) 9 1] := hm0.nilrow 9 1
 refine wp_cutK (fun a' w' => ∃ (y13 : List (List UInt8)) (y15 : Nat) (v14 : Value) (yu0 : Nat → Value), rbody_m_l0 epoch l ((l.length - 0) + 1) (([] : List (List UInt8)), 0) = .inl (y13, y15) ∧ (y13.length ≤ y15 ∧ y15 ≤ l.length + 60) ∧ a' = ⟨#[J (epoch), lv0, undef, undef, .slice none 0 0, v14, J (y15 : Int), yu0 0, yu0 1, undef, yu0 2, yu0 3, yu0 4, yu0 5, yu0 6, yu0 7, yu0 8, yu0 9, yu0 10, yu0 11, yu0 12, yu0 13, yu0 14, yu0 15, yu0 16, yu0 17, yu0 18, yu0 19, yu0 20, yu0 21, yu0 22, yu0 23, yu0 24, yu0 25, yu0 26, yu0 27, yu0 28, yu0 29, yu0 30, yu0 31, yu0 32, yu0 33, yu0 34, yu0 35, yu0 36, yu0 37, yu0 38, yu0 39, undef, undef, undef, undef, undef, undef, undef, undef, undef, undef, undef, undef, undef, undef, undef], []⟩ ∧ Mm none (fun _ => True) w w' [.see (Rs eWr 2 l lv0) Fl, .row v14 y13.length (y13.flatMap eS) 9 1]) ?_ ?_
 ·refine wp_block ?_
  refine wp_loop_n (fun n' a' w' => ∃ (n10 : Nat) (l7 : List (List UInt8)) (x9 : Nat) (v8 : Value) (u0 : Nat → Value), n' = n10 ∧ (l.length - x9) < n10 ∧ rbody_m_l0 epoch l ((l.length - 0) + 1) (([] : List (List UInt8)), 0) = rbody_m_l0 epoch l n10 (l7, x9) ∧ (l7.length ≤ x9 ∧ x9 ≤ l.length + 60) ∧ a' = ⟨#[J (epoch), lv0, undef, undef, .slice none 0 0, v8, J (x9 : Int), u0 0, u0 1, undef, u0 2, u0 3, u0 4, u0 5, u0 6, u0 7, u0 8, u0 9, u0 10, u0 11, u0 12, u0 13, u0 14, u0 15, u0 16, u0 17, u0 18, u0 19, u0 20, u0 21, u0 22, u0 23, u0 24, u0 25, u0 26, u0 27, u0 28, u0 29, u0 30, u0 31, u0 32, u0 33, u0 34, u0 35, u0 36, u0 37, u0 38, u0 39, undef, undef, undef, undef, undef, undef, undef, undef, undef, undef, undef, undef, undef, undef, undef], []⟩ ∧ Mm none (fun _ => True) w w' [.see (Rs eWr 2 l lv0) Fl, .row v8 l7.length (l7.flatMap eS) 9 1]) ⟨((l.length - 0) + 1), ([] : List (List UInt8)), 0, .slice none 0 0, (fun qq => bif Nat.blt qq 24 then List.getD [undef, undef, undef, undef, undef, undef, undef, undef, undef, undef, undef, undef, undef, undef, undef, undef, undef, undef, undef, undef, undef, undef, undef, undef] qq undef else List.getD [undef, undef, undef, undef, undef, undef, undef, undef, undef, undef, undef, undef, undef, undef, undef, undef] (qq - 24) undef), rfl, Nat.lt_succ_self _, rfl, (by simp; done), rfl, hm6⟩ ?_
  rintro n10 _ w17 ⟨_, l7, x9, v8, u0, rfl, hl21, hi12, hbo, rfl, hm18⟩ R19 hR19
  obtain ⟨k11, rfl⟩ : ∃ k, n10 = k + 1 := ⟨n10 - 1, by omega⟩
  refine wk (fun K22 hK22 => (wk (fun K23 hK23 => (wq ?_))))
  refine lm 10 (J (x9 : Int)) ?_
  refine lm 11 (lv0) ?_
  refine lw 12 (J (l.length : Int)) (s_len ((hm18.see 0 rfl)) rfl Tryd.underlying23 rfl) ?_
  simp only [nz]
  refine lw 13 (.bool (decide (x9 < l.length))) (r_lss x9 l.length rfl rfl rfl) ?_
  simp only [nz]
  refine wn (tj (hK23 _ _ ?_))
  refine cond_d (x9 < l.length) rfl (fun hc24 => ?_) (fun hc24 => ?_)
  rotate_left
  ·refine wp_exit (then_x (then_x (blk_x ?_)))
   refine tj ?_
   exact ⟨l7, x9, v8, (fun qq => bif Nat.blt qq 24 then List.getD [u0 0, u0 1, J (x9 : Int), lv0, J (l.length : Int), .bool (decide (x9 < l.length)), u0 6, u0 7, u0 8, u0 9, u0 10, u0 11, u0 12, u0 13, u0 14, u0 15, u0 16, u0 17, u0 18, u0 19, u0 20, u0 21, u0 22, u0 23] qq undef else List.getD [u0 24, u0 25, u0 26, u0 27, u0 28, u0 29, u0 30, u0 31, u0 32, u0 33, u0 34, u0 35, u0 36, u0 37, u0 38, u0 39] (qq - 24) undef), (hi12.trans (show rbody_m_b0 epoch l (rbody_m_l0 epoch l k11) l7 x9 = .inl (l7, x9) from by unfold rbody_m_b0; rw [if_neg hc24] <;> rfl)), (by omega), rfl, hm18⟩
  refine wp_skip (tj (hK22 _ _ (wk (fun K25 hK25 => ?_))))
  refine wp_block ?_
  refine wk (fun K26 hK26 => (wq ?_))
  refine lm 16 (J (epoch)) ?_
  simp only [nz]
  refine lst rfl (m_call hm18 17 (.string (tx (eight_m epoch))) rfl (run_eight rfl rfl) (eight_any epoch  _  ) (fun w27 hm28 => ?_))
  have hf29 : (eight_m epoch).length = 8 := eight_len epoch
  simp only [nz]
  refine lm 18 (lv0) ?_
  refine lw 19 (J (l.length : Int)) (s_len ((hm28.see 0 rfl)) rfl Tryd.underlying23 rfl) ?_
  simp only [nz]
  refine lst rfl (m_call hm28 20 (.string (tx (four_m (l.length : Int)))) rfl (run_four rfl rfl) (four_any (l.length : Int)  _  ) (fun w30 hm31 => ?_))
  have hf32 : (four_m ((l.length : Nat) : Int)).length = 4 := four_len ((l.length : Nat) : Int)
  simp only [nz]
  refine lw 21 (.string (tx ((eight_m epoch) ++ (four_m (l.length : Int))))) (t_cat (eight_m epoch) (four_m (l.length : Int)) (by omega) rfl rfl rfl) ?_
  refine la 7 (.string (tx ((eight_m epoch) ++ (four_m (l.length : Int))))) ?_
  simp only [nz]
  refine wn (tj (hK26 _ _ (wk (fun K33 hK33 => (wk (fun K34 hK34 => (wq ?_)))))))
  refine lm 22 (J (x9 : Int)) ?_
  refine la 8 (J (x9 : Int)) ?_
  simp only [nz]
  refine wn (tj (hK34 _ _ ?_))
  refine wp_cutK (fun a' w' => ∃ (y40 : List UInt8) (y41 : Nat) (yu1 : Nat → Value), rbody_m_l1 epoch l l7 x9 ((l.length - x9) + 1) (((eight_m epoch) ++ (four_m (l.length : Int))), x9) = .inl (y40, y41) ∧ (y40.length + 4 * x9 = 12 + 4 * y41 ∧ x9 ≤ y41 ∧ y41 ≤ x9 + 61) ∧ a' = ⟨#[J (epoch), lv0, undef, undef, .slice none 0 0, v8, J (x9 : Int), .string (tx y40), J (y41 : Int), undef, J (x9 : Int), lv0, J (l.length : Int), .bool (decide (x9 < l.length)), u0 6, u0 7, J (epoch), .string (tx (eight_m epoch)), lv0, J (l.length : Int), .string (tx (four_m (l.length : Int))), .string (tx ((eight_m epoch) ++ (four_m (l.length : Int)))), J (x9 : Int), yu1 0, yu1 1, yu1 2, yu1 3, yu1 4, yu1 5, yu1 6, yu1 7, yu1 8, yu1 9, yu1 10, yu1 11, yu1 12, yu1 13, yu1 14, yu1 15, yu1 16, yu1 17, yu1 18, yu1 19, u0 35, u0 36, u0 37, u0 38, u0 39, undef, undef, undef, undef, undef, undef, undef, undef, undef, undef, undef, undef, undef, undef, undef], []⟩ ∧ Mm none (fun _ => True) w w' [.see (Rs eWr 2 l lv0) Fl, .row v8 l7.length (l7.flatMap eS) 9 1]) ?_ ?_
  ·refine wp_block ?_
   refine wp_loop_n (fun n' a' w' => ∃ (n37 : Nat) (x35 : List UInt8) (x36 : Nat) (u1 : Nat → Value), n' = n37 ∧ (l.length - x36) < n37 ∧ rbody_m_l1 epoch l l7 x9 ((l.length - x9) + 1) (((eight_m epoch) ++ (four_m (l.length : Int))), x9) = rbody_m_l1 epoch l l7 x9 n37 (x35, x36) ∧ (x35.length + 4 * x9 = 12 + 4 * x36 ∧ x9 ≤ x36 ∧ x36 ≤ x9 + 61) ∧ a' = ⟨#[J (epoch), lv0, undef, undef, .slice none 0 0, v8, J (x9 : Int), .string (tx x35), J (x36 : Int), undef, J (x9 : Int), lv0, J (l.length : Int), .bool (decide (x9 < l.length)), u0 6, u0 7, J (epoch), .string (tx (eight_m epoch)), lv0, J (l.length : Int), .string (tx (four_m (l.length : Int))), .string (tx ((eight_m epoch) ++ (four_m (l.length : Int)))), J (x9 : Int), u1 0, u1 1, u1 2, u1 3, u1 4, u1 5, u1 6, u1 7, u1 8, u1 9, u1 10, u1 11, u1 12, u1 13, u1 14, u1 15, u1 16, u1 17, u1 18, u1 19, u0 35, u0 36, u0 37, u0 38, u0 39, undef, undef, undef, undef, undef, undef, undef, undef, undef, undef, undef, undef, undef, undef, undef], []⟩ ∧ Mm none (fun _ => True) w w' [.see (Rs eWr 2 l lv0) Fl, .row v8 l7.length (l7.flatMap eS) 9 1]) ⟨((l.length - x9) + 1), ((eight_m epoch) ++ (four_m (l.length : Int))), x9, (fun qq => List.getD [u0 15, u0 16, u0 17, u0 18, u0 19, u0 20, u0 21, u0 22, u0 23, u0 24, u0 25, u0 26, u0 27, u0 28, u0 29, u0 30, u0 31, u0 32, u0 33, u0 34] qq undef), rfl, Nat.lt_succ_self _, rfl, (by refine ⟨?_, ?_, ?_⟩ <;> (first | omega | (simp only [List.length_append]; omega))), rfl, hm31⟩ ?_
   rintro n37 _ w43 ⟨_, x35, x36, u1, rfl, hl47, hi39, hbi, rfl, hm44⟩ R45 hR45
   obtain ⟨k38, rfl⟩ : ∃ k, n37 = k + 1 := ⟨n37 - 1, by omega⟩
   refine wk (fun K48 hK48 => (wk (fun K49 hK49 => (wq ?_))))
   refine lm 23 (J (x36 : Int)) ?_
   refine lm 24 (lv0) ?_
   refine lw 25 (J (l.length : Int)) (s_len ((hm44.see 0 rfl)) rfl Tryd.underlying23 rfl) ?_
   simp only [nz]
   refine lvb 26 (x36 < l.length) rfl rfl (r_lss x36 l.length rfl rfl rfl) (fun hs50 => ?_) (fun hs50 => ?_)
   rotate_left
   ·simp only [nz]
    refine lm 27 (.bool false) ?_
    simp only [nz]
    refine lst_skip 28 rfl rfl ?_
    simp only [nz]
    refine lst_skip 29 rfl rfl ?_
    simp only [nz]
    refine lst_skip 30 rfl rfl ?_
    simp only [nz]
    refine lst_skip 31 rfl rfl ?_
    simp only [nz]
    refine lw 32 (.bool false) (run_pickf rfl rfl rfl) ?_
    simp only [nz]
    refine wn (tj (hK49 _ _ ?_))
    refine cond_f rfl ?_
    refine wp_exit (then_x (then_x (blk_x ?_)))
    refine tj ?_
    exact ⟨x35, x36, (fun qq => List.getD [J (x36 : Int), lv0, J (l.length : Int), .bool false, .bool false, undef, undef, undef, undef, .bool false, u1 10, u1 11, u1 12, u1 13, u1 14, u1 15, u1 16, u1 17, u1 18, u1 19] qq undef), (hi39.trans (show rbody_m_b1 epoch l l7 x9 (rbody_m_l1 epoch l l7 x9 k38) x35 x36 = .inl (x35, x36) from by unfold rbody_m_b1; rw [if_neg hs50] <;> rfl)), (by omega), rfl, hm44⟩
   simp only [nz]
   refine lm 27 (.bool true) ?_
   refine lm 28 (J (x36 : Int)) ?_
   refine lm 29 (J (x9 : Int)) ?_
   simp only [nz]
   refine lw 30 (J (((x9 + 61) : Nat) : Int)) (r_add x9 61 (show (x9 + 61) < 9223372036854775808 from by omega) rfl rfl rfl) ?_
   refine lw 31 (.bool (decide (x36 < (x9 + 61)))) (r_lss x36 (x9 + 61) rfl rfl rfl) ?_
   refine lw 32 (.bool (decide (x36 < (x9 + 61)))) (run_pick rfl rfl rfl) ?_
   simp only [nz]
   refine wn (tj (hK49 _ _ ?_))
   refine cond_d (x36 < (x9 + 61)) rfl (fun hc51 => ?_) (fun hc51 => ?_)
   rotate_left
   ·refine wp_exit (then_x (then_x (blk_x ?_)))
    refine tj ?_
    exact ⟨x35, x36, (fun qq => List.getD [J (x36 : Int), lv0, J (l.length : Int), .bool true, .bool true, J (x36 : Int), J (x9 : Int), J (((x9 + 61) : Nat) : Int), .bool (decide (x36 < (x9 + 61))), .bool (decide (x36 < (x9 + 61))), u1 10, u1 11, u1 12, u1 13, u1 14, u1 15, u1 16, u1 17, u1 18, u1 19] qq undef), (hi39.trans (show rbody_m_b1 epoch l l7 x9 (rbody_m_l1 epoch l l7 x9 k38) x35 x36 = .inl (x35, x36) from by unfold rbody_m_b1; rw [if_pos hs50, if_neg hc51] <;> rfl)), (by omega), rfl, hm44⟩
   refine wp_skip (tj (hK48 _ _ (wk (fun K52 hK52 => ?_))))
   refine wp_block ?_
   refine wq ?_
   refine lm 35 (.string (tx x35)) ?_
   refine lm 36 (lv0) ?_
   refine lm 37 (J (x36 : Int)) ?_
   simp only [nz]
   refine lw 38 (.pointer (some ⟨(bk lv0), (po lv0 + x36 * 2), none⟩)) (r_ixv ((hm44.see 0 rfl)) x36 (by omega) Tryd.underlying23 sz_51 rfl rfl rfl) ?_
   refine lw 39 (.pointer (some ⟨(bk lv0), ((po lv0 + x36 * 2) + 0), none⟩)) (r_fa51_0 (bk lv0) (po lv0 + x36 * 2) rfl rfl) ?_
   refine lw 40 (J ((l.getD x36 dWr).at_)) (r_cellw (Rs.cell ((hm44.see 0 rfl)) eWr_len dWr x36 (by omega) 0 _ rfl) Tryd.underlying3 rfl rfl rfl) ?_
   simp only [nz]
   refine lst rfl (m_call hm44 41 (.string (tx (four_m ((l.getD x36 dWr).at_)))) rfl (run_four rfl rfl) (four_any ((l.getD x36 dWr).at_)  _  ) (fun w53 hm54 => ?_))
   have hf55 : (four_m ((l.getD x36 dWr).at_)).length = 4 := four_len ((l.getD x36 dWr).at_)
   simp only [nz]
   refine lw 42 (.string (tx (x35 ++ (four_m ((l.getD x36 dWr).at_))))) (t_cat x35 (four_m ((l.getD x36 dWr).at_)) (by omega) rfl rfl rfl) ?_
   refine la 7 (.string (tx (x35 ++ (four_m ((l.getD x36 dWr).at_))))) ?_
   simp only [nz]
   refine wn (blk_n (tj (hK52 _ _ (wq ?_))))
   refine lm 33 (J (x36 : Int)) ?_
   refine lw 34 (J (((x36 + 1) : Nat) : Int)) (r_add x36 1 (show (x36 + 1) < 9223372036854775808 from by omega) rfl rfl rfl) ?_
   refine la 8 (J (((x36 + 1) : Nat) : Int)) ?_
   simp only [nz]
   refine wn ?_
   refine tj (hR45 _ _ _ ⟨k38, (x35 ++ (four_m ((l.getD x36 dWr).at_))), (x36 + 1), (fun qq => List.getD [J (x36 : Int), lv0, J (l.length : Int), .bool true, .bool true, J (x36 : Int), J (x9 : Int), J (((x9 + 61) : Nat) : Int), .bool (decide (x36 < (x9 + 61))), .bool (decide (x36 < (x9 + 61))), J (x36 : Int), J (((x36 + 1) : Nat) : Int), .string (tx x35), lv0, J (x36 : Int), .pointer (some ⟨(bk lv0), (po lv0 + x36 * 2), none⟩), .pointer (some ⟨(bk lv0), ((po lv0 + x36 * 2) + 0), none⟩), J ((l.getD x36 dWr).at_), .string (tx (four_m ((l.getD x36 dWr).at_))), .string (tx (x35 ++ (four_m ((l.getD x36 dWr).at_))))] qq undef), rfl, (by omega), (hi39.trans (show rbody_m_b1 epoch l l7 x9 (rbody_m_l1 epoch l l7 x9 k38) x35 x36 = rbody_m_l1 epoch l l7 x9 k38 ((x35 ++ (four_m ((l.getD x36 dWr).at_))), (x36 + 1)) from by unfold rbody_m_b1; rw [if_pos hs50, if_pos hc51] <;> rfl)), (by (try rw [List.length_append]); omega), rfl, hm54⟩ ?_)
   omega
  rintro _ w56 ⟨y40, y41, yu1, hx42, hbi, rfl, hm57⟩
  have hq58 : rbody_m_l0 epoch l ((l.length - 0) + 1) (([] : List (List UInt8)), 0) = rbody_m_k1 epoch l l7 x9 (rbody_m_l0 epoch l k11) y40 y41 := (hi12.trans (show rbody_m_b0 epoch l (rbody_m_l0 epoch l k11) l7 x9 = rbody_m_k1 epoch l l7 x9 (rbody_m_l0 epoch l k11) y40 y41 from by unfold rbody_m_b0; rw [if_pos hc24, hx42] <;> rfl))
  refine tj (hK33 _ _ (wq ?_))
  refine lm 43 (v8) ?_
  refine lm 44 (.string (tx y40)) ?_
  simp only [nz]
  refine lst rfl (m_call hm57 45 (.string (tx (rfull_m y40))) rfl (run_rfull rfl rfl) (rfull_any y40  _  (by omega)) (fun w59 hm60 => ?_))
  have hf61 : (rfull_m y40).length = 256 := rfull_len y40 (by omega)
  simp only [nz]
  refine lst rfl (m_make (c := #[.string (tx (rfull_m y40))]) (T := 9) (fun g => Sl g 0 1 1) hm60 46 rfl (by unfold execOp; go_simp; try rfl) (fun g64 w62 hm63 => ?_))
  simp only [nz]
  obtain ⟨iq, hiq, hz1, hz2, hz3⟩ := inf_9
  refine lst rfl (m_appendR 1 (l := l7) (l2 := [(rfull_m y40)]) iq _ _ _ (Sl g64 0 1 1) hm63 rfl 47 rfl rfl Tryd.underlying22 hiq hz1 hz2 hz3 eS_len eS_one rfl (by decide) rfl rfl (Rs.blk (l := [(rfull_m y40)]) (hm63.at 2 rfl) rfl rfl eS_len (Nat.le_refl _)) (by simp; omega) (by simp; omega) (fun v67 w65 hm66 => ?_))
  simp only [nz]
  refine la 5 (v67) ?_
  simp only [nz]
  refine wn (blk_n (tj (hK25 _ _ (wq ?_))))
  refine lm 14 (J (x9 : Int)) ?_
  refine lw 15 (J (((x9 + 61) : Nat) : Int)) (r_add x9 61 (show (x9 + 61) < 9223372036854775808 from by omega) rfl rfl rfl) ?_
  refine la 6 (J (((x9 + 61) : Nat) : Int)) ?_
  simp only [nz]
  refine wn ?_
  refine tj (hR19 _ _ _ ⟨k11, (l7 ++ [(rfull_m y40)]), (x9 + 61), v67, (fun qq => bif Nat.blt qq 24 then List.getD [.string (tx y40), J (y41 : Int), J (x9 : Int), lv0, J (l.length : Int), .bool (decide (x9 < l.length)), J (x9 : Int), J (((x9 + 61) : Nat) : Int), J (epoch), .string (tx (eight_m epoch)), lv0, J (l.length : Int), .string (tx (four_m (l.length : Int))), .string (tx ((eight_m epoch) ++ (four_m (l.length : Int)))), J (x9 : Int), yu1 0, yu1 1, yu1 2, yu1 3, yu1 4, yu1 5, yu1 6, yu1 7, yu1 8] qq undef else List.getD [yu1 9, yu1 10, yu1 11, yu1 12, yu1 13, yu1 14, yu1 15, yu1 16, yu1 17, yu1 18, yu1 19, v8, .string (tx y40), .string (tx (rfull_m y40)), Sl g64 0 1 1, v67] (qq - 24) undef), rfl, (by omega), (hq58.trans (show rbody_m_k1 epoch l l7 x9 (rbody_m_l0 epoch l k11) y40 y41 = rbody_m_l0 epoch l k11 ((l7 ++ [(rfull_m y40)]), (x9 + 61)) from by unfold rbody_m_k1; rfl)), (by rw [List.length_append, List.length_singleton]; omega), rfl, (Mm.reorder hm66 [0, 1] (by decide) rfl)⟩ ?_)
  omega
 rintro _ w68 ⟨y13, y15, v14, yu0, hx16, hbo, rfl, hm69⟩
 have hq70 : rbody_m epoch l = rbody_m_k0 epoch l y13 y15 := (show rbody_m epoch l = rbody_m_k0 epoch l y13 y15 from by unfold rbody_m; rw [hx16] <;> rfl)
 refine tj (hK3 _ _ (wk (fun K71 hK71 => (wk (fun K72 hK72 => (wq ?_))))))
 refine la 9 (J 0) ?_
 simp only [nz]
 refine wn (tj (hK72 _ _ ?_))
 refine wp_cutK (fun a' w' => ∃ (y79 : List (List UInt8)) (y81 : Nat) (v80 : Value) (yu2 : Nat → Value), rbody_m_l2 epoch l y13 y15 ((l.length - 0) + 1) (y13, 0) = .inl (y79, y81) ∧ (y79.length ≤ l.length + 60 + y81 ∧ y81 ≤ l.length) ∧ a' = ⟨#[J (epoch), lv0, undef, undef, .slice none 0 0, v80, J (y15 : Int), yu0 0, yu0 1, J (y81 : Int), yu0 2, yu0 3, yu0 4, yu0 5, yu0 6, yu0 7, yu0 8, yu0 9, yu0 10, yu0 11, yu0 12, yu0 13, yu0 14, yu0 15, yu0 16, yu0 17, yu0 18, yu0 19, yu0 20, yu0 21, yu0 22, yu0 23, yu0 24, yu0 25, yu0 26, yu0 27, yu0 28, yu0 29, yu0 30, yu0 31, yu0 32, yu0 33, yu0 34, yu0 35, yu0 36, yu0 37, yu0 38, yu0 39, yu2 0, yu2 1, yu2 2, yu2 3, yu2 4, yu2 5, yu2 6, yu2 7, yu2 8, yu2 9, yu2 10, yu2 11, yu2 12, yu2 13, undef], []⟩ ∧ Mm none (fun _ => True) w w' [.see (Rs eWr 2 l lv0) Fl, .row v80 y79.length (y79.flatMap eS) 9 1]) ?_ ?_
 ·refine wp_block ?_
  refine wp_loop_n (fun n' a' w' => ∃ (n76 : Nat) (l73 : List (List UInt8)) (x75 : Nat) (v74 : Value) (u2 : Nat → Value), n' = n76 ∧ (l.length - x75) < n76 ∧ rbody_m_l2 epoch l y13 y15 ((l.length - 0) + 1) (y13, 0) = rbody_m_l2 epoch l y13 y15 n76 (l73, x75) ∧ (l73.length ≤ l.length + 60 + x75 ∧ x75 ≤ l.length) ∧ a' = ⟨#[J (epoch), lv0, undef, undef, .slice none 0 0, v74, J (y15 : Int), yu0 0, yu0 1, J (x75 : Int), yu0 2, yu0 3, yu0 4, yu0 5, yu0 6, yu0 7, yu0 8, yu0 9, yu0 10, yu0 11, yu0 12, yu0 13, yu0 14, yu0 15, yu0 16, yu0 17, yu0 18, yu0 19, yu0 20, yu0 21, yu0 22, yu0 23, yu0 24, yu0 25, yu0 26, yu0 27, yu0 28, yu0 29, yu0 30, yu0 31, yu0 32, yu0 33, yu0 34, yu0 35, yu0 36, yu0 37, yu0 38, yu0 39, u2 0, u2 1, u2 2, u2 3, u2 4, u2 5, u2 6, u2 7, u2 8, u2 9, u2 10, u2 11, u2 12, u2 13, undef], []⟩ ∧ Mm none (fun _ => True) w w' [.see (Rs eWr 2 l lv0) Fl, .row v74 l73.length (l73.flatMap eS) 9 1]) ⟨((l.length - 0) + 1), y13, 0, v14, (fun qq => List.getD [undef, undef, undef, undef, undef, undef, undef, undef, undef, undef, undef, undef, undef, undef] qq undef), rfl, Nat.lt_succ_self _, rfl, (by omega), rfl, hm69⟩ ?_
  rintro n76 _ w83 ⟨_, l73, x75, v74, u2, rfl, hl87, hi78, hbl, rfl, hm84⟩ R85 hR85
  obtain ⟨k77, rfl⟩ : ∃ k, n76 = k + 1 := ⟨n76 - 1, by omega⟩
  refine wk (fun K88 hK88 => (wk (fun K89 hK89 => (wq ?_))))
  refine lm 48 (J (x75 : Int)) ?_
  refine lm 49 (lv0) ?_
  refine lw 50 (J (l.length : Int)) (s_len ((hm84.see 0 rfl)) rfl Tryd.underlying23 rfl) ?_
  simp only [nz]
  refine lw 51 (.bool (decide (x75 < l.length))) (r_lss x75 l.length rfl rfl rfl) ?_
  simp only [nz]
  refine wn (tj (hK89 _ _ ?_))
  refine cond_d (x75 < l.length) rfl (fun hc90 => ?_) (fun hc90 => ?_)
  rotate_left
  ·refine wp_exit (then_x (then_x (blk_x ?_)))
   refine tj ?_
   exact ⟨l73, x75, v74, (fun qq => List.getD [J (x75 : Int), lv0, J (l.length : Int), .bool (decide (x75 < l.length)), u2 4, u2 5, u2 6, u2 7, u2 8, u2 9, u2 10, u2 11, u2 12, u2 13] qq undef), (hi78.trans (show rbody_m_b2 epoch l y13 y15 (rbody_m_l2 epoch l y13 y15 k77) l73 x75 = .inl (l73, x75) from by unfold rbody_m_b2; rw [if_neg hc90] <;> rfl)), (by omega), rfl, hm84⟩
  refine wp_skip (tj (hK88 _ _ (wk (fun K91 hK91 => ?_))))
  refine wp_block ?_
  refine wq ?_
  refine lm 54 (v74) ?_
  refine lm 55 (lv0) ?_
  refine lm 56 (J (x75 : Int)) ?_
  simp only [nz]
  refine lw 57 (.pointer (some ⟨(bk lv0), (po lv0 + x75 * 2), none⟩)) (r_ixv ((hm84.see 0 rfl)) x75 (by omega) Tryd.underlying23 sz_51 rfl rfl rfl) ?_
  refine lw 58 (.pointer (some ⟨(bk lv0), ((po lv0 + x75 * 2) + 1), none⟩)) (r_fa51_1 (bk lv0) (po lv0 + x75 * 2) rfl rfl) ?_
  refine lw 59 (.string (tx ((l.getD x75 dWr).data))) (r_cellw (Rs.cell ((hm84.see 0 rfl)) eWr_len dWr x75 (by omega) 1 _ rfl) Tryd.underlying9 rfl rfl rfl) ?_
  simp only [nz]
  refine lst rfl (m_make (c := #[.string (tx ((l.getD x75 dWr).data))]) (T := 9) (fun g => Sl g 0 1 1) hm84 60 rfl (by unfold execOp; go_simp; try rfl) (fun g94 w92 hm93 => ?_))
  simp only [nz]
  obtain ⟨iq, hiq, hz1, hz2, hz3⟩ := inf_9
  refine lst rfl (m_appendR 1 (l := l73) (l2 := [((l.getD x75 dWr).data)]) iq _ _ _ (Sl g94 0 1 1) hm93 rfl 61 rfl rfl Tryd.underlying22 hiq hz1 hz2 hz3 eS_len eS_one rfl (by decide) rfl rfl (Rs.blk (l := [((l.getD x75 dWr).data)]) (hm93.at 2 rfl) rfl rfl eS_len (Nat.le_refl _)) (by simp; omega) (by simp; omega) (fun v97 w95 hm96 => ?_))
  simp only [nz]
  refine la 5 (v97) ?_
  simp only [nz]
  refine wn (blk_n (tj (hK91 _ _ (wq ?_))))
  refine lm 52 (J (x75 : Int)) ?_
  refine lw 53 (J (((x75 + 1) : Nat) : Int)) (r_add x75 1 (show (x75 + 1) < 9223372036854775808 from by omega) rfl rfl rfl) ?_
  refine la 9 (J (((x75 + 1) : Nat) : Int)) ?_
  simp only [nz]
  refine wn ?_
  refine tj (hR85 _ _ _ ⟨k77, (l73 ++ [((l.getD x75 dWr).data)]), (x75 + 1), v97, (fun qq => List.getD [J (x75 : Int), lv0, J (l.length : Int), .bool (decide (x75 < l.length)), J (x75 : Int), J (((x75 + 1) : Nat) : Int), v74, lv0, J (x75 : Int), .pointer (some ⟨(bk lv0), (po lv0 + x75 * 2), none⟩), .pointer (some ⟨(bk lv0), ((po lv0 + x75 * 2) + 1), none⟩), .string (tx ((l.getD x75 dWr).data)), Sl g94 0 1 1, v97] qq undef), rfl, (by omega), (hi78.trans (show rbody_m_b2 epoch l y13 y15 (rbody_m_l2 epoch l y13 y15 k77) l73 x75 = rbody_m_l2 epoch l y13 y15 k77 ((l73 ++ [((l.getD x75 dWr).data)]), (x75 + 1)) from by unfold rbody_m_b2; rw [if_pos hc90] <;> rfl)), (by rw [List.length_append, List.length_singleton]; omega), rfl, (Mm.reorder hm96 [0, 1] (by decide) rfl)⟩ ?_)
  omega
 rintro _ w98 ⟨y79, y81, v80, yu2, hx82, hbl, rfl, hm99⟩
 have hq100 : rbody_m epoch l = rbody_m_k2 epoch l y13 y15 y79 y81 := (hq70.trans (show rbody_m_k0 epoch l y13 y15 = rbody_m_k2 epoch l y13 y15 y79 y81 from by unfold rbody_m_k0; rw [hx82] <;> rfl))
 refine tj (hK71 _ _ (wk (fun K101 hK101 => (wq ?_))))
 refine lm 62 (v80) ?_
 refine la 4 (v80) ?_
 simp only [nz]
 refine wn (tj (hK101 _ _ (wp_ret ?_)))
 have he102 : rbody_m epoch l = y79 := (hq100.trans (show rbody_m_k2 epoch l y13 y15 y79 y81 = y79 from by unfold rbody_m_k2; rfl))
 exact ⟨rfl, v80, res_t rfl rfl, ⟨⟨_, rfl, v80, (by rfl), by rw [he102]; exact hm99.gives 1 rfl⟩, hm99.below⟩⟩
theorem run_rbody {o : Oper} {a : Act} {w : World} {x0 x1 : Operand} {v0 v1 : Value} (ho : o.op = .call { callee := .value (.func 51), args := #[x0, x1], argTypes := #[3, 23] }) (h0 : a.eval x0 = v0) (h1 : a.eval x1 = v1) :
  (execOp a.eval o).run Tryd.prog w = .ok (.enter 51 #[v0, v1]) w := by
 unfold execOp
 simp only [ho]
 have hf : a.eval (.func 51) = .func (.func 51) #[] #[] := rfl
 generalize a.eval = f at *
 go_simp
end Go.Proofs.YtnmaaijeamlplaaDoor.Bk
namespace Go.Proofs.YtnmaaijeamlplaaDoor.Bk
open Go.RowKit Go.Proofs.YtnmaaijeamlplaaDoor.Mem
theorem rbody_in (epoch : Int) (l : List Wr) (a : List (List UInt8)) (x : Nat) : ∀ k (s : List UInt8) i, l.length ≤ i + k → i ≤ min (x + 61) l.length → ∃ j, rbody_m_l1 epoch l a x (k + 1) (s, i) = .inl (s ++ nums ((l.take (min (x + 61) l.length)).drop i), j)
 | k, s, i, h, hi => by
  have E : rbody_m_l1 epoch l a x (k + 1) (s, i) = rbody_m_b1 epoch l a x (rbody_m_l1 epoch l a x k) s i := rfl
  rw [E]
  unfold rbody_m_b1
  have hl : (l.take (min (x + 61) l.length)).length = min (x + 61) l.length := by rw [List.length_take]; omega
  by_cases h1 : i < min (x + 61) l.length
  ·rw [if_pos (show i < l.length by omega), if_pos (show i < x + 61 by omega), getd_drop dWr _ i (by rw [hl]; exact h1)]
   match k, h with
   | 0, h => omega
   | k + 1, h =>
    obtain ⟨j, e⟩ := rbody_in epoch l a x k (s ++ four_m ((l.getD i dWr).at_)) (i + 1) (by omega) (by omega)
    refine ⟨j, ?_⟩
    rw [e, List.append_assoc, four_is]
    have g : (l.take (min (x + 61) l.length)).getD i dWr = l.getD i dWr := by
     rw [List.getD_eq_getElem?_getD, List.getD_eq_getElem?_getD, List.getElem?_take, if_pos h1]
    rw [g]
    rfl
  have e0 : (l.take (min (x + 61) l.length)).drop i = [] := List.drop_eq_nil_of_le (by omega)
  rw [e0]
  by_cases h2 : i < l.length
  ·rw [if_pos h2, if_neg (show ¬ i < x + 61 by omega)]
   exact ⟨i, by show _ = Sum.inl (s ++ [], _); rw [List.append_nil]⟩
  rw [if_neg h2]
  exact ⟨i, by show _ = Sum.inl (s ++ [], _); rw [List.append_nil]⟩
theorem rbody_l (epoch : Int) (l : List Wr) : ∀ k z, rbody_m_l0 epoch l k z = body_m_l0 epoch l k z
 | 0, z => rfl
 | k + 1, z => by
  show rbody_m_b0 epoch l (rbody_m_l0 epoch l k) z.1 z.2 = body_m_b0 epoch l (body_m_l0 epoch l k) z.1 z.2
  unfold rbody_m_b0 body_m_b0
  by_cases h1 : z.2 < l.length
  ·rw [if_pos h1, if_pos h1]
   obtain ⟨j, e⟩ := rbody_in epoch l z.1 z.2 (l.length - z.2) ((eight_m epoch) ++ (four_m (l.length : Int))) z.2 (by omega) (by omega)
   rw [e, body_in epoch l z.1 z.2 _ rfl _ _ _ (by omega) (Nat.zero_le _), eight_is, four_is, List.drop_zero]
   show rbody_m_k1 epoch l z.1 z.2 (rbody_m_l0 epoch l k) (number_m epoch 8 ++ number_m ((l.length : Nat) : Int) 4 ++ nums ((l.take (min (z.2 + 61) l.length)).drop z.2)) j = body_m_k1 epoch l z.1 z.2 (body_m_l0 epoch l k) (number_m epoch 8 ++ number_m ((l.length : Nat) : Int) 4 ++ nums ((l.take (min (z.2 + 61) l.length)).drop z.2)) ((l.take (min (z.2 + 61) l.length)).drop z.2).length
   unfold rbody_m_k1 body_m_k1
   have h8 := number_len epoch 8 (by decide) (by decide)
   have h4 := number_len ((l.length : Nat) : Int) 4 (by decide) (by decide)
   have hn := nums_len ((l.take (min (z.2 + 61) l.length)).drop z.2)
   rw [List.length_drop, List.length_take] at hn
   rw [rfull_is _ (by rw [List.length_append, List.length_append, hn]; omega), rbody_l epoch l k]
  rw [if_neg h1, if_neg h1]
theorem rbody_k (epoch : Int) (l : List Wr) (y : List (List UInt8)) (x : Nat) : ∀ k z, rbody_m_l2 epoch l y x k z = body_m_l2 epoch l y x k z
 | 0, z => rfl
 | k + 1, z => by
  show rbody_m_b2 epoch l y x (rbody_m_l2 epoch l y x k) z.1 z.2 = body_m_b2 epoch l y x (body_m_l2 epoch l y x k) z.1 z.2
  unfold rbody_m_b2 body_m_b2
  rw [rbody_k epoch l y x k]
theorem rbody_eq (epoch : Int) (l : List Wr) : rbody_m epoch l = body_m epoch l := by
 have a : ∀ y x, rbody_m_k0 epoch l y x = body_m_k0 epoch l y x := by
  intro y x
  unfold rbody_m_k0 body_m_k0
  rw [rbody_k]
  rfl
 unfold rbody_m body_m
 rw [rbody_l]
 simp only [a]
end Go.Proofs.YtnmaaijeamlplaaDoor.Bk
