import Derived.Test.YtnmaaijeamlplaaDoorReG
set_option linter.unusedVariables false
set_option linter.unusedSimpArgs false
namespace Go.Proofs.YtnmaaijeamlplaaDoor.Bk
open Go.RowKit Go.Proofs.YtnmaaijeamlplaaDoor.Mem
def rises (m : Int) : Int → List Wr → Bool
 | _, [] => true
 | y, x :: l => if x.at_ ≤ y then false else if m ≤ x.at_ then false else rises m x.at_ l
theorem rise_l (d : Dk) (l : List Wr) : ∀ k y i, l.length ≤ i + k → i ≤ l.length → fin (rise_m_l0 d l (k + 1) (y, i)) (fun r => r) (fun zz => rise_m_k0 d l zz.1 zz.2) = rises (((d.safe.length : Nat) : Int) - log_m d) y (l.drop i)
 | k, y, i, h, hi => by
  have E : rise_m_l0 d l (k + 1) (y, i) = rise_m_b0 d l (rise_m_l0 d l k) y i := rfl
  rw [E]
  unfold rise_m_b0
  by_cases h1 : i < l.length
  ·rw [if_pos h1, getd_drop dWr l i h1]
   match k, h with
   | 0, h => omega
   | k + 1, h =>
    unfold rises
    by_cases h2 : (l.getD i dWr).at_ ≤ y
    ·rw [if_pos h2, if_pos h2]; rfl
    rw [if_neg h2, if_neg h2]
    by_cases h3 : ((d.safe.length : Nat) : Int) - log_m d ≤ (l.getD i dWr).at_
    ·rw [if_pos h3, if_pos h3]; rfl
    rw [if_neg h3, if_neg h3]
    exact rise_l d l k _ (i + 1) (by omega) (by omega)
  rw [if_neg h1, List.drop_eq_nil_of_le (by omega)]
  rfl
theorem rise_is (d : Dk) (l : List Wr) : rise_m d l = rises (((d.safe.length : Nat) : Int) - log_m d) (-1) l := rise_l d l (l.length - 0) (-1) 0 (by omega) (Nat.zero_le _)
theorem rises_all (m : Int) : ∀ y l, rises m y l = true → ∀ x ∈ l, y < x.at_ ∧ x.at_ < m
 | y, [], _, x, hx => by cases hx
 | y, a :: l, h, x, hx => by
  unfold rises at h
  by_cases h2 : a.at_ ≤ y
  ·rw [if_pos h2] at h; cases h
  rw [if_neg h2] at h
  by_cases h3 : m ≤ a.at_
  ·rw [if_pos h3] at h; cases h
  rw [if_neg h3] at h
  rcases List.mem_cons.1 hx with e | hx
  ·subst e; omega
  have := rises_all m a.at_ l h x hx
  omega
theorem not_not_b {b : Bool} (h : ¬ (!b) = true) : b = true := by cases b with | true => rfl | false => exact absurd rfl h
theorem rise_ats {d : Dk} {l : List Wr} (h1 : ¬ (!(right_m d)) = true) (h : ¬ (!(rise_m d l)) = true) : ∀ x ∈ l, -1000000 ≤ x.at_ ∧ x.at_ ≤ 1000000 := by
 intro x hx
 have a := not_not_b h
 rw [rise_is] at a
 have b := rises_all _ _ _ a x hx
 have c := few_of h1
 rw [log_eq] at b
 omega
theorem cur_of {d : Dk} (h : (current_m d).2 = 0) : d.down = false ∧ (epoch_m d).2 = true ∧ (current_m d).1 = (epoch_m d).1 ∧ 1 ≤ (current_m d).1 ∧ (current_m d).1 < 4611686018427387904 := by
 revert h
 unfold current_m
 by_cases h1 : d.down = true
 ·rw [if_pos h1]; exact fun h => absurd h (by decide)
 rw [if_neg h1]
 by_cases h2 : (!((epoch_m d).2)) = true
 ·rw [if_pos h2]; exact fun h => absurd h (by decide)
 rw [if_neg h2]
 by_cases h3 : 4611686018427387904 ≤ (epoch_m d).1
 ·rw [if_pos h3]; exact fun h => absurd h (by decide)
 rw [if_neg h3]
 intro _
 have e := not_not_b h2
 refine ⟨by cases hd : d.down with | true => exact absurd hd h1 | false => rfl, e, rfl, ?_, by show (epoch_m d).1 < _; omega⟩
 show 1 ≤ (epoch_m d).1
 revert e
 unfold epoch_m
 split
 ·exact fun h => absurd h (by decide)
 split
 ·exact fun h => absurd h (by decide)
 split
 ·exact fun _ => by assumption
 exact fun h => nomatch (show false = true from h)
theorem rend_len (epoch n : Int) (l : List (List UInt8)) : (rend_m epoch n l).length = 256 := by
 have h1 := number_len epoch 8 (by decide) (by decide)
 have h2 := number_len n 4 (by decide) (by decide)
 have h3 := sum_len (join_m l [])
 unfold rend_m
 refine rfill_len _ ?_
 simp only [List.length_append, List.length_cons, List.length_nil]
 omega
end Go.Proofs.YtnmaaijeamlplaaDoor.Bk
namespace Go.Proofs.YtnmaaijeamlplaaDoor.Bk
open Go.RowKit
open Go.Proofs.YtnmaaijeamlplaaDoor.Sym Go.Proofs.YtnmaaijeamlplaaDoor.Mem
open Go.Proofs.YtnmaaijeamlplaaDoor.Sx hiding Mm m_alloc m_store m_call m_callx
attribute [local irreducible] right_m rright_m ready_m rready_m copied_m burn_m put_m get_m flush_m spent_m rput_m rget_m rflush_m blank_m rnew_m same_m
attribute [local irreducible] number_m value_m fill_m beginning_m log_m fits_m lists_m epoch_m
attribute [local irreducible] home_m putall_m
attribute [local irreducible] putfl_m body_m rise_m sized_m current_m join_m sum_m
attribute [local irreducible] format_m rend_m bring_m
attribute [local irreducible] wpList Oper.wp
abbrev QeH2 (d : Dk) (l : List Wr) := (rend_m ((current_m d).1) ((l.length : Nat) : Int) (body_m ((current_m d).1) l))
abbrev QeH1 (d : Dk) (l : List Wr) := (putfl_m ((putfl_m d 2 (body_m ((current_m d).1) l)).1) 1 ([(QeH2 d l)] : List (List UInt8)))
def commit_m (d : Dk) (l : List Wr) : Dk × Int :=
 if (!(right_m d)) = true then
  (d, 1)
 else
  if (!(rise_m d l)) = true then
   (d, 1)
  else
   if (!(sized_m l)) = true then
    (d, 1)
   else
    if ¬ (current_m d).2 = 0 then
     (d, (current_m d).2)
    else
     if l.length = 0 then
      (d, 0)
     else
      if ¬ (((0 : Int) ≤ ((l.length : Nat) : Int) ∧ (((l.length : Nat) : Int) : Int) ≤ (((d.safe).length : Nat) : Int) ∧ ((((l.length : Nat) : Int) : Int) + 60) / 61 + ((l.length : Nat) : Int) + 2 ≤ (((((d.safe).length / 4 : Nat)) : Int)))) then
       (d, 10)
      else
       if ¬ (putfl_m d 2 (body_m ((current_m d).1) l)).2 = 0 then
        (((putfl_m d 2 (body_m ((current_m d).1) l)).1), (putfl_m d 2 (body_m ((current_m d).1) l)).2)
       else
        if ¬ (QeH1 d l).2 = 0 then
         (((QeH1 d l).1), (QeH1 d l).2)
        else
         (((bring_m ((QeH1 d l).1) ((current_m d).1) l).1), (bring_m ((QeH1 d l).1) ((current_m d).1) l).2)
set_option maxHeartbeats 4000000 in
set_option maxRecDepth 100000 in
theorem commit_any (d : Dk) (l : List Wr) (dv0 : Value) (dv1 : Value) (lv0 : Value) (S : Nat → Prop) (w : World) (hd : From S (DkR d dv0 dv1) w) (hl : From S (Rs eWr 2 l lv0) w) (hT : Laid w) (hp0 : d.safe.length ≤ 8796093021952) (hp1 : d.loose.length ≤ 5864063000000) (hp2 : d.fuse ≤ 9223372036854775807) (hp3 : l.length ≤ 5864070000000) : Calls Tryd.prog 20 #[.agg #[dv0, dv1, J (d.fuse), .bool (d.down)], lv0] w (fun e w' => (∃ v, e = .returned v ∧ ∃ (o0 : Value) (o1 : Value), v = .tuple #[.agg #[o0, o1, J (((commit_m d l).1).fuse), .bool (((commit_m d l).1).down)], J ((commit_m d l).2)] ∧ Gives w w' S (DkR ((commit_m d l).1) o0 o1)) ∧ Below w.heap.size w w') := by
 go_enter Tryd.func20, Tryd.ntmps20
 have hm00 := Mm.nil none S w
 obtain ⟨Fd, hm01⟩ := hm00.come hd
 obtain ⟨Fl, hm02⟩ := hm01.come hl
 have hm0 := hm02
 refine wk (fun K1 hK1 => (wq ?_))
 refine lst rfl (m_alloc (c := #[dv0, dv1, J (d.fuse), .bool (d.down)]) (T := 25) hm0 2 rfl (run_box rfl rfl) (fun g4 w2 hm3 => ?_))
 simp only [nz]
 refine lst rfl (m_alloc (c := #[.slice none 0 0, .slice none 0 0, J 0, .bool false]) (T := 25) hm3 4 rfl (by unfold execOp; go_simp; try rfl) (fun g7 w5 hm6 => ?_))
 simp only [nz]
 refine la 5 (J 0) ?_
 simp only [nz]
 refine wn (tj (hK1 _ _ (wk (fun K8 hK8 => (wk (fun K9 hK9 => (wq ?_)))))))
 refine lw 9 (.agg #[dv0, dv1, J (d.fuse), .bool (d.down)]) (r_whole (hm6.at 2 rfl) Tryd.underlying25 rfl (by exact sz_25) rfl rfl) ?_
 simp only [nz]
 refine lst rfl (m_call hm6 10 (.bool ((right_m d))) rfl (run_right rfl rfl) (right_any d dv0 dv1 _ (hm6.see 0 rfl) (by omega)) (fun w10 hm11 => ?_))
 simp only [nz]
 refine lvB 11 (!(right_m d)) rfl rfl (r_not (right_m d) rfl rfl) (fun hs12 => ?_) (fun hs12 => ?_)
 ·simp only [nz]
  refine lm 12 (.bool true) ?_
  simp only [nz]
  refine lst_skip 13 rfl rfl ?_
  simp only [nz]
  refine lst_skip 14 rfl rfl ?_
  simp only [nz]
  refine lst_skip 15 rfl rfl ?_
  simp only [nz]
  refine lst_skip 16 rfl rfl ?_
  simp only [nz]
  refine lw 17 (.bool true) (run_pick rfl rfl rfl) ?_
  refine lm 18 (.bool true) ?_
  simp only [nz]
  refine lst_skip 19 rfl rfl ?_
  simp only [nz]
  refine lst_skip 20 rfl rfl ?_
  simp only [nz]
  refine lst_skip 21 rfl rfl ?_
  simp only [nz]
  refine lw 22 (.bool true) (run_pick rfl rfl rfl) ?_
  simp only [nz]
  refine wn (tj (hK9 _ _ ?_))
  refine cond_t rfl ?_
  refine wk (fun K13 hK13 => (wq ?_))
  refine lw 23 (.agg #[dv0, dv1, J (d.fuse), .bool (d.down)]) (r_whole (hm11.at 2 rfl) Tryd.underlying25 rfl (by exact sz_25) rfl rfl) ?_
  simp only [nz]
  have ho16 := (rd_one ((hm11.see 0 rfl).1))
  have ho17 := (rd_one ((hm11.see 0 rfl).2))
  refine lst rfl (m_store 3 25 _ _ 0 (.agg #[dv0, dv1, J (d.fuse), .bool (d.down)]) (old := #[.slice none 0 0, .slice none 0 0, J 0, .bool false]) (new := #[dv0, dv1, J (d.fuse), .bool (d.down)]) hm11 rfl rfl rfl rfl rfl (by exact sz_25) (show 0 + 4 ≤ 4 from by decide) a4 rfl (fun w14 hm15 => ?_))
  refine la 5 (J 1) ?_
  simp only [nz]
  refine wn (tj (hK13 _ _ (wp_ret (then_r ?_))))
  have he18 : commit_m d l = (d, 1) := by unfold commit_m; rw [if_pos hs12] <;> rfl
  exact ⟨rfl, .tuple #[.agg #[dv0, dv1, J (d.fuse), .bool (d.down)], J 1], Mem.res_ct rfl rfl (hm15.at 3 rfl) Tryd.underlying25 rfl (by exact sz_25) rfl, ⟨⟨_, rfl, dv0, dv1, (by rw [he18]), by rw [he18]; exact hm15.give (hm15.from 0 rfl)⟩, hm15.below⟩⟩
 simp only [nz]
 refine lm 12 (.bool false) ?_
 refine lw 13 (.agg #[dv0, dv1, J (d.fuse), .bool (d.down)]) (r_whole (hm11.at 2 rfl) Tryd.underlying25 rfl (by exact sz_25) rfl rfl) ?_
 refine lm 14 (lv0) ?_
 simp only [nz]
 refine lst rfl (m_call hm11 15 (.bool ((rise_m d l))) rfl (run_rise rfl rfl rfl) (rise_any d l dv0 dv1 lv0 _ (hm11.see 0 rfl) (hm11.see 1 rfl) (by omega) (by omega) (by omega)) (fun w19 hm20 => ?_))
 simp only [nz]
 refine lvB 16 (!(rise_m d l)) rfl rfl (r_not (rise_m d l) rfl rfl) (fun hs21 => ?_) (fun hs21 => ?_)
 ·simp only [nz]
  refine lw 17 (.bool true) (run_pickf rfl rfl rfl) ?_
  refine lm 18 (.bool true) ?_
  simp only [nz]
  refine lst_skip 19 rfl rfl ?_
  simp only [nz]
  refine lst_skip 20 rfl rfl ?_
  simp only [nz]
  refine lst_skip 21 rfl rfl ?_
  simp only [nz]
  refine lw 22 (.bool true) (run_pick rfl rfl rfl) ?_
  simp only [nz]
  refine wn (tj (hK9 _ _ ?_))
  refine cond_t rfl ?_
  refine wk (fun K22 hK22 => (wq ?_))
  refine lw 23 (.agg #[dv0, dv1, J (d.fuse), .bool (d.down)]) (r_whole (hm20.at 2 rfl) Tryd.underlying25 rfl (by exact sz_25) rfl rfl) ?_
  simp only [nz]
  have ho25 := (rd_one ((hm20.see 0 rfl).1))
  have ho26 := (rd_one ((hm20.see 0 rfl).2))
  refine lst rfl (m_store 3 25 _ _ 0 (.agg #[dv0, dv1, J (d.fuse), .bool (d.down)]) (old := #[.slice none 0 0, .slice none 0 0, J 0, .bool false]) (new := #[dv0, dv1, J (d.fuse), .bool (d.down)]) hm20 rfl rfl rfl rfl rfl (by exact sz_25) (show 0 + 4 ≤ 4 from by decide) a4 rfl (fun w23 hm24 => ?_))
  refine la 5 (J 1) ?_
  simp only [nz]
  refine wn (tj (hK22 _ _ (wp_ret (then_r ?_))))
  have he27 : commit_m d l = (d, 1) := by unfold commit_m; rw [if_neg hs12, if_pos hs21] <;> rfl
  exact ⟨rfl, .tuple #[.agg #[dv0, dv1, J (d.fuse), .bool (d.down)], J 1], Mem.res_ct rfl rfl (hm24.at 3 rfl) Tryd.underlying25 rfl (by exact sz_25) rfl, ⟨⟨_, rfl, dv0, dv1, (by rw [he27]), by rw [he27]; exact hm24.give (hm24.from 0 rfl)⟩, hm24.below⟩⟩
 simp only [nz]
 refine lw 17 (.bool false) (run_pickf rfl rfl rfl) ?_
 refine lm 18 (.bool false) ?_
 refine lm 19 (lv0) ?_
 simp only [nz]
 refine lst rfl (m_call hm20 20 (.bool ((sized_m l))) rfl (run_sized rfl rfl) (sized_any l lv0 _ (hm20.see 1 rfl) (by omega)) (fun w28 hm29 => ?_))
 simp only [nz]
 refine lw 21 (.bool (!(sized_m l))) (r_not (sized_m l) rfl rfl) ?_
 refine lw 22 (.bool (!(sized_m l))) (run_pickf rfl rfl rfl) ?_
 simp only [nz]
 refine wn (tj (hK9 _ _ ?_))
 refine cond_B (!(sized_m l)) rfl (fun hc30 => ?_) (fun hc30 => ?_)
 ·refine wk (fun K31 hK31 => (wq ?_))
  refine lw 23 (.agg #[dv0, dv1, J (d.fuse), .bool (d.down)]) (r_whole (hm29.at 2 rfl) Tryd.underlying25 rfl (by exact sz_25) rfl rfl) ?_
  simp only [nz]
  have ho34 := (rd_one ((hm29.see 0 rfl).1))
  have ho35 := (rd_one ((hm29.see 0 rfl).2))
  refine lst rfl (m_store 3 25 _ _ 0 (.agg #[dv0, dv1, J (d.fuse), .bool (d.down)]) (old := #[.slice none 0 0, .slice none 0 0, J 0, .bool false]) (new := #[dv0, dv1, J (d.fuse), .bool (d.down)]) hm29 rfl rfl rfl rfl rfl (by exact sz_25) (show 0 + 4 ≤ 4 from by decide) a4 rfl (fun w32 hm33 => ?_))
  refine la 5 (J 1) ?_
  simp only [nz]
  refine wn (tj (hK31 _ _ (wp_ret (then_r ?_))))
  have he36 : commit_m d l = (d, 1) := by unfold commit_m; rw [if_neg hs12, if_neg hs21, if_pos hc30] <;> rfl
  exact ⟨rfl, .tuple #[.agg #[dv0, dv1, J (d.fuse), .bool (d.down)], J 1], Mem.res_ct rfl rfl (hm33.at 3 rfl) Tryd.underlying25 rfl (by exact sz_25) rfl, ⟨⟨_, rfl, dv0, dv1, (by rw [he36]), by rw [he36]; exact hm33.give (hm33.from 0 rfl)⟩, hm33.below⟩⟩
 refine wp_skip (tj (hK8 _ _ (wk (fun K37 hK37 => (wq ?_)))))
 refine lw 25 (.agg #[dv0, dv1, J (d.fuse), .bool (d.down)]) (r_whole (hm29.at 2 rfl) Tryd.underlying25 rfl (by exact sz_25) rfl rfl) ?_
 simp only [nz]
 refine lst rfl (m_call hm29 26 (.tuple #[J ((current_m d).1), J ((current_m d).2)]) rfl (run_current rfl rfl) (current_any d dv0 dv1 _ (hm29.see 0 rfl) (by omega) (by omega)) (fun w38 hm39 => ?_))
 simp only [nz]
 refine lm 24 (.tuple #[J ((current_m d).1), J ((current_m d).2)]) ?_
 refine lw 27 (J ((current_m d).1)) (run_ex rfl rfl rfl) ?_
 refine lw 28 (J ((current_m d).2)) (run_ex rfl rfl rfl) ?_
 simp only [nz]
 refine la 6 (J ((current_m d).1)) ?_
 refine la 7 (J ((current_m d).2)) ?_
 simp only [nz]
 refine wn (tj (hK37 _ _ (wk (fun K40 hK40 => (wk (fun K41 hK41 => (wq ?_)))))))
 refine lm 29 (J ((current_m d).2)) ?_
 refine lw 30 (.bool (decide (¬ (current_m d).2 = 0))) (z_neq ((current_m d).2) 0 rfl rfl rfl) ?_
 simp only [nz]
 refine wn (tj (hK41 _ _ ?_))
 refine cond_d (¬ (current_m d).2 = 0) rfl (fun hc42 => ?_) (fun hc42 => ?_)
 ·refine wk (fun K43 hK43 => (wq ?_))
  refine lw 31 (.agg #[dv0, dv1, J (d.fuse), .bool (d.down)]) (r_whole (hm39.at 2 rfl) Tryd.underlying25 rfl (by exact sz_25) rfl rfl) ?_
  refine lm 32 (J ((current_m d).2)) ?_
  simp only [nz]
  have ho46 := (rd_one ((hm39.see 0 rfl).1))
  have ho47 := (rd_one ((hm39.see 0 rfl).2))
  refine lst rfl (m_store 3 25 _ _ 0 (.agg #[dv0, dv1, J (d.fuse), .bool (d.down)]) (old := #[.slice none 0 0, .slice none 0 0, J 0, .bool false]) (new := #[dv0, dv1, J (d.fuse), .bool (d.down)]) hm39 rfl rfl rfl rfl rfl (by exact sz_25) (show 0 + 4 ≤ 4 from by decide) a4 rfl (fun w44 hm45 => ?_))
  refine la 5 (J ((current_m d).2)) ?_
  simp only [nz]
  refine wn (tj (hK43 _ _ (wp_ret (then_r ?_))))
  have he48 : commit_m d l = (d, (current_m d).2) := by unfold commit_m; rw [if_neg hs12, if_neg hs21, if_neg hc30, if_pos hc42] <;> rfl
  exact ⟨rfl, .tuple #[.agg #[dv0, dv1, J (d.fuse), .bool (d.down)], J ((current_m d).2)], Mem.res_ct rfl rfl (hm45.at 3 rfl) Tryd.underlying25 rfl (by exact sz_25) rfl, ⟨⟨_, rfl, dv0, dv1, (by rw [he48]), by rw [he48]; exact hm45.give (hm45.from 0 rfl)⟩, hm45.below⟩⟩
 refine wp_skip (tj (hK40 _ _ (wk (fun K49 hK49 => (wk (fun K50 hK50 => (wq ?_)))))))
 refine lm 33 (lv0) ?_
 refine lw 34 (J (l.length : Int)) (s_len ((hm39.see 1 rfl)) rfl Tryd.underlying23 rfl) ?_
 refine lw 35 (.bool (decide (l.length = 0))) (r_eql l.length 0 rfl rfl rfl) ?_
 simp only [nz]
 refine wn (tj (hK50 _ _ ?_))
 refine cond_d (l.length = 0) rfl (fun hc51 => ?_) (fun hc51 => ?_)
 ·refine wk (fun K52 hK52 => (wq ?_))
  refine lw 36 (.agg #[dv0, dv1, J (d.fuse), .bool (d.down)]) (r_whole (hm39.at 2 rfl) Tryd.underlying25 rfl (by exact sz_25) rfl rfl) ?_
  simp only [nz]
  have ho55 := (rd_one ((hm39.see 0 rfl).1))
  have ho56 := (rd_one ((hm39.see 0 rfl).2))
  refine lst rfl (m_store 3 25 _ _ 0 (.agg #[dv0, dv1, J (d.fuse), .bool (d.down)]) (old := #[.slice none 0 0, .slice none 0 0, J 0, .bool false]) (new := #[dv0, dv1, J (d.fuse), .bool (d.down)]) hm39 rfl rfl rfl rfl rfl (by exact sz_25) (show 0 + 4 ≤ 4 from by decide) a4 rfl (fun w53 hm54 => ?_))
  refine la 5 (J 0) ?_
  simp only [nz]
  refine wn (tj (hK52 _ _ (wp_ret (then_r ?_))))
  have he57 : commit_m d l = (d, 0) := by unfold commit_m; rw [if_neg hs12, if_neg hs21, if_neg hc30, if_neg hc42, if_pos hc51] <;> rfl
  exact ⟨rfl, .tuple #[.agg #[dv0, dv1, J (d.fuse), .bool (d.down)], J 0], Mem.res_ct rfl rfl (hm54.at 3 rfl) Tryd.underlying25 rfl (by exact sz_25) rfl, ⟨⟨_, rfl, dv0, dv1, (by rw [he57]), by rw [he57]; exact hm54.give (hm54.from 0 rfl)⟩, hm54.below⟩⟩
 refine wp_skip (tj (hK49 _ _ (wk (fun K58 hK58 => (wk (fun K59 hK59 => (wq ?_)))))))
 refine lw 37 (.agg #[dv0, dv1, J (d.fuse), .bool (d.down)]) (r_whole (hm39.at 2 rfl) Tryd.underlying25 rfl (by exact sz_25) rfl rfl) ?_
 refine lm 38 (lv0) ?_
 refine lw 39 (J (l.length : Int)) (s_len ((hm39.see 1 rfl)) rfl Tryd.underlying23 rfl) ?_
 simp only [nz]
 refine lst rfl (m_call hm39 40 (.bool (decide (((0 : Int) ≤ (l.length : Int) ∧ ((l.length : Int) : Int) ≤ (((d.safe).length : Nat) : Int) ∧ (((l.length : Int) : Int) + 60) / 61 + (l.length : Int) + 2 ≤ (((((d.safe).length / 4 : Nat)) : Int)))))) rfl (run_fits rfl rfl rfl) (fitsd_any d (l.length : Int) dv0 dv1 _ (hm39.see 0 rfl) (by omega) (by omega)) (fun w60 hm61 => ?_))
 simp only [nz]
 refine lw 41 (.bool (decide (¬ (((0 : Int) ≤ (l.length : Int) ∧ ((l.length : Int) : Int) ≤ (((d.safe).length : Nat) : Int) ∧ (((l.length : Int) : Int) + 60) / 61 + (l.length : Int) + 2 ≤ (((((d.safe).length / 4 : Nat)) : Int))))))) (r_notD (((0 : Int) ≤ (l.length : Int) ∧ ((l.length : Int) : Int) ≤ (((d.safe).length : Nat) : Int) ∧ (((l.length : Int) : Int) + 60) / 61 + (l.length : Int) + 2 ≤ (((((d.safe).length / 4 : Nat)) : Int)))) rfl rfl) ?_
 simp only [nz]
 refine wn (tj (hK59 _ _ ?_))
 refine cond_d (¬ (((0 : Int) ≤ (l.length : Int) ∧ ((l.length : Int) : Int) ≤ (((d.safe).length : Nat) : Int) ∧ (((l.length : Int) : Int) + 60) / 61 + (l.length : Int) + 2 ≤ (((((d.safe).length / 4 : Nat)) : Int))))) rfl (fun hc62 => ?_) (fun hc62 => ?_)
 ·refine wk (fun K63 hK63 => (wq ?_))
  refine lw 42 (.agg #[dv0, dv1, J (d.fuse), .bool (d.down)]) (r_whole (hm61.at 2 rfl) Tryd.underlying25 rfl (by exact sz_25) rfl rfl) ?_
  simp only [nz]
  have ho66 := (rd_one ((hm61.see 0 rfl).1))
  have ho67 := (rd_one ((hm61.see 0 rfl).2))
  refine lst rfl (m_store 3 25 _ _ 0 (.agg #[dv0, dv1, J (d.fuse), .bool (d.down)]) (old := #[.slice none 0 0, .slice none 0 0, J 0, .bool false]) (new := #[dv0, dv1, J (d.fuse), .bool (d.down)]) hm61 rfl rfl rfl rfl rfl (by exact sz_25) (show 0 + 4 ≤ 4 from by decide) a4 rfl (fun w64 hm65 => ?_))
  refine la 5 (J 10) ?_
  simp only [nz]
  refine wn (tj (hK63 _ _ (wp_ret (then_r ?_))))
  have he68 : commit_m d l = (d, 10) := by unfold commit_m; rw [if_neg hs12, if_neg hs21, if_neg hc30, if_neg hc42, if_neg hc51, if_pos hc62] <;> rfl
  exact ⟨rfl, .tuple #[.agg #[dv0, dv1, J (d.fuse), .bool (d.down)], J 10], Mem.res_ct rfl rfl (hm65.at 3 rfl) Tryd.underlying25 rfl (by exact sz_25) rfl, ⟨⟨_, rfl, dv0, dv1, (by rw [he68]), by rw [he68]; exact hm65.give (hm65.from 0 rfl)⟩, hm65.below⟩⟩
 refine wp_skip (tj (hK58 _ _ (wk (fun K69 hK69 => (wq ?_)))))
 refine lm 43 (J ((current_m d).1)) ?_
 refine lm 44 (lv0) ?_
 simp only [nz]
 refine lst rfl (m_callx hm61 45 rfl (run_body rfl rfl rfl) (body_any ((current_m d).1) l lv0 _ (hm61.see 1 rfl) (by have h2048 := few_of (d := d) (by assumption); omega)) (fun v72 w70 hR74 hb75 hm71 => ?_))
 obtain ⟨_, rfl, ho77⟩ := hR74
 have hm76 : Mm none S w w70 [.see (DkR d dv0 dv1) Fd, .see (Rs eWr 2 l lv0) Fl, .blk g4 #[dv0, dv1, J (d.fuse), .bool (d.down)] 25, .blk g7 #[.slice none 0 0, .slice none 0 0, J 0, .bool false] 25, .row v72 (body_m ((current_m d).1) l).length ((body_m ((current_m d).1) l).flatMap eS) 9 1] := hm61.gained hb75 ho77
 clear hm71
 have hf78 : (body_m ((current_m d).1) l).length = (l.length + 60) / 61 + l.length := body_len ((current_m d).1) l
 simp only [nz]
 refine la 8 (v72) ?_
 simp only [nz]
 refine wn (tj (hK69 _ _ (wk (fun K79 hK79 => (wq ?_)))))
 refine lw 47 (.agg #[dv0, dv1, J (d.fuse), .bool (d.down)]) (r_whole (hm76.at 2 rfl) Tryd.underlying25 rfl (by exact sz_25) rfl rfl) ?_
 refine lm 48 (v72) ?_
 simp only [nz]
 have hm82 : Mm none S w w70 [.see (DkR d dv0 dv1) Fd, .see (Rs eWr 2 l lv0) Fl, .blk g4 #[dv0, dv1, J (d.fuse), .bool (d.down)] 25, .blk g7 #[.slice none 0 0, .slice none 0 0, J 0, .bool false] 25, .see (Rs eS 1 (body_m ((current_m d).1) l) v72) (fp v72 ((body_m ((current_m d).1) l).flatMap eS))] := hm76.freeze 4 rfl
 refine lst rfl (m_callx hm82 49 rfl (run_putfl rfl rfl rfl rfl) (putfl_any d 2 (body_m ((current_m d).1) l) dv0 dv1 v72 (seeS _) _ (hm82.from 0 rfl) (hm82.from 4 rfl) (by omega) (by omega) (by omega) (by have h2048 := few_of (d := d) (by assumption); omega) (by omega) (by omega)) (fun vv87 w80 hR88 hb89 hm81 => ?_))
 obtain ⟨v83, v84, rfl, hg90⟩ := hR88
 obtain ⟨F86, hm91⟩ : ∃ F86, Mm none S w w80 [.see (DkR d dv0 dv1) Fd, .see (Rs eWr 2 l lv0) Fl, .blk g4 #[dv0, dv1, J (d.fuse), .bool (d.down)] 25, .blk g7 #[.slice none 0 0, .slice none 0 0, J 0, .bool false] 25, .see (Rs eS 1 (body_m ((current_m d).1) l) v72) (fp v72 ((body_m ((current_m d).1) l).flatMap eS)), .see (DkR ((putfl_m d 2 (body_m ((current_m d).1) l)).1) v83 v84) F86] := Mm.tookS hm82 hb89 hg90
 clear hm81 hg90 hb89
 have hf92 : (putfl_m d 2 (body_m ((current_m d).1) l)).1.safe.length = d.safe.length := (putfl_near d 2 (body_m ((current_m d).1) l)).1
 have hf93 : (putfl_m d 2 (body_m ((current_m d).1) l)).1.loose.length ≤ d.loose.length + ((body_m ((current_m d).1) l) : List (List UInt8)).length := (putfl_near d 2 (body_m ((current_m d).1) l)).2.1
 have hf94 : (putfl_m d 2 (body_m ((current_m d).1) l)).1.fuse ≤ 9223372036854775807 := (putfl_near d 2 (body_m ((current_m d).1) l)).2.2 (show d.fuse ≤ 9223372036854775807 from (by omega))
 simp only [nz]
 refine lm 46 (.tuple #[.agg #[v83, v84, J (((putfl_m d 2 (body_m ((current_m d).1) l)).1).fuse), .bool (((putfl_m d 2 (body_m ((current_m d).1) l)).1).down)], J ((putfl_m d 2 (body_m ((current_m d).1) l)).2)]) ?_
 refine lw 50 (.agg #[v83, v84, J (((putfl_m d 2 (body_m ((current_m d).1) l)).1).fuse), .bool (((putfl_m d 2 (body_m ((current_m d).1) l)).1).down)]) (run_ex rfl rfl rfl) ?_
 refine lw 51 (J ((putfl_m d 2 (body_m ((current_m d).1) l)).2)) (run_ex rfl rfl rfl) ?_
 simp only [nz]
 have ho97 := (rd_one ((hm91.see 5 rfl).1))
 have ho98 := (rd_one ((hm91.see 5 rfl).2))
 refine lst rfl (m_store 2 25 _ _ 0 (.agg #[v83, v84, J (((putfl_m d 2 (body_m ((current_m d).1) l)).1).fuse), .bool (((putfl_m d 2 (body_m ((current_m d).1) l)).1).down)]) (old := #[dv0, dv1, J (d.fuse), .bool (d.down)]) (new := #[v83, v84, J (((putfl_m d 2 (body_m ((current_m d).1) l)).1).fuse), .bool (((putfl_m d 2 (body_m ((current_m d).1) l)).1).down)]) hm91 rfl rfl rfl rfl rfl (by exact sz_25) (show 0 + 4 ≤ 4 from by decide) a4 rfl (fun w95 hm96 => ?_))
 refine la 7 (J ((putfl_m d 2 (body_m ((current_m d).1) l)).2)) ?_
 simp only [nz]
 refine wn (tj (hK79 _ _ (wk (fun K99 hK99 => (wk (fun K100 hK100 => (wq ?_)))))))
 refine lm 52 (J ((putfl_m d 2 (body_m ((current_m d).1) l)).2)) ?_
 refine lw 53 (.bool (decide (¬ (putfl_m d 2 (body_m ((current_m d).1) l)).2 = 0))) (z_neq ((putfl_m d 2 (body_m ((current_m d).1) l)).2) 0 rfl rfl rfl) ?_
 simp only [nz]
 refine wn (tj (hK100 _ _ ?_))
 refine cond_d (¬ (putfl_m d 2 (body_m ((current_m d).1) l)).2 = 0) rfl (fun hc101 => ?_) (fun hc101 => ?_)
 ·refine wk (fun K102 hK102 => (wq ?_))
  refine lw 54 (.agg #[v83, v84, J (((putfl_m d 2 (body_m ((current_m d).1) l)).1).fuse), .bool (((putfl_m d 2 (body_m ((current_m d).1) l)).1).down)]) (r_whole (hm96.at 2 rfl) Tryd.underlying25 rfl (by exact sz_25) rfl rfl) ?_
  refine lm 55 (J ((putfl_m d 2 (body_m ((current_m d).1) l)).2)) ?_
  simp only [nz]
  have ho105 := (rd_one ((hm96.see 5 rfl).1))
  have ho106 := (rd_one ((hm96.see 5 rfl).2))
  refine lst rfl (m_store 3 25 _ _ 0 (.agg #[v83, v84, J (((putfl_m d 2 (body_m ((current_m d).1) l)).1).fuse), .bool (((putfl_m d 2 (body_m ((current_m d).1) l)).1).down)]) (old := #[.slice none 0 0, .slice none 0 0, J 0, .bool false]) (new := #[v83, v84, J (((putfl_m d 2 (body_m ((current_m d).1) l)).1).fuse), .bool (((putfl_m d 2 (body_m ((current_m d).1) l)).1).down)]) hm96 rfl rfl rfl rfl rfl (by exact sz_25) (show 0 + 4 ≤ 4 from by decide) a4 rfl (fun w103 hm104 => ?_))
  refine la 5 (J ((putfl_m d 2 (body_m ((current_m d).1) l)).2)) ?_
  simp only [nz]
  refine wn (tj (hK102 _ _ (wp_ret (then_r ?_))))
  have he107 : commit_m d l = (((putfl_m d 2 (body_m ((current_m d).1) l)).1), (putfl_m d 2 (body_m ((current_m d).1) l)).2) := by unfold commit_m; rw [if_neg hs12, if_neg hs21, if_neg hc30, if_neg hc42, if_neg hc51, if_neg hc62, if_pos hc101] <;> rfl
  exact ⟨rfl, .tuple #[.agg #[v83, v84, J (((putfl_m d 2 (body_m ((current_m d).1) l)).1).fuse), .bool (((putfl_m d 2 (body_m ((current_m d).1) l)).1).down)], J ((putfl_m d 2 (body_m ((current_m d).1) l)).2)], Mem.res_ct rfl rfl (hm104.at 3 rfl) Tryd.underlying25 rfl (by exact sz_25) rfl, ⟨⟨_, rfl, v83, v84, (by rw [he107]), by rw [he107]; exact hm104.give (hm104.from 5 rfl)⟩, hm104.below⟩⟩
 refine wp_skip (tj (hK99 _ _ (wk (fun K108 hK108 => ?_))))
 refine wp_mono (Q := fun e a' w' => e = Exit.normal ∧ ∃ (g116 : Nat) (v121 : Value) (v122 : Value) (F124 : Nat → Prop), a' = ⟨#[.agg #[dv0, dv1, J (d.fuse), .bool (d.down)], lv0, Pp g4 0, undef, Pp g7 0, J 0, J ((current_m d).1), J ((QeH1 d l).2), v72, .agg #[dv0, dv1, J (d.fuse), .bool (d.down)], .bool ((right_m d)), .bool false, .bool false, .agg #[dv0, dv1, J (d.fuse), .bool (d.down)], lv0, .bool ((rise_m d l)), .bool false, .bool false, .bool false, lv0, .bool ((sized_m l)), .bool (!(sized_m l)), .bool (!(sized_m l)), undef, .tuple #[J ((current_m d).1), J ((current_m d).2)], .agg #[dv0, dv1, J (d.fuse), .bool (d.down)], .tuple #[J ((current_m d).1), J ((current_m d).2)], J ((current_m d).1), J ((current_m d).2), J ((current_m d).2), .bool (decide (¬ (current_m d).2 = 0)), undef, undef, lv0, J (l.length : Int), .bool (decide (l.length = 0)), undef, .agg #[dv0, dv1, J (d.fuse), .bool (d.down)], lv0, J (l.length : Int), .bool (decide (((0 : Int) ≤ (l.length : Int) ∧ ((l.length : Int) : Int) ≤ (((d.safe).length : Nat) : Int) ∧ (((l.length : Int) : Int) + 60) / 61 + (l.length : Int) + 2 ≤ (((((d.safe).length / 4 : Nat)) : Int))))), .bool (decide (¬ (((0 : Int) ≤ (l.length : Int) ∧ ((l.length : Int) : Int) ≤ (((d.safe).length : Nat) : Int) ∧ (((l.length : Int) : Int) + 60) / 61 + (l.length : Int) + 2 ≤ (((((d.safe).length / 4 : Nat)) : Int)))))), undef, J ((current_m d).1), lv0, v72, .tuple #[.agg #[v83, v84, J (((putfl_m d 2 (body_m ((current_m d).1) l)).1).fuse), .bool (((putfl_m d 2 (body_m ((current_m d).1) l)).1).down)], J ((putfl_m d 2 (body_m ((current_m d).1) l)).2)], .agg #[dv0, dv1, J (d.fuse), .bool (d.down)], v72, .tuple #[.agg #[v83, v84, J (((putfl_m d 2 (body_m ((current_m d).1) l)).1).fuse), .bool (((putfl_m d 2 (body_m ((current_m d).1) l)).1).down)], J ((putfl_m d 2 (body_m ((current_m d).1) l)).2)], .agg #[v83, v84, J (((putfl_m d 2 (body_m ((current_m d).1) l)).1).fuse), .bool (((putfl_m d 2 (body_m ((current_m d).1) l)).1).down)], J ((putfl_m d 2 (body_m ((current_m d).1) l)).2), J ((putfl_m d 2 (body_m ((current_m d).1) l)).2), .bool (decide (¬ (putfl_m d 2 (body_m ((current_m d).1) l)).2 = 0)), undef, undef, .tuple #[.agg #[v121, v122, J (((QeH1 d l).1).fuse), .bool (((QeH1 d l).1).down)], J ((QeH1 d l).2)], .agg #[v83, v84, J (((putfl_m d 2 (body_m ((current_m d).1) l)).1).fuse), .bool (((putfl_m d 2 (body_m ((current_m d).1) l)).1).down)], J ((current_m d).1), lv0, J (l.length : Int), v72, .string (tx (QeH2 d l)), Sl g116 0 1 1, .tuple #[.agg #[v121, v122, J (((QeH1 d l).1).fuse), .bool (((QeH1 d l).1).down)], J ((QeH1 d l).2)], .agg #[v121, v122, J (((QeH1 d l).1).fuse), .bool (((QeH1 d l).1).down)], J ((QeH1 d l).2), undef, undef, undef, undef, undef, undef, undef, undef, undef, undef], []⟩ ∧ Mm none S w w' [.see (DkR d dv0 dv1) Fd, .see (Rs eWr 2 l lv0) Fl, .blk g4 #[v121, v122, J (((QeH1 d l).1).fuse), .bool (((QeH1 d l).1).down)] 25, .blk g7 #[.slice none 0 0, .slice none 0 0, J 0, .bool false] 25, .see (Rs eS 1 (body_m ((current_m d).1) l) v72) (fp v72 ((body_m ((current_m d).1) l).flatMap eS)), .see (DkR ((putfl_m d 2 (body_m ((current_m d).1) l)).1) v83 v84) F86, .see (Rs eS 1 ([(QeH2 d l)] : List (List UInt8)) (Sl g116 0 1 1)) (fp (Sl g116 0 1 1) (List.flatMap eS ([(QeH2 d l)] : List (List UInt8)))), .see (DkR ((QeH1 d l).1) v121 v122) F124]) ?_ ?_
 ·have hm109 := hm96.drew
  refine wp_region_held_drew (S := fun w' => True) (by kernel_rfl) (trivial) (fun _ => ?_)
  generalize w95.drew = w110 at *
  refine tn 1 58 (J ((current_m d).1)) rfl rfl (fun _ hw => run_mv rfl rfl) (trivial) ?_
  simp only [nz]
  refine tn 2 59 (lv0) rfl rfl (fun _ hw => run_mv rfl rfl) (trivial) ?_
  simp only [nz]
  refine tn 3 60 (J (l.length : Int)) rfl rfl (fun _ hw => s_len ((hm109.see 1 rfl)) rfl Tryd.underlying23 rfl) (trivial) ?_
  simp only [nz]
  refine tn 4 61 (v72) rfl rfl (fun _ hw => run_mv rfl rfl) (trivial) ?_
  simp only [nz]
  refine two_ready 0 5 (by kernel_rfl) ?_ ?_
  ·refine opd rfl rfl (w_value 57 (.agg #[v83, v84, J (((putfl_m d 2 (body_m ((current_m d).1) l)).1).fuse), .bool (((putfl_m d 2 (body_m ((current_m d).1) l)).1).down)]) rfl (r_whole (hm109.at 2 rfl) Tryd.underlying25 rfl (by exact sz_25) rfl rfl) ⟨trivial, ?_⟩)
   simp only [nz]
   refine one_ready 5 (by kernel_rfl) ?_
   refine opd rfl rfl (m_call hm109 62 (.string (tx (QeH2 d l))) rfl (run_rend rfl rfl rfl rfl) (rend_any ((current_m d).1) (l.length : Int) (body_m ((current_m d).1) l) v72 _ (hm109.see 4 rfl) (Laid.below hT hm109.below) (by have h2048 := few_of (d := d) (by assumption); omega) (by exact body_join (d := d) (by assumption) (by assumption) ⟨by omega, by omega, by omega⟩)) (fun w111 hm112 => ?_))
   have hf113 : (QeH2 d l).length = 256 := rend_len ((current_m d).1) ((l.length : Nat) : Int) (body_m ((current_m d).1) l)
   refine ⟨trivial, ?_⟩
   simp only [nz]
   refine one_ready 6 (by kernel_rfl) ?_
   refine opd rfl rfl (m_make (c := #[.string (tx (QeH2 d l))]) (T := 9) (fun g => Sl g 0 1 1) hm112 63 rfl (by unfold execOp; go_simp; try rfl) (fun g116 w114 hm115 => ?_))
   refine ⟨trivial, ?_⟩
   simp only [nz]
   refine one_ready 7 (by kernel_rfl) ?_
   have hm119 : Mm none S w w114 [.see (DkR d dv0 dv1) Fd, .see (Rs eWr 2 l lv0) Fl, .blk g4 #[v83, v84, J (((putfl_m d 2 (body_m ((current_m d).1) l)).1).fuse), .bool (((putfl_m d 2 (body_m ((current_m d).1) l)).1).down)] 25, .blk g7 #[.slice none 0 0, .slice none 0 0, J 0, .bool false] 25, .see (Rs eS 1 (body_m ((current_m d).1) l) v72) (fp v72 ((body_m ((current_m d).1) l).flatMap eS)), .see (DkR ((putfl_m d 2 (body_m ((current_m d).1) l)).1) v83 v84) F86, .see (Rs eS 1 ([(QeH2 d l)] : List (List UInt8)) (Sl g116 0 1 1)) (fp (Sl g116 0 1 1) (List.flatMap eS ([(QeH2 d l)] : List (List UInt8))))] := hm115.freezeB 6 rfl rfl rfl eS_len
   refine opd rfl rfl (m_callx hm119 64 rfl (run_putfl rfl rfl rfl rfl) (putfl_any ((putfl_m d 2 (body_m ((current_m d).1) l)).1) 1 ([(QeH2 d l)] : List (List UInt8)) v83 v84 (Sl g116 0 1 1) (seeS _) _ (hm119.from 5 rfl) (hm119.from 6 rfl) (by omega) (by have h2048 := few_of (d := d) (by assumption); omega) (by omega) (by have h2048 := few_of (d := d) (by assumption); simp only [List.length_cons, List.length_nil] at *; omega) (by omega) (by omega)) (fun vv125 w117 hR126 hb127 hm118 => ?_))
   obtain ⟨v121, v122, rfl, hg128⟩ := hR126
   obtain ⟨F124, hm129⟩ : ∃ F124, Mm none S w w117 [.see (DkR d dv0 dv1) Fd, .see (Rs eWr 2 l lv0) Fl, .blk g4 #[v83, v84, J (((putfl_m d 2 (body_m ((current_m d).1) l)).1).fuse), .bool (((putfl_m d 2 (body_m ((current_m d).1) l)).1).down)] 25, .blk g7 #[.slice none 0 0, .slice none 0 0, J 0, .bool false] 25, .see (Rs eS 1 (body_m ((current_m d).1) l) v72) (fp v72 ((body_m ((current_m d).1) l).flatMap eS)), .see (DkR ((putfl_m d 2 (body_m ((current_m d).1) l)).1) v83 v84) F86, .see (Rs eS 1 ([(QeH2 d l)] : List (List UInt8)) (Sl g116 0 1 1)) (fp (Sl g116 0 1 1) (List.flatMap eS ([(QeH2 d l)] : List (List UInt8)))), .see (DkR ((QeH1 d l).1) v121 v122) F124] := Mm.tookS hm119 hb127 hg128
   clear hm118 hg128 hb127
   have hf130 : (QeH1 d l).1.safe.length = ((putfl_m d 2 (body_m ((current_m d).1) l)).1).safe.length := (putfl_near ((putfl_m d 2 (body_m ((current_m d).1) l)).1) 1 ([(QeH2 d l)] : List (List UInt8))).1
   have hf131 : (QeH1 d l).1.loose.length ≤ ((putfl_m d 2 (body_m ((current_m d).1) l)).1).loose.length + (([(QeH2 d l)] : List (List UInt8)) : List (List UInt8)).length := (putfl_near ((putfl_m d 2 (body_m ((current_m d).1) l)).1) 1 ([(QeH2 d l)] : List (List UInt8))).2.1
   have hf132 : (QeH1 d l).1.fuse ≤ 9223372036854775807 := (putfl_near ((putfl_m d 2 (body_m ((current_m d).1) l)).1) 1 ([(QeH2 d l)] : List (List UInt8))).2.2 (show ((putfl_m d 2 (body_m ((current_m d).1) l)).1).fuse ≤ 9223372036854775807 from (by omega))
   refine ⟨trivial, ?_⟩
   simp only [nz]
   refine tn 8 56 (.tuple #[.agg #[v121, v122, J (((QeH1 d l).1).fuse), .bool (((QeH1 d l).1).down)], J ((QeH1 d l).2)]) rfl rfl (fun _ hw => run_mv rfl rfl) (trivial) ?_
   simp only [nz]
   refine tn 9 65 (.agg #[v121, v122, J (((QeH1 d l).1).fuse), .bool (((QeH1 d l).1).down)]) rfl rfl (fun _ hw => run_ex rfl rfl rfl) (trivial) ?_
   simp only [nz]
   refine tn 10 66 (J ((QeH1 d l).2)) rfl rfl (fun _ hw => run_ex rfl rfl rfl) (trivial) ?_
   simp only [nz]
   refine one_ready 11 (by kernel_rfl) ?_
   have ho135 := (rd_one ((hm129.see 7 rfl).1))
   have ho136 := (rd_one ((hm129.see 7 rfl).2))
   refine opd rfl rfl (m_store 2 25 _ _ 0 (.agg #[v121, v122, J (((QeH1 d l).1).fuse), .bool (((QeH1 d l).1).down)]) (old := #[v83, v84, J (((putfl_m d 2 (body_m ((current_m d).1) l)).1).fuse), .bool (((putfl_m d 2 (body_m ((current_m d).1) l)).1).down)]) (new := #[v121, v122, J (((QeH1 d l).1).fuse), .bool (((QeH1 d l).1).down)]) hm129 rfl rfl rfl rfl rfl (by exact sz_25) (show 0 + 4 ≤ 4 from by decide) a4 rfl (fun w133 hm134 => ?_))
   refine ⟨trivial, ?_⟩
   refine one_ready 12 (by kernel_rfl) ?_
   refine opd rfl rfl (w_value 7 (J ((QeH1 d l).2)) rfl (run_as rfl rfl) ⟨trivial, ?_⟩)
   simp only [nz]
   refine wpAnyH_done (by kernel_rfl) ?_ _
   exact ⟨rfl, g116, v121, v122, F124, rfl, hm134⟩
  refine opd rfl rfl (m_call hm109 62 (.string (tx (QeH2 d l))) rfl (run_rend rfl rfl rfl rfl) (rend_any ((current_m d).1) (l.length : Int) (body_m ((current_m d).1) l) v72 _ (hm109.see 4 rfl) (Laid.below hT hm109.below) (by have h2048 := few_of (d := d) (by assumption); omega) (by exact body_join (d := d) (by assumption) (by assumption) ⟨by omega, by omega, by omega⟩)) (fun w137 hm138 => ?_))
  have hf139 : (QeH2 d l).length = 256 := rend_len ((current_m d).1) ((l.length : Nat) : Int) (body_m ((current_m d).1) l)
  refine ⟨trivial, ?_⟩
  simp only [nz]
  refine two_ready 0 6 (by kernel_rfl) ?_ ?_
  ·refine opd rfl rfl (w_value 57 (.agg #[v83, v84, J (((putfl_m d 2 (body_m ((current_m d).1) l)).1).fuse), .bool (((putfl_m d 2 (body_m ((current_m d).1) l)).1).down)]) rfl (r_whole (hm138.at 2 rfl) Tryd.underlying25 rfl (by exact sz_25) rfl rfl) ⟨trivial, ?_⟩)
   simp only [nz]
   refine one_ready 6 (by kernel_rfl) ?_
   refine opd rfl rfl (m_make (c := #[.string (tx (QeH2 d l))]) (T := 9) (fun g => Sl g 0 1 1) hm138 63 rfl (by unfold execOp; go_simp; try rfl) (fun g142 w140 hm141 => ?_))
   refine ⟨trivial, ?_⟩
   simp only [nz]
   refine one_ready 7 (by kernel_rfl) ?_
   have hm145 : Mm none S w w140 [.see (DkR d dv0 dv1) Fd, .see (Rs eWr 2 l lv0) Fl, .blk g4 #[v83, v84, J (((putfl_m d 2 (body_m ((current_m d).1) l)).1).fuse), .bool (((putfl_m d 2 (body_m ((current_m d).1) l)).1).down)] 25, .blk g7 #[.slice none 0 0, .slice none 0 0, J 0, .bool false] 25, .see (Rs eS 1 (body_m ((current_m d).1) l) v72) (fp v72 ((body_m ((current_m d).1) l).flatMap eS)), .see (DkR ((putfl_m d 2 (body_m ((current_m d).1) l)).1) v83 v84) F86, .see (Rs eS 1 ([(QeH2 d l)] : List (List UInt8)) (Sl g142 0 1 1)) (fp (Sl g142 0 1 1) (List.flatMap eS ([(QeH2 d l)] : List (List UInt8))))] := hm141.freezeB 6 rfl rfl rfl eS_len
   refine opd rfl rfl (m_callx hm145 64 rfl (run_putfl rfl rfl rfl rfl) (putfl_any ((putfl_m d 2 (body_m ((current_m d).1) l)).1) 1 ([(QeH2 d l)] : List (List UInt8)) v83 v84 (Sl g142 0 1 1) (seeS _) _ (hm145.from 5 rfl) (hm145.from 6 rfl) (by omega) (by have h2048 := few_of (d := d) (by assumption); omega) (by omega) (by have h2048 := few_of (d := d) (by assumption); simp only [List.length_cons, List.length_nil] at *; omega) (by omega) (by omega)) (fun vv151 w143 hR152 hb153 hm144 => ?_))
   obtain ⟨v147, v148, rfl, hg154⟩ := hR152
   obtain ⟨F150, hm155⟩ : ∃ F150, Mm none S w w143 [.see (DkR d dv0 dv1) Fd, .see (Rs eWr 2 l lv0) Fl, .blk g4 #[v83, v84, J (((putfl_m d 2 (body_m ((current_m d).1) l)).1).fuse), .bool (((putfl_m d 2 (body_m ((current_m d).1) l)).1).down)] 25, .blk g7 #[.slice none 0 0, .slice none 0 0, J 0, .bool false] 25, .see (Rs eS 1 (body_m ((current_m d).1) l) v72) (fp v72 ((body_m ((current_m d).1) l).flatMap eS)), .see (DkR ((putfl_m d 2 (body_m ((current_m d).1) l)).1) v83 v84) F86, .see (Rs eS 1 ([(QeH2 d l)] : List (List UInt8)) (Sl g142 0 1 1)) (fp (Sl g142 0 1 1) (List.flatMap eS ([(QeH2 d l)] : List (List UInt8)))), .see (DkR ((QeH1 d l).1) v147 v148) F150] := Mm.tookS hm145 hb153 hg154
   clear hm144 hg154 hb153
   have hf156 : (QeH1 d l).1.safe.length = ((putfl_m d 2 (body_m ((current_m d).1) l)).1).safe.length := (putfl_near ((putfl_m d 2 (body_m ((current_m d).1) l)).1) 1 ([(QeH2 d l)] : List (List UInt8))).1
   have hf157 : (QeH1 d l).1.loose.length ≤ ((putfl_m d 2 (body_m ((current_m d).1) l)).1).loose.length + (([(QeH2 d l)] : List (List UInt8)) : List (List UInt8)).length := (putfl_near ((putfl_m d 2 (body_m ((current_m d).1) l)).1) 1 ([(QeH2 d l)] : List (List UInt8))).2.1
   have hf158 : (QeH1 d l).1.fuse ≤ 9223372036854775807 := (putfl_near ((putfl_m d 2 (body_m ((current_m d).1) l)).1) 1 ([(QeH2 d l)] : List (List UInt8))).2.2 (show ((putfl_m d 2 (body_m ((current_m d).1) l)).1).fuse ≤ 9223372036854775807 from (by omega))
   refine ⟨trivial, ?_⟩
   simp only [nz]
   refine tn 8 56 (.tuple #[.agg #[v147, v148, J (((QeH1 d l).1).fuse), .bool (((QeH1 d l).1).down)], J ((QeH1 d l).2)]) rfl rfl (fun _ hw => run_mv rfl rfl) (trivial) ?_
   simp only [nz]
   refine tn 9 65 (.agg #[v147, v148, J (((QeH1 d l).1).fuse), .bool (((QeH1 d l).1).down)]) rfl rfl (fun _ hw => run_ex rfl rfl rfl) (trivial) ?_
   simp only [nz]
   refine tn 10 66 (J ((QeH1 d l).2)) rfl rfl (fun _ hw => run_ex rfl rfl rfl) (trivial) ?_
   simp only [nz]
   refine one_ready 11 (by kernel_rfl) ?_
   have ho161 := (rd_one ((hm155.see 7 rfl).1))
   have ho162 := (rd_one ((hm155.see 7 rfl).2))
   refine opd rfl rfl (m_store 2 25 _ _ 0 (.agg #[v147, v148, J (((QeH1 d l).1).fuse), .bool (((QeH1 d l).1).down)]) (old := #[v83, v84, J (((putfl_m d 2 (body_m ((current_m d).1) l)).1).fuse), .bool (((putfl_m d 2 (body_m ((current_m d).1) l)).1).down)]) (new := #[v147, v148, J (((QeH1 d l).1).fuse), .bool (((QeH1 d l).1).down)]) hm155 rfl rfl rfl rfl rfl (by exact sz_25) (show 0 + 4 ≤ 4 from by decide) a4 rfl (fun w159 hm160 => ?_))
   refine ⟨trivial, ?_⟩
   refine one_ready 12 (by kernel_rfl) ?_
   refine opd rfl rfl (w_value 7 (J ((QeH1 d l).2)) rfl (run_as rfl rfl) ⟨trivial, ?_⟩)
   simp only [nz]
   refine wpAnyH_done (by kernel_rfl) ?_ _
   exact ⟨rfl, g142, v147, v148, F150, rfl, hm160⟩
  refine opd rfl rfl (m_make (c := #[.string (tx (QeH2 d l))]) (T := 9) (fun g => Sl g 0 1 1) hm138 63 rfl (by unfold execOp; go_simp; try rfl) (fun g165 w163 hm164 => ?_))
  refine ⟨trivial, ?_⟩
  simp only [nz]
  refine one_ready 0 (by kernel_rfl) ?_
  refine opd rfl rfl (w_value 57 (.agg #[v83, v84, J (((putfl_m d 2 (body_m ((current_m d).1) l)).1).fuse), .bool (((putfl_m d 2 (body_m ((current_m d).1) l)).1).down)]) rfl (r_whole (hm164.at 2 rfl) Tryd.underlying25 rfl (by exact sz_25) rfl rfl) ⟨trivial, ?_⟩)
  simp only [nz]
  refine one_ready 7 (by kernel_rfl) ?_
  have hm168 : Mm none S w w163 [.see (DkR d dv0 dv1) Fd, .see (Rs eWr 2 l lv0) Fl, .blk g4 #[v83, v84, J (((putfl_m d 2 (body_m ((current_m d).1) l)).1).fuse), .bool (((putfl_m d 2 (body_m ((current_m d).1) l)).1).down)] 25, .blk g7 #[.slice none 0 0, .slice none 0 0, J 0, .bool false] 25, .see (Rs eS 1 (body_m ((current_m d).1) l) v72) (fp v72 ((body_m ((current_m d).1) l).flatMap eS)), .see (DkR ((putfl_m d 2 (body_m ((current_m d).1) l)).1) v83 v84) F86, .see (Rs eS 1 ([(QeH2 d l)] : List (List UInt8)) (Sl g165 0 1 1)) (fp (Sl g165 0 1 1) (List.flatMap eS ([(QeH2 d l)] : List (List UInt8))))] := hm164.freezeB 6 rfl rfl rfl eS_len
  refine opd rfl rfl (m_callx hm168 64 rfl (run_putfl rfl rfl rfl rfl) (putfl_any ((putfl_m d 2 (body_m ((current_m d).1) l)).1) 1 ([(QeH2 d l)] : List (List UInt8)) v83 v84 (Sl g165 0 1 1) (seeS _) _ (hm168.from 5 rfl) (hm168.from 6 rfl) (by omega) (by have h2048 := few_of (d := d) (by assumption); omega) (by omega) (by have h2048 := few_of (d := d) (by assumption); simp only [List.length_cons, List.length_nil] at *; omega) (by omega) (by omega)) (fun vv174 w166 hR175 hb176 hm167 => ?_))
  obtain ⟨v170, v171, rfl, hg177⟩ := hR175
  obtain ⟨F173, hm178⟩ : ∃ F173, Mm none S w w166 [.see (DkR d dv0 dv1) Fd, .see (Rs eWr 2 l lv0) Fl, .blk g4 #[v83, v84, J (((putfl_m d 2 (body_m ((current_m d).1) l)).1).fuse), .bool (((putfl_m d 2 (body_m ((current_m d).1) l)).1).down)] 25, .blk g7 #[.slice none 0 0, .slice none 0 0, J 0, .bool false] 25, .see (Rs eS 1 (body_m ((current_m d).1) l) v72) (fp v72 ((body_m ((current_m d).1) l).flatMap eS)), .see (DkR ((putfl_m d 2 (body_m ((current_m d).1) l)).1) v83 v84) F86, .see (Rs eS 1 ([(QeH2 d l)] : List (List UInt8)) (Sl g165 0 1 1)) (fp (Sl g165 0 1 1) (List.flatMap eS ([(QeH2 d l)] : List (List UInt8)))), .see (DkR ((QeH1 d l).1) v170 v171) F173] := Mm.tookS hm168 hb176 hg177
  clear hm167 hg177 hb176
  have hf179 : (QeH1 d l).1.safe.length = ((putfl_m d 2 (body_m ((current_m d).1) l)).1).safe.length := (putfl_near ((putfl_m d 2 (body_m ((current_m d).1) l)).1) 1 ([(QeH2 d l)] : List (List UInt8))).1
  have hf180 : (QeH1 d l).1.loose.length ≤ ((putfl_m d 2 (body_m ((current_m d).1) l)).1).loose.length + (([(QeH2 d l)] : List (List UInt8)) : List (List UInt8)).length := (putfl_near ((putfl_m d 2 (body_m ((current_m d).1) l)).1) 1 ([(QeH2 d l)] : List (List UInt8))).2.1
  have hf181 : (QeH1 d l).1.fuse ≤ 9223372036854775807 := (putfl_near ((putfl_m d 2 (body_m ((current_m d).1) l)).1) 1 ([(QeH2 d l)] : List (List UInt8))).2.2 (show ((putfl_m d 2 (body_m ((current_m d).1) l)).1).fuse ≤ 9223372036854775807 from (by omega))
  refine ⟨trivial, ?_⟩
  simp only [nz]
  refine tn 8 56 (.tuple #[.agg #[v170, v171, J (((QeH1 d l).1).fuse), .bool (((QeH1 d l).1).down)], J ((QeH1 d l).2)]) rfl rfl (fun _ hw => run_mv rfl rfl) (trivial) ?_
  simp only [nz]
  refine tn 9 65 (.agg #[v170, v171, J (((QeH1 d l).1).fuse), .bool (((QeH1 d l).1).down)]) rfl rfl (fun _ hw => run_ex rfl rfl rfl) (trivial) ?_
  simp only [nz]
  refine tn 10 66 (J ((QeH1 d l).2)) rfl rfl (fun _ hw => run_ex rfl rfl rfl) (trivial) ?_
  simp only [nz]
  refine one_ready 11 (by kernel_rfl) ?_
  have ho184 := (rd_one ((hm178.see 7 rfl).1))
  have ho185 := (rd_one ((hm178.see 7 rfl).2))
  refine opd rfl rfl (m_store 2 25 _ _ 0 (.agg #[v170, v171, J (((QeH1 d l).1).fuse), .bool (((QeH1 d l).1).down)]) (old := #[v83, v84, J (((putfl_m d 2 (body_m ((current_m d).1) l)).1).fuse), .bool (((putfl_m d 2 (body_m ((current_m d).1) l)).1).down)]) (new := #[v170, v171, J (((QeH1 d l).1).fuse), .bool (((QeH1 d l).1).down)]) hm178 rfl rfl rfl rfl rfl (by exact sz_25) (show 0 + 4 ≤ 4 from by decide) a4 rfl (fun w182 hm183 => ?_))
  refine ⟨trivial, ?_⟩
  refine one_ready 12 (by kernel_rfl) ?_
  refine opd rfl rfl (w_value 7 (J ((QeH1 d l).2)) rfl (run_as rfl rfl) ⟨trivial, ?_⟩)
  simp only [nz]
  refine wpAnyH_done (by kernel_rfl) ?_ _
  exact ⟨rfl, g165, v170, v171, F173, rfl, hm183⟩
 clear hm96
 rintro _ _ w186 ⟨rfl, g116, v121, v122, F124, rfl, hm187⟩
 have hf188 : (QeH2 d l).length = 256 := rend_len ((current_m d).1) ((l.length : Nat) : Int) (body_m ((current_m d).1) l)
 have hf189 : (QeH1 d l).1.safe.length = ((putfl_m d 2 (body_m ((current_m d).1) l)).1).safe.length := (putfl_near ((putfl_m d 2 (body_m ((current_m d).1) l)).1) 1 ([(QeH2 d l)] : List (List UInt8))).1
 have hf190 : (QeH1 d l).1.loose.length ≤ ((putfl_m d 2 (body_m ((current_m d).1) l)).1).loose.length + (([(QeH2 d l)] : List (List UInt8)) : List (List UInt8)).length := (putfl_near ((putfl_m d 2 (body_m ((current_m d).1) l)).1) 1 ([(QeH2 d l)] : List (List UInt8))).2.1
 have hf191 : (QeH1 d l).1.fuse ≤ 9223372036854775807 := (putfl_near ((putfl_m d 2 (body_m ((current_m d).1) l)).1) 1 ([(QeH2 d l)] : List (List UInt8))).2.2 (show ((putfl_m d 2 (body_m ((current_m d).1) l)).1).fuse ≤ 9223372036854775807 from (by omega))
 refine tj (hK108 _ _ (wk (fun K192 hK192 => (wk (fun K193 hK193 => (wq ?_))))))
 refine lm 67 (J ((QeH1 d l).2)) ?_
 refine lw 68 (.bool (decide (¬ (QeH1 d l).2 = 0))) (z_neq ((QeH1 d l).2) 0 rfl rfl rfl) ?_
 simp only [nz]
 refine wn (tj (hK193 _ _ ?_))
 refine cond_d (¬ (QeH1 d l).2 = 0) rfl (fun hc194 => ?_) (fun hc194 => ?_)
 ·refine wk (fun K195 hK195 => (wq ?_))
  refine lw 69 (.agg #[v121, v122, J (((QeH1 d l).1).fuse), .bool (((QeH1 d l).1).down)]) (r_whole (hm187.at 2 rfl) Tryd.underlying25 rfl (by exact sz_25) rfl rfl) ?_
  refine lm 70 (J ((QeH1 d l).2)) ?_
  simp only [nz]
  have ho198 := (rd_one ((hm187.see 7 rfl).1))
  have ho199 := (rd_one ((hm187.see 7 rfl).2))
  refine lst rfl (m_store 3 25 _ _ 0 (.agg #[v121, v122, J (((QeH1 d l).1).fuse), .bool (((QeH1 d l).1).down)]) (old := #[.slice none 0 0, .slice none 0 0, J 0, .bool false]) (new := #[v121, v122, J (((QeH1 d l).1).fuse), .bool (((QeH1 d l).1).down)]) hm187 rfl rfl rfl rfl rfl (by exact sz_25) (show 0 + 4 ≤ 4 from by decide) a4 rfl (fun w196 hm197 => ?_))
  refine la 5 (J ((QeH1 d l).2)) ?_
  simp only [nz]
  refine wn (tj (hK195 _ _ (wp_ret (then_r ?_))))
  have he200 : commit_m d l = (((QeH1 d l).1), (QeH1 d l).2) := by unfold commit_m; rw [if_neg hs12, if_neg hs21, if_neg hc30, if_neg hc42, if_neg hc51, if_neg hc62, if_neg hc101, if_pos hc194] <;> rfl
  exact ⟨rfl, .tuple #[.agg #[v121, v122, J (((QeH1 d l).1).fuse), .bool (((QeH1 d l).1).down)], J ((QeH1 d l).2)], Mem.res_ct rfl rfl (hm197.at 3 rfl) Tryd.underlying25 rfl (by exact sz_25) rfl, ⟨⟨_, rfl, v121, v122, (by rw [he200]), by rw [he200]; exact hm197.give (hm197.from 7 rfl)⟩, hm197.below⟩⟩
 refine wp_skip (tj (hK192 _ _ (wk (fun K201 hK201 => (wq ?_)))))
 refine lw 71 (.agg #[v121, v122, J (((QeH1 d l).1).fuse), .bool (((QeH1 d l).1).down)]) (r_whole (hm187.at 2 rfl) Tryd.underlying25 rfl (by exact sz_25) rfl rfl) ?_
 refine lm 72 (J ((current_m d).1)) ?_
 refine lm 73 (lv0) ?_
 simp only [nz]
 refine lst rfl (m_callx hm187 74 rfl (run_bring rfl rfl rfl rfl) (bring_any ((QeH1 d l).1) ((current_m d).1) l v121 v122 lv0 (seeS _) _ (hm187.from 7 rfl) (hm187.from 1 rfl) (by omega) (by have h2048 := few_of (d := d) (by assumption); simp only [List.length_cons, List.length_nil] at *; omega) (by omega) (by have h2048 := few_of (d := d) (by assumption); omega) (by have hcu := cur_of (d := d) (by omega); omega) (by have hcu := cur_of (d := d) (by omega); omega) (by exact rise_ats (d := d) (by assumption) (by assumption))) (fun vv208 w202 hR209 hb210 hm203 => ?_))
 obtain ⟨v204, v205, rfl, hg211⟩ := hR209
 obtain ⟨F207, hm212⟩ : ∃ F207, Mm none S w w202 [.see (DkR d dv0 dv1) Fd, .see (Rs eWr 2 l lv0) Fl, .blk g4 #[v121, v122, J (((QeH1 d l).1).fuse), .bool (((QeH1 d l).1).down)] 25, .blk g7 #[.slice none 0 0, .slice none 0 0, J 0, .bool false] 25, .see (Rs eS 1 (body_m ((current_m d).1) l) v72) (fp v72 ((body_m ((current_m d).1) l).flatMap eS)), .see (DkR ((putfl_m d 2 (body_m ((current_m d).1) l)).1) v83 v84) F86, .see (Rs eS 1 ([(QeH2 d l)] : List (List UInt8)) (Sl g116 0 1 1)) (fp (Sl g116 0 1 1) (List.flatMap eS ([(QeH2 d l)] : List (List UInt8)))), .see (DkR ((QeH1 d l).1) v121 v122) F124, .see (DkR ((bring_m ((QeH1 d l).1) ((current_m d).1) l).1) v204 v205) F207] := Mm.tookS hm187 hb210 hg211
 clear hm203 hg211 hb210
 simp only [nz]
 refine lw 75 (.agg #[v204, v205, J (((bring_m ((QeH1 d l).1) ((current_m d).1) l).1).fuse), .bool (((bring_m ((QeH1 d l).1) ((current_m d).1) l).1).down)]) (run_ex rfl rfl rfl) ?_
 refine lw 76 (J ((bring_m ((QeH1 d l).1) ((current_m d).1) l).2)) (run_ex rfl rfl rfl) ?_
 simp only [nz]
 have ho215 := (rd_one ((hm212.see 8 rfl).1))
 have ho216 := (rd_one ((hm212.see 8 rfl).2))
 refine lst rfl (m_store 3 25 _ _ 0 (.agg #[v204, v205, J (((bring_m ((QeH1 d l).1) ((current_m d).1) l).1).fuse), .bool (((bring_m ((QeH1 d l).1) ((current_m d).1) l).1).down)]) (old := #[.slice none 0 0, .slice none 0 0, J 0, .bool false]) (new := #[v204, v205, J (((bring_m ((QeH1 d l).1) ((current_m d).1) l).1).fuse), .bool (((bring_m ((QeH1 d l).1) ((current_m d).1) l).1).down)]) hm212 rfl rfl rfl rfl rfl (by exact sz_25) (show 0 + 4 ≤ 4 from by decide) a4 rfl (fun w213 hm214 => ?_))
 refine la 5 (J ((bring_m ((QeH1 d l).1) ((current_m d).1) l).2)) ?_
 simp only [nz]
 refine wn (tj (hK201 _ _ (wp_ret ?_)))
 have he217 : commit_m d l = (((bring_m ((QeH1 d l).1) ((current_m d).1) l).1), (bring_m ((QeH1 d l).1) ((current_m d).1) l).2) := by unfold commit_m; rw [if_neg hs12, if_neg hs21, if_neg hc30, if_neg hc42, if_neg hc51, if_neg hc62, if_neg hc101, if_neg hc194] <;> rfl
 exact ⟨rfl, .tuple #[.agg #[v204, v205, J (((bring_m ((QeH1 d l).1) ((current_m d).1) l).1).fuse), .bool (((bring_m ((QeH1 d l).1) ((current_m d).1) l).1).down)], J ((bring_m ((QeH1 d l).1) ((current_m d).1) l).2)], Mem.res_ct rfl rfl (hm214.at 3 rfl) Tryd.underlying25 rfl (by exact sz_25) rfl, ⟨⟨_, rfl, v204, v205, (by rw [he217]), by rw [he217]; exact hm214.give (hm214.from 8 rfl)⟩, hm214.below⟩⟩
theorem run_commit {o : Oper} {a : Act} {w : World} {x0 x1 : Operand} {v0 v1 : Value} (ho : o.op = .call { callee := .value (.func 20), args := #[x0, x1], argTypes := #[25, 23] }) (h0 : a.eval x0 = v0) (h1 : a.eval x1 = v1) :
  (execOp a.eval o).run Tryd.prog w = .ok (.enter 20 #[v0, v1]) w := by
 unfold execOp
 simp only [ho]
 have hf : a.eval (.func 20) = .func (.func 20) #[] #[] := rfl
 generalize a.eval = f at *
 go_simp
end Go.Proofs.YtnmaaijeamlplaaDoor.Bk
