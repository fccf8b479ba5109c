/- Layer 7: PathBack. -/
import Derived.Test.YtdohmmdfenafnaaDoorPaF
namespace Go.Proofs.YtdohmmdfenafnaaDoor.Pa
open Go.RowKit
open Go.Proofs.YtdohmmdfenafnaaDoor.Sym Go.Proofs.YtdohmmdfenafnaaDoor.Mem
open Go.Proofs.YtdohmmdfenafnaaDoor.Sx hiding Mm m_alloc m_store m_put m_call m_callx m_make m_append r_string r_ixS
set_option linter.unusedVariables false
attribute [local irreducible] wpList Oper.wp

def pback_m_j1 (s : List UInt8) (l : List (List UInt8)) : Sum (Unit) (Bool) :=
  if (parts_m s).2 = 0 then
    if ¬ (pjoin_m ((parts_m s).1)) = s then
      .inr false
    else
      .inl ()
  else
    .inl ()

def pback_m_b0 (s : List UInt8) (l : List (List UInt8)) (rec : Nat → Sum (Nat) (Bool)) (x41 : Nat) : Sum (Nat) (Bool) :=
  if x41 < l.length then
    if (!(part_m (l.getD x41 []))) = true then
      .inr awake_m
    else
      rec (x41 + 1)
  else
    .inl x41
def pback_m_l0 (s : List UInt8) (l : List (List UInt8)) : Nat → Nat → Sum (Nat) (Bool)
  | 0, zz => .inl zz
  | nq + 1, zz => pback_m_b0 s l (pback_m_l0 s l nq) zz

def pback_m_k0 (s : List UInt8) (l : List (List UInt8)) (y45 : Nat) : Bool :=
  if awake_m = true then
    if (parts_m (pjoin_m l)).2 = 0 then
      if (same_m ((parts_m (pjoin_m l)).1) l) = true then
        true
      else
        if (parts_m (pjoin_m l)).2 = 3 then
          (decide (200 < (pjoin_m l).length))
        else
          false
    else
      if (parts_m (pjoin_m l)).2 = 3 then
        (decide (200 < (pjoin_m l).length))
      else
        false
  else
    false

def pback_m_c1 (s : List UInt8) (l : List (List UInt8)) : Bool :=
  if l.length < 1 then
    awake_m
  else
    if 16 < l.length then
      awake_m
    else
      fin (pback_m_l0 s l ((l.length - 0) + 1) 0) (fun r => r) (fun zz => pback_m_k0 s l zz)

def pback_m (s : List UInt8) (l : List (List UInt8)) : Bool :=
  fin (pback_m_j1 s l) (fun r => r) (fun zz => pback_m_c1 s l)

set_option maxHeartbeats 4000000 in
set_option maxRecDepth 100000 in
theorem pback_any (s : List UInt8) (l : List (List UInt8)) (lv0 : Value) (w : World) (hl : Rs eS 1 l lv0 w) (hT : Laid w) (hp0 : s.length ≤ 140737488351232) (hp1 : l.length ≤ 8796093022207) : Calls Tryd.prog 5 #[.string (tx s), lv0] w (fun e w' => e = .returned (.bool ((pback_m s l))) ∧ Below w.heap.size w w') := by
  go_enter Tryd.func5, Tryd.ntmps5
  have hm00 := Mm.nil none (fun _ => True) w
  obtain ⟨Fl, hm01⟩ : ∃ Fl, Mm none (fun _ => True) w w [.see (Rs eS 1 l lv0) Fl] := hm00.come (Rs.all hl)
  have hm0 := hm01
  refine wp_seq_k (fun K1 hK1 => ?_)
  refine wp_region_lit ?_
  refine lvw 4 (.bool false) rfl rfl (run_as rfl rfl) ?_
  simp only [nz1, nz2, nz3]
  refine wpList_nil ?_
  refine then_n (hK1 _ _ ?_)
  refine wp_seq_k (fun K2 hK2 => ?_)
  refine wp_region_lit ?_
  refine lvw 12 (.string (tx s)) rfl rfl (run_mv rfl rfl) ?_
  simp only [nz1, nz2, nz3]
  refine lst rfl (m_callx hm0 13 rfl (run_parts rfl rfl) (parts_any s  (seeS [.see (Rs eS 1 l lv0) Fl]) _  (Laid.below hT hm0.below) ) (fun vv8 w3 hR9 hb10 hm4 => ?_))
  obtain ⟨v5, rfl, hg11⟩ := hR9
  obtain ⟨F7, hm12⟩ : ∃ F7, Mm none (fun _ => True) w w3 [.see (Rs eS 1 l lv0) Fl, .see (Rs eS 1 ((parts_m s).1) v5) F7] := Mm.tookS hm0 hb10 hg11
  clear hm4 hg11 hb10
  have hf13 : (parts_m s).1.length ≤ 201 ∧ (join_m (parts_m s).1 [47]).length ≤ s.length ∧ ((parts_m s).2 ≠ 0 ∨ (s.length ≤ 200 ∧ 1 ≤ s.length ∧ 1 ≤ (parts_m s).1.length ∧ (parts_m s).1.length ≤ 16)) := parts_facts s
  simp only [nz1, nz2, nz3]
  refine lvw 11 (.tuple #[v5, .int .i64 ((parts_m s).2)]) rfl rfl (run_mv rfl rfl) ?_
  simp only [nz1, nz2, nz3]
  refine lvw 14 (v5) rfl rfl (run_ex rfl rfl rfl) ?_
  simp only [nz1, nz2, nz3]
  refine lvw 15 (.int .i64 ((parts_m s).2)) rfl rfl (run_ex rfl rfl rfl) ?_
  simp only [nz1, nz2, nz3]
  refine lvw 5 (v5) rfl rfl (run_as rfl rfl) ?_
  simp only [nz1, nz2, nz3]
  refine lvw 6 (.int .i64 ((parts_m s).2)) rfl rfl (run_as rfl rfl) ?_
  simp only [nz1, nz2, nz3]
  refine wpList_nil ?_
  refine then_n (hK2 _ _ ?_)
  refine wp_seq_k (fun K14 hK14 => ?_)
  refine wp_cutK (fun a' w' => ∃ (uj1 : Nat → Value), pback_m_j1 s l = .inl () ∧ a' = ⟨#[.string (tx s), lv0, undef, undef, uj1 0, v5, .int .i64 ((parts_m s).2), undef, undef, undef, undef, .tuple #[v5, .int .i64 ((parts_m s).2)], .string (tx s), .tuple #[v5, .int .i64 ((parts_m s).2)], v5, .int .i64 ((parts_m s).2), uj1 1, uj1 2, uj1 3, uj1 4, uj1 5, uj1 6, uj1 7, uj1 8, undef, undef, undef, undef, undef, undef, undef, undef, undef, undef, undef, undef, undef, undef, undef, undef, undef, undef, undef, undef, undef, undef, undef, undef, undef, undef, undef, undef, undef, undef, undef, undef, undef, undef, undef, undef, undef, undef, undef, undef, undef, undef, undef, undef, undef, undef, undef, undef], []⟩ ∧ Mm none (fun _ => True) w w' [.see (Rs eS 1 l lv0) Fl, .see (Rs eS 1 ((parts_m s).1) v5) F7]) ?_ ?_
  · refine wp_seq_k (fun K16 hK16 => ?_)
    refine wp_region_lit ?_
    refine lvw 16 (.int .i64 ((parts_m s).2)) rfl rfl (run_mv rfl rfl) ?_
    simp only [nz1, nz2, nz3]
    refine lvb 17 ((parts_m s).2 = 0) rfl rfl (z_eql ((parts_m s).2) 0 rfl rfl rfl) (fun hs17 => ?_) (fun hs17 => ?_)
    rotate_left
    · simp only [nz1, nz2, nz3]
      refine lvw 18 (.bool false) rfl rfl (run_mv rfl rfl) ?_
      simp only [nz1, nz2, nz3]
      refine lst_skip 19 rfl rfl ?_
      simp only [nz1, nz2, nz3]
      refine lst_skip 20 rfl rfl ?_
      simp only [nz1, nz2, nz3]
      refine lst_skip 21 rfl rfl ?_
      simp only [nz1, nz2, nz3]
      refine lst_skip 22 rfl rfl ?_
      simp only [nz1, nz2, nz3]
      refine lvw 23 (.bool false) rfl rfl (run_pickf rfl rfl rfl) ?_
      simp only [nz1, nz2, nz3]
      refine wpList_nil ?_
      refine then_n (hK16 _ _ ?_)
      refine cond_f rfl ?_
      refine wp_skip ?_
      refine then_n ?_
      exact ⟨(fun qq => List.getD [.bool false, .int .i64 ((parts_m s).2), .bool false, .bool false, undef, undef, undef, undef, .bool false] qq undef), (show pback_m_j1 s l = .inl () from by unfold pback_m_j1; rw [if_neg hs17] <;> rfl), rfl, hm12⟩
    simp only [nz1, nz2, nz3]
    refine lvw 18 (.bool true) rfl rfl (run_mv rfl rfl) ?_
    simp only [nz1, nz2, nz3]
    refine lvw 19 (v5) rfl rfl (run_mv rfl rfl) ?_
    simp only [nz1, nz2, nz3]
    refine lst rfl (m_call hm12 20 (.string (tx (pjoin_m ((parts_m s).1)))) rfl (run_pjoin rfl rfl) (pjoin_any ((parts_m s).1) v5 _ (hm12.see 1 rfl) (by first | omega | assumption | decide | exact back_len l _ hbk.1 hbk.2 (by omega) | (simp; done) | (simp; omega)) (by first | omega | assumption | decide | exact back_len l _ hbk.1 hbk.2 (by omega) | (simp; done) | (simp; omega))) (fun w18 (hm19 : Mm none (fun _ => True) w w18 [.see (Rs eS 1 l lv0) Fl, .see (Rs eS 1 ((parts_m s).1) v5) F7]) => ?_))
    simp only [nz1, nz2, nz3]
    refine lvw 21 (.string (tx s)) rfl rfl (run_mv rfl rfl) ?_
    simp only [nz1, nz2, nz3]
    refine lvw 22 (.bool (decide (¬ (pjoin_m ((parts_m s).1)) = s))) rfl rfl (t_neq (pjoin_m ((parts_m s).1)) s rfl rfl rfl) ?_
    simp only [nz1, nz2, nz3]
    refine lvw 23 (.bool (decide (¬ (pjoin_m ((parts_m s).1)) = s))) rfl rfl (run_pick rfl rfl rfl) ?_
    simp only [nz1, nz2, nz3]
    refine wpList_nil ?_
    refine then_n (hK16 _ _ ?_)
    refine cond_d (¬ (pjoin_m ((parts_m s).1)) = s) rfl (fun hc20 => ?_) (fun hc20 => ?_)
    rotate_left
    · refine wp_skip ?_
      refine then_n ?_
      exact ⟨(fun qq => List.getD [.bool false, .int .i64 ((parts_m s).2), .bool true, .bool true, v5, .string (tx (pjoin_m ((parts_m s).1))), .string (tx s), .bool (decide (¬ (pjoin_m ((parts_m s).1)) = s)), .bool (decide (¬ (pjoin_m ((parts_m s).1)) = s))] qq undef), (show pback_m_j1 s l = .inl () from by unfold pback_m_j1; rw [if_pos hs17, if_neg hc20] <;> rfl), rfl, hm19⟩
    refine wp_seq_k (fun K21 hK21 => ?_)
    refine wp_region_lit ?_
    refine lvw 4 (.bool false) rfl rfl (run_as rfl rfl) ?_
    simp only [nz1, nz2, nz3]
    refine wpList_nil ?_
    refine then_n (hK21 _ _ ?_)
    refine wp_ret ?_
    refine then_r ?_
    refine then_r ?_
    have he22 : pback_m_j1 s l = .inr false := (show pback_m_j1 s l = .inr false from by unfold pback_m_j1; rw [if_pos hs17, if_pos hc20] <;> rfl)
    have he23 : pback_m s l = false := (show pback_m s l = false from by unfold pback_m; rw [he22] <;> rfl)
    exact ⟨rfl, .bool false, res_t rfl rfl, ⟨by rw [he23], hm19.below⟩⟩
  rintro _ w24 ⟨uj1, hx15, rfl, hm25⟩
  have hq26 : pback_m s l = pback_m_c1 s l := (show pback_m s l = pback_m_c1 s l from by unfold pback_m; rw [hx15] <;> rfl)
  refine then_n (hK14 _ _ ?_)
  refine wp_seq_k (fun K27 hK27 => ?_)
  refine wp_seq_k (fun K28 hK28 => ?_)
  refine wp_region_lit ?_
  refine lvw 24 (lv0) rfl rfl (run_mv rfl rfl) ?_
  simp only [nz1, nz2, nz3]
  refine lvw 25 (.int .i64 ((l.length : Nat) : Int)) rfl rfl (s_len ((hm25.see 0 rfl)) rfl Tryd.underlying22 rfl) ?_
  simp only [nz1, nz2, nz3]
  refine lvb 26 (l.length < 1) rfl rfl (r_lss l.length 1 rfl rfl rfl) (fun hs29 => ?_) (fun hs29 => ?_)
  · simp only [nz1, nz2, nz3]
    refine lvw 27 (.bool true) rfl rfl (run_mv rfl rfl) ?_
    simp only [nz1, nz2, nz3]
    refine lst_skip 28 rfl rfl ?_
    simp only [nz1, nz2, nz3]
    refine lst_skip 29 rfl rfl ?_
    simp only [nz1, nz2, nz3]
    refine lst_skip 30 rfl rfl ?_
    simp only [nz1, nz2, nz3]
    refine lvw 31 (.bool true) rfl rfl (run_pick rfl rfl rfl) ?_
    simp only [nz1, nz2, nz3]
    refine wpList_nil ?_
    refine then_n (hK28 _ _ ?_)
    refine cond_t rfl ?_
    refine wp_seq_k (fun K30 hK30 => ?_)
    refine wp_region_lit ?_
    refine lst rfl (m_call hm25 32 (.bool (awake_m)) rfl (run_awake rfl) (awake_any   _  (Laid.below hT hm25.below) ) (fun w31 (hm32 : Mm none (fun _ => True) w w31 [.see (Rs eS 1 l lv0) Fl, .see (Rs eS 1 ((parts_m s).1) v5) F7]) => ?_))
    simp only [nz1, nz2, nz3]
    refine lvw 4 (.bool (awake_m)) rfl rfl (run_as rfl rfl) ?_
    simp only [nz1, nz2, nz3]
    refine wpList_nil ?_
    refine then_n (hK30 _ _ ?_)
    refine wp_ret ?_
    refine then_r ?_
    have he33 : pback_m s l = awake_m := (hq26.trans (show pback_m_c1 s l = awake_m from by unfold pback_m_c1; rw [if_pos hs29] <;> rfl))
    exact ⟨rfl, .bool (awake_m), res_t rfl rfl, ⟨by rw [he33], hm32.below⟩⟩
  simp only [nz1, nz2, nz3]
  refine lvw 27 (.bool false) rfl rfl (run_mv rfl rfl) ?_
  simp only [nz1, nz2, nz3]
  refine lvw 28 (lv0) rfl rfl (run_mv rfl rfl) ?_
  simp only [nz1, nz2, nz3]
  refine lvw 29 (.int .i64 ((l.length : Nat) : Int)) rfl rfl (s_len ((hm25.see 0 rfl)) rfl Tryd.underlying22 rfl) ?_
  simp only [nz1, nz2, nz3]
  refine lvw 30 (.bool (decide (16 < l.length))) rfl rfl (r_gtr l.length 16 rfl rfl rfl) ?_
  simp only [nz1, nz2, nz3]
  refine lvw 31 (.bool (decide (16 < l.length))) rfl rfl (run_pickf rfl rfl rfl) ?_
  simp only [nz1, nz2, nz3]
  refine wpList_nil ?_
  refine then_n (hK28 _ _ ?_)
  refine cond_d (16 < l.length) rfl (fun hc34 => ?_) (fun hc34 => ?_)
  · refine wp_seq_k (fun K35 hK35 => ?_)
    refine wp_region_lit ?_
    refine lst rfl (m_call hm25 32 (.bool (awake_m)) rfl (run_awake rfl) (awake_any   _  (Laid.below hT hm25.below) ) (fun w36 (hm37 : Mm none (fun _ => True) w w36 [.see (Rs eS 1 l lv0) Fl, .see (Rs eS 1 ((parts_m s).1) v5) F7]) => ?_))
    simp only [nz1, nz2, nz3]
    refine lvw 4 (.bool (awake_m)) rfl rfl (run_as rfl rfl) ?_
    simp only [nz1, nz2, nz3]
    refine wpList_nil ?_
    refine then_n (hK35 _ _ ?_)
    refine wp_ret ?_
    refine then_r ?_
    have he38 : pback_m s l = awake_m := (hq26.trans (show pback_m_c1 s l = awake_m from by unfold pback_m_c1; rw [if_neg hs29, if_pos hc34] <;> rfl))
    exact ⟨rfl, .bool (awake_m), res_t rfl rfl, ⟨by rw [he38], hm37.below⟩⟩
  refine wp_skip ?_
  refine then_n (hK27 _ _ ?_)
  refine wp_seq_k (fun K39 hK39 => ?_)
  refine wp_seq_k (fun K40 hK40 => ?_)
  refine wp_region_lit ?_
  refine lvw 7 (.int .i64 0) rfl rfl (run_as rfl rfl) ?_
  simp only [nz1, nz2, nz3]
  refine wpList_nil ?_
  refine then_n (hK40 _ _ ?_)
  refine wp_cutK (fun a' w' => ∃ (y45 : Nat) (yu0 : Nat → Value), pback_m_l0 s l ((l.length - 0) + 1) 0 = .inl y45 ∧ ((∀ k, k < y45 → part_m (l.getD k []) = true) ∧ l.length ≤ y45) ∧ a' = ⟨#[.string (tx s), lv0, undef, undef, yu0 0, v5, .int .i64 ((parts_m s).2), .int .i64 ((y45 : Nat) : Int), undef, undef, undef, .tuple #[v5, .int .i64 ((parts_m s).2)], .string (tx s), .tuple #[v5, .int .i64 ((parts_m s).2)], v5, .int .i64 ((parts_m s).2), uj1 1, uj1 2, uj1 3, uj1 4, uj1 5, uj1 6, uj1 7, uj1 8, lv0, .int .i64 ((l.length : Nat) : Int), .bool false, .bool false, lv0, .int .i64 ((l.length : Nat) : Int), .bool (decide (16 < l.length)), .bool (decide (16 < l.length)), undef, yu0 1, yu0 2, yu0 3, yu0 4, yu0 5, yu0 6, yu0 7, yu0 8, yu0 9, yu0 10, yu0 11, yu0 12, yu0 13, undef, undef, undef, undef, undef, undef, undef, undef, undef, undef, undef, undef, undef, undef, undef, undef, undef, undef, undef, undef, undef, undef, undef, undef, undef, undef], []⟩ ∧ Mm none (fun _ => True) w w' [.see (Rs eS 1 l lv0) Fl, .see (Rs eS 1 ((parts_m s).1) v5) F7]) ?_ ?_
  · refine wp_block ?_
    refine wp_loop_n (fun n' a' w' => ∃ (n42 : Nat) (x41 : Nat) (u0 : Nat → Value), n' = n42 ∧ (l.length - x41) < n42 ∧ pback_m_l0 s l ((l.length - 0) + 1) 0 = pback_m_l0 s l n42 x41 ∧ (∀ k, k < x41 → part_m (l.getD k []) = true) ∧ a' = ⟨#[.string (tx s), lv0, undef, undef, u0 0, v5, .int .i64 ((parts_m s).2), .int .i64 ((x41 : Nat) : Int), undef, undef, undef, .tuple #[v5, .int .i64 ((parts_m s).2)], .string (tx s), .tuple #[v5, .int .i64 ((parts_m s).2)], v5, .int .i64 ((parts_m s).2), uj1 1, uj1 2, uj1 3, uj1 4, uj1 5, uj1 6, uj1 7, uj1 8, lv0, .int .i64 ((l.length : Nat) : Int), .bool false, .bool false, lv0, .int .i64 ((l.length : Nat) : Int), .bool (decide (16 < l.length)), .bool (decide (16 < l.length)), undef, u0 1, u0 2, u0 3, u0 4, u0 5, u0 6, u0 7, u0 8, u0 9, u0 10, u0 11, u0 12, u0 13, undef, undef, undef, undef, undef, undef, undef, undef, undef, undef, undef, undef, undef, undef, undef, undef, undef, undef, undef, undef, undef, undef, undef, undef, undef, undef], []⟩ ∧ Mm none (fun _ => True) w w' [.see (Rs eS 1 l lv0) Fl, .see (Rs eS 1 ((parts_m s).1) v5) F7]) ⟨((l.length - 0) + 1), 0, (fun qq => List.getD [uj1 0, undef, undef, undef, undef, undef, undef, undef, undef, undef, undef, undef, undef, undef] qq undef), rfl, Nat.lt_succ_self _, rfl, (fun k hk => by omega), rfl, hm25⟩ ?_
    rintro n42 _ w47 ⟨_, x41, u0, rfl, hl51, hi44, hbk, rfl, hm48⟩ R49 hR49
    obtain ⟨k43, rfl⟩ : ∃ k, n42 = k + 1 := ⟨n42 - 1, by omega⟩
    refine wp_seq_k (fun K52 hK52 => ?_)
    refine wp_seq_k (fun K53 hK53 => ?_)
    refine wp_region_lit ?_
    refine lvw 33 (.int .i64 ((x41 : Nat) : Int)) rfl rfl (run_mv rfl rfl) ?_
    simp only [nz1, nz2, nz3]
    refine lvw 34 (lv0) rfl rfl (run_mv rfl rfl) ?_
    simp only [nz1, nz2, nz3]
    refine lvw 35 (.int .i64 ((l.length : Nat) : Int)) rfl rfl (s_len ((hm48.see 0 rfl)) rfl Tryd.underlying22 rfl) ?_
    simp only [nz1, nz2, nz3]
    refine lvw 36 (.bool (decide (x41 < l.length))) rfl rfl (r_lss x41 l.length rfl rfl rfl) ?_
    simp only [nz1, nz2, nz3]
    refine wpList_nil ?_
    refine then_n (hK53 _ _ ?_)
    refine cond_d (x41 < l.length) rfl (fun hc54 => ?_) (fun hc54 => ?_)
    rotate_left
    · refine wp_exit ?_
      refine then_x ?_
      refine then_x ?_
      refine blk_x ?_
      refine then_n ?_
      exact ⟨x41, (fun qq => List.getD [u0 0, .int .i64 ((x41 : Nat) : Int), lv0, .int .i64 ((l.length : Nat) : Int), .bool (decide (x41 < l.length)), u0 5, u0 6, u0 7, u0 8, u0 9, u0 10, u0 11, u0 12, u0 13] qq undef), (hi44.trans (show pback_m_b0 s l (pback_m_l0 s l k43) x41 = .inl x41 from by unfold pback_m_b0; rw [if_neg hc54] <;> rfl)), ⟨hbk, (by omega)⟩, rfl, hm48⟩
    refine wp_skip ?_
    refine then_n (hK52 _ _ ?_)
    refine wp_seq_k (fun K55 hK55 => ?_)
    refine wp_block ?_
    refine wp_seq_k (fun K56 hK56 => ?_)
    refine wp_region_lit ?_
    refine lvw 39 (lv0) rfl rfl (run_mv rfl rfl) ?_
    simp only [nz1, nz2, nz3]
    refine lvw 40 (.int .i64 ((x41 : Nat) : Int)) rfl rfl (run_mv rfl rfl) ?_
    simp only [nz1, nz2, nz3]
    refine lvw 41 (.pointer (some ⟨(bk lv0), (po lv0 + x41 * 1), none⟩)) rfl rfl (r_ixv ((hm48.see 0 rfl)) x41 (by omega) Tryd.underlying22 sz_9 rfl rfl rfl) ?_
    simp only [nz1, nz2, nz3]
    refine lvw 42 (.string (tx (l.getD x41 []))) rfl rfl (r_cellw (Rs.cell ((hm48.see 0 rfl)) eS_len [] x41 (by omega) 0 _ rfl) Tryd.underlying9 rfl rfl rfl) ?_
    simp only [nz1, nz2, nz3]
    refine lst rfl (m_call hm48 43 (.bool ((part_m (l.getD x41 [])))) rfl (run_part rfl rfl) (part_any (l.getD x41 [])  _  (Laid.below hT hm48.below) ) (fun w57 (hm58 : Mm none (fun _ => True) w w57 [.see (Rs eS 1 l lv0) Fl, .see (Rs eS 1 ((parts_m s).1) v5) F7]) => ?_))
    simp only [nz1, nz2, nz3]
    refine lvw 44 (.bool (!(part_m (l.getD x41 [])))) rfl rfl (r_not (part_m (l.getD x41 [])) rfl rfl) ?_
    simp only [nz1, nz2, nz3]
    refine wpList_nil ?_
    refine then_n (hK56 _ _ ?_)
    refine cond_B (!(part_m (l.getD x41 []))) rfl (fun hc59 => ?_) (fun hc59 => ?_)
    rotate_left
    · refine wp_skip ?_
      refine blk_n ?_
      refine then_n (hK55 _ _ ?_)
      refine wp_region_lit ?_
      refine lvw 37 (.int .i64 ((x41 : Nat) : Int)) rfl rfl (run_mv rfl rfl) ?_
      simp only [nz1, nz2, nz3]
      refine lvw 38 (.int .i64 (((x41 + 1) : Nat) : Int)) rfl rfl (r_add x41 1 (show (x41 + 1) < 9223372036854775808 from by omega) rfl rfl rfl) ?_
      simp only [nz1, nz2, nz3]
      refine lvw 7 (.int .i64 (((x41 + 1) : Nat) : Int)) rfl rfl (run_as rfl rfl) ?_
      simp only [nz1, nz2, nz3]
      refine wpList_nil ?_
      refine then_n (hR49 _ _ _ ⟨k43, (x41 + 1), (fun qq => List.getD [u0 0, .int .i64 ((x41 : Nat) : Int), lv0, .int .i64 ((l.length : Nat) : Int), .bool (decide (x41 < l.length)), .int .i64 ((x41 : Nat) : Int), .int .i64 (((x41 + 1) : Nat) : Int), lv0, .int .i64 ((x41 : Nat) : Int), .pointer (some ⟨(bk lv0), (po lv0 + x41 * 1), none⟩), .string (tx (l.getD x41 [])), .bool ((part_m (l.getD x41 []))), .bool (!(part_m (l.getD x41 []))), u0 13] qq undef), rfl, (by first | omega | (simp; omega) | (simp at *; omega)), (hi44.trans (show pback_m_b0 s l (pback_m_l0 s l k43) x41 = pback_m_l0 s l k43 (x41 + 1) from by unfold pback_m_b0; rw [if_pos hc54, if_neg hc59] <;> rfl)), (fun k hk => by by_cases e : k = x41; (subst e; exact Classical.not_not.1 (fun e => by simp_all)); exact hbk k (by omega)), rfl, hm58⟩ ?_)
      omega
    refine wp_seq_k (fun K60 hK60 => ?_)
    refine wp_region_lit ?_
    refine lst rfl (m_call hm58 45 (.bool (awake_m)) rfl (run_awake rfl) (awake_any   _  (Laid.below hT hm58.below) ) (fun w61 (hm62 : Mm none (fun _ => True) w w61 [.see (Rs eS 1 l lv0) Fl, .see (Rs eS 1 ((parts_m s).1) v5) F7]) => ?_))
    simp only [nz1, nz2, nz3]
    refine lvw 4 (.bool (awake_m)) rfl rfl (run_as rfl rfl) ?_
    simp only [nz1, nz2, nz3]
    refine wpList_nil ?_
    refine then_n (hK60 _ _ ?_)
    refine wp_ret ?_
    refine blk_r ?_
    refine then_r ?_
    refine then_r ?_
    refine blk_r ?_
    refine then_r ?_
    refine then_r ?_
    have he63 : pback_m_l0 s l ((l.length - 0) + 1) 0 = .inr awake_m := (hi44.trans (show pback_m_b0 s l (pback_m_l0 s l k43) x41 = .inr awake_m from by unfold pback_m_b0; rw [if_pos hc54, if_pos hc59] <;> rfl))
    have he64 : pback_m s l = awake_m := (hq26.trans (show pback_m_c1 s l = awake_m from by unfold pback_m_c1; rw [if_neg hs29, if_neg hc34, he63] <;> rfl))
    exact ⟨rfl, .bool (awake_m), res_t rfl rfl, ⟨by rw [he64], hm62.below⟩⟩
  rintro _ w65 ⟨y45, yu0, hx46, hbk, rfl, hm66⟩
  have hq67 : pback_m s l = pback_m_k0 s l y45 := (hq26.trans (show pback_m_c1 s l = pback_m_k0 s l y45 from by unfold pback_m_c1; rw [if_neg hs29, if_neg hc34, hx46] <;> rfl))
  refine then_n (hK39 _ _ ?_)
  refine wp_seq_k (fun K68 hK68 => ?_)
  refine wp_region_lit ?_
  refine lvw 46 (lv0) rfl rfl (run_mv rfl rfl) ?_
  simp only [nz1, nz2, nz3]
  refine lst rfl (m_call hm66 47 (.string (tx (pjoin_m l))) rfl (run_pjoin rfl rfl) (pjoin_any l lv0 _ (hm66.see 0 rfl) (by first | omega | assumption | decide | exact back_len l _ hbk.1 hbk.2 (by omega) | (simp; done) | (simp; omega)) (by first | omega | assumption | decide | exact back_len l _ hbk.1 hbk.2 (by omega) | (simp; done) | (simp; omega))) (fun w69 (hm70 : Mm none (fun _ => True) w w69 [.see (Rs eS 1 l lv0) Fl, .see (Rs eS 1 ((parts_m s).1) v5) F7]) => ?_))
  simp only [nz1, nz2, nz3]
  refine lvw 8 (.string (tx (pjoin_m l))) rfl rfl (run_as rfl rfl) ?_
  simp only [nz1, nz2, nz3]
  refine wpList_nil ?_
  refine then_n (hK68 _ _ ?_)
  refine wp_seq_k (fun K71 hK71 => ?_)
  refine wp_region_lit ?_
  refine lvw 49 (.string (tx (pjoin_m l))) rfl rfl (run_mv rfl rfl) ?_
  simp only [nz1, nz2, nz3]
  refine lst rfl (m_callx hm70 50 rfl (run_parts rfl rfl) (parts_any (pjoin_m l)  (seeS [.see (Rs eS 1 l lv0) Fl, .see (Rs eS 1 ((parts_m s).1) v5) F7]) _  (Laid.below hT hm70.below) ) (fun vv77 w72 hR78 hb79 hm73 => ?_))
  obtain ⟨v74, rfl, hg80⟩ := hR78
  obtain ⟨F76, hm81⟩ : ∃ F76, Mm none (fun _ => True) w w72 [.see (Rs eS 1 l lv0) Fl, .see (Rs eS 1 ((parts_m s).1) v5) F7, .see (Rs eS 1 ((parts_m (pjoin_m l)).1) v74) F76] := Mm.tookS hm70 hb79 hg80
  clear hm73 hg80 hb79
  have hf82 : (parts_m (pjoin_m l)).1.length ≤ 201 ∧ (join_m (parts_m (pjoin_m l)).1 [47]).length ≤ (pjoin_m l).length ∧ ((parts_m (pjoin_m l)).2 ≠ 0 ∨ ((pjoin_m l).length ≤ 200 ∧ 1 ≤ (pjoin_m l).length ∧ 1 ≤ (parts_m (pjoin_m l)).1.length ∧ (parts_m (pjoin_m l)).1.length ≤ 16)) := parts_facts (pjoin_m l)
  simp only [nz1, nz2, nz3]
  refine lvw 48 (.tuple #[v74, .int .i64 ((parts_m (pjoin_m l)).2)]) rfl rfl (run_mv rfl rfl) ?_
  simp only [nz1, nz2, nz3]
  refine lvw 51 (v74) rfl rfl (run_ex rfl rfl rfl) ?_
  simp only [nz1, nz2, nz3]
  refine lvw 52 (.int .i64 ((parts_m (pjoin_m l)).2)) rfl rfl (run_ex rfl rfl rfl) ?_
  simp only [nz1, nz2, nz3]
  refine lvw 9 (v74) rfl rfl (run_as rfl rfl) ?_
  simp only [nz1, nz2, nz3]
  refine lvw 10 (.int .i64 ((parts_m (pjoin_m l)).2)) rfl rfl (run_as rfl rfl) ?_
  simp only [nz1, nz2, nz3]
  refine wpList_nil ?_
  refine then_n (hK71 _ _ ?_)
  refine wp_seq_k (fun K83 hK83 => ?_)
  refine wp_region_lit ?_
  refine lst rfl (m_call hm81 53 (.bool (awake_m)) rfl (run_awake rfl) (awake_any   _  (Laid.below hT hm81.below) ) (fun w84 (hm85 : Mm none (fun _ => True) w w84 [.see (Rs eS 1 l lv0) Fl, .see (Rs eS 1 ((parts_m s).1) v5) F7, .see (Rs eS 1 ((parts_m (pjoin_m l)).1) v74) F76]) => ?_))
  simp only [nz1, nz2, nz3]
  by_cases hs86 : awake_m = true
  rotate_left
  · rw [(Bool.eq_false_iff.2 hs86 : awake_m = false)]
    refine lvw 54 (.bool false) rfl rfl (run_mv rfl rfl) ?_
    simp only [nz1, nz2, nz3]
    refine lst_skip 55 rfl rfl ?_
    simp only [nz1, nz2, nz3]
    refine lst_skip 56 rfl rfl ?_
    simp only [nz1, nz2, nz3]
    refine lst_skip 57 rfl rfl ?_
    simp only [nz1, nz2, nz3]
    refine lst_skip 58 rfl rfl ?_
    simp only [nz1, nz2, nz3]
    refine lst_skip 59 rfl rfl ?_
    simp only [nz1, nz2, nz3]
    refine lst_skip 60 rfl rfl ?_
    simp only [nz1, nz2, nz3]
    refine lst_skip 61 rfl rfl ?_
    simp only [nz1, nz2, nz3]
    refine lst_skip 62 rfl rfl ?_
    simp only [nz1, nz2, nz3]
    refine lst_skip 63 rfl rfl ?_
    simp only [nz1, nz2, nz3]
    refine lst_skip 64 rfl rfl ?_
    simp only [nz1, nz2, nz3]
    refine lst_skip 65 rfl rfl ?_
    simp only [nz1, nz2, nz3]
    refine lst_skip 66 rfl rfl ?_
    simp only [nz1, nz2, nz3]
    refine lst_skip 67 rfl rfl ?_
    simp only [nz1, nz2, nz3]
    refine lst_skip 68 rfl rfl ?_
    simp only [nz1, nz2, nz3]
    refine lst_skip 69 rfl rfl ?_
    simp only [nz1, nz2, nz3]
    refine lst_skip 70 rfl rfl ?_
    simp only [nz1, nz2, nz3]
    refine lvw 71 (.bool false) rfl rfl (run_pickf rfl rfl rfl) ?_
    simp only [nz1, nz2, nz3]
    refine lvw 4 (.bool false) rfl rfl (run_as rfl rfl) ?_
    simp only [nz1, nz2, nz3]
    refine wpList_nil ?_
    refine then_n (hK83 _ _ ?_)
    refine wp_ret ?_
    have he98 : pback_m s l = false := (hq67.trans (show pback_m_k0 s l y45 = false from by unfold pback_m_k0; rw [if_neg hs86] <;> rfl))
    exact ⟨rfl, .bool false, res_t rfl rfl, ⟨by rw [he98], hm85.below⟩⟩
  rw [(hs86 : awake_m = true)]
  refine lvw 54 (.bool true) rfl rfl (run_mv rfl rfl) ?_
  simp only [nz1, nz2, nz3]
  refine lvw 55 (.int .i64 ((parts_m (pjoin_m l)).2)) rfl rfl (run_mv rfl rfl) ?_
  simp only [nz1, nz2, nz3]
  refine lvb 56 ((parts_m (pjoin_m l)).2 = 0) rfl rfl (z_eql ((parts_m (pjoin_m l)).2) 0 rfl rfl rfl) (fun hs87 => ?_) (fun hs87 => ?_)
  rotate_left
  · simp only [nz1, nz2, nz3]
    refine lvw 57 (.bool false) rfl rfl (run_mv rfl rfl) ?_
    simp only [nz1, nz2, nz3]
    refine lst_skip 58 rfl rfl ?_
    simp only [nz1, nz2, nz3]
    refine lst_skip 59 rfl rfl ?_
    simp only [nz1, nz2, nz3]
    refine lst_skip 60 rfl rfl ?_
    simp only [nz1, nz2, nz3]
    refine lvw 61 (.bool false) rfl rfl (run_pickf rfl rfl rfl) ?_
    simp only [nz1, nz2, nz3]
    refine lvw 62 (.bool false) rfl rfl (run_mv rfl rfl) ?_
    simp only [nz1, nz2, nz3]
    refine lvw 63 (.int .i64 ((parts_m (pjoin_m l)).2)) rfl rfl (run_mv rfl rfl) ?_
    simp only [nz1, nz2, nz3]
    refine lvb 64 ((parts_m (pjoin_m l)).2 = 3) rfl rfl (z_eql ((parts_m (pjoin_m l)).2) 3 rfl rfl rfl) (fun hs95 => ?_) (fun hs95 => ?_)
    · simp only [nz1, nz2, nz3]
      refine lvw 65 (.bool true) rfl rfl (run_mv rfl rfl) ?_
      simp only [nz1, nz2, nz3]
      refine lvw 66 (.string (tx (pjoin_m l))) rfl rfl (run_mv rfl rfl) ?_
      simp only [nz1, nz2, nz3]
      refine lvw 67 (.int .i64 (((pjoin_m l).length : Nat) : Int)) rfl rfl (t_len rfl Tryd.underlying9 rfl) ?_
      simp only [nz1, nz2, nz3]
      refine lvw 68 (.bool (decide (200 < (pjoin_m l).length))) rfl rfl (r_gtr ((pjoin_m l).length) 200 rfl rfl rfl) ?_
      simp only [nz1, nz2, nz3]
      refine lvw 69 (.bool (decide (200 < (pjoin_m l).length))) rfl rfl (run_pick rfl rfl rfl) ?_
      simp only [nz1, nz2, nz3]
      refine lvw 70 (.bool (decide (200 < (pjoin_m l).length))) rfl rfl (run_pickf rfl rfl rfl) ?_
      simp only [nz1, nz2, nz3]
      refine lvw 71 (.bool (decide (200 < (pjoin_m l).length))) rfl rfl (run_pick rfl rfl rfl) ?_
      simp only [nz1, nz2, nz3]
      refine lvw 4 (.bool (decide (200 < (pjoin_m l).length))) rfl rfl (run_as rfl rfl) ?_
      simp only [nz1, nz2, nz3]
      refine wpList_nil ?_
      refine then_n (hK83 _ _ ?_)
      refine wp_ret ?_
      have he96 : pback_m s l = (decide (200 < (pjoin_m l).length)) := (hq67.trans (show pback_m_k0 s l y45 = (decide (200 < (pjoin_m l).length)) from by unfold pback_m_k0; rw [if_pos hs86, if_neg hs87, if_pos hs95] <;> rfl))
      exact ⟨rfl, .bool (decide (200 < (pjoin_m l).length)), res_t rfl rfl, ⟨by rw [he96], hm85.below⟩⟩
    simp only [nz1, nz2, nz3]
    refine lvw 65 (.bool false) rfl rfl (run_mv rfl rfl) ?_
    simp only [nz1, nz2, nz3]
    refine lst_skip 66 rfl rfl ?_
    simp only [nz1, nz2, nz3]
    refine lst_skip 67 rfl rfl ?_
    simp only [nz1, nz2, nz3]
    refine lst_skip 68 rfl rfl ?_
    simp only [nz1, nz2, nz3]
    refine lvw 69 (.bool false) rfl rfl (run_pickf rfl rfl rfl) ?_
    simp only [nz1, nz2, nz3]
    refine lvw 70 (.bool false) rfl rfl (run_pickf rfl rfl rfl) ?_
    simp only [nz1, nz2, nz3]
    refine lvw 71 (.bool false) rfl rfl (run_pick rfl rfl rfl) ?_
    simp only [nz1, nz2, nz3]
    refine lvw 4 (.bool false) rfl rfl (run_as rfl rfl) ?_
    simp only [nz1, nz2, nz3]
    refine wpList_nil ?_
    refine then_n (hK83 _ _ ?_)
    refine wp_ret ?_
    have he97 : pback_m s l = false := (hq67.trans (show pback_m_k0 s l y45 = false from by unfold pback_m_k0; rw [if_pos hs86, if_neg hs87, if_neg hs95] <;> rfl))
    exact ⟨rfl, .bool false, res_t rfl rfl, ⟨by rw [he97], hm85.below⟩⟩
  simp only [nz1, nz2, nz3]
  refine lvw 57 (.bool true) rfl rfl (run_mv rfl rfl) ?_
  simp only [nz1, nz2, nz3]
  refine lvw 58 (v74) rfl rfl (run_mv rfl rfl) ?_
  simp only [nz1, nz2, nz3]
  refine lvw 59 (lv0) rfl rfl (run_mv rfl rfl) ?_
  simp only [nz1, nz2, nz3]
  refine lst rfl (m_call hm85 60 (.bool ((same_m ((parts_m (pjoin_m l)).1) l))) rfl (run_same rfl rfl rfl) (same_any ((parts_m (pjoin_m l)).1) l v74 lv0 _ (hm85.see 2 rfl) (hm85.see 0 rfl) (by first | omega | assumption | decide | exact back_len l _ hbk.1 hbk.2 (by omega) | (simp; done) | (simp; omega))) (fun w88 (hm89 : Mm none (fun _ => True) w w88 [.see (Rs eS 1 l lv0) Fl, .see (Rs eS 1 ((parts_m s).1) v5) F7, .see (Rs eS 1 ((parts_m (pjoin_m l)).1) v74) F76]) => ?_))
  simp only [nz1, nz2, nz3]
  by_cases hs90 : (same_m ((parts_m (pjoin_m l)).1) l) = true
  · rw [(hs90 : (same_m ((parts_m (pjoin_m l)).1) l) = true)]
    refine lvw 61 (.bool true) rfl rfl (run_pick rfl rfl rfl) ?_
    simp only [nz1, nz2, nz3]
    refine lvw 62 (.bool true) rfl rfl (run_mv rfl rfl) ?_
    simp only [nz1, nz2, nz3]
    refine lst_skip 63 rfl rfl ?_
    simp only [nz1, nz2, nz3]
    refine lst_skip 64 rfl rfl ?_
    simp only [nz1, nz2, nz3]
    refine lst_skip 65 rfl rfl ?_
    simp only [nz1, nz2, nz3]
    refine lst_skip 66 rfl rfl ?_
    simp only [nz1, nz2, nz3]
    refine lst_skip 67 rfl rfl ?_
    simp only [nz1, nz2, nz3]
    refine lst_skip 68 rfl rfl ?_
    simp only [nz1, nz2, nz3]
    refine lst_skip 69 rfl rfl ?_
    simp only [nz1, nz2, nz3]
    refine lvw 70 (.bool true) rfl rfl (run_pick rfl rfl rfl) ?_
    simp only [nz1, nz2, nz3]
    refine lvw 71 (.bool true) rfl rfl (run_pick rfl rfl rfl) ?_
    simp only [nz1, nz2, nz3]
    refine lvw 4 (.bool true) rfl rfl (run_as rfl rfl) ?_
    simp only [nz1, nz2, nz3]
    refine wpList_nil ?_
    refine then_n (hK83 _ _ ?_)
    refine wp_ret ?_
    have he91 : pback_m s l = true := (hq67.trans (show pback_m_k0 s l y45 = true from by unfold pback_m_k0; rw [if_pos hs86, if_pos hs87, if_pos hs90] <;> rfl))
    exact ⟨rfl, .bool true, res_t rfl rfl, ⟨by rw [he91], hm89.below⟩⟩
  rw [(Bool.eq_false_iff.2 hs90 : (same_m ((parts_m (pjoin_m l)).1) l) = false)]
  refine lvw 61 (.bool false) rfl rfl (run_pick rfl rfl rfl) ?_
  simp only [nz1, nz2, nz3]
  refine lvw 62 (.bool false) rfl rfl (run_mv rfl rfl) ?_
  simp only [nz1, nz2, nz3]
  refine lvw 63 (.int .i64 ((parts_m (pjoin_m l)).2)) rfl rfl (run_mv rfl rfl) ?_
  simp only [nz1, nz2, nz3]
  refine lvb 64 ((parts_m (pjoin_m l)).2 = 3) rfl rfl (z_eql ((parts_m (pjoin_m l)).2) 3 rfl rfl rfl) (fun hs92 => ?_) (fun hs92 => ?_)
  · simp only [nz1, nz2, nz3]
    refine lvw 65 (.bool true) rfl rfl (run_mv rfl rfl) ?_
    simp only [nz1, nz2, nz3]
    refine lvw 66 (.string (tx (pjoin_m l))) rfl rfl (run_mv rfl rfl) ?_
    simp only [nz1, nz2, nz3]
    refine lvw 67 (.int .i64 (((pjoin_m l).length : Nat) : Int)) rfl rfl (t_len rfl Tryd.underlying9 rfl) ?_
    simp only [nz1, nz2, nz3]
    refine lvw 68 (.bool (decide (200 < (pjoin_m l).length))) rfl rfl (r_gtr ((pjoin_m l).length) 200 rfl rfl rfl) ?_
    simp only [nz1, nz2, nz3]
    refine lvw 69 (.bool (decide (200 < (pjoin_m l).length))) rfl rfl (run_pick rfl rfl rfl) ?_
    simp only [nz1, nz2, nz3]
    refine lvw 70 (.bool (decide (200 < (pjoin_m l).length))) rfl rfl (run_pickf rfl rfl rfl) ?_
    simp only [nz1, nz2, nz3]
    refine lvw 71 (.bool (decide (200 < (pjoin_m l).length))) rfl rfl (run_pick rfl rfl rfl) ?_
    simp only [nz1, nz2, nz3]
    refine lvw 4 (.bool (decide (200 < (pjoin_m l).length))) rfl rfl (run_as rfl rfl) ?_
    simp only [nz1, nz2, nz3]
    refine wpList_nil ?_
    refine then_n (hK83 _ _ ?_)
    refine wp_ret ?_
    have he93 : pback_m s l = (decide (200 < (pjoin_m l).length)) := (hq67.trans (show pback_m_k0 s l y45 = (decide (200 < (pjoin_m l).length)) from by unfold pback_m_k0; rw [if_pos hs86, if_pos hs87, if_neg hs90, if_pos hs92] <;> rfl))
    exact ⟨rfl, .bool (decide (200 < (pjoin_m l).length)), res_t rfl rfl, ⟨by rw [he93], hm89.below⟩⟩
  simp only [nz1, nz2, nz3]
  refine lvw 65 (.bool false) rfl rfl (run_mv rfl rfl) ?_
  simp only [nz1, nz2, nz3]
  refine lst_skip 66 rfl rfl ?_
  simp only [nz1, nz2, nz3]
  refine lst_skip 67 rfl rfl ?_
  simp only [nz1, nz2, nz3]
  refine lst_skip 68 rfl rfl ?_
  simp only [nz1, nz2, nz3]
  refine lvw 69 (.bool false) rfl rfl (run_pickf rfl rfl rfl) ?_
  simp only [nz1, nz2, nz3]
  refine lvw 70 (.bool false) rfl rfl (run_pickf rfl rfl rfl) ?_
  simp only [nz1, nz2, nz3]
  refine lvw 71 (.bool false) rfl rfl (run_pick rfl rfl rfl) ?_
  simp only [nz1, nz2, nz3]
  refine lvw 4 (.bool false) rfl rfl (run_as rfl rfl) ?_
  simp only [nz1, nz2, nz3]
  refine wpList_nil ?_
  refine then_n (hK83 _ _ ?_)
  refine wp_ret ?_
  have he94 : pback_m s l = false := (hq67.trans (show pback_m_k0 s l y45 = false from by unfold pback_m_k0; rw [if_pos hs86, if_pos hs87, if_neg hs90, if_neg hs92] <;> rfl))
  exact ⟨rfl, .bool false, res_t rfl rfl, ⟨by rw [he94], hm89.below⟩⟩
theorem run_pback {o : Oper} {a : Act} {w : World} {x0 x1 : Operand} {v0 v1 : Value} (ho : o.op = .call { callee := .value (.func 5), args := #[x0, x1], argTypes := #[9, 22] }) (h0 : a.eval x0 = v0) (h1 : a.eval x1 = v1) :
    (execOp a.eval o).run Tryd.prog w = .ok (.enter 5 #[v0, v1]) w := by
  unfold execOp
  simp only [ho]
  have hf : a.eval (.func 5) = .func (.func 5) #[] #[] := rfl
  generalize a.eval = f at *
  go_simp
end Go.Proofs.YtdohmmdfenafnaaDoor.Pa
