/- Layer 20: SolveUsers. -/
import Derived.Test.YtpbenhfnebgbiaaDoorSoE
namespace Go.Proofs.YtpbenhfnebgbiaaDoor.So
open Go.RowKit
open Go.Proofs.YtpbenhfnebgbiaaDoor.Sym Go.Proofs.YtpbenhfnebgbiaaDoor.Mem
open Go.Proofs.YtpbenhfnebgbiaaDoor.Sx hiding Mm m_alloc m_store m_put m_call m_callx m_make m_append r_string r_ixS
set_option linter.unusedVariables false
open Go.Proofs.YtpbenhfnebgbiaaDoor.Pa
open Go.Proofs.YtpbenhfnebgbiaaDoor.Ve
attribute [local irreducible] holds_m meets_m lacks_m clashes_m solve_m needs_m users_m
attribute [local irreducible] great_m
attribute [local irreducible] sawake_m
attribute [local irreducible] wpList Oper.wp

def lusers_m (l : List Mf) (c : UInt8) : Bool :=
  if 500 < grn l then
    sawake_m
  else
    if l.length = 0 then
      sawake_m
    else
      if 0 < (lacks_m l).length then
        sawake_m
      else
        if sawake_m = true then
          if 0 < (users_m ((([] : List Mf) ++ (l.take (c.toNat % l.length))) ++ (l.drop ((c.toNat % l.length) + 1))) (l.getD (c.toNat % l.length) dMf)).length then
            true
          else
            (decide ((lacks_m ((([] : List Mf) ++ (l.take (c.toNat % l.length))) ++ (l.drop ((c.toNat % l.length) + 1)))).length = 0))
        else
          false

set_option maxHeartbeats 4000000 in
set_option maxRecDepth 100000 in
theorem lusers_any (l : List Mf) (c : UInt8) (lv0 : Value) (lv1 : List (Value × Value × Value)) (w : World) (hl : Rn nMf 5 MfN l lv1 lv0 w) (hp0 : l.length ≤ 268435456) (hp1 : okl l) : Calls Tryd.prog 5 #[lv0, .int .u8 ((c.toNat : Nat) : Int)] w (fun e w' => e = .returned (.bool ((lusers_m l c))) ∧ Below w.heap.size w w') := by
  have hnlt : c.toNat < 256 := c.toNat_lt
  have hml : l.length = 0 ∨ c.toNat % l.length < l.length := by
    rcases Nat.eq_zero_or_pos l.length with h | h
    · exact .inl h
    · exact .inr (Nat.mod_lt _ h)
  go_enter Tryd.func5, Tryd.ntmps5
  have hm00 := Mm.nil none (fun _ => True) w
  obtain ⟨Fl, hm01⟩ : ∃ Fl, Mm none (fun _ => True) w w [.see (Rn nMf 5 MfN l lv1 lv0) Fl] := hm00.come ((Rn.all MfN_all) hl)
  have hm0 := hm01
  refine wp_seq_k (fun K1 hK1 => ?_)
  refine wp_region_lit ?_
  refine lvw 4 (.bool false) rfl rfl (run_as rfl rfl) ?_
  simp only [nz1, nz2, nz3]
  refine wpList_nil ?_
  refine then_n (hK1 _ _ ?_)
  refine wp_seq_k (fun K2 hK2 => ?_)
  refine wp_seq_k (fun K3 hK3 => ?_)
  refine wp_region_lit ?_
  refine lvw 8 (lv0) rfl rfl (run_mv rfl rfl) ?_
  simp only [nz1, nz2, nz3]
  refine lst rfl (m_call hm0 9 (.bool (decide (500 < grn l))) rfl (run_great rfl rfl) (greatd_any l lv0 lv1 _ (hm0.see 0 rfl) (by first | omega | assumption | ((repeat' (first | assumption | exact okl_nil | apply okl_app | apply okl_drop | apply okl_take | apply okl_cons | exact (okl_at (by assumption) _).1 | exact (okl_at (by assumption) _).2 | (simp; done) | (simp; omega) | decide)); done) | (simp; done) | (simp; omega) | (simp only [List.length_append, List.length_cons, List.length_nil]; omega) | (simp only [List.length_append, List.length_cons, List.length_nil] at *; omega) | decide) (by first | omega | assumption | ((repeat' (first | assumption | exact okl_nil | apply okl_app | apply okl_drop | apply okl_take | apply okl_cons | exact (okl_at (by assumption) _).1 | exact (okl_at (by assumption) _).2 | (simp; done) | (simp; omega) | decide)); done) | (simp; done) | (simp; omega) | (simp only [List.length_append, List.length_cons, List.length_nil]; omega) | (simp only [List.length_append, List.length_cons, List.length_nil] at *; omega) | decide)) (fun w4 (hm5 : Mm none (fun _ => True) w w4 [.see (Rn nMf 5 MfN l lv1 lv0) Fl]) => ?_))
  have hf6 : l.length ≤ grn l := grn_len l
  simp only [nz1, nz2, nz3]
  by_cases hs7 : 500 < grn l
  · rw [show decide (500 < grn l) = true from decide_eq_true hs7]
    refine lvw 10 (.bool true) rfl rfl (run_mv rfl rfl) ?_
    simp only [nz1, nz2, nz3]
    refine lst_skip 11 rfl rfl ?_
    simp only [nz1, nz2, nz3]
    refine lst_skip 12 rfl rfl ?_
    simp only [nz1, nz2, nz3]
    refine lst_skip 13 rfl rfl ?_
    simp only [nz1, nz2, nz3]
    refine lvw 14 (.bool true) rfl rfl (run_pick rfl rfl rfl) ?_
    simp only [nz1, nz2, nz3]
    refine lvw 15 (.bool true) rfl rfl (run_mv rfl rfl) ?_
    simp only [nz1, nz2, nz3]
    refine lst_skip 16 rfl rfl ?_
    simp only [nz1, nz2, nz3]
    refine lst_skip 17 rfl rfl ?_
    simp only [nz1, nz2, nz3]
    refine lst_skip 18 rfl rfl ?_
    simp only [nz1, nz2, nz3]
    refine lst_skip 19 rfl rfl ?_
    simp only [nz1, nz2, nz3]
    refine lvw 20 (.bool true) rfl rfl (run_pick rfl rfl rfl) ?_
    simp only [nz1, nz2, nz3]
    refine wpList_nil ?_
    refine then_n (hK3 _ _ ?_)
    refine cond_t rfl ?_
    refine wp_seq_k (fun K8 hK8 => ?_)
    refine wp_region_lit ?_
    refine lst rfl (m_call hm5 21 (.bool (sawake_m)) rfl (run_sawake rfl) (sawake_any   _  ) (fun w9 (hm10 : Mm none (fun _ => True) w w9 [.see (Rn nMf 5 MfN l lv1 lv0) Fl]) => ?_))
    simp only [nz1, nz2, nz3]
    refine lvw 4 (.bool (sawake_m)) rfl rfl (run_as rfl rfl) ?_
    simp only [nz1, nz2, nz3]
    refine wpList_nil ?_
    refine then_n (hK8 _ _ ?_)
    refine wp_ret ?_
    refine then_r ?_
    have he11 : lusers_m l c = sawake_m := (show lusers_m l c = sawake_m from by unfold lusers_m; rw [if_pos hs7] <;> rfl)
    exact ⟨rfl, .bool (sawake_m), res_t rfl rfl, ⟨by (rw [he11]; try rfl), hm10.below⟩⟩
  rw [show decide (500 < grn l) = false from decide_eq_false hs7]
  refine lvw 10 (.bool false) rfl rfl (run_mv rfl rfl) ?_
  simp only [nz1, nz2, nz3]
  refine lvw 11 (lv0) rfl rfl (run_mv rfl rfl) ?_
  simp only [nz1, nz2, nz3]
  refine lvw 12 (.int .i64 ((l.length : Nat) : Int)) rfl rfl (s_len ((hm5.see 0 rfl)).rd rfl Tryd.underlying22 rfl) ?_
  simp only [nz1, nz2, nz3]
  refine lvb 13 (l.length = 0) rfl rfl (r_eql l.length 0 rfl rfl rfl) (fun hs12 => ?_) (fun hs12 => ?_)
  · simp only [nz1, nz2, nz3]
    refine lvw 14 (.bool true) rfl rfl (run_pickf rfl rfl rfl) ?_
    simp only [nz1, nz2, nz3]
    refine lvw 15 (.bool true) rfl rfl (run_mv rfl rfl) ?_
    simp only [nz1, nz2, nz3]
    refine lst_skip 16 rfl rfl ?_
    simp only [nz1, nz2, nz3]
    refine lst_skip 17 rfl rfl ?_
    simp only [nz1, nz2, nz3]
    refine lst_skip 18 rfl rfl ?_
    simp only [nz1, nz2, nz3]
    refine lst_skip 19 rfl rfl ?_
    simp only [nz1, nz2, nz3]
    refine lvw 20 (.bool true) rfl rfl (run_pick rfl rfl rfl) ?_
    simp only [nz1, nz2, nz3]
    refine wpList_nil ?_
    refine then_n (hK3 _ _ ?_)
    refine cond_t rfl ?_
    refine wp_seq_k (fun K13 hK13 => ?_)
    refine wp_region_lit ?_
    refine lst rfl (m_call hm5 21 (.bool (sawake_m)) rfl (run_sawake rfl) (sawake_any   _  ) (fun w14 (hm15 : Mm none (fun _ => True) w w14 [.see (Rn nMf 5 MfN l lv1 lv0) Fl]) => ?_))
    simp only [nz1, nz2, nz3]
    refine lvw 4 (.bool (sawake_m)) rfl rfl (run_as rfl rfl) ?_
    simp only [nz1, nz2, nz3]
    refine wpList_nil ?_
    refine then_n (hK13 _ _ ?_)
    refine wp_ret ?_
    refine then_r ?_
    have he16 : lusers_m l c = sawake_m := (show lusers_m l c = sawake_m from by unfold lusers_m; rw [if_neg hs7, if_pos hs12] <;> rfl)
    exact ⟨rfl, .bool (sawake_m), res_t rfl rfl, ⟨by (rw [he16]; try rfl), hm15.below⟩⟩
  simp only [nz1, nz2, nz3]
  refine lvw 14 (.bool false) rfl rfl (run_pickf rfl rfl rfl) ?_
  simp only [nz1, nz2, nz3]
  refine lvw 15 (.bool false) rfl rfl (run_mv rfl rfl) ?_
  simp only [nz1, nz2, nz3]
  refine lvw 16 (lv0) rfl rfl (run_mv rfl rfl) ?_
  simp only [nz1, nz2, nz3]
  refine lst rfl (m_callx hm5 17 rfl (run_lacks rfl rfl) (lacks_any l lv0 lv1 _ (hm5.see 0 rfl) (by first | omega | assumption | ((repeat' (first | assumption | exact okl_nil | apply okl_app | apply okl_drop | apply okl_take | apply okl_cons | exact (okl_at (by assumption) _).1 | exact (okl_at (by assumption) _).2 | (simp; done) | (simp; omega) | decide)); done) | (simp; done) | (simp; omega) | (simp only [List.length_append, List.length_cons, List.length_nil]; omega) | (simp only [List.length_append, List.length_cons, List.length_nil] at *; omega) | decide) (by first | omega | assumption | ((repeat' (first | assumption | exact okl_nil | apply okl_app | apply okl_drop | apply okl_take | apply okl_cons | exact (okl_at (by assumption) _).1 | exact (okl_at (by assumption) _).2 | (simp; done) | (simp; omega) | decide)); done) | (simp; done) | (simp; omega) | (simp only [List.length_append, List.length_cons, List.length_nil]; omega) | (simp only [List.length_append, List.length_cons, List.length_nil] at *; omega) | decide)) (fun v19 w17 hR21 hb22 hm18 => ?_))
  obtain ⟨_, rfl, ho24⟩ := hR21
  have hm23 : Mm none (fun _ => True) w w17 [.see (Rn nMf 5 MfN l lv1 lv0) Fl, .row v19 (lacks_m l).length ((lacks_m l).flatMap eRul) 24 3] := hm5.gained hb22 ho24
  clear hm18
  simp only [nz1, nz2, nz3]
  refine lvw 18 (.int .i64 (((lacks_m l).length : Nat) : Int)) rfl rfl (s_len (Rs.row (hm23.row 1 rfl)) rfl Tryd.underlying28 rfl) ?_
  simp only [nz1, nz2, nz3]
  refine lvw 19 (.bool (decide (0 < (lacks_m l).length))) rfl rfl (r_gtr ((lacks_m l).length) 0 rfl rfl rfl) ?_
  simp only [nz1, nz2, nz3]
  refine lvw 20 (.bool (decide (0 < (lacks_m l).length))) rfl rfl (run_pickf rfl rfl rfl) ?_
  simp only [nz1, nz2, nz3]
  refine wpList_nil ?_
  refine then_n (hK3 _ _ ?_)
  refine cond_d (0 < (lacks_m l).length) rfl (fun hc25 => ?_) (fun hc25 => ?_)
  · refine wp_seq_k (fun K26 hK26 => ?_)
    refine wp_region_lit ?_
    refine lst rfl (m_call hm23 21 (.bool (sawake_m)) rfl (run_sawake rfl) (sawake_any   _  ) (fun w27 (hm28 : Mm none (fun _ => True) w w27 [.see (Rn nMf 5 MfN l lv1 lv0) Fl, .row v19 (lacks_m l).length ((lacks_m l).flatMap eRul) 24 3]) => ?_))
    simp only [nz1, nz2, nz3]
    refine lvw 4 (.bool (sawake_m)) rfl rfl (run_as rfl rfl) ?_
    simp only [nz1, nz2, nz3]
    refine wpList_nil ?_
    refine then_n (hK26 _ _ ?_)
    refine wp_ret ?_
    refine then_r ?_
    have he29 : lusers_m l c = sawake_m := (show lusers_m l c = sawake_m from by unfold lusers_m; rw [if_neg hs7, if_neg hs12, if_pos hc25] <;> rfl)
    exact ⟨rfl, .bool (sawake_m), res_t rfl rfl, ⟨by (rw [he29]; try rfl), hm28.below⟩⟩
  refine wp_skip ?_
  refine then_n (hK2 _ _ ?_)
  refine wp_seq_k (fun K30 hK30 => ?_)
  refine wp_region_lit ?_
  refine lvw 22 (.int .u8 ((c.toNat : Nat) : Int)) rfl rfl (run_mv rfl rfl) ?_
  simp only [nz1, nz2, nz3]
  refine lvw 23 (.int .i64 ((c.toNat : Nat) : Int)) rfl rfl (r_conv (k' := .i64) c.toNat c.toNat some_5 Tryd.underlying3 (wrap_nat (by have := c.toNat_lt; show _ < 9223372036854775808; omega)) rfl rfl) ?_
  simp only [nz1, nz2, nz3]
  refine lvw 24 (lv0) rfl rfl (run_mv rfl rfl) ?_
  simp only [nz1, nz2, nz3]
  refine lvw 25 (.int .i64 ((l.length : Nat) : Int)) rfl rfl (s_len ((hm23.see 0 rfl)).rd rfl Tryd.underlying22 rfl) ?_
  simp only [nz1, nz2, nz3]
  refine lvw 26 (.int .i64 (((c.toNat % l.length) : Nat) : Int)) rfl rfl (r_rem c.toNat l.length (show c.toNat < 9223372036854775808 from by omega) (by omega) rfl rfl rfl) ?_
  simp only [nz1, nz2, nz3]
  refine lvw 5 (.int .i64 (((c.toNat % l.length) : Nat) : Int)) rfl rfl (run_as rfl rfl) ?_
  simp only [nz1, nz2, nz3]
  refine wpList_nil ?_
  refine then_n (hK30 _ _ ?_)
  refine wp_seq_k (fun K31 hK31 => ?_)
  have hm32 := hm23.drew
  refine wp_region_held_drew (S := fun w' => Rn nMf 5 MfN l lv1 lv0 w') (by kernel_rfl) (((hm32.see 0 rfl))) (fun _ => ?_)
  generalize w17.drew = w33 at *
  refine tk 1 28 (lv0) rfl rfl (fun _ hw => run_mv rfl rfl) ((hm32.see 0 rfl)) ?_
  simp only [nz1, nz2, nz3]
  refine tk 2 29 (.int .i64 (((c.toNat % l.length) : Nat) : Int)) rfl rfl (fun _ hw => run_mv rfl rfl) ((hm32.see 0 rfl)) ?_
  simp only [nz1, nz2, nz3]
  refine tk 3 30 ((cutV lv0 0 (c.toNat % l.length) 5)) rfl rfl (fun _ hw => r_cut_h hw.rd (c.toNat % l.length) (by omega) Tryd.underlying22 sz_37 rfl rfl rfl) ((hm32.see 0 rfl)) ?_
  simp only [nz1, nz2, nz3]
  refine tk 5 32 (lv0) rfl rfl (fun _ hw => run_mv rfl rfl) ((hm32.see 0 rfl)) ?_
  simp only [nz1, nz2, nz3]
  refine tk 6 33 (.int .i64 (((c.toNat % l.length) : Nat) : Int)) rfl rfl (fun _ hw => run_mv rfl rfl) ((hm32.see 0 rfl)) ?_
  simp only [nz1, nz2, nz3]
  refine tk 7 34 (.int .i64 ((((c.toNat % l.length) + 1) : Nat) : Int)) rfl rfl (fun _ hw => r_add (c.toNat % l.length) 1 (show ((c.toNat % l.length) + 1) < 9223372036854775808 from by omega) rfl rfl rfl) ((hm32.see 0 rfl)) ?_
  simp only [nz1, nz2, nz3]
  refine tk 8 35 ((cutV lv0 ((c.toNat % l.length) + 1) l.length 5)) rfl rfl (fun _ hw => r_cut_l hw.rd ((c.toNat % l.length) + 1) (by omega) Tryd.underlying22 sz_37 rfl rfl rfl) ((hm32.see 0 rfl)) ?_
  simp only [nz1, nz2, nz3]
  refine one_ready 0 (by kernel_rfl) ?_
  refine opd rfl (wanted_none rfl) (m_lit0 (α := Mf × (Value × Value × Value)) (enc := nMf) (size := 5) (e := 37) hm32 27 rfl (by unfold execOp; go_simp; try rfl) (fun v36 w34 (hm35 : Mm none (fun _ => True) w w34 [.see (Rn nMf 5 MfN l lv1 lv0) Fl, .row v19 (lacks_m l).length ((lacks_m l).flatMap eRul) 24 3, .row v36 (([] : List Mf).zip ([] : List (Value × Value × Value))).length ((([] : List Mf).zip ([] : List (Value × Value × Value))).flatMap nMf) 37 5]) => ?_))
  obtain ⟨F37, hm38⟩ : ∃ F37, Mm none (fun _ => True) w w34 [.see (Rn nMf 5 MfN l lv1 lv0) Fl, .row v19 (lacks_m l).length ((lacks_m l).flatMap eRul) 24 3, .row v36 (([] : List Mf).zip ([] : List (Value × Value × Value))).length ((([] : List Mf).zip ([] : List (Value × Value × Value))).flatMap nMf) 37 5, .see (Els MfN ([] : List Mf) ([] : List (Value × Value × Value))) F37] := hm35.derive (From.pure (fun _ => Els.nil))
  refine ⟨((hm38.see 0 rfl)), ?_⟩
  simp only [nz1, nz2, nz3]
  refine one_ready 4 (by kernel_rfl) ?_
  obtain ⟨iq, hiq, hz1, hz2, hz3⟩ := inf_37
  refine opd rfl (wanted_none rfl) (m_appendN 2 (l := ([] : List Mf)) (u := ([] : List (Value × Value × Value))) (l2 := (l.take (c.toNat % l.length))) (u2 := (lv1.take (c.toNat % l.length))) iq _ _ _ ((cutV lv0 0 (c.toNat % l.length) 5)) (hm38.see 3 rfl).1 hm38 rfl 31 rfl rfl Tryd.underlying22 hiq hz1 hz2 hz3 nMf_len nMf_one rfl (by decide) rfl rfl (Rn.cut_h (hm38.see 0 rfl) nMf_len (c.toNat % l.length) (by omega)) (by first | omega | (simp; omega)) (by first | omega | (simp; omega)) (fun v42 w40 (hm41 : Mm none (fun _ => True) w w40 [.see (Rn nMf 5 MfN l lv1 lv0) Fl, .row v19 (lacks_m l).length ((lacks_m l).flatMap eRul) 24 3, .row v42 ((([] : List Mf) ++ (l.take (c.toNat % l.length))).zip (([] : List (Value × Value × Value)) ++ (lv1.take (c.toNat % l.length)))).length (((([] : List Mf) ++ (l.take (c.toNat % l.length))).zip (([] : List (Value × Value × Value)) ++ (lv1.take (c.toNat % l.length)))).flatMap nMf) 37 5, .see (Els MfN ([] : List Mf) ([] : List (Value × Value × Value))) F37]) => ?_))
  obtain ⟨F43, hm44⟩ : ∃ F43, Mm none (fun _ => True) w w40 [.see (Rn nMf 5 MfN l lv1 lv0) Fl, .row v19 (lacks_m l).length ((lacks_m l).flatMap eRul) 24 3, .row v42 ((([] : List Mf) ++ (l.take (c.toNat % l.length))).zip (([] : List (Value × Value × Value)) ++ (lv1.take (c.toNat % l.length)))).length (((([] : List Mf) ++ (l.take (c.toNat % l.length))).zip (([] : List (Value × Value × Value)) ++ (lv1.take (c.toNat % l.length)))).flatMap nMf) 37 5, .see (Els MfN ([] : List Mf) ([] : List (Value × Value × Value))) F37, .see (Els MfN (([] : List Mf) ++ (l.take (c.toNat % l.length))) (([] : List (Value × Value × Value)) ++ (lv1.take (c.toNat % l.length)))) F43] := hm41.derive (((hm41.from 3 rfl).and (((hm41.from 0 rfl).mono (fun _ h => (Rn.cut_h h nMf_len (c.toNat % l.length) (by omega)))).mono (fun _ h => h.2))).mono (fun _ h => Els.app h.1 h.2))
  refine ⟨((hm44.see 0 rfl)), ?_⟩
  simp only [nz1, nz2, nz3]
  refine one_ready 9 (by kernel_rfl) ?_
  obtain ⟨iq, hiq, hz1, hz2, hz3⟩ := inf_37
  refine opd rfl (wanted_none rfl) (m_appendN 2 (l := (([] : List Mf) ++ (l.take (c.toNat % l.length)))) (u := (([] : List (Value × Value × Value)) ++ (lv1.take (c.toNat % l.length)))) (l2 := (l.drop ((c.toNat % l.length) + 1))) (u2 := (lv1.drop ((c.toNat % l.length) + 1))) iq _ _ _ ((cutV lv0 ((c.toNat % l.length) + 1) l.length 5)) (hm44.see 4 rfl).1 hm44 rfl 36 rfl rfl Tryd.underlying22 hiq hz1 hz2 hz3 nMf_len nMf_one rfl (by decide) rfl rfl (Rn.cut_l (hm44.see 0 rfl) nMf_len ((c.toNat % l.length) + 1) (by omega)) (by first | omega | (simp; omega)) (by first | omega | (simp; omega)) (fun v48 w46 (hm47 : Mm none (fun _ => True) w w46 [.see (Rn nMf 5 MfN l lv1 lv0) Fl, .row v19 (lacks_m l).length ((lacks_m l).flatMap eRul) 24 3, .row v48 (((([] : List Mf) ++ (l.take (c.toNat % l.length))) ++ (l.drop ((c.toNat % l.length) + 1))).zip ((([] : List (Value × Value × Value)) ++ (lv1.take (c.toNat % l.length))) ++ (lv1.drop ((c.toNat % l.length) + 1)))).length ((((([] : List Mf) ++ (l.take (c.toNat % l.length))) ++ (l.drop ((c.toNat % l.length) + 1))).zip ((([] : List (Value × Value × Value)) ++ (lv1.take (c.toNat % l.length))) ++ (lv1.drop ((c.toNat % l.length) + 1)))).flatMap nMf) 37 5, .see (Els MfN ([] : List Mf) ([] : List (Value × Value × Value))) F37, .see (Els MfN (([] : List Mf) ++ (l.take (c.toNat % l.length))) (([] : List (Value × Value × Value)) ++ (lv1.take (c.toNat % l.length)))) F43]) => ?_))
  obtain ⟨F49, hm50⟩ : ∃ F49, Mm none (fun _ => True) w w46 [.see (Rn nMf 5 MfN l lv1 lv0) Fl, .row v19 (lacks_m l).length ((lacks_m l).flatMap eRul) 24 3, .row v48 (((([] : List Mf) ++ (l.take (c.toNat % l.length))) ++ (l.drop ((c.toNat % l.length) + 1))).zip ((([] : List (Value × Value × Value)) ++ (lv1.take (c.toNat % l.length))) ++ (lv1.drop ((c.toNat % l.length) + 1)))).length ((((([] : List Mf) ++ (l.take (c.toNat % l.length))) ++ (l.drop ((c.toNat % l.length) + 1))).zip ((([] : List (Value × Value × Value)) ++ (lv1.take (c.toNat % l.length))) ++ (lv1.drop ((c.toNat % l.length) + 1)))).flatMap nMf) 37 5, .see (Els MfN ([] : List Mf) ([] : List (Value × Value × Value))) F37, .see (Els MfN (([] : List Mf) ++ (l.take (c.toNat % l.length))) (([] : List (Value × Value × Value)) ++ (lv1.take (c.toNat % l.length)))) F43, .see (Els MfN ((([] : List Mf) ++ (l.take (c.toNat % l.length))) ++ (l.drop ((c.toNat % l.length) + 1))) ((([] : List (Value × Value × Value)) ++ (lv1.take (c.toNat % l.length))) ++ (lv1.drop ((c.toNat % l.length) + 1)))) F49] := hm47.derive (((hm47.from 4 rfl).and (((hm47.from 0 rfl).mono (fun _ h => (Rn.cut_l h nMf_len ((c.toNat % l.length) + 1) (by omega)))).mono (fun _ h => h.2))).mono (fun _ h => Els.app h.1 h.2))
  refine ⟨((hm50.see 0 rfl)), ?_⟩
  simp only [nz1, nz2, nz3]
  refine one_ready 10 (by kernel_rfl) ?_
  refine opd rfl (wanted_none rfl) (w_value 6 (v48) rfl (run_as rfl rfl) ⟨((hm50.see 0 rfl)), ?_⟩)
  simp only [nz1, nz2, nz3]
  refine wpAnyH_done (by kernel_rfl) ?_ _
  refine then_n (hK31 _ _ ?_)
  refine wp_seq_k (fun K52 hK52 => ?_)
  refine wp_region_lit ?_
  refine lvw 37 (v48) rfl rfl (run_mv rfl rfl) ?_
  simp only [nz1, nz2, nz3]
  refine lvw 38 (lv0) rfl rfl (run_mv rfl rfl) ?_
  simp only [nz1, nz2, nz3]
  refine lvw 39 (.int .i64 (((c.toNat % l.length) : Nat) : Int)) rfl rfl (run_mv rfl rfl) ?_
  simp only [nz1, nz2, nz3]
  refine lvw 40 (.pointer (some ⟨(bk lv0), (po lv0 + (c.toNat % l.length) * 5), none⟩)) rfl rfl (r_ixv ((hm50.see 0 rfl)).rd (c.toNat % l.length) (by omega) Tryd.underlying22 sz_37 rfl rfl rfl) ?_
  simp only [nz1, nz2, nz3]
  refine lvw 41 (.agg #[.string (tx ((l.getD (c.toNat % l.length) dMf).name)), .string (tx ((l.getD (c.toNat % l.length) dMf).version)), (lv1.getD (c.toNat % l.length) ((Value.slice none 0 0), (Value.slice none 0 0), (Value.slice none 0 0))).1, (lv1.getD (c.toNat % l.length) ((Value.slice none 0 0), (Value.slice none 0 0), (Value.slice none 0 0))).2.1, (lv1.getD (c.toNat % l.length) ((Value.slice none 0 0), (Value.slice none 0 0), (Value.slice none 0 0))).2.2]) rfl rfl (r_partw (fun j u hj => Rn.cell ((hm50.see 0 rfl)) nMf_len dMf ((Value.slice none 0 0), (Value.slice none 0 0), (Value.slice none 0 0)) (c.toNat % l.length) (by omega) j u (arr_get hj)) Tryd.underlying37 rfl (by exact sz_37) rfl rfl) ?_
  simp only [nz1, nz2, nz3]
  refine lst rfl (m_callx hm50 42 rfl (run_users rfl rfl rfl) (users_any ((([] : List Mf) ++ (l.take (c.toNat % l.length))) ++ (l.drop ((c.toNat % l.length) + 1))) (l.getD (c.toNat % l.length) dMf) v48 ((([] : List (Value × Value × Value)) ++ (lv1.take (c.toNat % l.length))) ++ (lv1.drop ((c.toNat % l.length) + 1))) ((lv1.getD (c.toNat % l.length) ((Value.slice none 0 0), (Value.slice none 0 0), (Value.slice none 0 0))).1) ((lv1.getD (c.toNat % l.length) ((Value.slice none 0 0), (Value.slice none 0 0), (Value.slice none 0 0))).2.1) ((lv1.getD (c.toNat % l.length) ((Value.slice none 0 0), (Value.slice none 0 0), (Value.slice none 0 0))).2.2) _ (Rn.row (hm50.row 2 rfl) (hm50.see 5 rfl)) ((Rn.el (hm50.see 0 rfl) dMf ((Value.slice none 0 0), (Value.slice none 0 0), (Value.slice none 0 0)) (c.toNat % l.length) (by omega))) (by first | omega | assumption | ((repeat' (first | assumption | exact okl_nil | apply okl_app | apply okl_drop | apply okl_take | apply okl_cons | exact (okl_at (by assumption) _).1 | exact (okl_at (by assumption) _).2 | (simp; done) | (simp; omega) | decide)); done) | (simp; done) | (simp; omega) | (simp only [List.length_append, List.length_cons, List.length_nil]; omega) | (simp only [List.length_append, List.length_cons, List.length_nil] at *; omega) | decide) (by first | omega | assumption | ((repeat' (first | assumption | exact okl_nil | apply okl_app | apply okl_drop | apply okl_take | apply okl_cons | exact (okl_at (by assumption) _).1 | exact (okl_at (by assumption) _).2 | (simp; done) | (simp; omega) | decide)); done) | (simp; done) | (simp; omega) | (simp only [List.length_append, List.length_cons, List.length_nil]; omega) | (simp only [List.length_append, List.length_cons, List.length_nil] at *; omega) | decide)) (fun v55 w53 hR57 hb58 hm54 => ?_))
  obtain ⟨_, rfl, ho60⟩ := hR57
  have hm59 : Mm none (fun _ => True) w w53 [.see (Rn nMf 5 MfN l lv1 lv0) Fl, .row v19 (lacks_m l).length ((lacks_m l).flatMap eRul) 24 3, .row v48 (((([] : List Mf) ++ (l.take (c.toNat % l.length))) ++ (l.drop ((c.toNat % l.length) + 1))).zip ((([] : List (Value × Value × Value)) ++ (lv1.take (c.toNat % l.length))) ++ (lv1.drop ((c.toNat % l.length) + 1)))).length ((((([] : List Mf) ++ (l.take (c.toNat % l.length))) ++ (l.drop ((c.toNat % l.length) + 1))).zip ((([] : List (Value × Value × Value)) ++ (lv1.take (c.toNat % l.length))) ++ (lv1.drop ((c.toNat % l.length) + 1)))).flatMap nMf) 37 5, .see (Els MfN ([] : List Mf) ([] : List (Value × Value × Value))) F37, .see (Els MfN (([] : List Mf) ++ (l.take (c.toNat % l.length))) (([] : List (Value × Value × Value)) ++ (lv1.take (c.toNat % l.length)))) F43, .see (Els MfN ((([] : List Mf) ++ (l.take (c.toNat % l.length))) ++ (l.drop ((c.toNat % l.length) + 1))) ((([] : List (Value × Value × Value)) ++ (lv1.take (c.toNat % l.length))) ++ (lv1.drop ((c.toNat % l.length) + 1)))) F49, .row v55 (users_m ((([] : List Mf) ++ (l.take (c.toNat % l.length))) ++ (l.drop ((c.toNat % l.length) + 1))) (l.getD (c.toNat % l.length) dMf)).length ((users_m ((([] : List Mf) ++ (l.take (c.toNat % l.length))) ++ (l.drop ((c.toNat % l.length) + 1))) (l.getD (c.toNat % l.length) dMf)).flatMap eS) 9 1] := hm50.gained hb58 ho60
  clear hm54
  simp only [nz1, nz2, nz3]
  refine lvw 7 (v55) rfl rfl (run_as rfl rfl) ?_
  simp only [nz1, nz2, nz3]
  refine wpList_nil ?_
  refine then_n (hK52 _ _ ?_)
  refine wp_seq_k (fun K61 hK61 => ?_)
  refine wp_region_lit ?_
  refine lst rfl (m_call hm59 43 (.bool (sawake_m)) rfl (run_sawake rfl) (sawake_any   _  ) (fun w62 (hm63 : Mm none (fun _ => True) w w62 [.see (Rn nMf 5 MfN l lv1 lv0) Fl, .row v19 (lacks_m l).length ((lacks_m l).flatMap eRul) 24 3, .row v48 (((([] : List Mf) ++ (l.take (c.toNat % l.length))) ++ (l.drop ((c.toNat % l.length) + 1))).zip ((([] : List (Value × Value × Value)) ++ (lv1.take (c.toNat % l.length))) ++ (lv1.drop ((c.toNat % l.length) + 1)))).length ((((([] : List Mf) ++ (l.take (c.toNat % l.length))) ++ (l.drop ((c.toNat % l.length) + 1))).zip ((([] : List (Value × Value × Value)) ++ (lv1.take (c.toNat % l.length))) ++ (lv1.drop ((c.toNat % l.length) + 1)))).flatMap nMf) 37 5, .see (Els MfN ([] : List Mf) ([] : List (Value × Value × Value))) F37, .see (Els MfN (([] : List Mf) ++ (l.take (c.toNat % l.length))) (([] : List (Value × Value × Value)) ++ (lv1.take (c.toNat % l.length)))) F43, .see (Els MfN ((([] : List Mf) ++ (l.take (c.toNat % l.length))) ++ (l.drop ((c.toNat % l.length) + 1))) ((([] : List (Value × Value × Value)) ++ (lv1.take (c.toNat % l.length))) ++ (lv1.drop ((c.toNat % l.length) + 1)))) F49, .row v55 (users_m ((([] : List Mf) ++ (l.take (c.toNat % l.length))) ++ (l.drop ((c.toNat % l.length) + 1))) (l.getD (c.toNat % l.length) dMf)).length ((users_m ((([] : List Mf) ++ (l.take (c.toNat % l.length))) ++ (l.drop ((c.toNat % l.length) + 1))) (l.getD (c.toNat % l.length) dMf)).flatMap eS) 9 1]) => ?_))
  simp only [nz1, nz2, nz3]
  by_cases hs64 : sawake_m = true
  rotate_left
  · rw [(Bool.eq_false_iff.2 hs64 : sawake_m = false)]
    refine lvw 44 (.bool false) rfl rfl (run_mv rfl rfl) ?_
    simp only [nz1, nz2, nz3]
    refine lst_skip 45 rfl rfl ?_
    simp only [nz1, nz2, nz3]
    refine lst_skip 46 rfl rfl ?_
    simp only [nz1, nz2, nz3]
    refine lst_skip 47 rfl rfl ?_
    simp only [nz1, nz2, nz3]
    refine lst_skip 48 rfl rfl ?_
    simp only [nz1, nz2, nz3]
    refine lst_skip 49 rfl rfl ?_
    simp only [nz1, nz2, nz3]
    refine lst_skip 50 rfl rfl ?_
    simp only [nz1, nz2, nz3]
    refine lst_skip 51 rfl rfl ?_
    simp only [nz1, nz2, nz3]
    refine lst_skip 52 rfl rfl ?_
    simp only [nz1, nz2, nz3]
    refine lst_skip 53 rfl rfl ?_
    simp only [nz1, nz2, nz3]
    refine lvw 54 (.bool false) rfl rfl (run_pickf rfl rfl rfl) ?_
    simp only [nz1, nz2, nz3]
    refine lvw 4 (.bool false) rfl rfl (run_as rfl rfl) ?_
    simp only [nz1, nz2, nz3]
    refine wpList_nil ?_
    refine then_n (hK61 _ _ ?_)
    refine wp_ret ?_
    have he76 : lusers_m l c = false := (show lusers_m l c = false from by unfold lusers_m; rw [if_neg hs7, if_neg hs12, if_neg hc25, if_neg hs64] <;> rfl)
    exact ⟨rfl, .bool false, res_t rfl rfl, ⟨by (rw [he76]; try rfl), hm63.below⟩⟩
  rw [(hs64 : sawake_m = true)]
  refine lvw 44 (.bool true) rfl rfl (run_mv rfl rfl) ?_
  simp only [nz1, nz2, nz3]
  refine lvw 45 (v55) rfl rfl (run_mv rfl rfl) ?_
  simp only [nz1, nz2, nz3]
  refine lvw 46 (.int .i64 (((users_m ((([] : List Mf) ++ (l.take (c.toNat % l.length))) ++ (l.drop ((c.toNat % l.length) + 1))) (l.getD (c.toNat % l.length) dMf)).length : Nat) : Int)) rfl rfl (s_len (Rs.row (hm63.row 6 rfl)) rfl Tryd.underlying33 rfl) ?_
  simp only [nz1, nz2, nz3]
  refine lvb 47 (0 < (users_m ((([] : List Mf) ++ (l.take (c.toNat % l.length))) ++ (l.drop ((c.toNat % l.length) + 1))) (l.getD (c.toNat % l.length) dMf)).length) rfl rfl (r_gtr ((users_m ((([] : List Mf) ++ (l.take (c.toNat % l.length))) ++ (l.drop ((c.toNat % l.length) + 1))) (l.getD (c.toNat % l.length) dMf)).length) 0 rfl rfl rfl) (fun hs65 => ?_) (fun hs65 => ?_)
  · simp only [nz1, nz2, nz3]
    refine lvw 48 (.bool true) rfl rfl (run_mv rfl rfl) ?_
    simp only [nz1, nz2, nz3]
    refine lst_skip 49 rfl rfl ?_
    simp only [nz1, nz2, nz3]
    refine lst_skip 50 rfl rfl ?_
    simp only [nz1, nz2, nz3]
    refine lst_skip 51 rfl rfl ?_
    simp only [nz1, nz2, nz3]
    refine lst_skip 52 rfl rfl ?_
    simp only [nz1, nz2, nz3]
    refine lvw 53 (.bool true) rfl rfl (run_pick rfl rfl rfl) ?_
    simp only [nz1, nz2, nz3]
    refine lvw 54 (.bool true) rfl rfl (run_pick rfl rfl rfl) ?_
    simp only [nz1, nz2, nz3]
    refine lvw 4 (.bool true) rfl rfl (run_as rfl rfl) ?_
    simp only [nz1, nz2, nz3]
    refine wpList_nil ?_
    refine then_n (hK61 _ _ ?_)
    refine wp_ret ?_
    have he66 : lusers_m l c = true := (show lusers_m l c = true from by unfold lusers_m; rw [if_neg hs7, if_neg hs12, if_neg hc25, if_pos hs64, if_pos hs65] <;> rfl)
    exact ⟨rfl, .bool true, res_t rfl rfl, ⟨by (rw [he66]; try rfl), hm63.below⟩⟩
  simp only [nz1, nz2, nz3]
  refine lvw 48 (.bool false) rfl rfl (run_mv rfl rfl) ?_
  simp only [nz1, nz2, nz3]
  refine lvw 49 (v48) rfl rfl (run_mv rfl rfl) ?_
  simp only [nz1, nz2, nz3]
  refine lst rfl (m_callx hm63 50 rfl (run_lacks rfl rfl) (lacks_any ((([] : List Mf) ++ (l.take (c.toNat % l.length))) ++ (l.drop ((c.toNat % l.length) + 1))) v48 ((([] : List (Value × Value × Value)) ++ (lv1.take (c.toNat % l.length))) ++ (lv1.drop ((c.toNat % l.length) + 1))) _ (Rn.row (hm63.row 2 rfl) (hm63.see 5 rfl)) (by first | omega | assumption | ((repeat' (first | assumption | exact okl_nil | apply okl_app | apply okl_drop | apply okl_take | apply okl_cons | exact (okl_at (by assumption) _).1 | exact (okl_at (by assumption) _).2 | (simp; done) | (simp; omega) | decide)); done) | (simp; done) | (simp; omega) | (simp only [List.length_append, List.length_cons, List.length_nil]; omega) | (simp only [List.length_append, List.length_cons, List.length_nil] at *; omega) | decide) (by first | omega | assumption | ((repeat' (first | assumption | exact okl_nil | apply okl_app | apply okl_drop | apply okl_take | apply okl_cons | exact (okl_at (by assumption) _).1 | exact (okl_at (by assumption) _).2 | (simp; done) | (simp; omega) | decide)); done) | (simp; done) | (simp; omega) | (simp only [List.length_append, List.length_cons, List.length_nil]; omega) | (simp only [List.length_append, List.length_cons, List.length_nil] at *; omega) | decide)) (fun v69 w67 hR71 hb72 hm68 => ?_))
  obtain ⟨_, rfl, ho74⟩ := hR71
  have hm73 : Mm none (fun _ => True) w w67 [.see (Rn nMf 5 MfN l lv1 lv0) Fl, .row v19 (lacks_m l).length ((lacks_m l).flatMap eRul) 24 3, .row v48 (((([] : List Mf) ++ (l.take (c.toNat % l.length))) ++ (l.drop ((c.toNat % l.length) + 1))).zip ((([] : List (Value × Value × Value)) ++ (lv1.take (c.toNat % l.length))) ++ (lv1.drop ((c.toNat % l.length) + 1)))).length ((((([] : List Mf) ++ (l.take (c.toNat % l.length))) ++ (l.drop ((c.toNat % l.length) + 1))).zip ((([] : List (Value × Value × Value)) ++ (lv1.take (c.toNat % l.length))) ++ (lv1.drop ((c.toNat % l.length) + 1)))).flatMap nMf) 37 5, .see (Els MfN ([] : List Mf) ([] : List (Value × Value × Value))) F37, .see (Els MfN (([] : List Mf) ++ (l.take (c.toNat % l.length))) (([] : List (Value × Value × Value)) ++ (lv1.take (c.toNat % l.length)))) F43, .see (Els MfN ((([] : List Mf) ++ (l.take (c.toNat % l.length))) ++ (l.drop ((c.toNat % l.length) + 1))) ((([] : List (Value × Value × Value)) ++ (lv1.take (c.toNat % l.length))) ++ (lv1.drop ((c.toNat % l.length) + 1)))) F49, .row v55 (users_m ((([] : List Mf) ++ (l.take (c.toNat % l.length))) ++ (l.drop ((c.toNat % l.length) + 1))) (l.getD (c.toNat % l.length) dMf)).length ((users_m ((([] : List Mf) ++ (l.take (c.toNat % l.length))) ++ (l.drop ((c.toNat % l.length) + 1))) (l.getD (c.toNat % l.length) dMf)).flatMap eS) 9 1, .row v69 (lacks_m ((([] : List Mf) ++ (l.take (c.toNat % l.length))) ++ (l.drop ((c.toNat % l.length) + 1)))).length ((lacks_m ((([] : List Mf) ++ (l.take (c.toNat % l.length))) ++ (l.drop ((c.toNat % l.length) + 1)))).flatMap eRul) 24 3] := hm63.gained hb72 ho74
  clear hm68
  simp only [nz1, nz2, nz3]
  refine lvw 51 (.int .i64 (((lacks_m ((([] : List Mf) ++ (l.take (c.toNat % l.length))) ++ (l.drop ((c.toNat % l.length) + 1)))).length : Nat) : Int)) rfl rfl (s_len (Rs.row (hm73.row 7 rfl)) rfl Tryd.underlying28 rfl) ?_
  simp only [nz1, nz2, nz3]
  refine lvw 52 (.bool (decide ((lacks_m ((([] : List Mf) ++ (l.take (c.toNat % l.length))) ++ (l.drop ((c.toNat % l.length) + 1)))).length = 0))) rfl rfl (r_eql ((lacks_m ((([] : List Mf) ++ (l.take (c.toNat % l.length))) ++ (l.drop ((c.toNat % l.length) + 1)))).length) 0 rfl rfl rfl) ?_
  simp only [nz1, nz2, nz3]
  refine lvw 53 (.bool (decide ((lacks_m ((([] : List Mf) ++ (l.take (c.toNat % l.length))) ++ (l.drop ((c.toNat % l.length) + 1)))).length = 0))) rfl rfl (run_pickf rfl rfl rfl) ?_
  simp only [nz1, nz2, nz3]
  refine lvw 54 (.bool (decide ((lacks_m ((([] : List Mf) ++ (l.take (c.toNat % l.length))) ++ (l.drop ((c.toNat % l.length) + 1)))).length = 0))) rfl rfl (run_pick rfl rfl rfl) ?_
  simp only [nz1, nz2, nz3]
  refine lvw 4 (.bool (decide ((lacks_m ((([] : List Mf) ++ (l.take (c.toNat % l.length))) ++ (l.drop ((c.toNat % l.length) + 1)))).length = 0))) rfl rfl (run_as rfl rfl) ?_
  simp only [nz1, nz2, nz3]
  refine wpList_nil ?_
  refine then_n (hK61 _ _ ?_)
  refine wp_ret ?_
  have he75 : lusers_m l c = (decide ((lacks_m ((([] : List Mf) ++ (l.take (c.toNat % l.length))) ++ (l.drop ((c.toNat % l.length) + 1)))).length = 0)) := (show lusers_m l c = (decide ((lacks_m ((([] : List Mf) ++ (l.take (c.toNat % l.length))) ++ (l.drop ((c.toNat % l.length) + 1)))).length = 0)) from by unfold lusers_m; rw [if_neg hs7, if_neg hs12, if_neg hc25, if_pos hs64, if_neg hs65] <;> rfl)
  exact ⟨rfl, .bool (decide ((lacks_m ((([] : List Mf) ++ (l.take (c.toNat % l.length))) ++ (l.drop ((c.toNat % l.length) + 1)))).length = 0)), res_t rfl rfl, ⟨by (rw [he75]; try rfl), hm73.below⟩⟩
theorem run_lusers {o : Oper} {a : Act} {w : World} {x0 x1 : Operand} {v0 v1 : Value} (ho : o.op = .call { callee := .value (.func 5), args := #[x0, x1], argTypes := #[22, 5] }) (h0 : a.eval x0 = v0) (h1 : a.eval x1 = v1) :
    (execOp a.eval o).run Tryd.prog w = .ok (.enter 5 #[v0, v1]) w := by
  unfold execOp
  simp only [ho]
  have hf : a.eval (.func 5) = .func (.func 5) #[] #[] := rfl
  generalize a.eval = f at *
  go_simp
end Go.Proofs.YtpbenhfnebgbiaaDoor.So
