/- Layer 10: PaxLast. -/
import Derived.Test.YtglnifckngcpkaaDoorPxP
namespace Go.Proofs.YtglnifckngcpkaaDoor.Px
open Go.RowKit
open Go.Proofs.YtglnifckngcpkaaDoor.Sym Go.Proofs.YtglnifckngcpkaaDoor.Mem
open Go.Proofs.YtglnifckngcpkaaDoor.Sx hiding Mm m_alloc m_store m_put m_call m_callx m_make m_append r_string r_ixS
set_option linter.unusedVariables false
attribute [local irreducible] plen_m itoa_m atoi_v atoi_ok cut_m key_m pdig_m ib_m record_m first_m
attribute [local irreducible] encode_m decode_m last_m rencode_m rdecode_m rlast_m same_m great_m rkey_m
attribute [local irreducible] wpList Oper.wp

def llast_m_b0 (l : List Par) (p : Par) (rec : Nat → Sum (Nat) (Bool)) (x67 : Nat) : Sum (Nat) (Bool) :=
  if x67 < l.length then
    if (!((last_m l ((l.getD x67 dPar).key)).2)) = true then
      .inr false
    else
      if (!((last_m ((([] : List Par) ++ l) ++ [p]) ((l.getD x67 dPar).key)).2)) = true then
        .inr false
      else
        if ¬ (l.getD x67 dPar).key = p.key then
          if ¬ (last_m l ((l.getD x67 dPar).key)).1 = (last_m ((([] : List Par) ++ l) ++ [p]) ((l.getD x67 dPar).key)).1 then
            .inr false
          else
            rec (x67 + 1)
        else
          rec (x67 + 1)
  else
    .inl x67
def llast_m_l0 (l : List Par) (p : Par) : Nat → Nat → Sum (Nat) (Bool)
  | 0, zz => .inl zz
  | nq + 1, zz => llast_m_b0 l p (llast_m_l0 l p nq) zz

def llast_m_k0 (l : List Par) (p : Par) (y71 : Nat) : Bool :=
  if pawake_m = true then
    if ((last_m ((([] : List Par) ++ l) ++ [p]) p.key).2) = true then
      (decide ((last_m ((([] : List Par) ++ l) ++ [p]) p.key).1 = p.value))
    else
      false
  else
    false

def llast_m (l : List Par) (p : Par) : Bool :=
  if (great_m l) = true then
    pawake_m
  else
    if 20000 < p.key.length then
      pawake_m
    else
      if 20000 < p.value.length then
        pawake_m
      else
        fin (llast_m_l0 l p ((l.length - 0) + 1) 0) (fun r => r) (fun zz => llast_m_k0 l p zz)

set_option maxHeartbeats 4000000 in
set_option maxRecDepth 100000 in
theorem llast_any (l : List Par) (p : Par) (lv0 : Value) (w : World) (hl : Rs ePar 2 l lv0 w) (hT : Laid w) (hp0 : l.length ≤ 4398046511104) : Calls Tryd.prog 12 #[lv0, .agg #[.string (tx p.key), .string (tx p.value)]] w (fun e w' => e = .returned (.bool ((llast_m l p))) ∧ Below w.heap.size w w') := by
  go_enter Tryd.func12, Tryd.ntmps12
  have hm00 := Mm.nil none (fun _ => True) w
  obtain ⟨Fl, hm01⟩ : ∃ Fl, Mm none (fun _ => True) w w [.see (Rs ePar 2 l lv0) Fl] := hm00.come (Rs.all hl)
  have hm0 := hm01
  refine wp_seq_k (fun K1 hK1 => ?_)
  refine wp_region_lit ?_
  refine lst rfl (m_alloc (c := #[.string (tx p.key), .string (tx p.value)]) (T := 47) hm0 3 rfl (run_box rfl rfl) (fun g4 w2 (hm3 : Mm none (fun _ => True) w w2 [.see (Rs ePar 2 l lv0) Fl, .blk g4 #[.string (tx p.key), .string (tx p.value)] 47]) => ?_))
  simp only [nz1, nz2, nz3]
  refine lvw 4 (.bool false) rfl rfl (run_as rfl rfl) ?_
  simp only [nz1, nz2, nz3]
  refine wpList_nil ?_
  refine then_n (hK1 _ _ ?_)
  refine wp_seq_k (fun K5 hK5 => ?_)
  refine wp_seq_k (fun K6 hK6 => ?_)
  refine wp_region_lit ?_
  refine lvw 13 (lv0) rfl rfl (run_mv rfl rfl) ?_
  simp only [nz1, nz2, nz3]
  refine lst rfl (m_call hm3 14 (.bool ((great_m l))) rfl (run_great rfl rfl) (great_any l lv0 _ (hm3.see 0 rfl) (by first | omega | assumption | (have := great_len (l := l) (by assumption); simp; omega) | (simp; done) | (simp; omega) | (simp only [List.length_append, List.length_cons, List.length_nil]; omega) | (simp only [List.length_append, List.length_cons, List.length_nil] at *; omega) | decide)) (fun w7 (hm8 : Mm none (fun _ => True) w w7 [.see (Rs ePar 2 l lv0) Fl, .blk g4 #[.string (tx p.key), .string (tx p.value)] 47]) => ?_))
  simp only [nz1, nz2, nz3]
  by_cases hs9 : (great_m l) = true
  · rw [(hs9 : (great_m l) = true)]
    refine lvw 15 (.bool true) rfl rfl (run_mv rfl rfl) ?_
    simp only [nz1, nz2, nz3]
    refine lst_skip 16 rfl rfl ?_
    simp only [nz1, nz2, nz3]
    refine lst_skip 17 rfl rfl ?_
    simp only [nz1, nz2, nz3]
    refine lst_skip 18 rfl rfl ?_
    simp only [nz1, nz2, nz3]
    refine lst_skip 19 rfl rfl ?_
    simp only [nz1, nz2, nz3]
    refine lvw 20 (.bool true) rfl rfl (run_pick rfl rfl rfl) ?_
    simp only [nz1, nz2, nz3]
    refine lvw 21 (.bool true) rfl rfl (run_mv rfl rfl) ?_
    simp only [nz1, nz2, nz3]
    refine lst_skip 22 rfl rfl ?_
    simp only [nz1, nz2, nz3]
    refine lst_skip 23 rfl rfl ?_
    simp only [nz1, nz2, nz3]
    refine lst_skip 24 rfl rfl ?_
    simp only [nz1, nz2, nz3]
    refine lst_skip 25 rfl rfl ?_
    simp only [nz1, nz2, nz3]
    refine lvw 26 (.bool true) rfl rfl (run_pick rfl rfl rfl) ?_
    simp only [nz1, nz2, nz3]
    refine wpList_nil ?_
    refine then_n (hK6 _ _ ?_)
    refine cond_t rfl ?_
    refine wp_seq_k (fun K10 hK10 => ?_)
    refine wp_region_lit ?_
    refine lst rfl (m_call hm8 27 (.bool (pawake_m)) rfl (run_pawake rfl) (pawake_any   _  (Laid.below hT hm8.below) ) (fun w11 (hm12 : Mm none (fun _ => True) w w11 [.see (Rs ePar 2 l lv0) Fl, .blk g4 #[.string (tx p.key), .string (tx p.value)] 47]) => ?_))
    simp only [nz1, nz2, nz3]
    refine lvw 4 (.bool (pawake_m)) rfl rfl (run_as rfl rfl) ?_
    simp only [nz1, nz2, nz3]
    refine wpList_nil ?_
    refine then_n (hK10 _ _ ?_)
    refine wp_ret ?_
    refine then_r ?_
    have he13 : llast_m l p = pawake_m := (show llast_m l p = pawake_m from by unfold llast_m; rw [if_pos hs9] <;> rfl)
    exact ⟨rfl, .bool (pawake_m), res_t rfl rfl, ⟨by rw [he13], hm12.below⟩⟩
  rw [(Bool.eq_false_iff.2 hs9 : (great_m l) = false)]
  refine lvw 15 (.bool false) rfl rfl (run_mv rfl rfl) ?_
  simp only [nz1, nz2, nz3]
  refine lvw 16 (.pointer (some ⟨g4, 0, none⟩)) rfl rfl (r_fa47_0 g4 0 rfl rfl) ?_
  simp only [nz1, nz2, nz3]
  refine lvw 17 (.string (tx p.key)) rfl rfl (r_load (hm8.at 1 rfl) rfl Tryd.underlying9 rfl rfl rfl) ?_
  simp only [nz1, nz2, nz3]
  refine lvw 18 (.int .i64 ((p.key.length : Nat) : Int)) rfl rfl (t_len rfl Tryd.underlying9 rfl) ?_
  simp only [nz1, nz2, nz3]
  refine lvb 19 (20000 < p.key.length) rfl rfl (r_gtr p.key.length 20000 rfl rfl rfl) (fun hs14 => ?_) (fun hs14 => ?_)
  · simp only [nz1, nz2, nz3]
    refine lvw 20 (.bool true) rfl rfl (run_pickf rfl rfl rfl) ?_
    simp only [nz1, nz2, nz3]
    refine lvw 21 (.bool true) rfl rfl (run_mv rfl rfl) ?_
    simp only [nz1, nz2, nz3]
    refine lst_skip 22 rfl rfl ?_
    simp only [nz1, nz2, nz3]
    refine lst_skip 23 rfl rfl ?_
    simp only [nz1, nz2, nz3]
    refine lst_skip 24 rfl rfl ?_
    simp only [nz1, nz2, nz3]
    refine lst_skip 25 rfl rfl ?_
    simp only [nz1, nz2, nz3]
    refine lvw 26 (.bool true) rfl rfl (run_pick rfl rfl rfl) ?_
    simp only [nz1, nz2, nz3]
    refine wpList_nil ?_
    refine then_n (hK6 _ _ ?_)
    refine cond_t rfl ?_
    refine wp_seq_k (fun K15 hK15 => ?_)
    refine wp_region_lit ?_
    refine lst rfl (m_call hm8 27 (.bool (pawake_m)) rfl (run_pawake rfl) (pawake_any   _  (Laid.below hT hm8.below) ) (fun w16 (hm17 : Mm none (fun _ => True) w w16 [.see (Rs ePar 2 l lv0) Fl, .blk g4 #[.string (tx p.key), .string (tx p.value)] 47]) => ?_))
    simp only [nz1, nz2, nz3]
    refine lvw 4 (.bool (pawake_m)) rfl rfl (run_as rfl rfl) ?_
    simp only [nz1, nz2, nz3]
    refine wpList_nil ?_
    refine then_n (hK15 _ _ ?_)
    refine wp_ret ?_
    refine then_r ?_
    have he18 : llast_m l p = pawake_m := (show llast_m l p = pawake_m from by unfold llast_m; rw [if_neg hs9, if_pos hs14] <;> rfl)
    exact ⟨rfl, .bool (pawake_m), res_t rfl rfl, ⟨by rw [he18], hm17.below⟩⟩
  simp only [nz1, nz2, nz3]
  refine lvw 20 (.bool false) rfl rfl (run_pickf rfl rfl rfl) ?_
  simp only [nz1, nz2, nz3]
  refine lvw 21 (.bool false) rfl rfl (run_mv rfl rfl) ?_
  simp only [nz1, nz2, nz3]
  refine lvw 22 (.pointer (some ⟨g4, 1, none⟩)) rfl rfl (r_fa47_1 g4 0 rfl rfl) ?_
  simp only [nz1, nz2, nz3]
  refine lvw 23 (.string (tx p.value)) rfl rfl (r_load (hm8.at 1 rfl) rfl Tryd.underlying9 rfl rfl rfl) ?_
  simp only [nz1, nz2, nz3]
  refine lvw 24 (.int .i64 ((p.value.length : Nat) : Int)) rfl rfl (t_len rfl Tryd.underlying9 rfl) ?_
  simp only [nz1, nz2, nz3]
  refine lvw 25 (.bool (decide (20000 < p.value.length))) rfl rfl (r_gtr p.value.length 20000 rfl rfl rfl) ?_
  simp only [nz1, nz2, nz3]
  refine lvw 26 (.bool (decide (20000 < p.value.length))) rfl rfl (run_pickf rfl rfl rfl) ?_
  simp only [nz1, nz2, nz3]
  refine wpList_nil ?_
  refine then_n (hK6 _ _ ?_)
  refine cond_d (20000 < p.value.length) rfl (fun hc19 => ?_) (fun hc19 => ?_)
  · refine wp_seq_k (fun K20 hK20 => ?_)
    refine wp_region_lit ?_
    refine lst rfl (m_call hm8 27 (.bool (pawake_m)) rfl (run_pawake rfl) (pawake_any   _  (Laid.below hT hm8.below) ) (fun w21 (hm22 : Mm none (fun _ => True) w w21 [.see (Rs ePar 2 l lv0) Fl, .blk g4 #[.string (tx p.key), .string (tx p.value)] 47]) => ?_))
    simp only [nz1, nz2, nz3]
    refine lvw 4 (.bool (pawake_m)) rfl rfl (run_as rfl rfl) ?_
    simp only [nz1, nz2, nz3]
    refine wpList_nil ?_
    refine then_n (hK20 _ _ ?_)
    refine wp_ret ?_
    refine then_r ?_
    have he23 : llast_m l p = pawake_m := (show llast_m l p = pawake_m from by unfold llast_m; rw [if_neg hs9, if_neg hs14, if_pos hc19] <;> rfl)
    exact ⟨rfl, .bool (pawake_m), res_t rfl rfl, ⟨by rw [he23], hm22.below⟩⟩
  refine wp_skip ?_
  refine then_n (hK5 _ _ ?_)
  refine wp_seq_k (fun K24 hK24 => ?_)
  refine wp_mono (Q := fun e a' w' => e = Exit.normal ∧ ∃ (v38 : Value) (g35 : Nat) (v29 : Value) (v32 : Value), a' = ⟨#[lv0, .agg #[.string (tx p.key), .string (tx p.value)], undef, .pointer (some ⟨g4, 0, none⟩), .bool false, v38, undef, undef, undef, undef, undef, undef, undef, lv0, .bool false, .bool false, .pointer (some ⟨g4, 0, none⟩), .string (tx p.key), .int .i64 ((p.key.length : Nat) : Int), .bool false, .bool false, .bool false, .pointer (some ⟨g4, 1, none⟩), .string (tx p.value), .int .i64 ((p.value.length : Nat) : Int), .bool (decide (20000 < p.value.length)), .bool (decide (20000 < p.value.length)), undef, v29, lv0, v32, .agg #[.string (tx p.key), .string (tx p.value)], .slice (some ⟨g35, 0, none⟩) 1 1, v38, undef, undef, undef, undef, undef, undef, undef, undef, undef, undef, undef, undef, undef, undef, undef, undef, undef, undef, undef, undef, undef, undef, undef, undef, undef, undef, undef, undef, undef, undef, undef, undef, undef, undef, undef, undef, undef, undef, undef, undef, undef, undef, undef, undef, undef, undef, undef, undef, undef, undef, undef, undef, undef, undef, undef, undef, undef, undef, undef, undef, undef, undef, undef, undef], []⟩ ∧ Mm none (fun _ => True) w w' [.see (Rs ePar 2 l lv0) Fl, .blk g4 #[.string (tx p.key), .string (tx p.value)] 47, .row v38 ((([] : List Par) ++ l) ++ [p]).length (((([] : List Par) ++ l) ++ [p]).flatMap ePar) 47 2, .blk g35 #[.string (tx p.key), .string (tx p.value)] 47]) ?_ ?_
  · have hm25 := hm8.drew
    refine wp_region_held_drew (S := fun w' => Mem.Blk w' g4 (#[.string (tx p.key), .string (tx p.value)]) 47) (by kernel_rfl) (hm25.at 1 rfl) (fun _ => ?_)
    generalize w7.drew = w26 at *
    refine Sym.take_at 1 29 (lv0) rfl rfl (by kernel_rfl) (by kernel_rfl) (by kernel_rfl) (fun _ _ _ h => nomatch h.1) rfl (fun _ hw => run_mv rfl rfl) (hm25.at 1 rfl) ?_
    simp only [nz1, nz2, nz3]
    refine Sym.take_at 3 31 (.agg #[.string (tx p.key), .string (tx p.value)]) rfl rfl (by kernel_rfl) (by kernel_rfl) (by kernel_rfl) (fun _ _ _ h => nomatch h.1) rfl (fun _ hw => r_whole hw Tryd.underlying47 rfl (by exact sz_47) rfl rfl) (hm25.at 1 rfl) ?_
    simp only [nz1, nz2, nz3]
    refine two_ready 0 4 (by kernel_rfl) ?_ ?_
    · refine opd rfl rfl (m_lit0 (α := Par) (enc := ePar) (size := 2) (e := 47) hm25 28 rfl (by unfold execOp; go_simp; try rfl) (fun v29 w27 (hm28 : Mm none (fun _ => True) w w27 [.see (Rs ePar 2 l lv0) Fl, .blk g4 #[.string (tx p.key), .string (tx p.value)] 47, .row v29 ([] : List Par).length (([] : List Par).flatMap ePar) 47 2]) => ?_))
      refine ⟨hm28.at 1 rfl, ?_⟩
      simp only [nz1, nz2, nz3]
      refine two_ready 2 4 (by kernel_rfl) ?_ ?_
      · obtain ⟨iq, hiq, hz1, hz2, hz3⟩ := inf_47
        refine opd rfl rfl (m_appendR 2 (l := ([] : List Par)) (l2 := l) iq _ _ _ (lv0) hm28 rfl 30 rfl rfl Tryd.underlying36 hiq hz1 hz2 hz3 ePar_len ePar_one rfl (by decide) rfl rfl (hm28.see 0 rfl) (by have := great_len (l := l) (by assumption); first | omega | (simp; omega)) (by have := great_len (l := l) (by assumption); first | omega | (simp; omega)) (fun v32 w30 (hm31 : Mm none (fun _ => True) w w30 [.see (Rs ePar 2 l lv0) Fl, .blk g4 #[.string (tx p.key), .string (tx p.value)] 47, .row v32 (([] : List Par) ++ l).length ((([] : List Par) ++ l).flatMap ePar) 47 2]) => ?_))
        refine ⟨hm31.at 1 rfl, ?_⟩
        simp only [nz1, nz2, nz3]
        refine one_ready 4 (by kernel_rfl) ?_
        refine opd rfl rfl (m_make (c := #[.string (tx p.key), .string (tx p.value)]) (T := 47) (fun g => .slice (some ⟨g, 0, none⟩) 1 1) hm31 32 rfl (by unfold execOp; go_simp; try rfl) (fun g35 w33 hm34 => ?_))
        refine ⟨hm34.at 1 rfl, ?_⟩
        simp only [nz1, nz2, nz3]
        refine one_ready 5 (by kernel_rfl) ?_
        obtain ⟨iq, hiq, hz1, hz2, hz3⟩ := inf_47
        refine opd rfl rfl (m_appendR 2 (l := (([] : List Par) ++ l)) (l2 := [p]) iq _ _ _ (.slice (some ⟨g35, 0, none⟩) 1 1) hm34 rfl 33 rfl rfl Tryd.underlying36 hiq hz1 hz2 hz3 ePar_len ePar_one rfl (by decide) rfl rfl (Rs.blk (l := [p]) (hm34.at 3 rfl) rfl rfl ePar_len (Nat.le_refl _)) (by have := great_len (l := l) (by assumption); first | omega | (simp; omega)) (by have := great_len (l := l) (by assumption); first | omega | (simp; omega)) (fun v38 w36 (hm37 : Mm none (fun _ => True) w w36 [.see (Rs ePar 2 l lv0) Fl, .blk g4 #[.string (tx p.key), .string (tx p.value)] 47, .row v38 ((([] : List Par) ++ l) ++ [p]).length (((([] : List Par) ++ l) ++ [p]).flatMap ePar) 47 2, .blk g35 #[.string (tx p.key), .string (tx p.value)] 47]) => ?_))
        refine ⟨hm37.at 1 rfl, ?_⟩
        simp only [nz1, nz2, nz3]
        refine one_ready 6 (by kernel_rfl) ?_
        refine opd rfl rfl (w_value 5 (v38) rfl (run_as rfl rfl) ⟨hm37.at 1 rfl, ?_⟩)
        simp only [nz1, nz2, nz3]
        refine wpAnyH_done (by kernel_rfl) ?_ _
        exact ⟨rfl, v38, g35, v29, v32, rfl, hm37⟩
      · refine opd rfl rfl (m_make (c := #[.string (tx p.key), .string (tx p.value)]) (T := 47) (fun g => .slice (some ⟨g, 0, none⟩) 1 1) hm28 32 rfl (by unfold execOp; go_simp; try rfl) (fun g41 w39 hm40 => ?_))
        refine ⟨hm40.at 1 rfl, ?_⟩
        simp only [nz1, nz2, nz3]
        refine one_ready 2 (by kernel_rfl) ?_
        obtain ⟨iq, hiq, hz1, hz2, hz3⟩ := inf_47
        refine opd rfl rfl (m_appendR 2 (l := ([] : List Par)) (l2 := l) iq _ _ _ (lv0) hm40 rfl 30 rfl rfl Tryd.underlying36 hiq hz1 hz2 hz3 ePar_len ePar_one rfl (by decide) rfl rfl (hm40.see 0 rfl) (by have := great_len (l := l) (by assumption); first | omega | (simp; omega)) (by have := great_len (l := l) (by assumption); first | omega | (simp; omega)) (fun v44 w42 (hm43 : Mm none (fun _ => True) w w42 [.see (Rs ePar 2 l lv0) Fl, .blk g4 #[.string (tx p.key), .string (tx p.value)] 47, .row v44 (([] : List Par) ++ l).length ((([] : List Par) ++ l).flatMap ePar) 47 2, .blk g41 #[.string (tx p.key), .string (tx p.value)] 47]) => ?_))
        refine ⟨hm43.at 1 rfl, ?_⟩
        simp only [nz1, nz2, nz3]
        refine one_ready 5 (by kernel_rfl) ?_
        obtain ⟨iq, hiq, hz1, hz2, hz3⟩ := inf_47
        refine opd rfl rfl (m_appendR 2 (l := (([] : List Par) ++ l)) (l2 := [p]) iq _ _ _ (.slice (some ⟨g41, 0, none⟩) 1 1) hm43 rfl 33 rfl rfl Tryd.underlying36 hiq hz1 hz2 hz3 ePar_len ePar_one rfl (by decide) rfl rfl (Rs.blk (l := [p]) (hm43.at 3 rfl) rfl rfl ePar_len (Nat.le_refl _)) (by have := great_len (l := l) (by assumption); first | omega | (simp; omega)) (by have := great_len (l := l) (by assumption); first | omega | (simp; omega)) (fun v47 w45 (hm46 : Mm none (fun _ => True) w w45 [.see (Rs ePar 2 l lv0) Fl, .blk g4 #[.string (tx p.key), .string (tx p.value)] 47, .row v47 ((([] : List Par) ++ l) ++ [p]).length (((([] : List Par) ++ l) ++ [p]).flatMap ePar) 47 2, .blk g41 #[.string (tx p.key), .string (tx p.value)] 47]) => ?_))
        refine ⟨hm46.at 1 rfl, ?_⟩
        simp only [nz1, nz2, nz3]
        refine one_ready 6 (by kernel_rfl) ?_
        refine opd rfl rfl (w_value 5 (v47) rfl (run_as rfl rfl) ⟨hm46.at 1 rfl, ?_⟩)
        simp only [nz1, nz2, nz3]
        refine wpAnyH_done (by kernel_rfl) ?_ _
        exact ⟨rfl, v47, g41, v29, v44, rfl, hm46⟩
    · refine opd rfl rfl (m_make (c := #[.string (tx p.key), .string (tx p.value)]) (T := 47) (fun g => .slice (some ⟨g, 0, none⟩) 1 1) hm25 32 rfl (by unfold execOp; go_simp; try rfl) (fun g50 w48 hm49 => ?_))
      refine ⟨hm49.at 1 rfl, ?_⟩
      simp only [nz1, nz2, nz3]
      refine one_ready 0 (by kernel_rfl) ?_
      refine opd rfl rfl (m_lit0 (α := Par) (enc := ePar) (size := 2) (e := 47) hm49 28 rfl (by unfold execOp; go_simp; try rfl) (fun v53 w51 (hm52 : Mm none (fun _ => True) w w51 [.see (Rs ePar 2 l lv0) Fl, .blk g4 #[.string (tx p.key), .string (tx p.value)] 47, .blk g50 #[.string (tx p.key), .string (tx p.value)] 47, .row v53 ([] : List Par).length (([] : List Par).flatMap ePar) 47 2]) => ?_))
      refine ⟨hm52.at 1 rfl, ?_⟩
      simp only [nz1, nz2, nz3]
      refine one_ready 2 (by kernel_rfl) ?_
      obtain ⟨iq, hiq, hz1, hz2, hz3⟩ := inf_47
      refine opd rfl rfl (m_appendR 3 (l := ([] : List Par)) (l2 := l) iq _ _ _ (lv0) hm52 rfl 30 rfl rfl Tryd.underlying36 hiq hz1 hz2 hz3 ePar_len ePar_one rfl (by decide) rfl rfl (hm52.see 0 rfl) (by have := great_len (l := l) (by assumption); first | omega | (simp; omega)) (by have := great_len (l := l) (by assumption); first | omega | (simp; omega)) (fun v56 w54 (hm55 : Mm none (fun _ => True) w w54 [.see (Rs ePar 2 l lv0) Fl, .blk g4 #[.string (tx p.key), .string (tx p.value)] 47, .blk g50 #[.string (tx p.key), .string (tx p.value)] 47, .row v56 (([] : List Par) ++ l).length ((([] : List Par) ++ l).flatMap ePar) 47 2]) => ?_))
      refine ⟨hm55.at 1 rfl, ?_⟩
      simp only [nz1, nz2, nz3]
      refine one_ready 5 (by kernel_rfl) ?_
      obtain ⟨iq, hiq, hz1, hz2, hz3⟩ := inf_47
      refine opd rfl rfl (m_appendR 3 (l := (([] : List Par) ++ l)) (l2 := [p]) iq _ _ _ (.slice (some ⟨g50, 0, none⟩) 1 1) hm55 rfl 33 rfl rfl Tryd.underlying36 hiq hz1 hz2 hz3 ePar_len ePar_one rfl (by decide) rfl rfl (Rs.blk (l := [p]) (hm55.at 2 rfl) rfl rfl ePar_len (Nat.le_refl _)) (by have := great_len (l := l) (by assumption); first | omega | (simp; omega)) (by have := great_len (l := l) (by assumption); first | omega | (simp; omega)) (fun v59 w57 (hm58 : Mm none (fun _ => True) w w57 [.see (Rs ePar 2 l lv0) Fl, .blk g4 #[.string (tx p.key), .string (tx p.value)] 47, .blk g50 #[.string (tx p.key), .string (tx p.value)] 47, .row v59 ((([] : List Par) ++ l) ++ [p]).length (((([] : List Par) ++ l) ++ [p]).flatMap ePar) 47 2]) => ?_))
      refine ⟨hm58.at 1 rfl, ?_⟩
      simp only [nz1, nz2, nz3]
      refine one_ready 6 (by kernel_rfl) ?_
      refine opd rfl rfl (w_value 5 (v59) rfl (run_as rfl rfl) ⟨hm58.at 1 rfl, ?_⟩)
      simp only [nz1, nz2, nz3]
      refine wpAnyH_done (by kernel_rfl) ?_ _
      exact ⟨rfl, v59, g50, v53, v56, rfl, (Mm.reorder hm58 [0, 1, 3, 2] (by decide) rfl)⟩
  clear hm8
  rintro _ _ w60 ⟨rfl, v38, g35, v29, v32, rfl, hm61⟩
  refine then_n (hK24 _ _ ?_)
  refine wp_seq_k (fun K62 hK62 => ?_)
  refine wp_region_lit ?_
  refine lvw 35 (v38) rfl rfl (run_mv rfl rfl) ?_
  simp only [nz1, nz2, nz3]
  refine lvw 36 (.pointer (some ⟨g4, 0, none⟩)) rfl rfl (r_fa47_0 g4 0 rfl rfl) ?_
  simp only [nz1, nz2, nz3]
  refine lvw 37 (.string (tx p.key)) rfl rfl (r_load (hm61.at 1 rfl) rfl Tryd.underlying9 rfl rfl rfl) ?_
  simp only [nz1, nz2, nz3]
  refine lst rfl (m_call hm61 38 (.tuple #[.string (tx ((last_m ((([] : List Par) ++ l) ++ [p]) p.key).1)), .bool ((last_m ((([] : List Par) ++ l) ++ [p]) p.key).2)]) rfl (run_last rfl rfl rfl) (last_any ((([] : List Par) ++ l) ++ [p]) p.key v38 _ (Rs.row (hm61.row 2 rfl)) (by first | omega | assumption | (have := great_len (l := l) (by assumption); simp; omega) | (simp; done) | (simp; omega) | (simp only [List.length_append, List.length_cons, List.length_nil]; omega) | (simp only [List.length_append, List.length_cons, List.length_nil] at *; omega) | decide)) (fun w63 (hm64 : Mm none (fun _ => True) w w63 [.see (Rs ePar 2 l lv0) Fl, .blk g4 #[.string (tx p.key), .string (tx p.value)] 47, .row v38 ((([] : List Par) ++ l) ++ [p]).length (((([] : List Par) ++ l) ++ [p]).flatMap ePar) 47 2, .blk g35 #[.string (tx p.key), .string (tx p.value)] 47]) => ?_))
  simp only [nz1, nz2, nz3]
  refine lvw 34 (.tuple #[.string (tx ((last_m ((([] : List Par) ++ l) ++ [p]) p.key).1)), .bool ((last_m ((([] : List Par) ++ l) ++ [p]) p.key).2)]) rfl rfl (run_mv rfl rfl) ?_
  simp only [nz1, nz2, nz3]
  refine lvw 39 (.string (tx ((last_m ((([] : List Par) ++ l) ++ [p]) p.key).1))) rfl rfl (run_ex rfl rfl rfl) ?_
  simp only [nz1, nz2, nz3]
  refine lvw 40 (.bool ((last_m ((([] : List Par) ++ l) ++ [p]) p.key).2)) rfl rfl (run_ex rfl rfl rfl) ?_
  simp only [nz1, nz2, nz3]
  refine lvw 6 (.string (tx ((last_m ((([] : List Par) ++ l) ++ [p]) p.key).1))) rfl rfl (run_as rfl rfl) ?_
  simp only [nz1, nz2, nz3]
  refine lvw 7 (.bool ((last_m ((([] : List Par) ++ l) ++ [p]) p.key).2)) rfl rfl (run_as rfl rfl) ?_
  simp only [nz1, nz2, nz3]
  refine wpList_nil ?_
  refine then_n (hK62 _ _ ?_)
  refine wp_seq_k (fun K65 hK65 => ?_)
  refine wp_seq_k (fun K66 hK66 => ?_)
  refine wp_region_lit ?_
  refine lvw 8 (.int .i64 0) rfl rfl (run_as rfl rfl) ?_
  simp only [nz1, nz2, nz3]
  refine wpList_nil ?_
  refine then_n (hK66 _ _ ?_)
  refine wp_cutK (fun a' w' => ∃ (y71 : Nat) (yu0 : Nat → Value), llast_m_l0 l p ((l.length - 0) + 1) 0 = .inl y71 ∧ a' = ⟨#[lv0, .agg #[.string (tx p.key), .string (tx p.value)], undef, .pointer (some ⟨g4, 0, none⟩), yu0 0, v38, .string (tx ((last_m ((([] : List Par) ++ l) ++ [p]) p.key).1)), .bool ((last_m ((([] : List Par) ++ l) ++ [p]) p.key).2), .int .i64 ((y71 : Nat) : Int), yu0 1, yu0 2, yu0 3, yu0 4, lv0, .bool false, .bool false, .pointer (some ⟨g4, 0, none⟩), .string (tx p.key), .int .i64 ((p.key.length : Nat) : Int), .bool false, .bool false, .bool false, .pointer (some ⟨g4, 1, none⟩), .string (tx p.value), .int .i64 ((p.value.length : Nat) : Int), .bool (decide (20000 < p.value.length)), .bool (decide (20000 < p.value.length)), undef, v29, lv0, v32, .agg #[.string (tx p.key), .string (tx p.value)], .slice (some ⟨g35, 0, none⟩) 1 1, v38, .tuple #[.string (tx ((last_m ((([] : List Par) ++ l) ++ [p]) p.key).1)), .bool ((last_m ((([] : List Par) ++ l) ++ [p]) p.key).2)], v38, .pointer (some ⟨g4, 0, none⟩), .string (tx p.key), .tuple #[.string (tx ((last_m ((([] : List Par) ++ l) ++ [p]) p.key).1)), .bool ((last_m ((([] : List Par) ++ l) ++ [p]) p.key).2)], .string (tx ((last_m ((([] : List Par) ++ l) ++ [p]) p.key).1)), .bool ((last_m ((([] : List Par) ++ l) ++ [p]) p.key).2), yu0 5, yu0 6, yu0 7, yu0 8, yu0 9, yu0 10, yu0 11, yu0 12, yu0 13, yu0 14, yu0 15, yu0 16, yu0 17, yu0 18, yu0 19, yu0 20, yu0 21, yu0 22, yu0 23, yu0 24, yu0 25, yu0 26, yu0 27, yu0 28, yu0 29, yu0 30, yu0 31, yu0 32, yu0 33, yu0 34, yu0 35, yu0 36, yu0 37, yu0 38, yu0 39, yu0 40, yu0 41, yu0 42, yu0 43, yu0 44, yu0 45, yu0 46, yu0 47, yu0 48, yu0 49, yu0 50, yu0 51, undef, undef, undef, undef, undef, undef, undef, undef, undef, undef], []⟩ ∧ Mm none (fun _ => True) w w' [.see (Rs ePar 2 l lv0) Fl, .blk g4 #[.string (tx p.key), .string (tx p.value)] 47, .row v38 ((([] : List Par) ++ l) ++ [p]).length (((([] : List Par) ++ l) ++ [p]).flatMap ePar) 47 2, .blk g35 #[.string (tx p.key), .string (tx p.value)] 47]) ?_ ?_
  · refine wp_block ?_
    refine wp_loop_n (fun n' a' w' => ∃ (n68 : Nat) (x67 : Nat) (u0 : Nat → Value), n' = n68 ∧ (l.length - x67) < n68 ∧ llast_m_l0 l p ((l.length - 0) + 1) 0 = llast_m_l0 l p n68 x67 ∧ a' = ⟨#[lv0, .agg #[.string (tx p.key), .string (tx p.value)], undef, .pointer (some ⟨g4, 0, none⟩), u0 0, v38, .string (tx ((last_m ((([] : List Par) ++ l) ++ [p]) p.key).1)), .bool ((last_m ((([] : List Par) ++ l) ++ [p]) p.key).2), .int .i64 ((x67 : Nat) : Int), u0 1, u0 2, u0 3, u0 4, lv0, .bool false, .bool false, .pointer (some ⟨g4, 0, none⟩), .string (tx p.key), .int .i64 ((p.key.length : Nat) : Int), .bool false, .bool false, .bool false, .pointer (some ⟨g4, 1, none⟩), .string (tx p.value), .int .i64 ((p.value.length : Nat) : Int), .bool (decide (20000 < p.value.length)), .bool (decide (20000 < p.value.length)), undef, v29, lv0, v32, .agg #[.string (tx p.key), .string (tx p.value)], .slice (some ⟨g35, 0, none⟩) 1 1, v38, .tuple #[.string (tx ((last_m ((([] : List Par) ++ l) ++ [p]) p.key).1)), .bool ((last_m ((([] : List Par) ++ l) ++ [p]) p.key).2)], v38, .pointer (some ⟨g4, 0, none⟩), .string (tx p.key), .tuple #[.string (tx ((last_m ((([] : List Par) ++ l) ++ [p]) p.key).1)), .bool ((last_m ((([] : List Par) ++ l) ++ [p]) p.key).2)], .string (tx ((last_m ((([] : List Par) ++ l) ++ [p]) p.key).1)), .bool ((last_m ((([] : List Par) ++ l) ++ [p]) p.key).2), u0 5, u0 6, u0 7, u0 8, u0 9, u0 10, u0 11, u0 12, u0 13, u0 14, u0 15, u0 16, u0 17, u0 18, u0 19, u0 20, u0 21, u0 22, u0 23, u0 24, u0 25, u0 26, u0 27, u0 28, u0 29, u0 30, u0 31, u0 32, u0 33, u0 34, u0 35, u0 36, u0 37, u0 38, u0 39, u0 40, u0 41, u0 42, u0 43, u0 44, u0 45, u0 46, u0 47, u0 48, u0 49, u0 50, u0 51, undef, undef, undef, undef, undef, undef, undef, undef, undef, undef], []⟩ ∧ Mm none (fun _ => True) w w' [.see (Rs ePar 2 l lv0) Fl, .blk g4 #[.string (tx p.key), .string (tx p.value)] 47, .row v38 ((([] : List Par) ++ l) ++ [p]).length (((([] : List Par) ++ l) ++ [p]).flatMap ePar) 47 2, .blk g35 #[.string (tx p.key), .string (tx p.value)] 47]) ⟨((l.length - 0) + 1), 0, (fun qq => bif Nat.blt qq 24 then List.getD [.bool false, undef, undef, undef, undef, undef, undef, undef, undef, undef, undef, undef, undef, undef, undef, undef, undef, undef, undef, undef, undef, undef, undef, undef] qq undef else bif Nat.blt qq 48 then List.getD [undef, undef, undef, undef, undef, undef, undef, undef, undef, undef, undef, undef, undef, undef, undef, undef, undef, undef, undef, undef, undef, undef, undef, undef] (qq - 24) undef else List.getD [undef, undef, undef, undef] (qq - 48) undef), rfl, Nat.lt_succ_self _, rfl, rfl, hm64⟩ ?_
    rintro n68 _ w73 ⟨_, x67, u0, rfl, hl77, hi70, rfl, hm74⟩ R75 hR75
    obtain ⟨k69, rfl⟩ : ∃ k, n68 = k + 1 := ⟨n68 - 1, by omega⟩
    refine wp_seq_k (fun K78 hK78 => ?_)
    refine wp_seq_k (fun K79 hK79 => ?_)
    refine wp_region_lit ?_
    refine lvw 41 (.int .i64 ((x67 : Nat) : Int)) rfl rfl (run_mv rfl rfl) ?_
    simp only [nz1, nz2, nz3]
    refine lvw 42 (lv0) rfl rfl (run_mv rfl rfl) ?_
    simp only [nz1, nz2, nz3]
    refine lvw 43 (.int .i64 ((l.length : Nat) : Int)) rfl rfl (s_len ((hm74.see 0 rfl)) rfl Tryd.underlying36 rfl) ?_
    simp only [nz1, nz2, nz3]
    refine lvw 44 (.bool (decide (x67 < l.length))) rfl rfl (r_lss x67 l.length rfl rfl rfl) ?_
    simp only [nz1, nz2, nz3]
    refine wpList_nil ?_
    refine then_n (hK79 _ _ ?_)
    refine cond_d (x67 < l.length) rfl (fun hc80 => ?_) (fun hc80 => ?_)
    rotate_left
    · refine wp_exit ?_
      refine then_x ?_
      refine then_x ?_
      refine blk_x ?_
      refine then_n ?_
      exact ⟨x67, (fun qq => bif Nat.blt qq 24 then List.getD [u0 0, u0 1, u0 2, u0 3, u0 4, .int .i64 ((x67 : Nat) : Int), lv0, .int .i64 ((l.length : Nat) : Int), .bool (decide (x67 < l.length)), u0 9, u0 10, u0 11, u0 12, u0 13, u0 14, u0 15, u0 16, u0 17, u0 18, u0 19, u0 20, u0 21, u0 22, u0 23] qq undef else bif Nat.blt qq 48 then List.getD [u0 24, u0 25, u0 26, u0 27, u0 28, u0 29, u0 30, u0 31, u0 32, u0 33, u0 34, u0 35, u0 36, u0 37, u0 38, u0 39, u0 40, u0 41, u0 42, u0 43, u0 44, u0 45, u0 46, u0 47] (qq - 24) undef else List.getD [u0 48, u0 49, u0 50, u0 51] (qq - 48) undef), (hi70.trans (show llast_m_b0 l p (llast_m_l0 l p k69) x67 = .inl x67 from by unfold llast_m_b0; rw [if_neg hc80] <;> rfl)), rfl, hm74⟩
    refine wp_skip ?_
    refine then_n (hK78 _ _ ?_)
    refine wp_seq_k (fun K81 hK81 => ?_)
    refine wp_block ?_
    refine wp_seq_k (fun K82 hK82 => ?_)
    refine wp_region_lit ?_
    refine lvw 48 (lv0) rfl rfl (run_mv rfl rfl) ?_
    simp only [nz1, nz2, nz3]
    refine lvw 49 (lv0) rfl rfl (run_mv rfl rfl) ?_
    simp only [nz1, nz2, nz3]
    refine lvw 50 (.int .i64 ((x67 : Nat) : Int)) rfl rfl (run_mv rfl rfl) ?_
    simp only [nz1, nz2, nz3]
    refine lvw 51 (.pointer (some ⟨(bk lv0), (po lv0 + x67 * 2), none⟩)) rfl rfl (r_ixv ((hm74.see 0 rfl)) x67 (by omega) Tryd.underlying36 sz_47 rfl rfl rfl) ?_
    simp only [nz1, nz2, nz3]
    refine lvw 52 (.pointer (some ⟨(bk lv0), ((po lv0 + x67 * 2) + 0), none⟩)) rfl rfl (r_fa47_0 (bk lv0) (po lv0 + x67 * 2) rfl rfl) ?_
    simp only [nz1, nz2, nz3]
    refine lvw 53 (.string (tx ((l.getD x67 dPar).key))) rfl rfl (r_cellw (Rs.cell ((hm74.see 0 rfl)) ePar_len dPar x67 (by omega) 0 _ rfl) Tryd.underlying9 rfl rfl rfl) ?_
    simp only [nz1, nz2, nz3]
    refine lst rfl (m_call hm74 54 (.tuple #[.string (tx ((last_m l ((l.getD x67 dPar).key)).1)), .bool ((last_m l ((l.getD x67 dPar).key)).2)]) rfl (run_last rfl rfl rfl) (last_any l ((l.getD x67 dPar).key) lv0 _ (hm74.see 0 rfl) (by first | omega | assumption | (have := great_len (l := l) (by assumption); simp; omega) | (simp; done) | (simp; omega) | (simp only [List.length_append, List.length_cons, List.length_nil]; omega) | (simp only [List.length_append, List.length_cons, List.length_nil] at *; omega) | decide)) (fun w83 (hm84 : Mm none (fun _ => True) w w83 [.see (Rs ePar 2 l lv0) Fl, .blk g4 #[.string (tx p.key), .string (tx p.value)] 47, .row v38 ((([] : List Par) ++ l) ++ [p]).length (((([] : List Par) ++ l) ++ [p]).flatMap ePar) 47 2, .blk g35 #[.string (tx p.key), .string (tx p.value)] 47]) => ?_))
    simp only [nz1, nz2, nz3]
    refine lvw 47 (.tuple #[.string (tx ((last_m l ((l.getD x67 dPar).key)).1)), .bool ((last_m l ((l.getD x67 dPar).key)).2)]) rfl rfl (run_mv rfl rfl) ?_
    simp only [nz1, nz2, nz3]
    refine lvw 55 (.string (tx ((last_m l ((l.getD x67 dPar).key)).1))) rfl rfl (run_ex rfl rfl rfl) ?_
    simp only [nz1, nz2, nz3]
    refine lvw 56 (.bool ((last_m l ((l.getD x67 dPar).key)).2)) rfl rfl (run_ex rfl rfl rfl) ?_
    simp only [nz1, nz2, nz3]
    refine lvw 9 (.string (tx ((last_m l ((l.getD x67 dPar).key)).1))) rfl rfl (run_as rfl rfl) ?_
    simp only [nz1, nz2, nz3]
    refine lvw 10 (.bool ((last_m l ((l.getD x67 dPar).key)).2)) rfl rfl (run_as rfl rfl) ?_
    simp only [nz1, nz2, nz3]
    refine wpList_nil ?_
    refine then_n (hK82 _ _ ?_)
    refine wp_seq_k (fun K85 hK85 => ?_)
    refine wp_region_lit ?_
    refine lvw 58 (v38) rfl rfl (run_mv rfl rfl) ?_
    simp only [nz1, nz2, nz3]
    refine lvw 59 (lv0) rfl rfl (run_mv rfl rfl) ?_
    simp only [nz1, nz2, nz3]
    refine lvw 60 (.int .i64 ((x67 : Nat) : Int)) rfl rfl (run_mv rfl rfl) ?_
    simp only [nz1, nz2, nz3]
    refine lvw 61 (.pointer (some ⟨(bk lv0), (po lv0 + x67 * 2), none⟩)) rfl rfl (r_ixv ((hm84.see 0 rfl)) x67 (by omega) Tryd.underlying36 sz_47 rfl rfl rfl) ?_
    simp only [nz1, nz2, nz3]
    refine lvw 62 (.pointer (some ⟨(bk lv0), ((po lv0 + x67 * 2) + 0), none⟩)) rfl rfl (r_fa47_0 (bk lv0) (po lv0 + x67 * 2) rfl rfl) ?_
    simp only [nz1, nz2, nz3]
    refine lvw 63 (.string (tx ((l.getD x67 dPar).key))) rfl rfl (r_cellw (Rs.cell ((hm84.see 0 rfl)) ePar_len dPar x67 (by omega) 0 _ rfl) Tryd.underlying9 rfl rfl rfl) ?_
    simp only [nz1, nz2, nz3]
    refine lst rfl (m_call hm84 64 (.tuple #[.string (tx ((last_m ((([] : List Par) ++ l) ++ [p]) ((l.getD x67 dPar).key)).1)), .bool ((last_m ((([] : List Par) ++ l) ++ [p]) ((l.getD x67 dPar).key)).2)]) rfl (run_last rfl rfl rfl) (last_any ((([] : List Par) ++ l) ++ [p]) ((l.getD x67 dPar).key) v38 _ (Rs.row (hm84.row 2 rfl)) (by first | omega | assumption | (have := great_len (l := l) (by assumption); simp; omega) | (simp; done) | (simp; omega) | (simp only [List.length_append, List.length_cons, List.length_nil]; omega) | (simp only [List.length_append, List.length_cons, List.length_nil] at *; omega) | decide)) (fun w86 (hm87 : Mm none (fun _ => True) w w86 [.see (Rs ePar 2 l lv0) Fl, .blk g4 #[.string (tx p.key), .string (tx p.value)] 47, .row v38 ((([] : List Par) ++ l) ++ [p]).length (((([] : List Par) ++ l) ++ [p]).flatMap ePar) 47 2, .blk g35 #[.string (tx p.key), .string (tx p.value)] 47]) => ?_))
    simp only [nz1, nz2, nz3]
    refine lvw 57 (.tuple #[.string (tx ((last_m ((([] : List Par) ++ l) ++ [p]) ((l.getD x67 dPar).key)).1)), .bool ((last_m ((([] : List Par) ++ l) ++ [p]) ((l.getD x67 dPar).key)).2)]) rfl rfl (run_mv rfl rfl) ?_
    simp only [nz1, nz2, nz3]
    refine lvw 65 (.string (tx ((last_m ((([] : List Par) ++ l) ++ [p]) ((l.getD x67 dPar).key)).1))) rfl rfl (run_ex rfl rfl rfl) ?_
    simp only [nz1, nz2, nz3]
    refine lvw 66 (.bool ((last_m ((([] : List Par) ++ l) ++ [p]) ((l.getD x67 dPar).key)).2)) rfl rfl (run_ex rfl rfl rfl) ?_
    simp only [nz1, nz2, nz3]
    refine lvw 11 (.string (tx ((last_m ((([] : List Par) ++ l) ++ [p]) ((l.getD x67 dPar).key)).1))) rfl rfl (run_as rfl rfl) ?_
    simp only [nz1, nz2, nz3]
    refine lvw 12 (.bool ((last_m ((([] : List Par) ++ l) ++ [p]) ((l.getD x67 dPar).key)).2)) rfl rfl (run_as rfl rfl) ?_
    simp only [nz1, nz2, nz3]
    refine wpList_nil ?_
    refine then_n (hK85 _ _ ?_)
    refine wp_seq_k (fun K88 hK88 => ?_)
    have hm89 := hm87.drew
    refine wp_region_held_drew (S := fun w' => Mem.Blk w' g4 (#[.string (tx p.key), .string (tx p.value)]) 47 ∧ Rs ePar 2 l lv0 w') (by kernel_rfl) (⟨hm89.at 1 rfl, ((hm89.see 0 rfl))⟩) (fun _ => ?_)
    generalize w86.drew = w90 at *
    refine tk 0 67 (.bool ((last_m l ((l.getD x67 dPar).key)).2)) rfl rfl (fun _ hw => run_mv rfl rfl) (⟨hm89.at 1 rfl, ((hm89.see 0 rfl))⟩) ?_
    simp only [nz1, nz2, nz3]
    refine tkb 1 68 ((!((last_m l ((l.getD x67 dPar).key)).2)) = true) rfl rfl rfl (fun _ hw => (by rw [show decide ((!((last_m l ((l.getD x67 dPar).key)).2)) = true) = (!((last_m l ((l.getD x67 dPar).key)).2)) from Bool.decide_eq_true]; exact r_not ((last_m l ((l.getD x67 dPar).key)).2) rfl rfl)) (⟨hm89.at 1 rfl, ((hm89.see 0 rfl))⟩) (fun hs91 => ?_) (fun hs91 => ?_)
    · simp only [nz1, nz2, nz3]
      refine tk 2 69 (.bool true) rfl rfl (fun _ hw => run_mv rfl rfl) (⟨hm89.at 1 rfl, ((hm89.see 0 rfl))⟩) ?_
      simp only [nz1, nz2, nz3]
      refine skx 3 70 rfl rfl rfl (⟨hm89.at 1 rfl, ((hm89.see 0 rfl))⟩) ?_
      simp only [nz1, nz2, nz3]
      refine skx 4 71 rfl rfl rfl (⟨hm89.at 1 rfl, ((hm89.see 0 rfl))⟩) ?_
      simp only [nz1, nz2, nz3]
      refine tk 5 72 (.bool true) rfl rfl (fun _ hw => run_pick rfl rfl rfl) (⟨hm89.at 1 rfl, ((hm89.see 0 rfl))⟩) ?_
      simp only [nz1, nz2, nz3]
      refine tk 6 73 (.bool true) rfl rfl (fun _ hw => run_mv rfl rfl) (⟨hm89.at 1 rfl, ((hm89.see 0 rfl))⟩) ?_
      simp only [nz1, nz2, nz3]
      refine skx 7 74 rfl rfl rfl (⟨hm89.at 1 rfl, ((hm89.see 0 rfl))⟩) ?_
      simp only [nz1, nz2, nz3]
      refine skx 8 75 rfl rfl rfl (⟨hm89.at 1 rfl, ((hm89.see 0 rfl))⟩) ?_
      simp only [nz1, nz2, nz3]
      refine skx 9 76 rfl rfl rfl (⟨hm89.at 1 rfl, ((hm89.see 0 rfl))⟩) ?_
      simp only [nz1, nz2, nz3]
      refine skx 10 77 rfl rfl rfl (⟨hm89.at 1 rfl, ((hm89.see 0 rfl))⟩) ?_
      simp only [nz1, nz2, nz3]
      refine skx 11 78 rfl rfl rfl (⟨hm89.at 1 rfl, ((hm89.see 0 rfl))⟩) ?_
      simp only [nz1, nz2, nz3]
      refine skx 12 79 rfl rfl rfl (⟨hm89.at 1 rfl, ((hm89.see 0 rfl))⟩) ?_
      simp only [nz1, nz2, nz3]
      refine skx 13 80 rfl rfl rfl (⟨hm89.at 1 rfl, ((hm89.see 0 rfl))⟩) ?_
      simp only [nz1, nz2, nz3]
      refine skx 14 81 rfl rfl rfl (⟨hm89.at 1 rfl, ((hm89.see 0 rfl))⟩) ?_
      simp only [nz1, nz2, nz3]
      refine skx 15 82 rfl rfl rfl (⟨hm89.at 1 rfl, ((hm89.see 0 rfl))⟩) ?_
      simp only [nz1, nz2, nz3]
      refine skx 16 83 rfl rfl rfl (⟨hm89.at 1 rfl, ((hm89.see 0 rfl))⟩) ?_
      simp only [nz1, nz2, nz3]
      refine skx 17 84 rfl rfl rfl (⟨hm89.at 1 rfl, ((hm89.see 0 rfl))⟩) ?_
      simp only [nz1, nz2, nz3]
      refine skx 18 85 rfl rfl rfl (⟨hm89.at 1 rfl, ((hm89.see 0 rfl))⟩) ?_
      simp only [nz1, nz2, nz3]
      refine skx 19 86 rfl rfl rfl (⟨hm89.at 1 rfl, ((hm89.see 0 rfl))⟩) ?_
      simp only [nz1, nz2, nz3]
      refine tk 20 87 (.bool true) rfl rfl (fun _ hw => run_pick rfl rfl rfl) (⟨hm89.at 1 rfl, ((hm89.see 0 rfl))⟩) ?_
      simp only [nz1, nz2, nz3]
      refine wpAnyH_done (by kernel_rfl) ?_ _
      refine then_n (hK88 _ _ ?_)
      refine cond_t rfl ?_
      refine wp_seq_k (fun K92 hK92 => ?_)
      refine wp_region_lit ?_
      refine lvw 4 (.bool false) rfl rfl (run_as rfl rfl) ?_
      simp only [nz1, nz2, nz3]
      refine wpList_nil ?_
      refine then_n (hK92 _ _ ?_)
      refine wp_ret ?_
      refine blk_r ?_
      refine then_r ?_
      refine then_r ?_
      refine blk_r ?_
      refine then_r ?_
      refine then_r ?_
      have he93 : llast_m_l0 l p ((l.length - 0) + 1) 0 = .inr false := (hi70.trans (show llast_m_b0 l p (llast_m_l0 l p k69) x67 = .inr false from by unfold llast_m_b0; rw [if_pos hc80, if_pos hs91] <;> rfl))
      have he94 : llast_m l p = false := (show llast_m l p = false from by unfold llast_m; rw [if_neg hs9, if_neg hs14, if_neg hc19, he93] <;> rfl)
      exact ⟨rfl, .bool false, res_t rfl rfl, ⟨by rw [he94], hm89.below⟩⟩
    simp only [nz1, nz2, nz3]
    refine tk 2 69 (.bool false) rfl rfl (fun _ hw => run_mv rfl rfl) (⟨hm89.at 1 rfl, ((hm89.see 0 rfl))⟩) ?_
    simp only [nz1, nz2, nz3]
    refine Sym.take_at 3 70 (.bool ((last_m ((([] : List Par) ++ l) ++ [p]) ((l.getD x67 dPar).key)).2)) rfl rfl (by kernel_rfl) (by kernel_rfl) (by kernel_rfl) (fun _ _ _ h => h) rfl (fun _ hw => run_mv rfl rfl) (⟨hm89.at 1 rfl, ((hm89.see 0 rfl))⟩) ?_
    simp only [nz1, nz2, nz3]
    refine tkb 4 71 ((!((last_m ((([] : List Par) ++ l) ++ [p]) ((l.getD x67 dPar).key)).2)) = true) rfl rfl rfl (fun _ hw => (by rw [show decide ((!((last_m ((([] : List Par) ++ l) ++ [p]) ((l.getD x67 dPar).key)).2)) = true) = (!((last_m ((([] : List Par) ++ l) ++ [p]) ((l.getD x67 dPar).key)).2)) from Bool.decide_eq_true]; exact r_not ((last_m ((([] : List Par) ++ l) ++ [p]) ((l.getD x67 dPar).key)).2) rfl rfl)) (⟨hm89.at 1 rfl, ((hm89.see 0 rfl))⟩) (fun hs95 => ?_) (fun hs95 => ?_)
    · simp only [nz1, nz2, nz3]
      refine tk 5 72 (.bool true) rfl rfl (fun _ hw => run_pickf rfl rfl rfl) (⟨hm89.at 1 rfl, ((hm89.see 0 rfl))⟩) ?_
      simp only [nz1, nz2, nz3]
      refine tk 6 73 (.bool true) rfl rfl (fun _ hw => run_mv rfl rfl) (⟨hm89.at 1 rfl, ((hm89.see 0 rfl))⟩) ?_
      simp only [nz1, nz2, nz3]
      refine skx 7 74 rfl rfl rfl (⟨hm89.at 1 rfl, ((hm89.see 0 rfl))⟩) ?_
      simp only [nz1, nz2, nz3]
      refine skx 8 75 rfl rfl rfl (⟨hm89.at 1 rfl, ((hm89.see 0 rfl))⟩) ?_
      simp only [nz1, nz2, nz3]
      refine skx 9 76 rfl rfl rfl (⟨hm89.at 1 rfl, ((hm89.see 0 rfl))⟩) ?_
      simp only [nz1, nz2, nz3]
      refine skx 10 77 rfl rfl rfl (⟨hm89.at 1 rfl, ((hm89.see 0 rfl))⟩) ?_
      simp only [nz1, nz2, nz3]
      refine skx 11 78 rfl rfl rfl (⟨hm89.at 1 rfl, ((hm89.see 0 rfl))⟩) ?_
      simp only [nz1, nz2, nz3]
      refine skx 12 79 rfl rfl rfl (⟨hm89.at 1 rfl, ((hm89.see 0 rfl))⟩) ?_
      simp only [nz1, nz2, nz3]
      refine skx 13 80 rfl rfl rfl (⟨hm89.at 1 rfl, ((hm89.see 0 rfl))⟩) ?_
      simp only [nz1, nz2, nz3]
      refine skx 14 81 rfl rfl rfl (⟨hm89.at 1 rfl, ((hm89.see 0 rfl))⟩) ?_
      simp only [nz1, nz2, nz3]
      refine skx 15 82 rfl rfl rfl (⟨hm89.at 1 rfl, ((hm89.see 0 rfl))⟩) ?_
      simp only [nz1, nz2, nz3]
      refine skx 16 83 rfl rfl rfl (⟨hm89.at 1 rfl, ((hm89.see 0 rfl))⟩) ?_
      simp only [nz1, nz2, nz3]
      refine skx 17 84 rfl rfl rfl (⟨hm89.at 1 rfl, ((hm89.see 0 rfl))⟩) ?_
      simp only [nz1, nz2, nz3]
      refine skx 18 85 rfl rfl rfl (⟨hm89.at 1 rfl, ((hm89.see 0 rfl))⟩) ?_
      simp only [nz1, nz2, nz3]
      refine skx 19 86 rfl rfl rfl (⟨hm89.at 1 rfl, ((hm89.see 0 rfl))⟩) ?_
      simp only [nz1, nz2, nz3]
      refine tk 20 87 (.bool true) rfl rfl (fun _ hw => run_pick rfl rfl rfl) (⟨hm89.at 1 rfl, ((hm89.see 0 rfl))⟩) ?_
      simp only [nz1, nz2, nz3]
      refine wpAnyH_done (by kernel_rfl) ?_ _
      refine then_n (hK88 _ _ ?_)
      refine cond_t rfl ?_
      refine wp_seq_k (fun K96 hK96 => ?_)
      refine wp_region_lit ?_
      refine lvw 4 (.bool false) rfl rfl (run_as rfl rfl) ?_
      simp only [nz1, nz2, nz3]
      refine wpList_nil ?_
      refine then_n (hK96 _ _ ?_)
      refine wp_ret ?_
      refine blk_r ?_
      refine then_r ?_
      refine then_r ?_
      refine blk_r ?_
      refine then_r ?_
      refine then_r ?_
      have he97 : llast_m_l0 l p ((l.length - 0) + 1) 0 = .inr false := (hi70.trans (show llast_m_b0 l p (llast_m_l0 l p k69) x67 = .inr false from by unfold llast_m_b0; rw [if_pos hc80, if_neg hs91, if_pos hs95] <;> rfl))
      have he98 : llast_m l p = false := (show llast_m l p = false from by unfold llast_m; rw [if_neg hs9, if_neg hs14, if_neg hc19, he97] <;> rfl)
      exact ⟨rfl, .bool false, res_t rfl rfl, ⟨by rw [he98], hm89.below⟩⟩
    simp only [nz1, nz2, nz3]
    refine tk 5 72 (.bool false) rfl rfl (fun _ hw => run_pickf rfl rfl rfl) (⟨hm89.at 1 rfl, ((hm89.see 0 rfl))⟩) ?_
    simp only [nz1, nz2, nz3]
    refine tk 6 73 (.bool false) rfl rfl (fun _ hw => run_mv rfl rfl) (⟨hm89.at 1 rfl, ((hm89.see 0 rfl))⟩) ?_
    simp only [nz1, nz2, nz3]
    refine Sym.take_at 7 74 (lv0) rfl rfl (by kernel_rfl) (by kernel_rfl) (by kernel_rfl) (fun _ _ _ h => h) rfl (fun _ hw => run_mv rfl rfl) (⟨hm89.at 1 rfl, ((hm89.see 0 rfl))⟩) ?_
    simp only [nz1, nz2, nz3]
    refine Sym.take_at 8 75 (.int .i64 ((x67 : Nat) : Int)) rfl rfl (by kernel_rfl) (by kernel_rfl) (by kernel_rfl) (fun _ _ _ h => h) rfl (fun _ hw => run_mv rfl rfl) (⟨hm89.at 1 rfl, ((hm89.see 0 rfl))⟩) ?_
    simp only [nz1, nz2, nz3]
    refine Sym.take_at 9 76 (.pointer (some ⟨(bk lv0), (po lv0 + x67 * 2), none⟩)) rfl rfl (by kernel_rfl) (by kernel_rfl) (by kernel_rfl) (fun _ _ _ h => h) rfl (fun _ hw => r_ixv ((hm89.see 0 rfl)) x67 (by omega) Tryd.underlying36 sz_47 rfl rfl rfl) (⟨hm89.at 1 rfl, ((hm89.see 0 rfl))⟩) ?_
    simp only [nz1, nz2, nz3]
    refine Sym.take_at 10 77 (.pointer (some ⟨(bk lv0), ((po lv0 + x67 * 2) + 0), none⟩)) rfl rfl (by kernel_rfl) (by kernel_rfl) (by kernel_rfl) (fun _ _ _ h => h) rfl (fun _ hw => r_fa47_0 (bk lv0) (po lv0 + x67 * 2) rfl rfl) (⟨hm89.at 1 rfl, ((hm89.see 0 rfl))⟩) ?_
    simp only [nz1, nz2, nz3]
    refine Sym.take_at 11 78 (.string (tx ((l.getD x67 dPar).key))) rfl rfl (by kernel_rfl) (by kernel_rfl) (by kernel_rfl) (fun _ _ _ h => h) rfl (fun _ hw => r_cellw (Rs.cell hw.2 ePar_len dPar x67 (by omega) 0 _ rfl) Tryd.underlying9 rfl rfl rfl) (⟨hm89.at 1 rfl, ((hm89.see 0 rfl))⟩) ?_
    simp only [nz1, nz2, nz3]
    refine Sym.take_at 12 79 (.pointer (some ⟨g4, 0, none⟩)) rfl rfl (by kernel_rfl) (by kernel_rfl) (by kernel_rfl) (fun _ _ _ h => h) rfl (fun _ hw => r_fa47_0 g4 0 rfl rfl) (⟨hm89.at 1 rfl, ((hm89.see 0 rfl))⟩) ?_
    simp only [nz1, nz2, nz3]
    refine Sym.take_at 13 80 (.string (tx p.key)) rfl rfl (by kernel_rfl) (by kernel_rfl) (by kernel_rfl) (fun _ _ _ h => h) rfl (fun _ hw => r_load hw.1 rfl Tryd.underlying9 rfl rfl rfl) (⟨hm89.at 1 rfl, ((hm89.see 0 rfl))⟩) ?_
    simp only [nz1, nz2, nz3]
    refine tkb 14 81 (¬ (l.getD x67 dPar).key = p.key) rfl rfl rfl (fun _ hw => t_neq ((l.getD x67 dPar).key) p.key rfl rfl rfl) (⟨hm89.at 1 rfl, ((hm89.see 0 rfl))⟩) (fun hs99 => ?_) (fun hs99 => ?_)
    rotate_left
    · simp only [nz1, nz2, nz3]
      refine Sym.take_at 15 82 (.bool false) rfl rfl (by kernel_rfl) (by kernel_rfl) (by kernel_rfl) (fun _ _ _ h => h) rfl (fun _ hw => run_mv rfl rfl) (⟨hm89.at 1 rfl, ((hm89.see 0 rfl))⟩) ?_
      simp only [nz1, nz2, nz3]
      refine skx 16 83 rfl rfl rfl (⟨hm89.at 1 rfl, ((hm89.see 0 rfl))⟩) ?_
      simp only [nz1, nz2, nz3]
      refine skx 17 84 rfl rfl rfl (⟨hm89.at 1 rfl, ((hm89.see 0 rfl))⟩) ?_
      simp only [nz1, nz2, nz3]
      refine skx 18 85 rfl rfl rfl (⟨hm89.at 1 rfl, ((hm89.see 0 rfl))⟩) ?_
      simp only [nz1, nz2, nz3]
      refine Sym.take_at 19 86 (.bool false) rfl rfl (by kernel_rfl) (by kernel_rfl) (by kernel_rfl) (fun _ _ _ h => h) rfl (fun _ hw => run_pickf rfl rfl rfl) (⟨hm89.at 1 rfl, ((hm89.see 0 rfl))⟩) ?_
      simp only [nz1, nz2, nz3]
      refine tk 20 87 (.bool false) rfl rfl (fun _ hw => run_pickf rfl rfl rfl) (⟨hm89.at 1 rfl, ((hm89.see 0 rfl))⟩) ?_
      simp only [nz1, nz2, nz3]
      refine wpAnyH_done (by kernel_rfl) ?_ _
      refine then_n (hK88 _ _ ?_)
      refine cond_f rfl ?_
      refine wp_skip ?_
      refine blk_n ?_
      refine then_n (hK81 _ _ ?_)
      refine wp_region_lit ?_
      refine lvw 45 (.int .i64 ((x67 : Nat) : Int)) rfl rfl (run_mv rfl rfl) ?_
      simp only [nz1, nz2, nz3]
      refine lvw 46 (.int .i64 (((x67 + 1) : Nat) : Int)) rfl rfl (r_add x67 1 (show (x67 + 1) < 9223372036854775808 from by omega) rfl rfl rfl) ?_
      simp only [nz1, nz2, nz3]
      refine lvw 8 (.int .i64 (((x67 + 1) : Nat) : Int)) rfl rfl (run_as rfl rfl) ?_
      simp only [nz1, nz2, nz3]
      refine wpList_nil ?_
      refine then_n (hR75 _ _ _ ⟨k69, (x67 + 1), (fun qq => bif Nat.blt qq 24 then List.getD [u0 0, .string (tx ((last_m l ((l.getD x67 dPar).key)).1)), .bool ((last_m l ((l.getD x67 dPar).key)).2), .string (tx ((last_m ((([] : List Par) ++ l) ++ [p]) ((l.getD x67 dPar).key)).1)), .bool ((last_m ((([] : List Par) ++ l) ++ [p]) ((l.getD x67 dPar).key)).2), .int .i64 ((x67 : Nat) : Int), lv0, .int .i64 ((l.length : Nat) : Int), .bool (decide (x67 < l.length)), .int .i64 ((x67 : Nat) : Int), .int .i64 (((x67 + 1) : Nat) : Int), .tuple #[.string (tx ((last_m l ((l.getD x67 dPar).key)).1)), .bool ((last_m l ((l.getD x67 dPar).key)).2)], lv0, lv0, .int .i64 ((x67 : Nat) : Int), .pointer (some ⟨(bk lv0), (po lv0 + x67 * 2), none⟩), .pointer (some ⟨(bk lv0), ((po lv0 + x67 * 2) + 0), none⟩), .string (tx ((l.getD x67 dPar).key)), .tuple #[.string (tx ((last_m l ((l.getD x67 dPar).key)).1)), .bool ((last_m l ((l.getD x67 dPar).key)).2)], .string (tx ((last_m l ((l.getD x67 dPar).key)).1)), .bool ((last_m l ((l.getD x67 dPar).key)).2), .tuple #[.string (tx ((last_m ((([] : List Par) ++ l) ++ [p]) ((l.getD x67 dPar).key)).1)), .bool ((last_m ((([] : List Par) ++ l) ++ [p]) ((l.getD x67 dPar).key)).2)], v38, lv0] qq undef else bif Nat.blt qq 48 then List.getD [.int .i64 ((x67 : Nat) : Int), .pointer (some ⟨(bk lv0), (po lv0 + x67 * 2), none⟩), .pointer (some ⟨(bk lv0), ((po lv0 + x67 * 2) + 0), none⟩), .string (tx ((l.getD x67 dPar).key)), .tuple #[.string (tx ((last_m ((([] : List Par) ++ l) ++ [p]) ((l.getD x67 dPar).key)).1)), .bool ((last_m ((([] : List Par) ++ l) ++ [p]) ((l.getD x67 dPar).key)).2)], .string (tx ((last_m ((([] : List Par) ++ l) ++ [p]) ((l.getD x67 dPar).key)).1)), .bool ((last_m ((([] : List Par) ++ l) ++ [p]) ((l.getD x67 dPar).key)).2), .bool ((last_m l ((l.getD x67 dPar).key)).2), .bool false, .bool false, .bool ((last_m ((([] : List Par) ++ l) ++ [p]) ((l.getD x67 dPar).key)).2), .bool false, .bool false, .bool false, lv0, .int .i64 ((x67 : Nat) : Int), .pointer (some ⟨(bk lv0), (po lv0 + x67 * 2), none⟩), .pointer (some ⟨(bk lv0), ((po lv0 + x67 * 2) + 0), none⟩), .string (tx ((l.getD x67 dPar).key)), .pointer (some ⟨g4, 0, none⟩), .string (tx p.key), .bool false, .bool false, undef] (qq - 24) undef else List.getD [undef, undef, .bool false, .bool false] (qq - 48) undef), rfl, (by first | omega | (simp; omega) | (simp at *; omega)), (hi70.trans (show llast_m_b0 l p (llast_m_l0 l p k69) x67 = llast_m_l0 l p k69 (x67 + 1) from by unfold llast_m_b0; rw [if_pos hc80, if_neg hs91, if_neg hs95, if_neg hs99] <;> rfl)), rfl, hm89⟩ ?_)
      omega
    simp only [nz1, nz2, nz3]
    refine Sym.take_at 15 82 (.bool true) rfl rfl (by kernel_rfl) (by kernel_rfl) (by kernel_rfl) (fun _ _ _ h => h) rfl (fun _ hw => run_mv rfl rfl) (⟨hm89.at 1 rfl, ((hm89.see 0 rfl))⟩) ?_
    simp only [nz1, nz2, nz3]
    refine Sym.take_at 16 83 (.string (tx ((last_m l ((l.getD x67 dPar).key)).1))) rfl rfl (by kernel_rfl) (by kernel_rfl) (by kernel_rfl) (fun _ _ _ h => h) rfl (fun _ hw => run_mv rfl rfl) (⟨hm89.at 1 rfl, ((hm89.see 0 rfl))⟩) ?_
    simp only [nz1, nz2, nz3]
    refine Sym.take_at 17 84 (.string (tx ((last_m ((([] : List Par) ++ l) ++ [p]) ((l.getD x67 dPar).key)).1))) rfl rfl (by kernel_rfl) (by kernel_rfl) (by kernel_rfl) (fun _ _ _ h => h) rfl (fun _ hw => run_mv rfl rfl) (⟨hm89.at 1 rfl, ((hm89.see 0 rfl))⟩) ?_
    simp only [nz1, nz2, nz3]
    refine Sym.take_at 18 85 (.bool (decide (¬ (last_m l ((l.getD x67 dPar).key)).1 = (last_m ((([] : List Par) ++ l) ++ [p]) ((l.getD x67 dPar).key)).1))) rfl rfl (by kernel_rfl) (by kernel_rfl) (by kernel_rfl) (fun _ _ _ h => h) rfl (fun _ hw => t_neq ((last_m l ((l.getD x67 dPar).key)).1) ((last_m ((([] : List Par) ++ l) ++ [p]) ((l.getD x67 dPar).key)).1) rfl rfl rfl) (⟨hm89.at 1 rfl, ((hm89.see 0 rfl))⟩) ?_
    simp only [nz1, nz2, nz3]
    refine Sym.take_at 19 86 (.bool (decide (¬ (last_m l ((l.getD x67 dPar).key)).1 = (last_m ((([] : List Par) ++ l) ++ [p]) ((l.getD x67 dPar).key)).1))) rfl rfl (by kernel_rfl) (by kernel_rfl) (by kernel_rfl) (fun _ _ _ h => h) rfl (fun _ hw => run_pick rfl rfl rfl) (⟨hm89.at 1 rfl, ((hm89.see 0 rfl))⟩) ?_
    simp only [nz1, nz2, nz3]
    refine tk 20 87 (.bool (decide (¬ (last_m l ((l.getD x67 dPar).key)).1 = (last_m ((([] : List Par) ++ l) ++ [p]) ((l.getD x67 dPar).key)).1))) rfl rfl (fun _ hw => run_pickf rfl rfl rfl) (⟨hm89.at 1 rfl, ((hm89.see 0 rfl))⟩) ?_
    simp only [nz1, nz2, nz3]
    refine wpAnyH_done (by kernel_rfl) ?_ _
    refine then_n (hK88 _ _ ?_)
    refine cond_d (¬ (last_m l ((l.getD x67 dPar).key)).1 = (last_m ((([] : List Par) ++ l) ++ [p]) ((l.getD x67 dPar).key)).1) rfl (fun hc100 => ?_) (fun hc100 => ?_)
    rotate_left
    · refine wp_skip ?_
      refine blk_n ?_
      refine then_n (hK81 _ _ ?_)
      refine wp_region_lit ?_
      refine lvw 45 (.int .i64 ((x67 : Nat) : Int)) rfl rfl (run_mv rfl rfl) ?_
      simp only [nz1, nz2, nz3]
      refine lvw 46 (.int .i64 (((x67 + 1) : Nat) : Int)) rfl rfl (r_add x67 1 (show (x67 + 1) < 9223372036854775808 from by omega) rfl rfl rfl) ?_
      simp only [nz1, nz2, nz3]
      refine lvw 8 (.int .i64 (((x67 + 1) : Nat) : Int)) rfl rfl (run_as rfl rfl) ?_
      simp only [nz1, nz2, nz3]
      refine wpList_nil ?_
      refine then_n (hR75 _ _ _ ⟨k69, (x67 + 1), (fun qq => bif Nat.blt qq 24 then List.getD [u0 0, .string (tx ((last_m l ((l.getD x67 dPar).key)).1)), .bool ((last_m l ((l.getD x67 dPar).key)).2), .string (tx ((last_m ((([] : List Par) ++ l) ++ [p]) ((l.getD x67 dPar).key)).1)), .bool ((last_m ((([] : List Par) ++ l) ++ [p]) ((l.getD x67 dPar).key)).2), .int .i64 ((x67 : Nat) : Int), lv0, .int .i64 ((l.length : Nat) : Int), .bool (decide (x67 < l.length)), .int .i64 ((x67 : Nat) : Int), .int .i64 (((x67 + 1) : Nat) : Int), .tuple #[.string (tx ((last_m l ((l.getD x67 dPar).key)).1)), .bool ((last_m l ((l.getD x67 dPar).key)).2)], lv0, lv0, .int .i64 ((x67 : Nat) : Int), .pointer (some ⟨(bk lv0), (po lv0 + x67 * 2), none⟩), .pointer (some ⟨(bk lv0), ((po lv0 + x67 * 2) + 0), none⟩), .string (tx ((l.getD x67 dPar).key)), .tuple #[.string (tx ((last_m l ((l.getD x67 dPar).key)).1)), .bool ((last_m l ((l.getD x67 dPar).key)).2)], .string (tx ((last_m l ((l.getD x67 dPar).key)).1)), .bool ((last_m l ((l.getD x67 dPar).key)).2), .tuple #[.string (tx ((last_m ((([] : List Par) ++ l) ++ [p]) ((l.getD x67 dPar).key)).1)), .bool ((last_m ((([] : List Par) ++ l) ++ [p]) ((l.getD x67 dPar).key)).2)], v38, lv0] qq undef else bif Nat.blt qq 48 then List.getD [.int .i64 ((x67 : Nat) : Int), .pointer (some ⟨(bk lv0), (po lv0 + x67 * 2), none⟩), .pointer (some ⟨(bk lv0), ((po lv0 + x67 * 2) + 0), none⟩), .string (tx ((l.getD x67 dPar).key)), .tuple #[.string (tx ((last_m ((([] : List Par) ++ l) ++ [p]) ((l.getD x67 dPar).key)).1)), .bool ((last_m ((([] : List Par) ++ l) ++ [p]) ((l.getD x67 dPar).key)).2)], .string (tx ((last_m ((([] : List Par) ++ l) ++ [p]) ((l.getD x67 dPar).key)).1)), .bool ((last_m ((([] : List Par) ++ l) ++ [p]) ((l.getD x67 dPar).key)).2), .bool ((last_m l ((l.getD x67 dPar).key)).2), .bool false, .bool false, .bool ((last_m ((([] : List Par) ++ l) ++ [p]) ((l.getD x67 dPar).key)).2), .bool false, .bool false, .bool false, lv0, .int .i64 ((x67 : Nat) : Int), .pointer (some ⟨(bk lv0), (po lv0 + x67 * 2), none⟩), .pointer (some ⟨(bk lv0), ((po lv0 + x67 * 2) + 0), none⟩), .string (tx ((l.getD x67 dPar).key)), .pointer (some ⟨g4, 0, none⟩), .string (tx p.key), .bool true, .bool true, .string (tx ((last_m l ((l.getD x67 dPar).key)).1))] (qq - 24) undef else List.getD [.string (tx ((last_m ((([] : List Par) ++ l) ++ [p]) ((l.getD x67 dPar).key)).1)), .bool (decide (¬ (last_m l ((l.getD x67 dPar).key)).1 = (last_m ((([] : List Par) ++ l) ++ [p]) ((l.getD x67 dPar).key)).1)), .bool (decide (¬ (last_m l ((l.getD x67 dPar).key)).1 = (last_m ((([] : List Par) ++ l) ++ [p]) ((l.getD x67 dPar).key)).1)), .bool (decide (¬ (last_m l ((l.getD x67 dPar).key)).1 = (last_m ((([] : List Par) ++ l) ++ [p]) ((l.getD x67 dPar).key)).1))] (qq - 48) undef), rfl, (by first | omega | (simp; omega) | (simp at *; omega)), (hi70.trans (show llast_m_b0 l p (llast_m_l0 l p k69) x67 = llast_m_l0 l p k69 (x67 + 1) from by unfold llast_m_b0; rw [if_pos hc80, if_neg hs91, if_neg hs95, if_pos hs99, if_neg hc100] <;> rfl)), rfl, hm89⟩ ?_)
      omega
    refine wp_seq_k (fun K101 hK101 => ?_)
    refine wp_region_lit ?_
    refine lvw 4 (.bool false) rfl rfl (run_as rfl rfl) ?_
    simp only [nz1, nz2, nz3]
    refine wpList_nil ?_
    refine then_n (hK101 _ _ ?_)
    refine wp_ret ?_
    refine blk_r ?_
    refine then_r ?_
    refine then_r ?_
    refine blk_r ?_
    refine then_r ?_
    refine then_r ?_
    have he102 : llast_m_l0 l p ((l.length - 0) + 1) 0 = .inr false := (hi70.trans (show llast_m_b0 l p (llast_m_l0 l p k69) x67 = .inr false from by unfold llast_m_b0; rw [if_pos hc80, if_neg hs91, if_neg hs95, if_pos hs99, if_pos hc100] <;> rfl))
    have he103 : llast_m l p = false := (show llast_m l p = false from by unfold llast_m; rw [if_neg hs9, if_neg hs14, if_neg hc19, he102] <;> rfl)
    exact ⟨rfl, .bool false, res_t rfl rfl, ⟨by rw [he103], hm89.below⟩⟩
  rintro _ w104 ⟨y71, yu0, hx72, rfl, hm105⟩
  have hq106 : llast_m l p = llast_m_k0 l p y71 := (show llast_m l p = llast_m_k0 l p y71 from by unfold llast_m; rw [if_neg hs9, if_neg hs14, if_neg hc19, hx72] <;> rfl)
  refine then_n (hK65 _ _ ?_)
  refine wp_seq_k (fun K107 hK107 => ?_)
  refine wp_region_lit ?_
  refine lst rfl (m_call hm105 88 (.bool (pawake_m)) rfl (run_pawake rfl) (pawake_any   _  (Laid.below hT hm105.below) ) (fun w108 (hm109 : Mm none (fun _ => True) w w108 [.see (Rs ePar 2 l lv0) Fl, .blk g4 #[.string (tx p.key), .string (tx p.value)] 47, .row v38 ((([] : List Par) ++ l) ++ [p]).length (((([] : List Par) ++ l) ++ [p]).flatMap ePar) 47 2, .blk g35 #[.string (tx p.key), .string (tx p.value)] 47]) => ?_))
  simp only [nz1, nz2, nz3]
  by_cases hs110 : pawake_m = true
  rotate_left
  · rw [(Bool.eq_false_iff.2 hs110 : pawake_m = false)]
    refine lvw 89 (.bool false) rfl rfl (run_mv rfl rfl) ?_
    simp only [nz1, nz2, nz3]
    refine lst_skip 90 rfl rfl ?_
    simp only [nz1, nz2, nz3]
    refine lvw 91 (.bool false) rfl rfl (run_pickf rfl rfl rfl) ?_
    simp only [nz1, nz2, nz3]
    refine lvw 92 (.bool false) rfl rfl (run_mv rfl rfl) ?_
    simp only [nz1, nz2, nz3]
    refine lst_skip 93 rfl rfl ?_
    simp only [nz1, nz2, nz3]
    refine lst_skip 94 rfl rfl ?_
    simp only [nz1, nz2, nz3]
    refine lst_skip 95 rfl rfl ?_
    simp only [nz1, nz2, nz3]
    refine lst_skip 96 rfl rfl ?_
    simp only [nz1, nz2, nz3]
    refine lvw 97 (.bool false) rfl rfl (run_pickf rfl rfl rfl) ?_
    simp only [nz1, nz2, nz3]
    refine lvw 4 (.bool false) rfl rfl (run_as rfl rfl) ?_
    simp only [nz1, nz2, nz3]
    refine wpList_nil ?_
    refine then_n (hK107 _ _ ?_)
    refine wp_ret ?_
    have he114 : llast_m l p = false := (hq106.trans (show llast_m_k0 l p y71 = false from by unfold llast_m_k0; rw [if_neg hs110] <;> rfl))
    exact ⟨rfl, .bool false, res_t rfl rfl, ⟨by rw [he114], hm109.below⟩⟩
  rw [(hs110 : pawake_m = true)]
  refine lvw 89 (.bool true) rfl rfl (run_mv rfl rfl) ?_
  simp only [nz1, nz2, nz3]
  refine lvB 90 ((last_m ((([] : List Par) ++ l) ++ [p]) p.key).2) rfl rfl (run_mv rfl rfl) (fun hs111 => ?_) (fun hs111 => ?_)
  · simp only [nz1, nz2, nz3]
    refine lvw 91 (.bool true) rfl rfl (run_pick rfl rfl rfl) ?_
    simp only [nz1, nz2, nz3]
    refine lvw 92 (.bool true) rfl rfl (run_mv rfl rfl) ?_
    simp only [nz1, nz2, nz3]
    refine lvw 93 (.string (tx ((last_m ((([] : List Par) ++ l) ++ [p]) p.key).1))) rfl rfl (run_mv rfl rfl) ?_
    simp only [nz1, nz2, nz3]
    refine lvw 94 (.pointer (some ⟨g4, 1, none⟩)) rfl rfl (r_fa47_1 g4 0 rfl rfl) ?_
    simp only [nz1, nz2, nz3]
    refine lvw 95 (.string (tx p.value)) rfl rfl (r_load (hm109.at 1 rfl) rfl Tryd.underlying9 rfl rfl rfl) ?_
    simp only [nz1, nz2, nz3]
    refine lvw 96 (.bool (decide ((last_m ((([] : List Par) ++ l) ++ [p]) p.key).1 = p.value))) rfl rfl (t_eql ((last_m ((([] : List Par) ++ l) ++ [p]) p.key).1) p.value rfl rfl rfl) ?_
    simp only [nz1, nz2, nz3]
    refine lvw 97 (.bool (decide ((last_m ((([] : List Par) ++ l) ++ [p]) p.key).1 = p.value))) rfl rfl (run_pick rfl rfl rfl) ?_
    simp only [nz1, nz2, nz3]
    refine lvw 4 (.bool (decide ((last_m ((([] : List Par) ++ l) ++ [p]) p.key).1 = p.value))) rfl rfl (run_as rfl rfl) ?_
    simp only [nz1, nz2, nz3]
    refine wpList_nil ?_
    refine then_n (hK107 _ _ ?_)
    refine wp_ret ?_
    have he112 : llast_m l p = (decide ((last_m ((([] : List Par) ++ l) ++ [p]) p.key).1 = p.value)) := (hq106.trans (show llast_m_k0 l p y71 = (decide ((last_m ((([] : List Par) ++ l) ++ [p]) p.key).1 = p.value)) from by unfold llast_m_k0; rw [if_pos hs110, if_pos hs111] <;> rfl))
    exact ⟨rfl, .bool (decide ((last_m ((([] : List Par) ++ l) ++ [p]) p.key).1 = p.value)), res_t rfl rfl, ⟨by rw [he112], hm109.below⟩⟩
  simp only [nz1, nz2, nz3]
  refine lvw 91 (.bool false) rfl rfl (run_pick rfl rfl rfl) ?_
  simp only [nz1, nz2, nz3]
  refine lvw 92 (.bool false) rfl rfl (run_mv rfl rfl) ?_
  simp only [nz1, nz2, nz3]
  refine lst_skip 93 rfl rfl ?_
  simp only [nz1, nz2, nz3]
  refine lst_skip 94 rfl rfl ?_
  simp only [nz1, nz2, nz3]
  refine lst_skip 95 rfl rfl ?_
  simp only [nz1, nz2, nz3]
  refine lst_skip 96 rfl rfl ?_
  simp only [nz1, nz2, nz3]
  refine lvw 97 (.bool false) rfl rfl (run_pickf rfl rfl rfl) ?_
  simp only [nz1, nz2, nz3]
  refine lvw 4 (.bool false) rfl rfl (run_as rfl rfl) ?_
  simp only [nz1, nz2, nz3]
  refine wpList_nil ?_
  refine then_n (hK107 _ _ ?_)
  refine wp_ret ?_
  have he113 : llast_m l p = false := (hq106.trans (show llast_m_k0 l p y71 = false from by unfold llast_m_k0; rw [if_pos hs110, if_neg hs111] <;> rfl))
  exact ⟨rfl, .bool false, res_t rfl rfl, ⟨by rw [he113], hm109.below⟩⟩
theorem run_llast {o : Oper} {a : Act} {w : World} {x0 x1 : Operand} {v0 v1 : Value} (ho : o.op = .call { callee := .value (.func 12), args := #[x0, x1], argTypes := #[36, 47] }) (h0 : a.eval x0 = v0) (h1 : a.eval x1 = v1) :
    (execOp a.eval o).run Tryd.prog w = .ok (.enter 12 #[v0, v1]) w := by
  unfold execOp
  simp only [ho]
  have hf : a.eval (.func 12) = .func (.func 12) #[] #[] := rfl
  generalize a.eval = f at *
  go_simp
end Go.Proofs.YtglnifckngcpkaaDoor.Px
