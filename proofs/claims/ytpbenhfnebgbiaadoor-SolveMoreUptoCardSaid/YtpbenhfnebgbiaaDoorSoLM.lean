/- Layer 20: SolveMore. -/
import Derived.Test.YtpbenhfnebgbiaaDoorSoE
namespace Go.Proofs.YtpbenhfnebgbiaaDoor.So
open Go.RowKit
open Go.Proofs.YtpbenhfnebgbiaaDoor.Sym Go.Proofs.YtpbenhfnebgbiaaDoor.Mem
open Go.Proofs.YtpbenhfnebgbiaaDoor.Sx hiding Mm m_alloc m_store m_put m_call m_callx m_make m_append r_string r_ixS
set_option linter.unusedVariables false
open Go.Proofs.YtpbenhfnebgbiaaDoor.Pa
open Go.Proofs.YtpbenhfnebgbiaaDoor.Ve
attribute [local irreducible] holds_m meets_m lacks_m clashes_m solve_m needs_m users_m
attribute [local irreducible] great_m
attribute [local irreducible] sawake_m
attribute [local irreducible] wpList Oper.wp

def lmore_m (l : List Mf) (m : Mf) : Bool :=
  if 500 < grn l then
    sawake_m
  else
    if 0 < l.length then
      if (clashes_m l).length < (clashes_m (l.drop 1)).length then
        false
      else
        if sawake_m = true then
          if (lacks_m ((([] : List Mf) ++ l) ++ ([(Mf.mk m.name m.version ([] : List Rul) ([] : List Rul) m.entries)] : List Mf))).length ≤ (lacks_m l).length then
            (decide ((clashes_m l).length ≤ (clashes_m ((([] : List Mf) ++ l) ++ ([(Mf.mk m.name m.version ([] : List Rul) ([] : List Rul) m.entries)] : List Mf))).length))
          else
            false
        else
          false
    else
      if sawake_m = true then
        if (lacks_m ((([] : List Mf) ++ l) ++ ([(Mf.mk m.name m.version ([] : List Rul) ([] : List Rul) m.entries)] : List Mf))).length ≤ (lacks_m l).length then
          (decide ((clashes_m l).length ≤ (clashes_m ((([] : List Mf) ++ l) ++ ([(Mf.mk m.name m.version ([] : List Rul) ([] : List Rul) m.entries)] : List Mf))).length))
        else
          false
      else
        false

set_option maxHeartbeats 4000000 in
set_option maxRecDepth 100000 in
theorem lmore_any (l : List Mf) (m : Mf) (lv0 : Value) (lv1 : List (Value × Value × Value)) (mv0 : Value) (mv1 : Value) (mv2 : Value) (w : World) (hl : Rn nMf 5 MfN l lv1 lv0 w) (hm : MfR m mv0 mv1 mv2 w) (hp0 : l.length ≤ 268435456) (hp1 : okl l) : Calls Tryd.prog 4 #[lv0, .agg #[.string (tx m.name), .string (tx m.version), mv0, mv1, mv2]] w (fun e w' => e = .returned (.bool ((lmore_m l m))) ∧ Below w.heap.size w w') := by
  go_enter Tryd.func4, Tryd.ntmps4
  have hm00 := Mm.nil none (fun _ => True) w
  obtain ⟨Fl, hm01⟩ : ∃ Fl, Mm none (fun _ => True) w w [.see (Rn nMf 5 MfN l lv1 lv0) Fl] := hm00.come ((Rn.all MfN_all) hl)
  obtain ⟨Fm, hm02⟩ : ∃ Fm, Mm none (fun _ => True) w w [.see (Rn nMf 5 MfN l lv1 lv0) Fl, .see (MfR m mv0 mv1 mv2) Fm] := hm01.come (MfR_all hm)
  have hm0 := hm02
  refine wp_seq_k (fun K1 hK1 => ?_)
  refine wp_region_lit ?_
  refine lst rfl (m_alloc (c := #[.string (tx m.name), .string (tx m.version), mv0, mv1, mv2]) (T := 37) hm0 3 rfl (run_box rfl rfl) (fun g4 w2 (hm3 : Mm none (fun _ => True) w w2 [.see (Rn nMf 5 MfN l lv1 lv0) Fl, .see (MfR m mv0 mv1 mv2) Fm, .blk g4 #[.string (tx m.name), .string (tx m.version), mv0, mv1, mv2] 37]) => ?_))
  simp only [nz1, nz2, nz3]
  refine lvw 4 (.bool false) rfl rfl (run_as rfl rfl) ?_
  simp only [nz1, nz2, nz3]
  refine wpList_nil ?_
  refine then_n (hK1 _ _ ?_)
  refine wp_seq_k (fun K5 hK5 => ?_)
  refine wp_seq_k (fun K6 hK6 => ?_)
  refine wp_region_lit ?_
  refine lvw 6 (lv0) rfl rfl (run_mv rfl rfl) ?_
  simp only [nz1, nz2, nz3]
  refine lst rfl (m_call hm3 7 (.bool (decide (500 < grn l))) rfl (run_great rfl rfl) (greatd_any l lv0 lv1 _ (hm3.see 0 rfl) (by first | omega | assumption | ((repeat' (first | assumption | exact okl_nil | apply okl_app | apply okl_drop | apply okl_take | apply okl_cons | exact (okl_at (by assumption) _).1 | exact (okl_at (by assumption) _).2 | (simp; done) | (simp; omega) | decide)); done) | (simp; done) | (simp; omega) | (simp only [List.length_append, List.length_cons, List.length_nil]; omega) | (simp only [List.length_append, List.length_cons, List.length_nil] at *; omega) | decide) (by first | omega | assumption | ((repeat' (first | assumption | exact okl_nil | apply okl_app | apply okl_drop | apply okl_take | apply okl_cons | exact (okl_at (by assumption) _).1 | exact (okl_at (by assumption) _).2 | (simp; done) | (simp; omega) | decide)); done) | (simp; done) | (simp; omega) | (simp only [List.length_append, List.length_cons, List.length_nil]; omega) | (simp only [List.length_append, List.length_cons, List.length_nil] at *; omega) | decide)) (fun w7 (hm8 : Mm none (fun _ => True) w w7 [.see (Rn nMf 5 MfN l lv1 lv0) Fl, .see (MfR m mv0 mv1 mv2) Fm, .blk g4 #[.string (tx m.name), .string (tx m.version), mv0, mv1, mv2] 37]) => ?_))
  have hf9 : l.length ≤ grn l := grn_len l
  simp only [nz1, nz2, nz3]
  refine wpList_nil ?_
  refine then_n (hK6 _ _ ?_)
  refine cond_d (500 < grn l) rfl (fun hc10 => ?_) (fun hc10 => ?_)
  · refine wp_seq_k (fun K11 hK11 => ?_)
    refine wp_region_lit ?_
    refine lst rfl (m_call hm8 8 (.bool (sawake_m)) rfl (run_sawake rfl) (sawake_any   _  ) (fun w12 (hm13 : Mm none (fun _ => True) w w12 [.see (Rn nMf 5 MfN l lv1 lv0) Fl, .see (MfR m mv0 mv1 mv2) Fm, .blk g4 #[.string (tx m.name), .string (tx m.version), mv0, mv1, mv2] 37]) => ?_))
    simp only [nz1, nz2, nz3]
    refine lvw 4 (.bool (sawake_m)) rfl rfl (run_as rfl rfl) ?_
    simp only [nz1, nz2, nz3]
    refine wpList_nil ?_
    refine then_n (hK11 _ _ ?_)
    refine wp_ret ?_
    refine then_r ?_
    have he14 : lmore_m l m = sawake_m := (show lmore_m l m = sawake_m from by unfold lmore_m; rw [if_pos hc10] <;> rfl)
    exact ⟨rfl, .bool (sawake_m), res_t rfl rfl, ⟨by (rw [he14]; try rfl), hm13.below⟩⟩
  refine wp_skip ?_
  refine then_n (hK5 _ _ ?_)
  refine wp_seq_k (fun K15 hK15 => ?_)
  refine wp_region_lit ?_
  refine lvw 9 (.pointer (some ⟨g4, 2, none⟩)) rfl rfl (r_fa37_2 g4 0 rfl rfl) ?_
  simp only [nz1, nz2, nz3]
  have ho18 := (show (Value.slice none 0 0).oneCell' = true from rfl)
  refine lst rfl (m_store 2 28 _ _ 2 (.slice none 0 0) (old := #[.string (tx m.name), .string (tx m.version), mv0, mv1, mv2]) (new := #[.string (tx m.name), .string (tx m.version), .slice none 0 0, mv1, mv2]) hm8 rfl rfl rfl rfl rfl (by rw [cells_one ho18]; exact sz_28) (by rw [cells_one ho18]; exact (show 2 + 1 ≤ 5 from by decide)) (one_all ho18) (by rw [cells_one ho18]; rfl) (fun w16 (hm17 : Mm none (fun _ => True) w w16 [.see (Rn nMf 5 MfN l lv1 lv0) Fl, .see (MfR m mv0 mv1 mv2) Fm, .blk g4 #[.string (tx m.name), .string (tx m.version), .slice none 0 0, mv1, mv2] 37]) => ?_))
  refine lvw 10 (.pointer (some ⟨g4, 3, none⟩)) rfl rfl (r_fa37_3 g4 0 rfl rfl) ?_
  simp only [nz1, nz2, nz3]
  have ho21 := (show (Value.slice none 0 0).oneCell' = true from rfl)
  refine lst rfl (m_store 2 28 _ _ 3 (.slice none 0 0) (old := #[.string (tx m.name), .string (tx m.version), .slice none 0 0, mv1, mv2]) (new := #[.string (tx m.name), .string (tx m.version), .slice none 0 0, .slice none 0 0, mv2]) hm17 rfl rfl rfl rfl rfl (by rw [cells_one ho21]; exact sz_28) (by rw [cells_one ho21]; exact (show 3 + 1 ≤ 5 from by decide)) (one_all ho21) (by rw [cells_one ho21]; rfl) (fun w19 (hm20 : Mm none (fun _ => True) w w19 [.see (Rn nMf 5 MfN l lv1 lv0) Fl, .see (MfR m mv0 mv1 mv2) Fm, .blk g4 #[.string (tx m.name), .string (tx m.version), .slice none 0 0, .slice none 0 0, mv2] 37]) => ?_))
  refine wpList_nil ?_
  refine then_n (hK15 _ _ ?_)
  refine wp_seq_k (fun K22 hK22 => ?_)
  refine wp_mono (Q := fun e a' w' => e = Exit.normal ∧ ∃ (v42 : Value) (F28 : Nat → Prop) (F34 : Nat → Prop) (g39 : Nat) (F43 : Nat → Prop) (v27 : Value) (v33 : Value), a' = ⟨#[lv0, .agg #[.string (tx m.name), .string (tx m.version), mv0, mv1, mv2], undef, .pointer (some ⟨g4, 0, none⟩), .bool false, v42, lv0, .bool (decide (500 < grn l)), undef, .pointer (some ⟨g4, 2, none⟩), .pointer (some ⟨g4, 3, none⟩), v27, lv0, v33, .agg #[.string (tx m.name), .string (tx m.version), .slice none 0 0, .slice none 0 0, mv2], .slice (some ⟨g39, 0, none⟩) 1 1, v42, undef, undef, undef, undef, undef, undef, undef, undef, undef, undef, undef, undef, undef, undef, undef, undef, undef, undef, undef, undef, undef, undef, undef, undef, undef, undef, undef, undef, undef, undef, undef, undef], []⟩ ∧ Mm none (fun _ => True) w w' [.see (Rn nMf 5 MfN l lv1 lv0) Fl, .see (MfR m mv0 mv1 mv2) Fm, .blk g4 #[.string (tx m.name), .string (tx m.version), .slice none 0 0, .slice none 0 0, mv2] 37, .row v42 (((([] : List Mf) ++ l) ++ ([(Mf.mk m.name m.version ([] : List Rul) ([] : List Rul) m.entries)] : List Mf)).zip ((([] : List (Value × Value × Value)) ++ lv1) ++ ([(.slice none 0 0, .slice none 0 0, mv2)] : List (Value × Value × Value)))).length ((((([] : List Mf) ++ l) ++ ([(Mf.mk m.name m.version ([] : List Rul) ([] : List Rul) m.entries)] : List Mf)).zip ((([] : List (Value × Value × Value)) ++ lv1) ++ ([(.slice none 0 0, .slice none 0 0, mv2)] : List (Value × Value × Value)))).flatMap nMf) 37 5, .see (Els MfN ([] : List Mf) ([] : List (Value × Value × Value))) F28, .see (Els MfN (([] : List Mf) ++ l) (([] : List (Value × Value × Value)) ++ lv1)) F34, .blk g39 #[.string (tx m.name), .string (tx m.version), .slice none 0 0, .slice none 0 0, mv2] 37, .see (Els MfN ((([] : List Mf) ++ l) ++ ([(Mf.mk m.name m.version ([] : List Rul) ([] : List Rul) m.entries)] : List Mf)) ((([] : List (Value × Value × Value)) ++ lv1) ++ ([(.slice none 0 0, .slice none 0 0, mv2)] : List (Value × Value × Value)))) F43]) ?_ ?_
  · have hm23 := hm20.drew
    refine wp_region_held_drew (S := fun w' => Mem.Blk w' g4 (#[.string (tx m.name), .string (tx m.version), .slice none 0 0, .slice none 0 0, mv2]) 37) (by kernel_rfl) (hm23.at 2 rfl) (fun _ => ?_)
    generalize w19.drew = w24 at *
    refine Sym.take_at 1 12 (lv0) rfl rfl (by kernel_rfl) (by kernel_rfl) (by kernel_rfl) (fun _ _ _ h => nomatch h.1) rfl (fun _ hw => run_mv rfl rfl) (hm23.at 2 rfl) ?_
    simp only [nz1, nz2, nz3]
    refine Sym.take_at 3 14 (.agg #[.string (tx m.name), .string (tx m.version), .slice none 0 0, .slice none 0 0, mv2]) rfl rfl (by kernel_rfl) (by kernel_rfl) (by kernel_rfl) (fun _ _ _ h => nomatch h.1) rfl (fun _ hw => r_whole hw Tryd.underlying37 rfl (by exact sz_37) rfl rfl) (hm23.at 2 rfl) ?_
    simp only [nz1, nz2, nz3]
    refine two_ready 0 4 (by kernel_rfl) ?_ ?_
    · refine opd rfl rfl (m_lit0 (α := Mf × (Value × Value × Value)) (enc := nMf) (size := 5) (e := 37) hm23 11 rfl (by unfold execOp; go_simp; try rfl) (fun v27 w25 (hm26 : Mm none (fun _ => True) w w25 [.see (Rn nMf 5 MfN l lv1 lv0) Fl, .see (MfR m mv0 mv1 mv2) Fm, .blk g4 #[.string (tx m.name), .string (tx m.version), .slice none 0 0, .slice none 0 0, mv2] 37, .row v27 (([] : List Mf).zip ([] : List (Value × Value × Value))).length ((([] : List Mf).zip ([] : List (Value × Value × Value))).flatMap nMf) 37 5]) => ?_))
      obtain ⟨F28, hm29⟩ : ∃ F28, Mm none (fun _ => True) w w25 [.see (Rn nMf 5 MfN l lv1 lv0) Fl, .see (MfR m mv0 mv1 mv2) Fm, .blk g4 #[.string (tx m.name), .string (tx m.version), .slice none 0 0, .slice none 0 0, mv2] 37, .row v27 (([] : List Mf).zip ([] : List (Value × Value × Value))).length ((([] : List Mf).zip ([] : List (Value × Value × Value))).flatMap nMf) 37 5, .see (Els MfN ([] : List Mf) ([] : List (Value × Value × Value))) F28] := hm26.derive (From.pure (fun _ => Els.nil))
      refine ⟨hm29.at 2 rfl, ?_⟩
      simp only [nz1, nz2, nz3]
      refine two_ready 2 4 (by kernel_rfl) ?_ ?_
      · obtain ⟨iq, hiq, hz1, hz2, hz3⟩ := inf_37
        refine opd rfl rfl (m_appendN 3 (l := ([] : List Mf)) (u := ([] : List (Value × Value × Value))) (l2 := l) (u2 := lv1) iq _ _ _ (lv0) (hm29.see 4 rfl).1 hm29 rfl 13 rfl rfl Tryd.underlying22 hiq hz1 hz2 hz3 nMf_len nMf_one rfl (by decide) rfl rfl (hm29.see 0 rfl) (by first | omega | (simp; omega)) (by first | omega | (simp; omega)) (fun v33 w31 (hm32 : Mm none (fun _ => True) w w31 [.see (Rn nMf 5 MfN l lv1 lv0) Fl, .see (MfR m mv0 mv1 mv2) Fm, .blk g4 #[.string (tx m.name), .string (tx m.version), .slice none 0 0, .slice none 0 0, mv2] 37, .row v33 ((([] : List Mf) ++ l).zip (([] : List (Value × Value × Value)) ++ lv1)).length (((([] : List Mf) ++ l).zip (([] : List (Value × Value × Value)) ++ lv1)).flatMap nMf) 37 5, .see (Els MfN ([] : List Mf) ([] : List (Value × Value × Value))) F28]) => ?_))
        obtain ⟨F34, hm35⟩ : ∃ F34, Mm none (fun _ => True) w w31 [.see (Rn nMf 5 MfN l lv1 lv0) Fl, .see (MfR m mv0 mv1 mv2) Fm, .blk g4 #[.string (tx m.name), .string (tx m.version), .slice none 0 0, .slice none 0 0, mv2] 37, .row v33 ((([] : List Mf) ++ l).zip (([] : List (Value × Value × Value)) ++ lv1)).length (((([] : List Mf) ++ l).zip (([] : List (Value × Value × Value)) ++ lv1)).flatMap nMf) 37 5, .see (Els MfN ([] : List Mf) ([] : List (Value × Value × Value))) F28, .see (Els MfN (([] : List Mf) ++ l) (([] : List (Value × Value × Value)) ++ lv1)) F34] := hm32.derive (((hm32.from 4 rfl).and ((hm32.from 0 rfl).mono (fun _ h => h.2))).mono (fun _ h => Els.app h.1 h.2))
        refine ⟨hm35.at 2 rfl, ?_⟩
        simp only [nz1, nz2, nz3]
        refine one_ready 4 (by kernel_rfl) ?_
        refine opd rfl rfl (m_make (c := #[.string (tx m.name), .string (tx m.version), .slice none 0 0, .slice none 0 0, mv2]) (T := 37) (fun g => .slice (some ⟨g, 0, none⟩) 1 1) hm35 15 rfl (by unfold execOp; go_simp; try rfl) (fun g39 w37 hm38 => ?_))
        refine ⟨hm38.at 2 rfl, ?_⟩
        simp only [nz1, nz2, nz3]
        refine one_ready 5 (by kernel_rfl) ?_
        obtain ⟨iq, hiq, hz1, hz2, hz3⟩ := inf_37
        refine opd rfl rfl (m_appendN 3 (l := (([] : List Mf) ++ l)) (u := (([] : List (Value × Value × Value)) ++ lv1)) (l2 := ([(Mf.mk m.name m.version ([] : List Rul) ([] : List Rul) m.entries)] : List Mf)) (u2 := ([(.slice none 0 0, .slice none 0 0, mv2)] : List (Value × Value × Value))) iq _ _ _ (.slice (some ⟨g39, 0, none⟩) 1 1) (hm38.see 5 rfl).1 hm38 rfl 16 rfl rfl Tryd.underlying22 hiq hz1 hz2 hz3 nMf_len nMf_one rfl (by decide) rfl rfl (Rn.blk (l := ([(Mf.mk m.name m.version ([] : List Rul) ([] : List Rul) m.entries)] : List Mf)) (u := [(.slice none 0 0, .slice none 0 0, mv2)]) (hm38.at 6 rfl) rfl rfl nMf_len (Nat.le_refl _) (Els.app (Els.one (RM := MfN) (a := (Mf.mk m.name m.version ([] : List Rul) ([] : List Rul) m.entries)) (b := (.slice none 0 0, .slice none 0 0, mv2)) (⟨(Rs.nil eRul 3 _), (Rs.nil eRul 3 _), (hm38.see 1 rfl).2.2⟩)) Els.nil)) (by first | omega | (simp; omega)) (by first | omega | (simp; omega)) (fun v42 w40 (hm41 : Mm none (fun _ => True) w w40 [.see (Rn nMf 5 MfN l lv1 lv0) Fl, .see (MfR m mv0 mv1 mv2) Fm, .blk g4 #[.string (tx m.name), .string (tx m.version), .slice none 0 0, .slice none 0 0, mv2] 37, .row v42 (((([] : List Mf) ++ l) ++ ([(Mf.mk m.name m.version ([] : List Rul) ([] : List Rul) m.entries)] : List Mf)).zip ((([] : List (Value × Value × Value)) ++ lv1) ++ ([(.slice none 0 0, .slice none 0 0, mv2)] : List (Value × Value × Value)))).length ((((([] : List Mf) ++ l) ++ ([(Mf.mk m.name m.version ([] : List Rul) ([] : List Rul) m.entries)] : List Mf)).zip ((([] : List (Value × Value × Value)) ++ lv1) ++ ([(.slice none 0 0, .slice none 0 0, mv2)] : List (Value × Value × Value)))).flatMap nMf) 37 5, .see (Els MfN ([] : List Mf) ([] : List (Value × Value × Value))) F28, .see (Els MfN (([] : List Mf) ++ l) (([] : List (Value × Value × Value)) ++ lv1)) F34, .blk g39 #[.string (tx m.name), .string (tx m.version), .slice none 0 0, .slice none 0 0, mv2] 37]) => ?_))
        obtain ⟨F43, hm44⟩ : ∃ F43, Mm none (fun _ => True) w w40 [.see (Rn nMf 5 MfN l lv1 lv0) Fl, .see (MfR m mv0 mv1 mv2) Fm, .blk g4 #[.string (tx m.name), .string (tx m.version), .slice none 0 0, .slice none 0 0, mv2] 37, .row v42 (((([] : List Mf) ++ l) ++ ([(Mf.mk m.name m.version ([] : List Rul) ([] : List Rul) m.entries)] : List Mf)).zip ((([] : List (Value × Value × Value)) ++ lv1) ++ ([(.slice none 0 0, .slice none 0 0, mv2)] : List (Value × Value × Value)))).length ((((([] : List Mf) ++ l) ++ ([(Mf.mk m.name m.version ([] : List Rul) ([] : List Rul) m.entries)] : List Mf)).zip ((([] : List (Value × Value × Value)) ++ lv1) ++ ([(.slice none 0 0, .slice none 0 0, mv2)] : List (Value × Value × Value)))).flatMap nMf) 37 5, .see (Els MfN ([] : List Mf) ([] : List (Value × Value × Value))) F28, .see (Els MfN (([] : List Mf) ++ l) (([] : List (Value × Value × Value)) ++ lv1)) F34, .blk g39 #[.string (tx m.name), .string (tx m.version), .slice none 0 0, .slice none 0 0, mv2] 37, .see (Els MfN ((([] : List Mf) ++ l) ++ ([(Mf.mk m.name m.version ([] : List Rul) ([] : List Rul) m.entries)] : List Mf)) ((([] : List (Value × Value × Value)) ++ lv1) ++ ([(.slice none 0 0, .slice none 0 0, mv2)] : List (Value × Value × Value)))) F43] := hm41.derive (((hm41.from 5 rfl).and ((((From.pure (fun W => Rs.nil eRul 3 W)).and ((From.pure (fun W => Rs.nil eRul 3 W)).and ((hm41.from 1 rfl).mono (fun _ h => h.2.2)))).and (From.pure (fun _ => Els.nil))).mono (fun _ h => Els.app (Els.one (RM := MfN) (a := (Mf.mk m.name m.version ([] : List Rul) ([] : List Rul) m.entries)) (b := (.slice none 0 0, .slice none 0 0, mv2)) h.1) h.2))).mono (fun _ h => Els.app h.1 h.2))
        refine ⟨hm44.at 2 rfl, ?_⟩
        simp only [nz1, nz2, nz3]
        refine one_ready 6 (by kernel_rfl) ?_
        refine opd rfl rfl (w_value 5 (v42) rfl (run_as rfl rfl) ⟨hm44.at 2 rfl, ?_⟩)
        simp only [nz1, nz2, nz3]
        refine wpAnyH_done (by kernel_rfl) ?_ _
        exact ⟨rfl, v42, F28, F34, g39, F43, v27, v33, rfl, hm44⟩
      · refine opd rfl rfl (m_make (c := #[.string (tx m.name), .string (tx m.version), .slice none 0 0, .slice none 0 0, mv2]) (T := 37) (fun g => .slice (some ⟨g, 0, none⟩) 1 1) hm29 15 rfl (by unfold execOp; go_simp; try rfl) (fun g48 w46 hm47 => ?_))
        refine ⟨hm47.at 2 rfl, ?_⟩
        simp only [nz1, nz2, nz3]
        refine one_ready 2 (by kernel_rfl) ?_
        obtain ⟨iq, hiq, hz1, hz2, hz3⟩ := inf_37
        refine opd rfl rfl (m_appendN 3 (l := ([] : List Mf)) (u := ([] : List (Value × Value × Value))) (l2 := l) (u2 := lv1) iq _ _ _ (lv0) (hm47.see 4 rfl).1 hm47 rfl 13 rfl rfl Tryd.underlying22 hiq hz1 hz2 hz3 nMf_len nMf_one rfl (by decide) rfl rfl (hm47.see 0 rfl) (by first | omega | (simp; omega)) (by first | omega | (simp; omega)) (fun v51 w49 (hm50 : Mm none (fun _ => True) w w49 [.see (Rn nMf 5 MfN l lv1 lv0) Fl, .see (MfR m mv0 mv1 mv2) Fm, .blk g4 #[.string (tx m.name), .string (tx m.version), .slice none 0 0, .slice none 0 0, mv2] 37, .row v51 ((([] : List Mf) ++ l).zip (([] : List (Value × Value × Value)) ++ lv1)).length (((([] : List Mf) ++ l).zip (([] : List (Value × Value × Value)) ++ lv1)).flatMap nMf) 37 5, .see (Els MfN ([] : List Mf) ([] : List (Value × Value × Value))) F28, .blk g48 #[.string (tx m.name), .string (tx m.version), .slice none 0 0, .slice none 0 0, mv2] 37]) => ?_))
        obtain ⟨F52, hm53⟩ : ∃ F52, Mm none (fun _ => True) w w49 [.see (Rn nMf 5 MfN l lv1 lv0) Fl, .see (MfR m mv0 mv1 mv2) Fm, .blk g4 #[.string (tx m.name), .string (tx m.version), .slice none 0 0, .slice none 0 0, mv2] 37, .row v51 ((([] : List Mf) ++ l).zip (([] : List (Value × Value × Value)) ++ lv1)).length (((([] : List Mf) ++ l).zip (([] : List (Value × Value × Value)) ++ lv1)).flatMap nMf) 37 5, .see (Els MfN ([] : List Mf) ([] : List (Value × Value × Value))) F28, .blk g48 #[.string (tx m.name), .string (tx m.version), .slice none 0 0, .slice none 0 0, mv2] 37, .see (Els MfN (([] : List Mf) ++ l) (([] : List (Value × Value × Value)) ++ lv1)) F52] := hm50.derive (((hm50.from 4 rfl).and ((hm50.from 0 rfl).mono (fun _ h => h.2))).mono (fun _ h => Els.app h.1 h.2))
        refine ⟨hm53.at 2 rfl, ?_⟩
        simp only [nz1, nz2, nz3]
        refine one_ready 5 (by kernel_rfl) ?_
        obtain ⟨iq, hiq, hz1, hz2, hz3⟩ := inf_37
        refine opd rfl rfl (m_appendN 3 (l := (([] : List Mf) ++ l)) (u := (([] : List (Value × Value × Value)) ++ lv1)) (l2 := ([(Mf.mk m.name m.version ([] : List Rul) ([] : List Rul) m.entries)] : List Mf)) (u2 := ([(.slice none 0 0, .slice none 0 0, mv2)] : List (Value × Value × Value))) iq _ _ _ (.slice (some ⟨g48, 0, none⟩) 1 1) (hm53.see 6 rfl).1 hm53 rfl 16 rfl rfl Tryd.underlying22 hiq hz1 hz2 hz3 nMf_len nMf_one rfl (by decide) rfl rfl (Rn.blk (l := ([(Mf.mk m.name m.version ([] : List Rul) ([] : List Rul) m.entries)] : List Mf)) (u := [(.slice none 0 0, .slice none 0 0, mv2)]) (hm53.at 5 rfl) rfl rfl nMf_len (Nat.le_refl _) (Els.app (Els.one (RM := MfN) (a := (Mf.mk m.name m.version ([] : List Rul) ([] : List Rul) m.entries)) (b := (.slice none 0 0, .slice none 0 0, mv2)) (⟨(Rs.nil eRul 3 _), (Rs.nil eRul 3 _), (hm53.see 1 rfl).2.2⟩)) Els.nil)) (by first | omega | (simp; omega)) (by first | omega | (simp; omega)) (fun v57 w55 (hm56 : Mm none (fun _ => True) w w55 [.see (Rn nMf 5 MfN l lv1 lv0) Fl, .see (MfR m mv0 mv1 mv2) Fm, .blk g4 #[.string (tx m.name), .string (tx m.version), .slice none 0 0, .slice none 0 0, mv2] 37, .row v57 (((([] : List Mf) ++ l) ++ ([(Mf.mk m.name m.version ([] : List Rul) ([] : List Rul) m.entries)] : List Mf)).zip ((([] : List (Value × Value × Value)) ++ lv1) ++ ([(.slice none 0 0, .slice none 0 0, mv2)] : List (Value × Value × Value)))).length ((((([] : List Mf) ++ l) ++ ([(Mf.mk m.name m.version ([] : List Rul) ([] : List Rul) m.entries)] : List Mf)).zip ((([] : List (Value × Value × Value)) ++ lv1) ++ ([(.slice none 0 0, .slice none 0 0, mv2)] : List (Value × Value × Value)))).flatMap nMf) 37 5, .see (Els MfN ([] : List Mf) ([] : List (Value × Value × Value))) F28, .blk g48 #[.string (tx m.name), .string (tx m.version), .slice none 0 0, .slice none 0 0, mv2] 37, .see (Els MfN (([] : List Mf) ++ l) (([] : List (Value × Value × Value)) ++ lv1)) F52]) => ?_))
        obtain ⟨F58, hm59⟩ : ∃ F58, Mm none (fun _ => True) w w55 [.see (Rn nMf 5 MfN l lv1 lv0) Fl, .see (MfR m mv0 mv1 mv2) Fm, .blk g4 #[.string (tx m.name), .string (tx m.version), .slice none 0 0, .slice none 0 0, mv2] 37, .row v57 (((([] : List Mf) ++ l) ++ ([(Mf.mk m.name m.version ([] : List Rul) ([] : List Rul) m.entries)] : List Mf)).zip ((([] : List (Value × Value × Value)) ++ lv1) ++ ([(.slice none 0 0, .slice none 0 0, mv2)] : List (Value × Value × Value)))).length ((((([] : List Mf) ++ l) ++ ([(Mf.mk m.name m.version ([] : List Rul) ([] : List Rul) m.entries)] : List Mf)).zip ((([] : List (Value × Value × Value)) ++ lv1) ++ ([(.slice none 0 0, .slice none 0 0, mv2)] : List (Value × Value × Value)))).flatMap nMf) 37 5, .see (Els MfN ([] : List Mf) ([] : List (Value × Value × Value))) F28, .blk g48 #[.string (tx m.name), .string (tx m.version), .slice none 0 0, .slice none 0 0, mv2] 37, .see (Els MfN (([] : List Mf) ++ l) (([] : List (Value × Value × Value)) ++ lv1)) F52, .see (Els MfN ((([] : List Mf) ++ l) ++ ([(Mf.mk m.name m.version ([] : List Rul) ([] : List Rul) m.entries)] : List Mf)) ((([] : List (Value × Value × Value)) ++ lv1) ++ ([(.slice none 0 0, .slice none 0 0, mv2)] : List (Value × Value × Value)))) F58] := hm56.derive (((hm56.from 6 rfl).and ((((From.pure (fun W => Rs.nil eRul 3 W)).and ((From.pure (fun W => Rs.nil eRul 3 W)).and ((hm56.from 1 rfl).mono (fun _ h => h.2.2)))).and (From.pure (fun _ => Els.nil))).mono (fun _ h => Els.app (Els.one (RM := MfN) (a := (Mf.mk m.name m.version ([] : List Rul) ([] : List Rul) m.entries)) (b := (.slice none 0 0, .slice none 0 0, mv2)) h.1) h.2))).mono (fun _ h => Els.app h.1 h.2))
        refine ⟨hm59.at 2 rfl, ?_⟩
        simp only [nz1, nz2, nz3]
        refine one_ready 6 (by kernel_rfl) ?_
        refine opd rfl rfl (w_value 5 (v57) rfl (run_as rfl rfl) ⟨hm59.at 2 rfl, ?_⟩)
        simp only [nz1, nz2, nz3]
        refine wpAnyH_done (by kernel_rfl) ?_ _
        exact ⟨rfl, v57, F28, F52, g48, F58, v27, v51, rfl, (Mm.reorder hm59 [0, 1, 2, 3, 4, 6, 5, 7] (by decide) rfl)⟩
    · refine opd rfl rfl (m_make (c := #[.string (tx m.name), .string (tx m.version), .slice none 0 0, .slice none 0 0, mv2]) (T := 37) (fun g => .slice (some ⟨g, 0, none⟩) 1 1) hm23 15 rfl (by unfold execOp; go_simp; try rfl) (fun g63 w61 hm62 => ?_))
      refine ⟨hm62.at 2 rfl, ?_⟩
      simp only [nz1, nz2, nz3]
      refine one_ready 0 (by kernel_rfl) ?_
      refine opd rfl rfl (m_lit0 (α := Mf × (Value × Value × Value)) (enc := nMf) (size := 5) (e := 37) hm62 11 rfl (by unfold execOp; go_simp; try rfl) (fun v66 w64 (hm65 : Mm none (fun _ => True) w w64 [.see (Rn nMf 5 MfN l lv1 lv0) Fl, .see (MfR m mv0 mv1 mv2) Fm, .blk g4 #[.string (tx m.name), .string (tx m.version), .slice none 0 0, .slice none 0 0, mv2] 37, .blk g63 #[.string (tx m.name), .string (tx m.version), .slice none 0 0, .slice none 0 0, mv2] 37, .row v66 (([] : List Mf).zip ([] : List (Value × Value × Value))).length ((([] : List Mf).zip ([] : List (Value × Value × Value))).flatMap nMf) 37 5]) => ?_))
      obtain ⟨F67, hm68⟩ : ∃ F67, Mm none (fun _ => True) w w64 [.see (Rn nMf 5 MfN l lv1 lv0) Fl, .see (MfR m mv0 mv1 mv2) Fm, .blk g4 #[.string (tx m.name), .string (tx m.version), .slice none 0 0, .slice none 0 0, mv2] 37, .blk g63 #[.string (tx m.name), .string (tx m.version), .slice none 0 0, .slice none 0 0, mv2] 37, .row v66 (([] : List Mf).zip ([] : List (Value × Value × Value))).length ((([] : List Mf).zip ([] : List (Value × Value × Value))).flatMap nMf) 37 5, .see (Els MfN ([] : List Mf) ([] : List (Value × Value × Value))) F67] := hm65.derive (From.pure (fun _ => Els.nil))
      refine ⟨hm68.at 2 rfl, ?_⟩
      simp only [nz1, nz2, nz3]
      refine one_ready 2 (by kernel_rfl) ?_
      obtain ⟨iq, hiq, hz1, hz2, hz3⟩ := inf_37
      refine opd rfl rfl (m_appendN 4 (l := ([] : List Mf)) (u := ([] : List (Value × Value × Value))) (l2 := l) (u2 := lv1) iq _ _ _ (lv0) (hm68.see 5 rfl).1 hm68 rfl 13 rfl rfl Tryd.underlying22 hiq hz1 hz2 hz3 nMf_len nMf_one rfl (by decide) rfl rfl (hm68.see 0 rfl) (by first | omega | (simp; omega)) (by first | omega | (simp; omega)) (fun v72 w70 (hm71 : Mm none (fun _ => True) w w70 [.see (Rn nMf 5 MfN l lv1 lv0) Fl, .see (MfR m mv0 mv1 mv2) Fm, .blk g4 #[.string (tx m.name), .string (tx m.version), .slice none 0 0, .slice none 0 0, mv2] 37, .blk g63 #[.string (tx m.name), .string (tx m.version), .slice none 0 0, .slice none 0 0, mv2] 37, .row v72 ((([] : List Mf) ++ l).zip (([] : List (Value × Value × Value)) ++ lv1)).length (((([] : List Mf) ++ l).zip (([] : List (Value × Value × Value)) ++ lv1)).flatMap nMf) 37 5, .see (Els MfN ([] : List Mf) ([] : List (Value × Value × Value))) F67]) => ?_))
      obtain ⟨F73, hm74⟩ : ∃ F73, Mm none (fun _ => True) w w70 [.see (Rn nMf 5 MfN l lv1 lv0) Fl, .see (MfR m mv0 mv1 mv2) Fm, .blk g4 #[.string (tx m.name), .string (tx m.version), .slice none 0 0, .slice none 0 0, mv2] 37, .blk g63 #[.string (tx m.name), .string (tx m.version), .slice none 0 0, .slice none 0 0, mv2] 37, .row v72 ((([] : List Mf) ++ l).zip (([] : List (Value × Value × Value)) ++ lv1)).length (((([] : List Mf) ++ l).zip (([] : List (Value × Value × Value)) ++ lv1)).flatMap nMf) 37 5, .see (Els MfN ([] : List Mf) ([] : List (Value × Value × Value))) F67, .see (Els MfN (([] : List Mf) ++ l) (([] : List (Value × Value × Value)) ++ lv1)) F73] := hm71.derive (((hm71.from 5 rfl).and ((hm71.from 0 rfl).mono (fun _ h => h.2))).mono (fun _ h => Els.app h.1 h.2))
      refine ⟨hm74.at 2 rfl, ?_⟩
      simp only [nz1, nz2, nz3]
      refine one_ready 5 (by kernel_rfl) ?_
      obtain ⟨iq, hiq, hz1, hz2, hz3⟩ := inf_37
      refine opd rfl rfl (m_appendN 4 (l := (([] : List Mf) ++ l)) (u := (([] : List (Value × Value × Value)) ++ lv1)) (l2 := ([(Mf.mk m.name m.version ([] : List Rul) ([] : List Rul) m.entries)] : List Mf)) (u2 := ([(.slice none 0 0, .slice none 0 0, mv2)] : List (Value × Value × Value))) iq _ _ _ (.slice (some ⟨g63, 0, none⟩) 1 1) (hm74.see 6 rfl).1 hm74 rfl 16 rfl rfl Tryd.underlying22 hiq hz1 hz2 hz3 nMf_len nMf_one rfl (by decide) rfl rfl (Rn.blk (l := ([(Mf.mk m.name m.version ([] : List Rul) ([] : List Rul) m.entries)] : List Mf)) (u := [(.slice none 0 0, .slice none 0 0, mv2)]) (hm74.at 3 rfl) rfl rfl nMf_len (Nat.le_refl _) (Els.app (Els.one (RM := MfN) (a := (Mf.mk m.name m.version ([] : List Rul) ([] : List Rul) m.entries)) (b := (.slice none 0 0, .slice none 0 0, mv2)) (⟨(Rs.nil eRul 3 _), (Rs.nil eRul 3 _), (hm74.see 1 rfl).2.2⟩)) Els.nil)) (by first | omega | (simp; omega)) (by first | omega | (simp; omega)) (fun v78 w76 (hm77 : Mm none (fun _ => True) w w76 [.see (Rn nMf 5 MfN l lv1 lv0) Fl, .see (MfR m mv0 mv1 mv2) Fm, .blk g4 #[.string (tx m.name), .string (tx m.version), .slice none 0 0, .slice none 0 0, mv2] 37, .blk g63 #[.string (tx m.name), .string (tx m.version), .slice none 0 0, .slice none 0 0, mv2] 37, .row v78 (((([] : List Mf) ++ l) ++ ([(Mf.mk m.name m.version ([] : List Rul) ([] : List Rul) m.entries)] : List Mf)).zip ((([] : List (Value × Value × Value)) ++ lv1) ++ ([(.slice none 0 0, .slice none 0 0, mv2)] : List (Value × Value × Value)))).length ((((([] : List Mf) ++ l) ++ ([(Mf.mk m.name m.version ([] : List Rul) ([] : List Rul) m.entries)] : List Mf)).zip ((([] : List (Value × Value × Value)) ++ lv1) ++ ([(.slice none 0 0, .slice none 0 0, mv2)] : List (Value × Value × Value)))).flatMap nMf) 37 5, .see (Els MfN ([] : List Mf) ([] : List (Value × Value × Value))) F67, .see (Els MfN (([] : List Mf) ++ l) (([] : List (Value × Value × Value)) ++ lv1)) F73]) => ?_))
      obtain ⟨F79, hm80⟩ : ∃ F79, Mm none (fun _ => True) w w76 [.see (Rn nMf 5 MfN l lv1 lv0) Fl, .see (MfR m mv0 mv1 mv2) Fm, .blk g4 #[.string (tx m.name), .string (tx m.version), .slice none 0 0, .slice none 0 0, mv2] 37, .blk g63 #[.string (tx m.name), .string (tx m.version), .slice none 0 0, .slice none 0 0, mv2] 37, .row v78 (((([] : List Mf) ++ l) ++ ([(Mf.mk m.name m.version ([] : List Rul) ([] : List Rul) m.entries)] : List Mf)).zip ((([] : List (Value × Value × Value)) ++ lv1) ++ ([(.slice none 0 0, .slice none 0 0, mv2)] : List (Value × Value × Value)))).length ((((([] : List Mf) ++ l) ++ ([(Mf.mk m.name m.version ([] : List Rul) ([] : List Rul) m.entries)] : List Mf)).zip ((([] : List (Value × Value × Value)) ++ lv1) ++ ([(.slice none 0 0, .slice none 0 0, mv2)] : List (Value × Value × Value)))).flatMap nMf) 37 5, .see (Els MfN ([] : List Mf) ([] : List (Value × Value × Value))) F67, .see (Els MfN (([] : List Mf) ++ l) (([] : List (Value × Value × Value)) ++ lv1)) F73, .see (Els MfN ((([] : List Mf) ++ l) ++ ([(Mf.mk m.name m.version ([] : List Rul) ([] : List Rul) m.entries)] : List Mf)) ((([] : List (Value × Value × Value)) ++ lv1) ++ ([(.slice none 0 0, .slice none 0 0, mv2)] : List (Value × Value × Value)))) F79] := hm77.derive (((hm77.from 6 rfl).and ((((From.pure (fun W => Rs.nil eRul 3 W)).and ((From.pure (fun W => Rs.nil eRul 3 W)).and ((hm77.from 1 rfl).mono (fun _ h => h.2.2)))).and (From.pure (fun _ => Els.nil))).mono (fun _ h => Els.app (Els.one (RM := MfN) (a := (Mf.mk m.name m.version ([] : List Rul) ([] : List Rul) m.entries)) (b := (.slice none 0 0, .slice none 0 0, mv2)) h.1) h.2))).mono (fun _ h => Els.app h.1 h.2))
      refine ⟨hm80.at 2 rfl, ?_⟩
      simp only [nz1, nz2, nz3]
      refine one_ready 6 (by kernel_rfl) ?_
      refine opd rfl rfl (w_value 5 (v78) rfl (run_as rfl rfl) ⟨hm80.at 2 rfl, ?_⟩)
      simp only [nz1, nz2, nz3]
      refine wpAnyH_done (by kernel_rfl) ?_ _
      exact ⟨rfl, v78, F67, F73, g63, F79, v66, v72, rfl, (Mm.reorder hm80 [0, 1, 2, 4, 5, 6, 3, 7] (by decide) rfl)⟩
  clear hm20
  rintro _ _ w82 ⟨rfl, v42, F28, F34, g39, F43, v27, v33, rfl, hm83⟩
  refine then_n (hK22 _ _ ?_)
  refine wp_seq_k (fun K84 hK84 => ?_)
  refine wp_seq_k (fun K85 hK85 => ?_)
  refine wp_region_lit ?_
  refine lvw 17 (lv0) rfl rfl (run_mv rfl rfl) ?_
  simp only [nz1, nz2, nz3]
  refine lvw 18 (.int .i64 ((l.length : Nat) : Int)) rfl rfl (s_len ((hm83.see 0 rfl)).rd rfl Tryd.underlying22 rfl) ?_
  simp only [nz1, nz2, nz3]
  refine lvb 19 (0 < l.length) rfl rfl (r_gtr l.length 0 rfl rfl rfl) (fun hs86 => ?_) (fun hs86 => ?_)
  rotate_left
  · simp only [nz1, nz2, nz3]
    refine lvw 20 (.bool false) rfl rfl (run_mv rfl rfl) ?_
    simp only [nz1, nz2, nz3]
    refine lst_skip 21 rfl rfl ?_
    simp only [nz1, nz2, nz3]
    refine lst_skip 22 rfl rfl ?_
    simp only [nz1, nz2, nz3]
    refine lst_skip 23 rfl rfl ?_
    simp only [nz1, nz2, nz3]
    refine lst_skip 24 rfl rfl ?_
    simp only [nz1, nz2, nz3]
    refine lst_skip 25 rfl rfl ?_
    simp only [nz1, nz2, nz3]
    refine lst_skip 26 rfl rfl ?_
    simp only [nz1, nz2, nz3]
    refine lst_skip 27 rfl rfl ?_
    simp only [nz1, nz2, nz3]
    refine lst_skip 28 rfl rfl ?_
    simp only [nz1, nz2, nz3]
    refine lvw 29 (.bool false) rfl rfl (run_pickf rfl rfl rfl) ?_
    simp only [nz1, nz2, nz3]
    refine wpList_nil ?_
    refine then_n (hK85 _ _ ?_)
    refine cond_f rfl ?_
    refine wp_skip ?_
    refine then_n (hK84 _ _ ?_)
    refine wp_seq_k (fun K146 hK146 => ?_)
    refine wp_region_lit ?_
    refine lst rfl (m_call hm83 30 (.bool (sawake_m)) rfl (run_sawake rfl) (sawake_any   _  ) (fun w147 (hm148 : Mm none (fun _ => True) w w147 [.see (Rn nMf 5 MfN l lv1 lv0) Fl, .see (MfR m mv0 mv1 mv2) Fm, .blk g4 #[.string (tx m.name), .string (tx m.version), .slice none 0 0, .slice none 0 0, mv2] 37, .row v42 (((([] : List Mf) ++ l) ++ ([(Mf.mk m.name m.version ([] : List Rul) ([] : List Rul) m.entries)] : List Mf)).zip ((([] : List (Value × Value × Value)) ++ lv1) ++ ([(.slice none 0 0, .slice none 0 0, mv2)] : List (Value × Value × Value)))).length ((((([] : List Mf) ++ l) ++ ([(Mf.mk m.name m.version ([] : List Rul) ([] : List Rul) m.entries)] : List Mf)).zip ((([] : List (Value × Value × Value)) ++ lv1) ++ ([(.slice none 0 0, .slice none 0 0, mv2)] : List (Value × Value × Value)))).flatMap nMf) 37 5, .see (Els MfN ([] : List Mf) ([] : List (Value × Value × Value))) F28, .see (Els MfN (([] : List Mf) ++ l) (([] : List (Value × Value × Value)) ++ lv1)) F34, .blk g39 #[.string (tx m.name), .string (tx m.version), .slice none 0 0, .slice none 0 0, mv2] 37, .see (Els MfN ((([] : List Mf) ++ l) ++ ([(Mf.mk m.name m.version ([] : List Rul) ([] : List Rul) m.entries)] : List Mf)) ((([] : List (Value × Value × Value)) ++ lv1) ++ ([(.slice none 0 0, .slice none 0 0, mv2)] : List (Value × Value × Value)))) F43]) => ?_))
    simp only [nz1, nz2, nz3]
    by_cases hs149 : sawake_m = true
    rotate_left
    · rw [(Bool.eq_false_iff.2 hs149 : sawake_m = false)]
      refine lvw 31 (.bool false) rfl rfl (run_mv rfl rfl) ?_
      simp only [nz1, nz2, nz3]
      refine lst_skip 32 rfl rfl ?_
      simp only [nz1, nz2, nz3]
      refine lst_skip 33 rfl rfl ?_
      simp only [nz1, nz2, nz3]
      refine lst_skip 34 rfl rfl ?_
      simp only [nz1, nz2, nz3]
      refine lst_skip 35 rfl rfl ?_
      simp only [nz1, nz2, nz3]
      refine lst_skip 36 rfl rfl ?_
      simp only [nz1, nz2, nz3]
      refine lst_skip 37 rfl rfl ?_
      simp only [nz1, nz2, nz3]
      refine lst_skip 38 rfl rfl ?_
      simp only [nz1, nz2, nz3]
      refine lvw 39 (.bool false) rfl rfl (run_pickf rfl rfl rfl) ?_
      simp only [nz1, nz2, nz3]
      refine lvw 40 (.bool false) rfl rfl (run_mv rfl rfl) ?_
      simp only [nz1, nz2, nz3]
      refine lst_skip 41 rfl rfl ?_
      simp only [nz1, nz2, nz3]
      refine lst_skip 42 rfl rfl ?_
      simp only [nz1, nz2, nz3]
      refine lst_skip 43 rfl rfl ?_
      simp only [nz1, nz2, nz3]
      refine lst_skip 44 rfl rfl ?_
      simp only [nz1, nz2, nz3]
      refine lst_skip 45 rfl rfl ?_
      simp only [nz1, nz2, nz3]
      refine lst_skip 46 rfl rfl ?_
      simp only [nz1, nz2, nz3]
      refine lst_skip 47 rfl rfl ?_
      simp only [nz1, nz2, nz3]
      refine lvw 48 (.bool false) rfl rfl (run_pickf rfl rfl rfl) ?_
      simp only [nz1, nz2, nz3]
      refine lvw 4 (.bool false) rfl rfl (run_as rfl rfl) ?_
      simp only [nz1, nz2, nz3]
      refine wpList_nil ?_
      refine then_n (hK146 _ _ ?_)
      refine wp_ret ?_
      have he185 : lmore_m l m = false := (show lmore_m l m = false from by unfold lmore_m; rw [if_neg hc10, if_neg hs86, if_neg hs149] <;> rfl)
      exact ⟨rfl, .bool false, res_t rfl rfl, ⟨by (rw [he185]; try rfl), hm148.below⟩⟩
    rw [(hs149 : sawake_m = true)]
    refine lvw 31 (.bool true) rfl rfl (run_mv rfl rfl) ?_
    simp only [nz1, nz2, nz3]
    refine lvw 32 (v42) rfl rfl (run_mv rfl rfl) ?_
    simp only [nz1, nz2, nz3]
    refine lst rfl (m_callx hm148 33 rfl (run_lacks rfl rfl) (lacks_any ((([] : List Mf) ++ l) ++ ([(Mf.mk m.name m.version ([] : List Rul) ([] : List Rul) m.entries)] : List Mf)) v42 ((([] : List (Value × Value × Value)) ++ lv1) ++ ([(.slice none 0 0, .slice none 0 0, mv2)] : List (Value × Value × Value))) _ (Rn.row (hm148.row 3 rfl) (hm148.see 7 rfl)) (by first | omega | assumption | ((repeat' (first | assumption | exact okl_nil | apply okl_app | apply okl_drop | apply okl_take | apply okl_cons | exact (okl_at (by assumption) _).1 | exact (okl_at (by assumption) _).2 | (simp; done) | (simp; omega) | decide)); done) | (simp; done) | (simp; omega) | (simp only [List.length_append, List.length_cons, List.length_nil]; omega) | (simp only [List.length_append, List.length_cons, List.length_nil] at *; omega) | decide) (by first | omega | assumption | ((repeat' (first | assumption | exact okl_nil | apply okl_app | apply okl_drop | apply okl_take | apply okl_cons | exact (okl_at (by assumption) _).1 | exact (okl_at (by assumption) _).2 | (simp; done) | (simp; omega) | decide)); done) | (simp; done) | (simp; omega) | (simp only [List.length_append, List.length_cons, List.length_nil]; omega) | (simp only [List.length_append, List.length_cons, List.length_nil] at *; omega) | decide)) (fun v152 w150 hR154 hb155 hm151 => ?_))
    obtain ⟨_, rfl, ho157⟩ := hR154
    have hm156 : Mm none (fun _ => True) w w150 [.see (Rn nMf 5 MfN l lv1 lv0) Fl, .see (MfR m mv0 mv1 mv2) Fm, .blk g4 #[.string (tx m.name), .string (tx m.version), .slice none 0 0, .slice none 0 0, mv2] 37, .row v42 (((([] : List Mf) ++ l) ++ ([(Mf.mk m.name m.version ([] : List Rul) ([] : List Rul) m.entries)] : List Mf)).zip ((([] : List (Value × Value × Value)) ++ lv1) ++ ([(.slice none 0 0, .slice none 0 0, mv2)] : List (Value × Value × Value)))).length ((((([] : List Mf) ++ l) ++ ([(Mf.mk m.name m.version ([] : List Rul) ([] : List Rul) m.entries)] : List Mf)).zip ((([] : List (Value × Value × Value)) ++ lv1) ++ ([(.slice none 0 0, .slice none 0 0, mv2)] : List (Value × Value × Value)))).flatMap nMf) 37 5, .see (Els MfN ([] : List Mf) ([] : List (Value × Value × Value))) F28, .see (Els MfN (([] : List Mf) ++ l) (([] : List (Value × Value × Value)) ++ lv1)) F34, .blk g39 #[.string (tx m.name), .string (tx m.version), .slice none 0 0, .slice none 0 0, mv2] 37, .see (Els MfN ((([] : List Mf) ++ l) ++ ([(Mf.mk m.name m.version ([] : List Rul) ([] : List Rul) m.entries)] : List Mf)) ((([] : List (Value × Value × Value)) ++ lv1) ++ ([(.slice none 0 0, .slice none 0 0, mv2)] : List (Value × Value × Value)))) F43, .row v152 (lacks_m ((([] : List Mf) ++ l) ++ ([(Mf.mk m.name m.version ([] : List Rul) ([] : List Rul) m.entries)] : List Mf))).length ((lacks_m ((([] : List Mf) ++ l) ++ ([(Mf.mk m.name m.version ([] : List Rul) ([] : List Rul) m.entries)] : List Mf))).flatMap eRul) 24 3] := hm148.gained hb155 ho157
    clear hm151
    simp only [nz1, nz2, nz3]
    refine lvw 34 (.int .i64 (((lacks_m ((([] : List Mf) ++ l) ++ ([(Mf.mk m.name m.version ([] : List Rul) ([] : List Rul) m.entries)] : List Mf))).length : Nat) : Int)) rfl rfl (s_len (Rs.row (hm156.row 8 rfl)) rfl Tryd.underlying28 rfl) ?_
    simp only [nz1, nz2, nz3]
    refine lvw 35 (lv0) rfl rfl (run_mv rfl rfl) ?_
    simp only [nz1, nz2, nz3]
    refine lst rfl (m_callx hm156 36 rfl (run_lacks rfl rfl) (lacks_any l lv0 lv1 _ (hm156.see 0 rfl) (by first | omega | assumption | ((repeat' (first | assumption | exact okl_nil | apply okl_app | apply okl_drop | apply okl_take | apply okl_cons | exact (okl_at (by assumption) _).1 | exact (okl_at (by assumption) _).2 | (simp; done) | (simp; omega) | decide)); done) | (simp; done) | (simp; omega) | (simp only [List.length_append, List.length_cons, List.length_nil]; omega) | (simp only [List.length_append, List.length_cons, List.length_nil] at *; omega) | decide) (by first | omega | assumption | ((repeat' (first | assumption | exact okl_nil | apply okl_app | apply okl_drop | apply okl_take | apply okl_cons | exact (okl_at (by assumption) _).1 | exact (okl_at (by assumption) _).2 | (simp; done) | (simp; omega) | decide)); done) | (simp; done) | (simp; omega) | (simp only [List.length_append, List.length_cons, List.length_nil]; omega) | (simp only [List.length_append, List.length_cons, List.length_nil] at *; omega) | decide)) (fun v160 w158 hR162 hb163 hm159 => ?_))
    obtain ⟨_, rfl, ho165⟩ := hR162
    have hm164 : Mm none (fun _ => True) w w158 [.see (Rn nMf 5 MfN l lv1 lv0) Fl, .see (MfR m mv0 mv1 mv2) Fm, .blk g4 #[.string (tx m.name), .string (tx m.version), .slice none 0 0, .slice none 0 0, mv2] 37, .row v42 (((([] : List Mf) ++ l) ++ ([(Mf.mk m.name m.version ([] : List Rul) ([] : List Rul) m.entries)] : List Mf)).zip ((([] : List (Value × Value × Value)) ++ lv1) ++ ([(.slice none 0 0, .slice none 0 0, mv2)] : List (Value × Value × Value)))).length ((((([] : List Mf) ++ l) ++ ([(Mf.mk m.name m.version ([] : List Rul) ([] : List Rul) m.entries)] : List Mf)).zip ((([] : List (Value × Value × Value)) ++ lv1) ++ ([(.slice none 0 0, .slice none 0 0, mv2)] : List (Value × Value × Value)))).flatMap nMf) 37 5, .see (Els MfN ([] : List Mf) ([] : List (Value × Value × Value))) F28, .see (Els MfN (([] : List Mf) ++ l) (([] : List (Value × Value × Value)) ++ lv1)) F34, .blk g39 #[.string (tx m.name), .string (tx m.version), .slice none 0 0, .slice none 0 0, mv2] 37, .see (Els MfN ((([] : List Mf) ++ l) ++ ([(Mf.mk m.name m.version ([] : List Rul) ([] : List Rul) m.entries)] : List Mf)) ((([] : List (Value × Value × Value)) ++ lv1) ++ ([(.slice none 0 0, .slice none 0 0, mv2)] : List (Value × Value × Value)))) F43, .row v152 (lacks_m ((([] : List Mf) ++ l) ++ ([(Mf.mk m.name m.version ([] : List Rul) ([] : List Rul) m.entries)] : List Mf))).length ((lacks_m ((([] : List Mf) ++ l) ++ ([(Mf.mk m.name m.version ([] : List Rul) ([] : List Rul) m.entries)] : List Mf))).flatMap eRul) 24 3, .row v160 (lacks_m l).length ((lacks_m l).flatMap eRul) 24 3] := hm156.gained hb163 ho165
    clear hm159
    simp only [nz1, nz2, nz3]
    refine lvw 37 (.int .i64 (((lacks_m l).length : Nat) : Int)) rfl rfl (s_len (Rs.row (hm164.row 9 rfl)) rfl Tryd.underlying28 rfl) ?_
    simp only [nz1, nz2, nz3]
    refine lvb 38 ((lacks_m ((([] : List Mf) ++ l) ++ ([(Mf.mk m.name m.version ([] : List Rul) ([] : List Rul) m.entries)] : List Mf))).length ≤ (lacks_m l).length) rfl rfl (r_leq ((lacks_m ((([] : List Mf) ++ l) ++ ([(Mf.mk m.name m.version ([] : List Rul) ([] : List Rul) m.entries)] : List Mf))).length) ((lacks_m l).length) rfl rfl rfl) (fun hs166 => ?_) (fun hs166 => ?_)
    rotate_left
    · simp only [nz1, nz2, nz3]
      refine lvw 39 (.bool false) rfl rfl (run_pick rfl rfl rfl) ?_
      simp only [nz1, nz2, nz3]
      refine lvw 40 (.bool false) rfl rfl (run_mv rfl rfl) ?_
      simp only [nz1, nz2, nz3]
      refine lst_skip 41 rfl rfl ?_
      simp only [nz1, nz2, nz3]
      refine lst_skip 42 rfl rfl ?_
      simp only [nz1, nz2, nz3]
      refine lst_skip 43 rfl rfl ?_
      simp only [nz1, nz2, nz3]
      refine lst_skip 44 rfl rfl ?_
      simp only [nz1, nz2, nz3]
      refine lst_skip 45 rfl rfl ?_
      simp only [nz1, nz2, nz3]
      refine lst_skip 46 rfl rfl ?_
      simp only [nz1, nz2, nz3]
      refine lst_skip 47 rfl rfl ?_
      simp only [nz1, nz2, nz3]
      refine lvw 48 (.bool false) rfl rfl (run_pickf rfl rfl rfl) ?_
      simp only [nz1, nz2, nz3]
      refine lvw 4 (.bool false) rfl rfl (run_as rfl rfl) ?_
      simp only [nz1, nz2, nz3]
      refine wpList_nil ?_
      refine then_n (hK146 _ _ ?_)
      refine wp_ret ?_
      have he184 : lmore_m l m = false := (show lmore_m l m = false from by unfold lmore_m; rw [if_neg hc10, if_neg hs86, if_pos hs149, if_neg hs166] <;> rfl)
      exact ⟨rfl, .bool false, res_t rfl rfl, ⟨by (rw [he184]; try rfl), hm164.below⟩⟩
    simp only [nz1, nz2, nz3]
    refine lvw 39 (.bool true) rfl rfl (run_pick rfl rfl rfl) ?_
    simp only [nz1, nz2, nz3]
    refine lvw 40 (.bool true) rfl rfl (run_mv rfl rfl) ?_
    simp only [nz1, nz2, nz3]
    refine lvw 41 (v42) rfl rfl (run_mv rfl rfl) ?_
    simp only [nz1, nz2, nz3]
    refine lst rfl (m_callx hm164 42 rfl (run_clashes rfl rfl) (clashes_any ((([] : List Mf) ++ l) ++ ([(Mf.mk m.name m.version ([] : List Rul) ([] : List Rul) m.entries)] : List Mf)) v42 ((([] : List (Value × Value × Value)) ++ lv1) ++ ([(.slice none 0 0, .slice none 0 0, mv2)] : List (Value × Value × Value))) _ (Rn.row (hm164.row 3 rfl) (hm164.see 7 rfl)) (by first | omega | assumption | ((repeat' (first | assumption | exact okl_nil | apply okl_app | apply okl_drop | apply okl_take | apply okl_cons | exact (okl_at (by assumption) _).1 | exact (okl_at (by assumption) _).2 | (simp; done) | (simp; omega) | decide)); done) | (simp; done) | (simp; omega) | (simp only [List.length_append, List.length_cons, List.length_nil]; omega) | (simp only [List.length_append, List.length_cons, List.length_nil] at *; omega) | decide) (by first | omega | assumption | ((repeat' (first | assumption | exact okl_nil | apply okl_app | apply okl_drop | apply okl_take | apply okl_cons | exact (okl_at (by assumption) _).1 | exact (okl_at (by assumption) _).2 | (simp; done) | (simp; omega) | decide)); done) | (simp; done) | (simp; omega) | (simp only [List.length_append, List.length_cons, List.length_nil]; omega) | (simp only [List.length_append, List.length_cons, List.length_nil] at *; omega) | decide)) (fun v169 w167 hR171 hb172 hm168 => ?_))
    obtain ⟨_, rfl, ho174⟩ := hR171
    have hm173 : Mm none (fun _ => True) w w167 [.see (Rn nMf 5 MfN l lv1 lv0) Fl, .see (MfR m mv0 mv1 mv2) Fm, .blk g4 #[.string (tx m.name), .string (tx m.version), .slice none 0 0, .slice none 0 0, mv2] 37, .row v42 (((([] : List Mf) ++ l) ++ ([(Mf.mk m.name m.version ([] : List Rul) ([] : List Rul) m.entries)] : List Mf)).zip ((([] : List (Value × Value × Value)) ++ lv1) ++ ([(.slice none 0 0, .slice none 0 0, mv2)] : List (Value × Value × Value)))).length ((((([] : List Mf) ++ l) ++ ([(Mf.mk m.name m.version ([] : List Rul) ([] : List Rul) m.entries)] : List Mf)).zip ((([] : List (Value × Value × Value)) ++ lv1) ++ ([(.slice none 0 0, .slice none 0 0, mv2)] : List (Value × Value × Value)))).flatMap nMf) 37 5, .see (Els MfN ([] : List Mf) ([] : List (Value × Value × Value))) F28, .see (Els MfN (([] : List Mf) ++ l) (([] : List (Value × Value × Value)) ++ lv1)) F34, .blk g39 #[.string (tx m.name), .string (tx m.version), .slice none 0 0, .slice none 0 0, mv2] 37, .see (Els MfN ((([] : List Mf) ++ l) ++ ([(Mf.mk m.name m.version ([] : List Rul) ([] : List Rul) m.entries)] : List Mf)) ((([] : List (Value × Value × Value)) ++ lv1) ++ ([(.slice none 0 0, .slice none 0 0, mv2)] : List (Value × Value × Value)))) F43, .row v152 (lacks_m ((([] : List Mf) ++ l) ++ ([(Mf.mk m.name m.version ([] : List Rul) ([] : List Rul) m.entries)] : List Mf))).length ((lacks_m ((([] : List Mf) ++ l) ++ ([(Mf.mk m.name m.version ([] : List Rul) ([] : List Rul) m.entries)] : List Mf))).flatMap eRul) 24 3, .row v160 (lacks_m l).length ((lacks_m l).flatMap eRul) 24 3, .row v169 (clashes_m ((([] : List Mf) ++ l) ++ ([(Mf.mk m.name m.version ([] : List Rul) ([] : List Rul) m.entries)] : List Mf))).length ((clashes_m ((([] : List Mf) ++ l) ++ ([(Mf.mk m.name m.version ([] : List Rul) ([] : List Rul) m.entries)] : List Mf))).flatMap eRul) 24 3] := hm164.gained hb172 ho174
    clear hm168
    simp only [nz1, nz2, nz3]
    refine lvw 43 (.int .i64 (((clashes_m ((([] : List Mf) ++ l) ++ ([(Mf.mk m.name m.version ([] : List Rul) ([] : List Rul) m.entries)] : List Mf))).length : Nat) : Int)) rfl rfl (s_len (Rs.row (hm173.row 10 rfl)) rfl Tryd.underlying28 rfl) ?_
    simp only [nz1, nz2, nz3]
    refine lvw 44 (lv0) rfl rfl (run_mv rfl rfl) ?_
    simp only [nz1, nz2, nz3]
    refine lst rfl (m_callx hm173 45 rfl (run_clashes rfl rfl) (clashes_any l lv0 lv1 _ (hm173.see 0 rfl) (by first | omega | assumption | ((repeat' (first | assumption | exact okl_nil | apply okl_app | apply okl_drop | apply okl_take | apply okl_cons | exact (okl_at (by assumption) _).1 | exact (okl_at (by assumption) _).2 | (simp; done) | (simp; omega) | decide)); done) | (simp; done) | (simp; omega) | (simp only [List.length_append, List.length_cons, List.length_nil]; omega) | (simp only [List.length_append, List.length_cons, List.length_nil] at *; omega) | decide) (by first | omega | assumption | ((repeat' (first | assumption | exact okl_nil | apply okl_app | apply okl_drop | apply okl_take | apply okl_cons | exact (okl_at (by assumption) _).1 | exact (okl_at (by assumption) _).2 | (simp; done) | (simp; omega) | decide)); done) | (simp; done) | (simp; omega) | (simp only [List.length_append, List.length_cons, List.length_nil]; omega) | (simp only [List.length_append, List.length_cons, List.length_nil] at *; omega) | decide)) (fun v177 w175 hR179 hb180 hm176 => ?_))
    obtain ⟨_, rfl, ho182⟩ := hR179
    have hm181 : Mm none (fun _ => True) w w175 [.see (Rn nMf 5 MfN l lv1 lv0) Fl, .see (MfR m mv0 mv1 mv2) Fm, .blk g4 #[.string (tx m.name), .string (tx m.version), .slice none 0 0, .slice none 0 0, mv2] 37, .row v42 (((([] : List Mf) ++ l) ++ ([(Mf.mk m.name m.version ([] : List Rul) ([] : List Rul) m.entries)] : List Mf)).zip ((([] : List (Value × Value × Value)) ++ lv1) ++ ([(.slice none 0 0, .slice none 0 0, mv2)] : List (Value × Value × Value)))).length ((((([] : List Mf) ++ l) ++ ([(Mf.mk m.name m.version ([] : List Rul) ([] : List Rul) m.entries)] : List Mf)).zip ((([] : List (Value × Value × Value)) ++ lv1) ++ ([(.slice none 0 0, .slice none 0 0, mv2)] : List (Value × Value × Value)))).flatMap nMf) 37 5, .see (Els MfN ([] : List Mf) ([] : List (Value × Value × Value))) F28, .see (Els MfN (([] : List Mf) ++ l) (([] : List (Value × Value × Value)) ++ lv1)) F34, .blk g39 #[.string (tx m.name), .string (tx m.version), .slice none 0 0, .slice none 0 0, mv2] 37, .see (Els MfN ((([] : List Mf) ++ l) ++ ([(Mf.mk m.name m.version ([] : List Rul) ([] : List Rul) m.entries)] : List Mf)) ((([] : List (Value × Value × Value)) ++ lv1) ++ ([(.slice none 0 0, .slice none 0 0, mv2)] : List (Value × Value × Value)))) F43, .row v152 (lacks_m ((([] : List Mf) ++ l) ++ ([(Mf.mk m.name m.version ([] : List Rul) ([] : List Rul) m.entries)] : List Mf))).length ((lacks_m ((([] : List Mf) ++ l) ++ ([(Mf.mk m.name m.version ([] : List Rul) ([] : List Rul) m.entries)] : List Mf))).flatMap eRul) 24 3, .row v160 (lacks_m l).length ((lacks_m l).flatMap eRul) 24 3, .row v169 (clashes_m ((([] : List Mf) ++ l) ++ ([(Mf.mk m.name m.version ([] : List Rul) ([] : List Rul) m.entries)] : List Mf))).length ((clashes_m ((([] : List Mf) ++ l) ++ ([(Mf.mk m.name m.version ([] : List Rul) ([] : List Rul) m.entries)] : List Mf))).flatMap eRul) 24 3, .row v177 (clashes_m l).length ((clashes_m l).flatMap eRul) 24 3] := hm173.gained hb180 ho182
    clear hm176
    simp only [nz1, nz2, nz3]
    refine lvw 46 (.int .i64 (((clashes_m l).length : Nat) : Int)) rfl rfl (s_len (Rs.row (hm181.row 11 rfl)) rfl Tryd.underlying28 rfl) ?_
    simp only [nz1, nz2, nz3]
    refine lvw 47 (.bool (decide ((clashes_m l).length ≤ (clashes_m ((([] : List Mf) ++ l) ++ ([(Mf.mk m.name m.version ([] : List Rul) ([] : List Rul) m.entries)] : List Mf))).length))) rfl rfl (r_geq ((clashes_m ((([] : List Mf) ++ l) ++ ([(Mf.mk m.name m.version ([] : List Rul) ([] : List Rul) m.entries)] : List Mf))).length) ((clashes_m l).length) rfl rfl rfl) ?_
    simp only [nz1, nz2, nz3]
    refine lvw 48 (.bool (decide ((clashes_m l).length ≤ (clashes_m ((([] : List Mf) ++ l) ++ ([(Mf.mk m.name m.version ([] : List Rul) ([] : List Rul) m.entries)] : List Mf))).length))) rfl rfl (run_pick rfl rfl rfl) ?_
    simp only [nz1, nz2, nz3]
    refine lvw 4 (.bool (decide ((clashes_m l).length ≤ (clashes_m ((([] : List Mf) ++ l) ++ ([(Mf.mk m.name m.version ([] : List Rul) ([] : List Rul) m.entries)] : List Mf))).length))) rfl rfl (run_as rfl rfl) ?_
    simp only [nz1, nz2, nz3]
    refine wpList_nil ?_
    refine then_n (hK146 _ _ ?_)
    refine wp_ret ?_
    have he183 : lmore_m l m = (decide ((clashes_m l).length ≤ (clashes_m ((([] : List Mf) ++ l) ++ ([(Mf.mk m.name m.version ([] : List Rul) ([] : List Rul) m.entries)] : List Mf))).length)) := (show lmore_m l m = (decide ((clashes_m l).length ≤ (clashes_m ((([] : List Mf) ++ l) ++ ([(Mf.mk m.name m.version ([] : List Rul) ([] : List Rul) m.entries)] : List Mf))).length)) from by unfold lmore_m; rw [if_neg hc10, if_neg hs86, if_pos hs149, if_pos hs166] <;> rfl)
    exact ⟨rfl, .bool (decide ((clashes_m l).length ≤ (clashes_m ((([] : List Mf) ++ l) ++ ([(Mf.mk m.name m.version ([] : List Rul) ([] : List Rul) m.entries)] : List Mf))).length)), res_t rfl rfl, ⟨by (rw [he183]; try rfl), hm181.below⟩⟩
  simp only [nz1, nz2, nz3]
  refine lvw 20 (.bool true) rfl rfl (run_mv rfl rfl) ?_
  simp only [nz1, nz2, nz3]
  refine lvw 21 (lv0) rfl rfl (run_mv rfl rfl) ?_
  simp only [nz1, nz2, nz3]
  refine lvw 22 ((cutV lv0 1 l.length 5)) rfl rfl (r_cut_l ((hm83.see 0 rfl)).rd 1 (by omega) Tryd.underlying22 sz_37 rfl rfl rfl) ?_
  simp only [nz1, nz2, nz3]
  refine lst rfl (m_callx hm83 23 rfl (run_clashes rfl rfl) (clashes_any (l.drop 1) (cutV lv0 1 l.length 5) (lv1.drop 1) _ (Rn.cut_l (hm83.see 0 rfl) nMf_len 1 (by omega)) (by first | omega | assumption | ((repeat' (first | assumption | exact okl_nil | apply okl_app | apply okl_drop | apply okl_take | apply okl_cons | exact (okl_at (by assumption) _).1 | exact (okl_at (by assumption) _).2 | (simp; done) | (simp; omega) | decide)); done) | (simp; done) | (simp; omega) | (simp only [List.length_append, List.length_cons, List.length_nil]; omega) | (simp only [List.length_append, List.length_cons, List.length_nil] at *; omega) | decide) (by first | omega | assumption | ((repeat' (first | assumption | exact okl_nil | apply okl_app | apply okl_drop | apply okl_take | apply okl_cons | exact (okl_at (by assumption) _).1 | exact (okl_at (by assumption) _).2 | (simp; done) | (simp; omega) | decide)); done) | (simp; done) | (simp; omega) | (simp only [List.length_append, List.length_cons, List.length_nil]; omega) | (simp only [List.length_append, List.length_cons, List.length_nil] at *; omega) | decide)) (fun v89 w87 hR91 hb92 hm88 => ?_))
  obtain ⟨_, rfl, ho94⟩ := hR91
  have hm93 : Mm none (fun _ => True) w w87 [.see (Rn nMf 5 MfN l lv1 lv0) Fl, .see (MfR m mv0 mv1 mv2) Fm, .blk g4 #[.string (tx m.name), .string (tx m.version), .slice none 0 0, .slice none 0 0, mv2] 37, .row v42 (((([] : List Mf) ++ l) ++ ([(Mf.mk m.name m.version ([] : List Rul) ([] : List Rul) m.entries)] : List Mf)).zip ((([] : List (Value × Value × Value)) ++ lv1) ++ ([(.slice none 0 0, .slice none 0 0, mv2)] : List (Value × Value × Value)))).length ((((([] : List Mf) ++ l) ++ ([(Mf.mk m.name m.version ([] : List Rul) ([] : List Rul) m.entries)] : List Mf)).zip ((([] : List (Value × Value × Value)) ++ lv1) ++ ([(.slice none 0 0, .slice none 0 0, mv2)] : List (Value × Value × Value)))).flatMap nMf) 37 5, .see (Els MfN ([] : List Mf) ([] : List (Value × Value × Value))) F28, .see (Els MfN (([] : List Mf) ++ l) (([] : List (Value × Value × Value)) ++ lv1)) F34, .blk g39 #[.string (tx m.name), .string (tx m.version), .slice none 0 0, .slice none 0 0, mv2] 37, .see (Els MfN ((([] : List Mf) ++ l) ++ ([(Mf.mk m.name m.version ([] : List Rul) ([] : List Rul) m.entries)] : List Mf)) ((([] : List (Value × Value × Value)) ++ lv1) ++ ([(.slice none 0 0, .slice none 0 0, mv2)] : List (Value × Value × Value)))) F43, .row v89 (clashes_m (l.drop 1)).length ((clashes_m (l.drop 1)).flatMap eRul) 24 3] := hm83.gained hb92 ho94
  clear hm88
  simp only [nz1, nz2, nz3]
  refine lvw 24 (.int .i64 (((clashes_m (l.drop 1)).length : Nat) : Int)) rfl rfl (s_len (Rs.row (hm93.row 8 rfl)) rfl Tryd.underlying28 rfl) ?_
  simp only [nz1, nz2, nz3]
  refine lvw 25 (lv0) rfl rfl (run_mv rfl rfl) ?_
  simp only [nz1, nz2, nz3]
  refine lst rfl (m_callx hm93 26 rfl (run_clashes rfl rfl) (clashes_any l lv0 lv1 _ (hm93.see 0 rfl) (by first | omega | assumption | ((repeat' (first | assumption | exact okl_nil | apply okl_app | apply okl_drop | apply okl_take | apply okl_cons | exact (okl_at (by assumption) _).1 | exact (okl_at (by assumption) _).2 | (simp; done) | (simp; omega) | decide)); done) | (simp; done) | (simp; omega) | (simp only [List.length_append, List.length_cons, List.length_nil]; omega) | (simp only [List.length_append, List.length_cons, List.length_nil] at *; omega) | decide) (by first | omega | assumption | ((repeat' (first | assumption | exact okl_nil | apply okl_app | apply okl_drop | apply okl_take | apply okl_cons | exact (okl_at (by assumption) _).1 | exact (okl_at (by assumption) _).2 | (simp; done) | (simp; omega) | decide)); done) | (simp; done) | (simp; omega) | (simp only [List.length_append, List.length_cons, List.length_nil]; omega) | (simp only [List.length_append, List.length_cons, List.length_nil] at *; omega) | decide)) (fun v97 w95 hR99 hb100 hm96 => ?_))
  obtain ⟨_, rfl, ho102⟩ := hR99
  have hm101 : Mm none (fun _ => True) w w95 [.see (Rn nMf 5 MfN l lv1 lv0) Fl, .see (MfR m mv0 mv1 mv2) Fm, .blk g4 #[.string (tx m.name), .string (tx m.version), .slice none 0 0, .slice none 0 0, mv2] 37, .row v42 (((([] : List Mf) ++ l) ++ ([(Mf.mk m.name m.version ([] : List Rul) ([] : List Rul) m.entries)] : List Mf)).zip ((([] : List (Value × Value × Value)) ++ lv1) ++ ([(.slice none 0 0, .slice none 0 0, mv2)] : List (Value × Value × Value)))).length ((((([] : List Mf) ++ l) ++ ([(Mf.mk m.name m.version ([] : List Rul) ([] : List Rul) m.entries)] : List Mf)).zip ((([] : List (Value × Value × Value)) ++ lv1) ++ ([(.slice none 0 0, .slice none 0 0, mv2)] : List (Value × Value × Value)))).flatMap nMf) 37 5, .see (Els MfN ([] : List Mf) ([] : List (Value × Value × Value))) F28, .see (Els MfN (([] : List Mf) ++ l) (([] : List (Value × Value × Value)) ++ lv1)) F34, .blk g39 #[.string (tx m.name), .string (tx m.version), .slice none 0 0, .slice none 0 0, mv2] 37, .see (Els MfN ((([] : List Mf) ++ l) ++ ([(Mf.mk m.name m.version ([] : List Rul) ([] : List Rul) m.entries)] : List Mf)) ((([] : List (Value × Value × Value)) ++ lv1) ++ ([(.slice none 0 0, .slice none 0 0, mv2)] : List (Value × Value × Value)))) F43, .row v89 (clashes_m (l.drop 1)).length ((clashes_m (l.drop 1)).flatMap eRul) 24 3, .row v97 (clashes_m l).length ((clashes_m l).flatMap eRul) 24 3] := hm93.gained hb100 ho102
  clear hm96
  simp only [nz1, nz2, nz3]
  refine lvw 27 (.int .i64 (((clashes_m l).length : Nat) : Int)) rfl rfl (s_len (Rs.row (hm101.row 9 rfl)) rfl Tryd.underlying28 rfl) ?_
  simp only [nz1, nz2, nz3]
  refine lvw 28 (.bool (decide ((clashes_m l).length < (clashes_m (l.drop 1)).length))) rfl rfl (r_gtr ((clashes_m (l.drop 1)).length) ((clashes_m l).length) rfl rfl rfl) ?_
  simp only [nz1, nz2, nz3]
  refine lvw 29 (.bool (decide ((clashes_m l).length < (clashes_m (l.drop 1)).length))) rfl rfl (run_pick rfl rfl rfl) ?_
  simp only [nz1, nz2, nz3]
  refine wpList_nil ?_
  refine then_n (hK85 _ _ ?_)
  refine cond_d ((clashes_m l).length < (clashes_m (l.drop 1)).length) rfl (fun hc103 => ?_) (fun hc103 => ?_)
  · refine wp_seq_k (fun K104 hK104 => ?_)
    refine wp_region_lit ?_
    refine lvw 4 (.bool false) rfl rfl (run_as rfl rfl) ?_
    simp only [nz1, nz2, nz3]
    refine wpList_nil ?_
    refine then_n (hK104 _ _ ?_)
    refine wp_ret ?_
    refine then_r ?_
    have he105 : lmore_m l m = false := (show lmore_m l m = false from by unfold lmore_m; rw [if_neg hc10, if_pos hs86, if_pos hc103] <;> rfl)
    exact ⟨rfl, .bool false, res_t rfl rfl, ⟨by (rw [he105]; try rfl), hm101.below⟩⟩
  refine wp_skip ?_
  refine then_n (hK84 _ _ ?_)
  refine wp_seq_k (fun K106 hK106 => ?_)
  refine wp_region_lit ?_
  refine lst rfl (m_call hm101 30 (.bool (sawake_m)) rfl (run_sawake rfl) (sawake_any   _  ) (fun w107 (hm108 : Mm none (fun _ => True) w w107 [.see (Rn nMf 5 MfN l lv1 lv0) Fl, .see (MfR m mv0 mv1 mv2) Fm, .blk g4 #[.string (tx m.name), .string (tx m.version), .slice none 0 0, .slice none 0 0, mv2] 37, .row v42 (((([] : List Mf) ++ l) ++ ([(Mf.mk m.name m.version ([] : List Rul) ([] : List Rul) m.entries)] : List Mf)).zip ((([] : List (Value × Value × Value)) ++ lv1) ++ ([(.slice none 0 0, .slice none 0 0, mv2)] : List (Value × Value × Value)))).length ((((([] : List Mf) ++ l) ++ ([(Mf.mk m.name m.version ([] : List Rul) ([] : List Rul) m.entries)] : List Mf)).zip ((([] : List (Value × Value × Value)) ++ lv1) ++ ([(.slice none 0 0, .slice none 0 0, mv2)] : List (Value × Value × Value)))).flatMap nMf) 37 5, .see (Els MfN ([] : List Mf) ([] : List (Value × Value × Value))) F28, .see (Els MfN (([] : List Mf) ++ l) (([] : List (Value × Value × Value)) ++ lv1)) F34, .blk g39 #[.string (tx m.name), .string (tx m.version), .slice none 0 0, .slice none 0 0, mv2] 37, .see (Els MfN ((([] : List Mf) ++ l) ++ ([(Mf.mk m.name m.version ([] : List Rul) ([] : List Rul) m.entries)] : List Mf)) ((([] : List (Value × Value × Value)) ++ lv1) ++ ([(.slice none 0 0, .slice none 0 0, mv2)] : List (Value × Value × Value)))) F43, .row v89 (clashes_m (l.drop 1)).length ((clashes_m (l.drop 1)).flatMap eRul) 24 3, .row v97 (clashes_m l).length ((clashes_m l).flatMap eRul) 24 3]) => ?_))
  simp only [nz1, nz2, nz3]
  by_cases hs109 : sawake_m = true
  rotate_left
  · rw [(Bool.eq_false_iff.2 hs109 : sawake_m = false)]
    refine lvw 31 (.bool false) rfl rfl (run_mv rfl rfl) ?_
    simp only [nz1, nz2, nz3]
    refine lst_skip 32 rfl rfl ?_
    simp only [nz1, nz2, nz3]
    refine lst_skip 33 rfl rfl ?_
    simp only [nz1, nz2, nz3]
    refine lst_skip 34 rfl rfl ?_
    simp only [nz1, nz2, nz3]
    refine lst_skip 35 rfl rfl ?_
    simp only [nz1, nz2, nz3]
    refine lst_skip 36 rfl rfl ?_
    simp only [nz1, nz2, nz3]
    refine lst_skip 37 rfl rfl ?_
    simp only [nz1, nz2, nz3]
    refine lst_skip 38 rfl rfl ?_
    simp only [nz1, nz2, nz3]
    refine lvw 39 (.bool false) rfl rfl (run_pickf rfl rfl rfl) ?_
    simp only [nz1, nz2, nz3]
    refine lvw 40 (.bool false) rfl rfl (run_mv rfl rfl) ?_
    simp only [nz1, nz2, nz3]
    refine lst_skip 41 rfl rfl ?_
    simp only [nz1, nz2, nz3]
    refine lst_skip 42 rfl rfl ?_
    simp only [nz1, nz2, nz3]
    refine lst_skip 43 rfl rfl ?_
    simp only [nz1, nz2, nz3]
    refine lst_skip 44 rfl rfl ?_
    simp only [nz1, nz2, nz3]
    refine lst_skip 45 rfl rfl ?_
    simp only [nz1, nz2, nz3]
    refine lst_skip 46 rfl rfl ?_
    simp only [nz1, nz2, nz3]
    refine lst_skip 47 rfl rfl ?_
    simp only [nz1, nz2, nz3]
    refine lvw 48 (.bool false) rfl rfl (run_pickf rfl rfl rfl) ?_
    simp only [nz1, nz2, nz3]
    refine lvw 4 (.bool false) rfl rfl (run_as rfl rfl) ?_
    simp only [nz1, nz2, nz3]
    refine wpList_nil ?_
    refine then_n (hK106 _ _ ?_)
    refine wp_ret ?_
    have he145 : lmore_m l m = false := (show lmore_m l m = false from by unfold lmore_m; rw [if_neg hc10, if_pos hs86, if_neg hc103, if_neg hs109] <;> rfl)
    exact ⟨rfl, .bool false, res_t rfl rfl, ⟨by (rw [he145]; try rfl), hm108.below⟩⟩
  rw [(hs109 : sawake_m = true)]
  refine lvw 31 (.bool true) rfl rfl (run_mv rfl rfl) ?_
  simp only [nz1, nz2, nz3]
  refine lvw 32 (v42) rfl rfl (run_mv rfl rfl) ?_
  simp only [nz1, nz2, nz3]
  refine lst rfl (m_callx hm108 33 rfl (run_lacks rfl rfl) (lacks_any ((([] : List Mf) ++ l) ++ ([(Mf.mk m.name m.version ([] : List Rul) ([] : List Rul) m.entries)] : List Mf)) v42 ((([] : List (Value × Value × Value)) ++ lv1) ++ ([(.slice none 0 0, .slice none 0 0, mv2)] : List (Value × Value × Value))) _ (Rn.row (hm108.row 3 rfl) (hm108.see 7 rfl)) (by first | omega | assumption | ((repeat' (first | assumption | exact okl_nil | apply okl_app | apply okl_drop | apply okl_take | apply okl_cons | exact (okl_at (by assumption) _).1 | exact (okl_at (by assumption) _).2 | (simp; done) | (simp; omega) | decide)); done) | (simp; done) | (simp; omega) | (simp only [List.length_append, List.length_cons, List.length_nil]; omega) | (simp only [List.length_append, List.length_cons, List.length_nil] at *; omega) | decide) (by first | omega | assumption | ((repeat' (first | assumption | exact okl_nil | apply okl_app | apply okl_drop | apply okl_take | apply okl_cons | exact (okl_at (by assumption) _).1 | exact (okl_at (by assumption) _).2 | (simp; done) | (simp; omega) | decide)); done) | (simp; done) | (simp; omega) | (simp only [List.length_append, List.length_cons, List.length_nil]; omega) | (simp only [List.length_append, List.length_cons, List.length_nil] at *; omega) | decide)) (fun v112 w110 hR114 hb115 hm111 => ?_))
  obtain ⟨_, rfl, ho117⟩ := hR114
  have hm116 : Mm none (fun _ => True) w w110 [.see (Rn nMf 5 MfN l lv1 lv0) Fl, .see (MfR m mv0 mv1 mv2) Fm, .blk g4 #[.string (tx m.name), .string (tx m.version), .slice none 0 0, .slice none 0 0, mv2] 37, .row v42 (((([] : List Mf) ++ l) ++ ([(Mf.mk m.name m.version ([] : List Rul) ([] : List Rul) m.entries)] : List Mf)).zip ((([] : List (Value × Value × Value)) ++ lv1) ++ ([(.slice none 0 0, .slice none 0 0, mv2)] : List (Value × Value × Value)))).length ((((([] : List Mf) ++ l) ++ ([(Mf.mk m.name m.version ([] : List Rul) ([] : List Rul) m.entries)] : List Mf)).zip ((([] : List (Value × Value × Value)) ++ lv1) ++ ([(.slice none 0 0, .slice none 0 0, mv2)] : List (Value × Value × Value)))).flatMap nMf) 37 5, .see (Els MfN ([] : List Mf) ([] : List (Value × Value × Value))) F28, .see (Els MfN (([] : List Mf) ++ l) (([] : List (Value × Value × Value)) ++ lv1)) F34, .blk g39 #[.string (tx m.name), .string (tx m.version), .slice none 0 0, .slice none 0 0, mv2] 37, .see (Els MfN ((([] : List Mf) ++ l) ++ ([(Mf.mk m.name m.version ([] : List Rul) ([] : List Rul) m.entries)] : List Mf)) ((([] : List (Value × Value × Value)) ++ lv1) ++ ([(.slice none 0 0, .slice none 0 0, mv2)] : List (Value × Value × Value)))) F43, .row v89 (clashes_m (l.drop 1)).length ((clashes_m (l.drop 1)).flatMap eRul) 24 3, .row v97 (clashes_m l).length ((clashes_m l).flatMap eRul) 24 3, .row v112 (lacks_m ((([] : List Mf) ++ l) ++ ([(Mf.mk m.name m.version ([] : List Rul) ([] : List Rul) m.entries)] : List Mf))).length ((lacks_m ((([] : List Mf) ++ l) ++ ([(Mf.mk m.name m.version ([] : List Rul) ([] : List Rul) m.entries)] : List Mf))).flatMap eRul) 24 3] := hm108.gained hb115 ho117
  clear hm111
  simp only [nz1, nz2, nz3]
  refine lvw 34 (.int .i64 (((lacks_m ((([] : List Mf) ++ l) ++ ([(Mf.mk m.name m.version ([] : List Rul) ([] : List Rul) m.entries)] : List Mf))).length : Nat) : Int)) rfl rfl (s_len (Rs.row (hm116.row 10 rfl)) rfl Tryd.underlying28 rfl) ?_
  simp only [nz1, nz2, nz3]
  refine lvw 35 (lv0) rfl rfl (run_mv rfl rfl) ?_
  simp only [nz1, nz2, nz3]
  refine lst rfl (m_callx hm116 36 rfl (run_lacks rfl rfl) (lacks_any l lv0 lv1 _ (hm116.see 0 rfl) (by first | omega | assumption | ((repeat' (first | assumption | exact okl_nil | apply okl_app | apply okl_drop | apply okl_take | apply okl_cons | exact (okl_at (by assumption) _).1 | exact (okl_at (by assumption) _).2 | (simp; done) | (simp; omega) | decide)); done) | (simp; done) | (simp; omega) | (simp only [List.length_append, List.length_cons, List.length_nil]; omega) | (simp only [List.length_append, List.length_cons, List.length_nil] at *; omega) | decide) (by first | omega | assumption | ((repeat' (first | assumption | exact okl_nil | apply okl_app | apply okl_drop | apply okl_take | apply okl_cons | exact (okl_at (by assumption) _).1 | exact (okl_at (by assumption) _).2 | (simp; done) | (simp; omega) | decide)); done) | (simp; done) | (simp; omega) | (simp only [List.length_append, List.length_cons, List.length_nil]; omega) | (simp only [List.length_append, List.length_cons, List.length_nil] at *; omega) | decide)) (fun v120 w118 hR122 hb123 hm119 => ?_))
  obtain ⟨_, rfl, ho125⟩ := hR122
  have hm124 : Mm none (fun _ => True) w w118 [.see (Rn nMf 5 MfN l lv1 lv0) Fl, .see (MfR m mv0 mv1 mv2) Fm, .blk g4 #[.string (tx m.name), .string (tx m.version), .slice none 0 0, .slice none 0 0, mv2] 37, .row v42 (((([] : List Mf) ++ l) ++ ([(Mf.mk m.name m.version ([] : List Rul) ([] : List Rul) m.entries)] : List Mf)).zip ((([] : List (Value × Value × Value)) ++ lv1) ++ ([(.slice none 0 0, .slice none 0 0, mv2)] : List (Value × Value × Value)))).length ((((([] : List Mf) ++ l) ++ ([(Mf.mk m.name m.version ([] : List Rul) ([] : List Rul) m.entries)] : List Mf)).zip ((([] : List (Value × Value × Value)) ++ lv1) ++ ([(.slice none 0 0, .slice none 0 0, mv2)] : List (Value × Value × Value)))).flatMap nMf) 37 5, .see (Els MfN ([] : List Mf) ([] : List (Value × Value × Value))) F28, .see (Els MfN (([] : List Mf) ++ l) (([] : List (Value × Value × Value)) ++ lv1)) F34, .blk g39 #[.string (tx m.name), .string (tx m.version), .slice none 0 0, .slice none 0 0, mv2] 37, .see (Els MfN ((([] : List Mf) ++ l) ++ ([(Mf.mk m.name m.version ([] : List Rul) ([] : List Rul) m.entries)] : List Mf)) ((([] : List (Value × Value × Value)) ++ lv1) ++ ([(.slice none 0 0, .slice none 0 0, mv2)] : List (Value × Value × Value)))) F43, .row v89 (clashes_m (l.drop 1)).length ((clashes_m (l.drop 1)).flatMap eRul) 24 3, .row v97 (clashes_m l).length ((clashes_m l).flatMap eRul) 24 3, .row v112 (lacks_m ((([] : List Mf) ++ l) ++ ([(Mf.mk m.name m.version ([] : List Rul) ([] : List Rul) m.entries)] : List Mf))).length ((lacks_m ((([] : List Mf) ++ l) ++ ([(Mf.mk m.name m.version ([] : List Rul) ([] : List Rul) m.entries)] : List Mf))).flatMap eRul) 24 3, .row v120 (lacks_m l).length ((lacks_m l).flatMap eRul) 24 3] := hm116.gained hb123 ho125
  clear hm119
  simp only [nz1, nz2, nz3]
  refine lvw 37 (.int .i64 (((lacks_m l).length : Nat) : Int)) rfl rfl (s_len (Rs.row (hm124.row 11 rfl)) rfl Tryd.underlying28 rfl) ?_
  simp only [nz1, nz2, nz3]
  refine lvb 38 ((lacks_m ((([] : List Mf) ++ l) ++ ([(Mf.mk m.name m.version ([] : List Rul) ([] : List Rul) m.entries)] : List Mf))).length ≤ (lacks_m l).length) rfl rfl (r_leq ((lacks_m ((([] : List Mf) ++ l) ++ ([(Mf.mk m.name m.version ([] : List Rul) ([] : List Rul) m.entries)] : List Mf))).length) ((lacks_m l).length) rfl rfl rfl) (fun hs126 => ?_) (fun hs126 => ?_)
  rotate_left
  · simp only [nz1, nz2, nz3]
    refine lvw 39 (.bool false) rfl rfl (run_pick rfl rfl rfl) ?_
    simp only [nz1, nz2, nz3]
    refine lvw 40 (.bool false) rfl rfl (run_mv rfl rfl) ?_
    simp only [nz1, nz2, nz3]
    refine lst_skip 41 rfl rfl ?_
    simp only [nz1, nz2, nz3]
    refine lst_skip 42 rfl rfl ?_
    simp only [nz1, nz2, nz3]
    refine lst_skip 43 rfl rfl ?_
    simp only [nz1, nz2, nz3]
    refine lst_skip 44 rfl rfl ?_
    simp only [nz1, nz2, nz3]
    refine lst_skip 45 rfl rfl ?_
    simp only [nz1, nz2, nz3]
    refine lst_skip 46 rfl rfl ?_
    simp only [nz1, nz2, nz3]
    refine lst_skip 47 rfl rfl ?_
    simp only [nz1, nz2, nz3]
    refine lvw 48 (.bool false) rfl rfl (run_pickf rfl rfl rfl) ?_
    simp only [nz1, nz2, nz3]
    refine lvw 4 (.bool false) rfl rfl (run_as rfl rfl) ?_
    simp only [nz1, nz2, nz3]
    refine wpList_nil ?_
    refine then_n (hK106 _ _ ?_)
    refine wp_ret ?_
    have he144 : lmore_m l m = false := (show lmore_m l m = false from by unfold lmore_m; rw [if_neg hc10, if_pos hs86, if_neg hc103, if_pos hs109, if_neg hs126] <;> rfl)
    exact ⟨rfl, .bool false, res_t rfl rfl, ⟨by (rw [he144]; try rfl), hm124.below⟩⟩
  simp only [nz1, nz2, nz3]
  refine lvw 39 (.bool true) rfl rfl (run_pick rfl rfl rfl) ?_
  simp only [nz1, nz2, nz3]
  refine lvw 40 (.bool true) rfl rfl (run_mv rfl rfl) ?_
  simp only [nz1, nz2, nz3]
  refine lvw 41 (v42) rfl rfl (run_mv rfl rfl) ?_
  simp only [nz1, nz2, nz3]
  refine lst rfl (m_callx hm124 42 rfl (run_clashes rfl rfl) (clashes_any ((([] : List Mf) ++ l) ++ ([(Mf.mk m.name m.version ([] : List Rul) ([] : List Rul) m.entries)] : List Mf)) v42 ((([] : List (Value × Value × Value)) ++ lv1) ++ ([(.slice none 0 0, .slice none 0 0, mv2)] : List (Value × Value × Value))) _ (Rn.row (hm124.row 3 rfl) (hm124.see 7 rfl)) (by first | omega | assumption | ((repeat' (first | assumption | exact okl_nil | apply okl_app | apply okl_drop | apply okl_take | apply okl_cons | exact (okl_at (by assumption) _).1 | exact (okl_at (by assumption) _).2 | (simp; done) | (simp; omega) | decide)); done) | (simp; done) | (simp; omega) | (simp only [List.length_append, List.length_cons, List.length_nil]; omega) | (simp only [List.length_append, List.length_cons, List.length_nil] at *; omega) | decide) (by first | omega | assumption | ((repeat' (first | assumption | exact okl_nil | apply okl_app | apply okl_drop | apply okl_take | apply okl_cons | exact (okl_at (by assumption) _).1 | exact (okl_at (by assumption) _).2 | (simp; done) | (simp; omega) | decide)); done) | (simp; done) | (simp; omega) | (simp only [List.length_append, List.length_cons, List.length_nil]; omega) | (simp only [List.length_append, List.length_cons, List.length_nil] at *; omega) | decide)) (fun v129 w127 hR131 hb132 hm128 => ?_))
  obtain ⟨_, rfl, ho134⟩ := hR131
  have hm133 : Mm none (fun _ => True) w w127 [.see (Rn nMf 5 MfN l lv1 lv0) Fl, .see (MfR m mv0 mv1 mv2) Fm, .blk g4 #[.string (tx m.name), .string (tx m.version), .slice none 0 0, .slice none 0 0, mv2] 37, .row v42 (((([] : List Mf) ++ l) ++ ([(Mf.mk m.name m.version ([] : List Rul) ([] : List Rul) m.entries)] : List Mf)).zip ((([] : List (Value × Value × Value)) ++ lv1) ++ ([(.slice none 0 0, .slice none 0 0, mv2)] : List (Value × Value × Value)))).length ((((([] : List Mf) ++ l) ++ ([(Mf.mk m.name m.version ([] : List Rul) ([] : List Rul) m.entries)] : List Mf)).zip ((([] : List (Value × Value × Value)) ++ lv1) ++ ([(.slice none 0 0, .slice none 0 0, mv2)] : List (Value × Value × Value)))).flatMap nMf) 37 5, .see (Els MfN ([] : List Mf) ([] : List (Value × Value × Value))) F28, .see (Els MfN (([] : List Mf) ++ l) (([] : List (Value × Value × Value)) ++ lv1)) F34, .blk g39 #[.string (tx m.name), .string (tx m.version), .slice none 0 0, .slice none 0 0, mv2] 37, .see (Els MfN ((([] : List Mf) ++ l) ++ ([(Mf.mk m.name m.version ([] : List Rul) ([] : List Rul) m.entries)] : List Mf)) ((([] : List (Value × Value × Value)) ++ lv1) ++ ([(.slice none 0 0, .slice none 0 0, mv2)] : List (Value × Value × Value)))) F43, .row v89 (clashes_m (l.drop 1)).length ((clashes_m (l.drop 1)).flatMap eRul) 24 3, .row v97 (clashes_m l).length ((clashes_m l).flatMap eRul) 24 3, .row v112 (lacks_m ((([] : List Mf) ++ l) ++ ([(Mf.mk m.name m.version ([] : List Rul) ([] : List Rul) m.entries)] : List Mf))).length ((lacks_m ((([] : List Mf) ++ l) ++ ([(Mf.mk m.name m.version ([] : List Rul) ([] : List Rul) m.entries)] : List Mf))).flatMap eRul) 24 3, .row v120 (lacks_m l).length ((lacks_m l).flatMap eRul) 24 3, .row v129 (clashes_m ((([] : List Mf) ++ l) ++ ([(Mf.mk m.name m.version ([] : List Rul) ([] : List Rul) m.entries)] : List Mf))).length ((clashes_m ((([] : List Mf) ++ l) ++ ([(Mf.mk m.name m.version ([] : List Rul) ([] : List Rul) m.entries)] : List Mf))).flatMap eRul) 24 3] := hm124.gained hb132 ho134
  clear hm128
  simp only [nz1, nz2, nz3]
  refine lvw 43 (.int .i64 (((clashes_m ((([] : List Mf) ++ l) ++ ([(Mf.mk m.name m.version ([] : List Rul) ([] : List Rul) m.entries)] : List Mf))).length : Nat) : Int)) rfl rfl (s_len (Rs.row (hm133.row 12 rfl)) rfl Tryd.underlying28 rfl) ?_
  simp only [nz1, nz2, nz3]
  refine lvw 44 (lv0) rfl rfl (run_mv rfl rfl) ?_
  simp only [nz1, nz2, nz3]
  refine lst rfl (m_callx hm133 45 rfl (run_clashes rfl rfl) (clashes_any l lv0 lv1 _ (hm133.see 0 rfl) (by first | omega | assumption | ((repeat' (first | assumption | exact okl_nil | apply okl_app | apply okl_drop | apply okl_take | apply okl_cons | exact (okl_at (by assumption) _).1 | exact (okl_at (by assumption) _).2 | (simp; done) | (simp; omega) | decide)); done) | (simp; done) | (simp; omega) | (simp only [List.length_append, List.length_cons, List.length_nil]; omega) | (simp only [List.length_append, List.length_cons, List.length_nil] at *; omega) | decide) (by first | omega | assumption | ((repeat' (first | assumption | exact okl_nil | apply okl_app | apply okl_drop | apply okl_take | apply okl_cons | exact (okl_at (by assumption) _).1 | exact (okl_at (by assumption) _).2 | (simp; done) | (simp; omega) | decide)); done) | (simp; done) | (simp; omega) | (simp only [List.length_append, List.length_cons, List.length_nil]; omega) | (simp only [List.length_append, List.length_cons, List.length_nil] at *; omega) | decide)) (fun v137 w135 hR139 hb140 hm136 => ?_))
  obtain ⟨_, rfl, ho142⟩ := hR139
  have hm141 : Mm none (fun _ => True) w w135 [.see (Rn nMf 5 MfN l lv1 lv0) Fl, .see (MfR m mv0 mv1 mv2) Fm, .blk g4 #[.string (tx m.name), .string (tx m.version), .slice none 0 0, .slice none 0 0, mv2] 37, .row v42 (((([] : List Mf) ++ l) ++ ([(Mf.mk m.name m.version ([] : List Rul) ([] : List Rul) m.entries)] : List Mf)).zip ((([] : List (Value × Value × Value)) ++ lv1) ++ ([(.slice none 0 0, .slice none 0 0, mv2)] : List (Value × Value × Value)))).length ((((([] : List Mf) ++ l) ++ ([(Mf.mk m.name m.version ([] : List Rul) ([] : List Rul) m.entries)] : List Mf)).zip ((([] : List (Value × Value × Value)) ++ lv1) ++ ([(.slice none 0 0, .slice none 0 0, mv2)] : List (Value × Value × Value)))).flatMap nMf) 37 5, .see (Els MfN ([] : List Mf) ([] : List (Value × Value × Value))) F28, .see (Els MfN (([] : List Mf) ++ l) (([] : List (Value × Value × Value)) ++ lv1)) F34, .blk g39 #[.string (tx m.name), .string (tx m.version), .slice none 0 0, .slice none 0 0, mv2] 37, .see (Els MfN ((([] : List Mf) ++ l) ++ ([(Mf.mk m.name m.version ([] : List Rul) ([] : List Rul) m.entries)] : List Mf)) ((([] : List (Value × Value × Value)) ++ lv1) ++ ([(.slice none 0 0, .slice none 0 0, mv2)] : List (Value × Value × Value)))) F43, .row v89 (clashes_m (l.drop 1)).length ((clashes_m (l.drop 1)).flatMap eRul) 24 3, .row v97 (clashes_m l).length ((clashes_m l).flatMap eRul) 24 3, .row v112 (lacks_m ((([] : List Mf) ++ l) ++ ([(Mf.mk m.name m.version ([] : List Rul) ([] : List Rul) m.entries)] : List Mf))).length ((lacks_m ((([] : List Mf) ++ l) ++ ([(Mf.mk m.name m.version ([] : List Rul) ([] : List Rul) m.entries)] : List Mf))).flatMap eRul) 24 3, .row v120 (lacks_m l).length ((lacks_m l).flatMap eRul) 24 3, .row v129 (clashes_m ((([] : List Mf) ++ l) ++ ([(Mf.mk m.name m.version ([] : List Rul) ([] : List Rul) m.entries)] : List Mf))).length ((clashes_m ((([] : List Mf) ++ l) ++ ([(Mf.mk m.name m.version ([] : List Rul) ([] : List Rul) m.entries)] : List Mf))).flatMap eRul) 24 3, .row v137 (clashes_m l).length ((clashes_m l).flatMap eRul) 24 3] := hm133.gained hb140 ho142
  clear hm136
  simp only [nz1, nz2, nz3]
  refine lvw 46 (.int .i64 (((clashes_m l).length : Nat) : Int)) rfl rfl (s_len (Rs.row (hm141.row 13 rfl)) rfl Tryd.underlying28 rfl) ?_
  simp only [nz1, nz2, nz3]
  refine lvw 47 (.bool (decide ((clashes_m l).length ≤ (clashes_m ((([] : List Mf) ++ l) ++ ([(Mf.mk m.name m.version ([] : List Rul) ([] : List Rul) m.entries)] : List Mf))).length))) rfl rfl (r_geq ((clashes_m ((([] : List Mf) ++ l) ++ ([(Mf.mk m.name m.version ([] : List Rul) ([] : List Rul) m.entries)] : List Mf))).length) ((clashes_m l).length) rfl rfl rfl) ?_
  simp only [nz1, nz2, nz3]
  refine lvw 48 (.bool (decide ((clashes_m l).length ≤ (clashes_m ((([] : List Mf) ++ l) ++ ([(Mf.mk m.name m.version ([] : List Rul) ([] : List Rul) m.entries)] : List Mf))).length))) rfl rfl (run_pick rfl rfl rfl) ?_
  simp only [nz1, nz2, nz3]
  refine lvw 4 (.bool (decide ((clashes_m l).length ≤ (clashes_m ((([] : List Mf) ++ l) ++ ([(Mf.mk m.name m.version ([] : List Rul) ([] : List Rul) m.entries)] : List Mf))).length))) rfl rfl (run_as rfl rfl) ?_
  simp only [nz1, nz2, nz3]
  refine wpList_nil ?_
  refine then_n (hK106 _ _ ?_)
  refine wp_ret ?_
  have he143 : lmore_m l m = (decide ((clashes_m l).length ≤ (clashes_m ((([] : List Mf) ++ l) ++ ([(Mf.mk m.name m.version ([] : List Rul) ([] : List Rul) m.entries)] : List Mf))).length)) := (show lmore_m l m = (decide ((clashes_m l).length ≤ (clashes_m ((([] : List Mf) ++ l) ++ ([(Mf.mk m.name m.version ([] : List Rul) ([] : List Rul) m.entries)] : List Mf))).length)) from by unfold lmore_m; rw [if_neg hc10, if_pos hs86, if_neg hc103, if_pos hs109, if_pos hs126] <;> rfl)
  exact ⟨rfl, .bool (decide ((clashes_m l).length ≤ (clashes_m ((([] : List Mf) ++ l) ++ ([(Mf.mk m.name m.version ([] : List Rul) ([] : List Rul) m.entries)] : List Mf))).length)), res_t rfl rfl, ⟨by (rw [he143]; try rfl), hm141.below⟩⟩
theorem run_lmore {o : Oper} {a : Act} {w : World} {x0 x1 : Operand} {v0 v1 : Value} (ho : o.op = .call { callee := .value (.func 4), args := #[x0, x1], argTypes := #[22, 37] }) (h0 : a.eval x0 = v0) (h1 : a.eval x1 = v1) :
    (execOp a.eval o).run Tryd.prog w = .ok (.enter 4 #[v0, v1]) w := by
  unfold execOp
  simp only [ho]
  have hf : a.eval (.func 4) = .func (.func 4) #[] #[] := rfl
  generalize a.eval = f at *
  go_simp
end Go.Proofs.YtpbenhfnebgbiaaDoor.So
