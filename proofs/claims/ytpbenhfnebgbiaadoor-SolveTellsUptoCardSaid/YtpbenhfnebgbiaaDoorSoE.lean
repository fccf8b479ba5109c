/- Layer 20: the example. -/
import Derived.Test.YtpbenhfnebgbiaaDoorSoG
namespace Go.Proofs.YtpbenhfnebgbiaaDoor.So
open Go.RowKit
open Go.Proofs.YtpbenhfnebgbiaaDoor.Sym Go.Proofs.YtpbenhfnebgbiaaDoor.Mem
open Go.Proofs.YtpbenhfnebgbiaaDoor.Sx hiding Mm m_alloc m_store m_put m_call m_callx m_make m_append r_string r_ixS
set_option linter.unusedVariables false
open Go.Proofs.YtpbenhfnebgbiaaDoor.Pa
open Go.Proofs.YtpbenhfnebgbiaaDoor.Ve
attribute [local irreducible] holds_m meets_m lacks_m clashes_m solve_m needs_m users_m
attribute [local irreducible] great_m
attribute [local irreducible] wpList Oper.wp

def sawake_m : Bool :=
  if (solve_m ([(Mf.mk ([97]) ([49]) ([(Rul.mk ([98]) 5 ([50]))] : List Rul) ([] : List Rul) ([] : List Ent5)), (Mf.mk ([98]) ([49, 46, 57]) ([] : List Rul) ([] : List Rul) ([] : List Ent5))] : List Mf)) = 15 then
    if (solve_m ([(Mf.mk ([97]) ([49]) ([(Rul.mk ([98]) 5 ([50]))] : List Rul) ([] : List Rul) ([] : List Ent5)), (Mf.mk ([98]) ([50, 46, 48]) ([] : List Rul) ([] : List Rul) ([] : List Ent5))] : List Mf)) = 0 then
      if (solve_m ([(Mf.mk ([97]) ([49]) ([(Rul.mk ([98]) 5 ([50]))] : List Rul) ([] : List Rul) ([] : List Ent5)), (Mf.mk ([98]) ([50, 46, 48]) ([] : List Rul) ([(Rul.mk ([97]) 0 ([]))] : List Rul) ([] : List Ent5))] : List Mf)) = 16 then
        (decide ((users_m ([(Mf.mk ([97]) ([49]) ([(Rul.mk ([98]) 5 ([50]))] : List Rul) ([] : List Rul) ([] : List Ent5)), (Mf.mk ([98]) ([50, 46, 48]) ([] : List Rul) ([(Rul.mk ([97]) 0 ([]))] : List Rul) ([] : List Ent5))] : List Mf) (Mf.mk ([98]) ([50, 46, 48]) ([] : List Rul) ([(Rul.mk ([97]) 0 ([]))] : List Rul) ([] : List Ent5))).length = 1))
      else
        false
    else
      false
  else
    false

set_option maxHeartbeats 4000000 in
set_option maxRecDepth 100000 in
theorem sawake_any (w : World)   : Calls Tryd.prog 8 #[] w (fun e w' => e = .returned (.bool (sawake_m)) ∧ Below w.heap.size w w') := by
  go_enter Tryd.func8, Tryd.ntmps8
  have hm00 := Mm.nil none (fun _ => True) w
  have hm0 := hm00
  refine wp_seq_k (fun K1 hK1 => ?_)
  refine wp_region_lit ?_
  refine lvw 0 (.bool false) rfl rfl (run_as rfl rfl) ?_
  simp only [nz1, nz2]
  refine wpList_nil ?_
  refine then_n (hK1 _ _ ?_)
  refine wp_seq_k (fun K2 hK2 => ?_)
  refine wp_region_lit ?_
  refine lvw 4 (.agg #[.string (tx ([98])), .int .i64 5, .string (tx ([50]))]) rfl rfl (by unfold execOp; go_simp; try (first | rfl | (repeat' (first | rfl | apply And.intro)))) ?_
  simp only [nz1, nz2, nz3]
  refine lst rfl (m_make (c := #[.string (tx ([98])), .int .i64 5, .string (tx ([50]))]) (T := 24) (fun g => .slice (some ⟨g, 0, none⟩) 1 1) hm0 5 rfl (by unfold execOp; go_simp; try rfl) (fun g5 w3 (hm4 : Mm none (fun _ => True) w w3 [.blk g5 #[.string (tx ([98])), .int .i64 5, .string (tx ([50]))] 24]) => ?_))
  simp only [nz1, nz2, nz3]
  refine lvw 6 (.agg #[.string (tx ([97])), .string (tx ([49])), .slice (some ⟨g5, 0, none⟩) 1 1, .slice none 0 0, .slice none 0 0]) rfl rfl (by unfold execOp; go_simp; try (first | rfl | (repeat' (first | rfl | apply And.intro)))) ?_
  simp only [nz1, nz2, nz3]
  refine lvw 7 (.agg #[.string (tx ([98])), .string (tx ([49, 46, 57])), .slice none 0 0, .slice none 0 0, .slice none 0 0]) rfl rfl (by unfold execOp; go_simp; try (first | rfl | (repeat' (first | rfl | apply And.intro)))) ?_
  simp only [nz1, nz2, nz3]
  refine lst rfl (m_make (c := #[.string (tx ([97])), .string (tx ([49])), .slice (some ⟨g5, 0, none⟩) 1 1, .slice none 0 0, .slice none 0 0, .string (tx ([98])), .string (tx ([49, 46, 57])), .slice none 0 0, .slice none 0 0, .slice none 0 0]) (T := 37) (fun g => .slice (some ⟨g, 0, none⟩) 2 2) hm4 8 rfl (by unfold execOp; go_simp; try rfl) (fun g8 w6 (hm7 : Mm none (fun _ => True) w w6 [.blk g5 #[.string (tx ([98])), .int .i64 5, .string (tx ([50]))] 24, .blk g8 #[.string (tx ([97])), .string (tx ([49])), .slice (some ⟨g5, 0, none⟩) 1 1, .slice none 0 0, .slice none 0 0, .string (tx ([98])), .string (tx ([49, 46, 57])), .slice none 0 0, .slice none 0 0, .slice none 0 0] 37]) => ?_))
  simp only [nz1, nz2, nz3]
  refine lvw 1 (.slice (some ⟨g8, 0, none⟩) 2 2) rfl rfl (run_as rfl rfl) ?_
  simp only [nz1, nz2, nz3]
  refine wpList_nil ?_
  refine then_n (hK2 _ _ ?_)
  refine wp_seq_k (fun K9 hK9 => ?_)
  refine wp_region_lit ?_
  refine lvw 9 (.slice (some ⟨g8, 0, none⟩) 2 2) rfl rfl (run_mv rfl rfl) ?_
  simp only [nz1, nz2, nz3]
  refine lst rfl (m_call hm7 10 (.int .i64 ((solve_m ([(Mf.mk ([97]) ([49]) ([(Rul.mk ([98]) 5 ([50]))] : List Rul) ([] : List Rul) ([] : List Ent5)), (Mf.mk ([98]) ([49, 46, 57]) ([] : List Rul) ([] : List Rul) ([] : List Ent5))] : List Mf)))) rfl (run_solve rfl rfl) (solve_any ([(Mf.mk ([97]) ([49]) ([(Rul.mk ([98]) 5 ([50]))] : List Rul) ([] : List Rul) ([] : List Ent5)), (Mf.mk ([98]) ([49, 46, 57]) ([] : List Rul) ([] : List Rul) ([] : List Ent5))] : List Mf) (.slice (some ⟨g8, 0, none⟩) 2 2) ([(.slice (some ⟨g5, 0, none⟩) 1 1, .slice none 0 0, .slice none 0 0), (.slice none 0 0, .slice none 0 0, .slice none 0 0)] : List (Value × Value × Value)) _ (Rn.blk (l := ([(Mf.mk ([97]) ([49]) ([(Rul.mk ([98]) 5 ([50]))] : List Rul) ([] : List Rul) ([] : List Ent5)), (Mf.mk ([98]) ([49, 46, 57]) ([] : List Rul) ([] : List Rul) ([] : List Ent5))] : List Mf)) (u := [(.slice (some ⟨g5, 0, none⟩) 1 1, .slice none 0 0, .slice none 0 0), (.slice none 0 0, .slice none 0 0, .slice none 0 0)]) (hm7.at 1 rfl) rfl rfl nMf_len (Nat.le_refl _) (Els.app (Els.one (RM := MfN) (a := (Mf.mk ([97]) ([49]) ([(Rul.mk ([98]) 5 ([50]))] : List Rul) ([] : List Rul) ([] : List Ent5))) (b := (.slice (some ⟨g5, 0, none⟩) 1 1, .slice none 0 0, .slice none 0 0)) (⟨(Rs.blk (l := [(Rul.mk ([98]) 5 ([50]))]) (hm7.at 0 rfl) rfl rfl eRul_len (Nat.le_refl _)), (Rs.nil eRul 3 _), (Rs.nil eEnt5 5 _)⟩)) (Els.app (Els.one (RM := MfN) (a := (Mf.mk ([98]) ([49, 46, 57]) ([] : List Rul) ([] : List Rul) ([] : List Ent5))) (b := (.slice none 0 0, .slice none 0 0, .slice none 0 0)) (⟨(Rs.nil eRul 3 _), (Rs.nil eRul 3 _), (Rs.nil eEnt5 5 _)⟩)) Els.nil))) (by first | omega | assumption | ((repeat' (first | assumption | exact okl_nil | apply okl_app | apply okl_drop | apply okl_take | apply okl_cons | exact (okl_at (by assumption) _).1 | exact (okl_at (by assumption) _).2 | (simp; done) | (simp; omega) | decide)); done) | (simp; done) | (simp; omega) | (simp only [List.length_append, List.length_cons, List.length_nil]; omega) | (simp only [List.length_append, List.length_cons, List.length_nil] at *; omega) | decide) (by first | omega | assumption | ((repeat' (first | assumption | exact okl_nil | apply okl_app | apply okl_drop | apply okl_take | apply okl_cons | exact (okl_at (by assumption) _).1 | exact (okl_at (by assumption) _).2 | (simp; done) | (simp; omega) | decide)); done) | (simp; done) | (simp; omega) | (simp only [List.length_append, List.length_cons, List.length_nil]; omega) | (simp only [List.length_append, List.length_cons, List.length_nil] at *; omega) | decide)) (fun w10 (hm11 : Mm none (fun _ => True) w w10 [.blk g5 #[.string (tx ([98])), .int .i64 5, .string (tx ([50]))] 24, .blk g8 #[.string (tx ([97])), .string (tx ([49])), .slice (some ⟨g5, 0, none⟩) 1 1, .slice none 0 0, .slice none 0 0, .string (tx ([98])), .string (tx ([49, 46, 57])), .slice none 0 0, .slice none 0 0, .slice none 0 0] 37]) => ?_))
  simp only [nz1, nz2, nz3]
  refine lvw 2 (.int .i64 ((solve_m ([(Mf.mk ([97]) ([49]) ([(Rul.mk ([98]) 5 ([50]))] : List Rul) ([] : List Rul) ([] : List Ent5)), (Mf.mk ([98]) ([49, 46, 57]) ([] : List Rul) ([] : List Rul) ([] : List Ent5))] : List Mf)))) rfl rfl (run_as rfl rfl) ?_
  simp only [nz1, nz2, nz3]
  refine wpList_nil ?_
  refine then_n (hK9 _ _ ?_)
  refine wp_seq_k (fun K12 hK12 => ?_)
  refine wp_region_lit ?_
  refine lvw 11 (.slice (some ⟨g8, 0, none⟩) 2 2) rfl rfl (run_mv rfl rfl) ?_
  simp only [nz1, nz2, nz3]
  refine lvw 12 (.pointer (some ⟨g8, 5, none⟩)) rfl rfl (r_ixS g8 0 1 2 2 5 (by decide) Tryd.underlying22 sz_37 rfl rfl rfl) ?_
  simp only [nz1, nz2, nz3]
  refine lvw 13 (.pointer (some ⟨g8, 6, none⟩)) rfl rfl (r_fa37_1 g8 5 rfl rfl) ?_
  simp only [nz1, nz2, nz3]
  refine lst rfl (m_store 1 9 _ _ 6 (.string (tx ([50, 46, 48]))) (old := #[.string (tx ([97])), .string (tx ([49])), .slice (some ⟨g5, 0, none⟩) 1 1, .slice none 0 0, .slice none 0 0, .string (tx ([98])), .string (tx ([49, 46, 57])), .slice none 0 0, .slice none 0 0, .slice none 0 0]) (new := #[.string (tx ([97])), .string (tx ([49])), .slice (some ⟨g5, 0, none⟩) 1 1, .slice none 0 0, .slice none 0 0, .string (tx ([98])), .string (tx ([50, 46, 48])), .slice none 0 0, .slice none 0 0, .slice none 0 0]) hm11 rfl rfl rfl rfl rfl (by exact sz_9) (show 6 + 1 ≤ 10 from by decide) (one_all rfl) rfl (fun w13 (hm14 : Mm none (fun _ => True) w w13 [.blk g5 #[.string (tx ([98])), .int .i64 5, .string (tx ([50]))] 24, .blk g8 #[.string (tx ([97])), .string (tx ([49])), .slice (some ⟨g5, 0, none⟩) 1 1, .slice none 0 0, .slice none 0 0, .string (tx ([98])), .string (tx ([50, 46, 48])), .slice none 0 0, .slice none 0 0, .slice none 0 0] 37]) => ?_))
  refine wpList_nil ?_
  refine then_n (hK12 _ _ ?_)
  refine wp_seq_k (fun K15 hK15 => ?_)
  refine wp_region_lit ?_
  refine lvw 14 (.slice (some ⟨g8, 0, none⟩) 2 2) rfl rfl (run_mv rfl rfl) ?_
  simp only [nz1, nz2, nz3]
  refine lst rfl (m_call hm14 15 (.int .i64 ((solve_m ([(Mf.mk ([97]) ([49]) ([(Rul.mk ([98]) 5 ([50]))] : List Rul) ([] : List Rul) ([] : List Ent5)), (Mf.mk ([98]) ([50, 46, 48]) ([] : List Rul) ([] : List Rul) ([] : List Ent5))] : List Mf)))) rfl (run_solve rfl rfl) (solve_any ([(Mf.mk ([97]) ([49]) ([(Rul.mk ([98]) 5 ([50]))] : List Rul) ([] : List Rul) ([] : List Ent5)), (Mf.mk ([98]) ([50, 46, 48]) ([] : List Rul) ([] : List Rul) ([] : List Ent5))] : List Mf) (.slice (some ⟨g8, 0, none⟩) 2 2) ([(.slice (some ⟨g5, 0, none⟩) 1 1, .slice none 0 0, .slice none 0 0), (.slice none 0 0, .slice none 0 0, .slice none 0 0)] : List (Value × Value × Value)) _ (Rn.blk (l := ([(Mf.mk ([97]) ([49]) ([(Rul.mk ([98]) 5 ([50]))] : List Rul) ([] : List Rul) ([] : List Ent5)), (Mf.mk ([98]) ([50, 46, 48]) ([] : List Rul) ([] : List Rul) ([] : List Ent5))] : List Mf)) (u := [(.slice (some ⟨g5, 0, none⟩) 1 1, .slice none 0 0, .slice none 0 0), (.slice none 0 0, .slice none 0 0, .slice none 0 0)]) (hm14.at 1 rfl) rfl rfl nMf_len (Nat.le_refl _) (Els.app (Els.one (RM := MfN) (a := (Mf.mk ([97]) ([49]) ([(Rul.mk ([98]) 5 ([50]))] : List Rul) ([] : List Rul) ([] : List Ent5))) (b := (.slice (some ⟨g5, 0, none⟩) 1 1, .slice none 0 0, .slice none 0 0)) (⟨(Rs.blk (l := [(Rul.mk ([98]) 5 ([50]))]) (hm14.at 0 rfl) rfl rfl eRul_len (Nat.le_refl _)), (Rs.nil eRul 3 _), (Rs.nil eEnt5 5 _)⟩)) (Els.app (Els.one (RM := MfN) (a := (Mf.mk ([98]) ([50, 46, 48]) ([] : List Rul) ([] : List Rul) ([] : List Ent5))) (b := (.slice none 0 0, .slice none 0 0, .slice none 0 0)) (⟨(Rs.nil eRul 3 _), (Rs.nil eRul 3 _), (Rs.nil eEnt5 5 _)⟩)) Els.nil))) (by first | omega | assumption | ((repeat' (first | assumption | exact okl_nil | apply okl_app | apply okl_drop | apply okl_take | apply okl_cons | exact (okl_at (by assumption) _).1 | exact (okl_at (by assumption) _).2 | (simp; done) | (simp; omega) | decide)); done) | (simp; done) | (simp; omega) | (simp only [List.length_append, List.length_cons, List.length_nil]; omega) | (simp only [List.length_append, List.length_cons, List.length_nil] at *; omega) | decide) (by first | omega | assumption | ((repeat' (first | assumption | exact okl_nil | apply okl_app | apply okl_drop | apply okl_take | apply okl_cons | exact (okl_at (by assumption) _).1 | exact (okl_at (by assumption) _).2 | (simp; done) | (simp; omega) | decide)); done) | (simp; done) | (simp; omega) | (simp only [List.length_append, List.length_cons, List.length_nil]; omega) | (simp only [List.length_append, List.length_cons, List.length_nil] at *; omega) | decide)) (fun w16 (hm17 : Mm none (fun _ => True) w w16 [.blk g5 #[.string (tx ([98])), .int .i64 5, .string (tx ([50]))] 24, .blk g8 #[.string (tx ([97])), .string (tx ([49])), .slice (some ⟨g5, 0, none⟩) 1 1, .slice none 0 0, .slice none 0 0, .string (tx ([98])), .string (tx ([50, 46, 48])), .slice none 0 0, .slice none 0 0, .slice none 0 0] 37]) => ?_))
  simp only [nz1, nz2, nz3]
  refine lvw 3 (.int .i64 ((solve_m ([(Mf.mk ([97]) ([49]) ([(Rul.mk ([98]) 5 ([50]))] : List Rul) ([] : List Rul) ([] : List Ent5)), (Mf.mk ([98]) ([50, 46, 48]) ([] : List Rul) ([] : List Rul) ([] : List Ent5))] : List Mf)))) rfl rfl (run_as rfl rfl) ?_
  simp only [nz1, nz2, nz3]
  refine wpList_nil ?_
  refine then_n (hK15 _ _ ?_)
  refine wp_seq_k (fun K18 hK18 => ?_)
  refine wp_region_lit ?_
  refine lvw 16 (.slice (some ⟨g8, 0, none⟩) 2 2) rfl rfl (run_mv rfl rfl) ?_
  simp only [nz1, nz2, nz3]
  refine lvw 17 (.agg #[.string (tx ([97])), .int .i64 0, .string (tx ([]))]) rfl rfl (by unfold execOp; go_simp; try (first | rfl | (repeat' (first | rfl | apply And.intro)))) ?_
  simp only [nz1, nz2, nz3]
  refine lst rfl (m_make (c := #[.string (tx ([97])), .int .i64 0, .string (tx ([]))]) (T := 24) (fun g => .slice (some ⟨g, 0, none⟩) 1 1) hm17 18 rfl (by unfold execOp; go_simp; try rfl) (fun g21 w19 (hm20 : Mm none (fun _ => True) w w19 [.blk g5 #[.string (tx ([98])), .int .i64 5, .string (tx ([50]))] 24, .blk g8 #[.string (tx ([97])), .string (tx ([49])), .slice (some ⟨g5, 0, none⟩) 1 1, .slice none 0 0, .slice none 0 0, .string (tx ([98])), .string (tx ([50, 46, 48])), .slice none 0 0, .slice none 0 0, .slice none 0 0] 37, .blk g21 #[.string (tx ([97])), .int .i64 0, .string (tx ([]))] 24]) => ?_))
  simp only [nz1, nz2, nz3]
  refine lvw 19 (.pointer (some ⟨g8, 5, none⟩)) rfl rfl (r_ixS g8 0 1 2 2 5 (by decide) Tryd.underlying22 sz_37 rfl rfl rfl) ?_
  simp only [nz1, nz2, nz3]
  refine lvw 20 (.pointer (some ⟨g8, 8, none⟩)) rfl rfl (r_fa37_3 g8 5 rfl rfl) ?_
  simp only [nz1, nz2, nz3]
  refine lst rfl (m_store 1 28 _ _ 8 (.slice (some ⟨g21, 0, none⟩) 1 1) (old := #[.string (tx ([97])), .string (tx ([49])), .slice (some ⟨g5, 0, none⟩) 1 1, .slice none 0 0, .slice none 0 0, .string (tx ([98])), .string (tx ([50, 46, 48])), .slice none 0 0, .slice none 0 0, .slice none 0 0]) (new := #[.string (tx ([97])), .string (tx ([49])), .slice (some ⟨g5, 0, none⟩) 1 1, .slice none 0 0, .slice none 0 0, .string (tx ([98])), .string (tx ([50, 46, 48])), .slice none 0 0, .slice (some ⟨g21, 0, none⟩) 1 1, .slice none 0 0]) hm20 rfl rfl rfl rfl rfl (by exact sz_28) (show 8 + 1 ≤ 10 from by decide) (one_all rfl) rfl (fun w22 (hm23 : Mm none (fun _ => True) w w22 [.blk g5 #[.string (tx ([98])), .int .i64 5, .string (tx ([50]))] 24, .blk g8 #[.string (tx ([97])), .string (tx ([49])), .slice (some ⟨g5, 0, none⟩) 1 1, .slice none 0 0, .slice none 0 0, .string (tx ([98])), .string (tx ([50, 46, 48])), .slice none 0 0, .slice (some ⟨g21, 0, none⟩) 1 1, .slice none 0 0] 37, .blk g21 #[.string (tx ([97])), .int .i64 0, .string (tx ([]))] 24]) => ?_))
  refine wpList_nil ?_
  refine then_n (hK18 _ _ ?_)
  refine wp_seq_k (fun K24 hK24 => ?_)
  refine wp_region_lit ?_
  refine lvw 21 (.int .i64 ((solve_m ([(Mf.mk ([97]) ([49]) ([(Rul.mk ([98]) 5 ([50]))] : List Rul) ([] : List Rul) ([] : List Ent5)), (Mf.mk ([98]) ([49, 46, 57]) ([] : List Rul) ([] : List Rul) ([] : List Ent5))] : List Mf)))) rfl rfl (run_mv rfl rfl) ?_
  simp only [nz1, nz2, nz3]
  refine lvb 22 ((solve_m ([(Mf.mk ([97]) ([49]) ([(Rul.mk ([98]) 5 ([50]))] : List Rul) ([] : List Rul) ([] : List Ent5)), (Mf.mk ([98]) ([49, 46, 57]) ([] : List Rul) ([] : List Rul) ([] : List Ent5))] : List Mf)) = 15) rfl rfl (z_eql (solve_m ([(Mf.mk ([97]) ([49]) ([(Rul.mk ([98]) 5 ([50]))] : List Rul) ([] : List Rul) ([] : List Ent5)), (Mf.mk ([98]) ([49, 46, 57]) ([] : List Rul) ([] : List Rul) ([] : List Ent5))] : List Mf)) 15 rfl rfl rfl) (fun hs25 => ?_) (fun hs25 => ?_)
  rotate_left
  · simp only [nz1, nz2, nz3]
    refine lvw 23 (.bool false) rfl rfl (run_mv rfl rfl) ?_
    simp only [nz1, nz2, nz3]
    refine lst_skip 24 rfl rfl ?_
    simp only [nz1, nz2, nz3]
    refine lst_skip 25 rfl rfl ?_
    simp only [nz1, nz2, nz3]
    refine lvw 26 (.bool false) rfl rfl (run_pickf rfl rfl rfl) ?_
    simp only [nz1, nz2, nz3]
    refine lvw 27 (.bool false) rfl rfl (run_mv rfl rfl) ?_
    simp only [nz1, nz2, nz3]
    refine lst_skip 28 rfl rfl ?_
    simp only [nz1, nz2, nz3]
    refine lst_skip 29 rfl rfl ?_
    simp only [nz1, nz2, nz3]
    refine lst_skip 30 rfl rfl ?_
    simp only [nz1, nz2, nz3]
    refine lvw 31 (.bool false) rfl rfl (run_pickf rfl rfl rfl) ?_
    simp only [nz1, nz2, nz3]
    refine lvw 32 (.bool false) rfl rfl (run_mv rfl rfl) ?_
    simp only [nz1, nz2, nz3]
    refine lst_skip 33 rfl rfl ?_
    simp only [nz1, nz2, nz3]
    refine lst_skip 34 rfl rfl ?_
    simp only [nz1, nz2, nz3]
    refine lst_skip 35 rfl rfl ?_
    simp only [nz1, nz2, nz3]
    refine lst_skip 36 rfl rfl ?_
    simp only [nz1, nz2, nz3]
    refine lst_skip 37 rfl rfl ?_
    simp only [nz1, nz2, nz3]
    refine lst_skip 38 rfl rfl ?_
    simp only [nz1, nz2, nz3]
    refine lst_skip 39 rfl rfl ?_
    simp only [nz1, nz2, nz3]
    refine lvw 40 (.bool false) rfl rfl (run_pickf rfl rfl rfl) ?_
    simp only [nz1, nz2, nz3]
    refine lvw 0 (.bool false) rfl rfl (run_as rfl rfl) ?_
    simp only [nz1, nz2]
    refine wpList_nil ?_
    refine then_n (hK24 _ _ ?_)
    refine wp_ret ?_
    have he41 : sawake_m = false := (show sawake_m = false from by unfold sawake_m; rw [if_neg hs25] <;> rfl)
    exact ⟨rfl, .bool false, res_t rfl rfl, ⟨by (rw [he41]; try rfl), hm23.below⟩⟩
  simp only [nz1, nz2, nz3]
  refine lvw 23 (.bool true) rfl rfl (run_mv rfl rfl) ?_
  simp only [nz1, nz2, nz3]
  refine lvw 24 (.int .i64 ((solve_m ([(Mf.mk ([97]) ([49]) ([(Rul.mk ([98]) 5 ([50]))] : List Rul) ([] : List Rul) ([] : List Ent5)), (Mf.mk ([98]) ([50, 46, 48]) ([] : List Rul) ([] : List Rul) ([] : List Ent5))] : List Mf)))) rfl rfl (run_mv rfl rfl) ?_
  simp only [nz1, nz2, nz3]
  refine lvb 25 ((solve_m ([(Mf.mk ([97]) ([49]) ([(Rul.mk ([98]) 5 ([50]))] : List Rul) ([] : List Rul) ([] : List Ent5)), (Mf.mk ([98]) ([50, 46, 48]) ([] : List Rul) ([] : List Rul) ([] : List Ent5))] : List Mf)) = 0) rfl rfl (z_eql (solve_m ([(Mf.mk ([97]) ([49]) ([(Rul.mk ([98]) 5 ([50]))] : List Rul) ([] : List Rul) ([] : List Ent5)), (Mf.mk ([98]) ([50, 46, 48]) ([] : List Rul) ([] : List Rul) ([] : List Ent5))] : List Mf)) 0 rfl rfl rfl) (fun hs26 => ?_) (fun hs26 => ?_)
  rotate_left
  · simp only [nz1, nz2, nz3]
    refine lvw 26 (.bool false) rfl rfl (run_pick rfl rfl rfl) ?_
    simp only [nz1, nz2, nz3]
    refine lvw 27 (.bool false) rfl rfl (run_mv rfl rfl) ?_
    simp only [nz1, nz2, nz3]
    refine lst_skip 28 rfl rfl ?_
    simp only [nz1, nz2, nz3]
    refine lst_skip 29 rfl rfl ?_
    simp only [nz1, nz2, nz3]
    refine lst_skip 30 rfl rfl ?_
    simp only [nz1, nz2, nz3]
    refine lvw 31 (.bool false) rfl rfl (run_pickf rfl rfl rfl) ?_
    simp only [nz1, nz2, nz3]
    refine lvw 32 (.bool false) rfl rfl (run_mv rfl rfl) ?_
    simp only [nz1, nz2, nz3]
    refine lst_skip 33 rfl rfl ?_
    simp only [nz1, nz2, nz3]
    refine lst_skip 34 rfl rfl ?_
    simp only [nz1, nz2, nz3]
    refine lst_skip 35 rfl rfl ?_
    simp only [nz1, nz2, nz3]
    refine lst_skip 36 rfl rfl ?_
    simp only [nz1, nz2, nz3]
    refine lst_skip 37 rfl rfl ?_
    simp only [nz1, nz2, nz3]
    refine lst_skip 38 rfl rfl ?_
    simp only [nz1, nz2, nz3]
    refine lst_skip 39 rfl rfl ?_
    simp only [nz1, nz2, nz3]
    refine lvw 40 (.bool false) rfl rfl (run_pickf rfl rfl rfl) ?_
    simp only [nz1, nz2, nz3]
    refine lvw 0 (.bool false) rfl rfl (run_as rfl rfl) ?_
    simp only [nz1, nz2]
    refine wpList_nil ?_
    refine then_n (hK24 _ _ ?_)
    refine wp_ret ?_
    have he40 : sawake_m = false := (show sawake_m = false from by unfold sawake_m; rw [if_pos hs25, if_neg hs26] <;> rfl)
    exact ⟨rfl, .bool false, res_t rfl rfl, ⟨by (rw [he40]; try rfl), hm23.below⟩⟩
  simp only [nz1, nz2, nz3]
  refine lvw 26 (.bool true) rfl rfl (run_pick rfl rfl rfl) ?_
  simp only [nz1, nz2, nz3]
  refine lvw 27 (.bool true) rfl rfl (run_mv rfl rfl) ?_
  simp only [nz1, nz2, nz3]
  refine lvw 28 (.slice (some ⟨g8, 0, none⟩) 2 2) rfl rfl (run_mv rfl rfl) ?_
  simp only [nz1, nz2, nz3]
  refine lst rfl (m_call hm23 29 (.int .i64 ((solve_m ([(Mf.mk ([97]) ([49]) ([(Rul.mk ([98]) 5 ([50]))] : List Rul) ([] : List Rul) ([] : List Ent5)), (Mf.mk ([98]) ([50, 46, 48]) ([] : List Rul) ([(Rul.mk ([97]) 0 ([]))] : List Rul) ([] : List Ent5))] : List Mf)))) rfl (run_solve rfl rfl) (solve_any ([(Mf.mk ([97]) ([49]) ([(Rul.mk ([98]) 5 ([50]))] : List Rul) ([] : List Rul) ([] : List Ent5)), (Mf.mk ([98]) ([50, 46, 48]) ([] : List Rul) ([(Rul.mk ([97]) 0 ([]))] : List Rul) ([] : List Ent5))] : List Mf) (.slice (some ⟨g8, 0, none⟩) 2 2) ([(.slice (some ⟨g5, 0, none⟩) 1 1, .slice none 0 0, .slice none 0 0), (.slice none 0 0, .slice (some ⟨g21, 0, none⟩) 1 1, .slice none 0 0)] : List (Value × Value × Value)) _ (Rn.blk (l := ([(Mf.mk ([97]) ([49]) ([(Rul.mk ([98]) 5 ([50]))] : List Rul) ([] : List Rul) ([] : List Ent5)), (Mf.mk ([98]) ([50, 46, 48]) ([] : List Rul) ([(Rul.mk ([97]) 0 ([]))] : List Rul) ([] : List Ent5))] : List Mf)) (u := [(.slice (some ⟨g5, 0, none⟩) 1 1, .slice none 0 0, .slice none 0 0), (.slice none 0 0, .slice (some ⟨g21, 0, none⟩) 1 1, .slice none 0 0)]) (hm23.at 1 rfl) rfl rfl nMf_len (Nat.le_refl _) (Els.app (Els.one (RM := MfN) (a := (Mf.mk ([97]) ([49]) ([(Rul.mk ([98]) 5 ([50]))] : List Rul) ([] : List Rul) ([] : List Ent5))) (b := (.slice (some ⟨g5, 0, none⟩) 1 1, .slice none 0 0, .slice none 0 0)) (⟨(Rs.blk (l := [(Rul.mk ([98]) 5 ([50]))]) (hm23.at 0 rfl) rfl rfl eRul_len (Nat.le_refl _)), (Rs.nil eRul 3 _), (Rs.nil eEnt5 5 _)⟩)) (Els.app (Els.one (RM := MfN) (a := (Mf.mk ([98]) ([50, 46, 48]) ([] : List Rul) ([(Rul.mk ([97]) 0 ([]))] : List Rul) ([] : List Ent5))) (b := (.slice none 0 0, .slice (some ⟨g21, 0, none⟩) 1 1, .slice none 0 0)) (⟨(Rs.nil eRul 3 _), (Rs.blk (l := [(Rul.mk ([97]) 0 ([]))]) (hm23.at 2 rfl) rfl rfl eRul_len (Nat.le_refl _)), (Rs.nil eEnt5 5 _)⟩)) Els.nil))) (by first | omega | assumption | ((repeat' (first | assumption | exact okl_nil | apply okl_app | apply okl_drop | apply okl_take | apply okl_cons | exact (okl_at (by assumption) _).1 | exact (okl_at (by assumption) _).2 | (simp; done) | (simp; omega) | decide)); done) | (simp; done) | (simp; omega) | (simp only [List.length_append, List.length_cons, List.length_nil]; omega) | (simp only [List.length_append, List.length_cons, List.length_nil] at *; omega) | decide) (by first | omega | assumption | ((repeat' (first | assumption | exact okl_nil | apply okl_app | apply okl_drop | apply okl_take | apply okl_cons | exact (okl_at (by assumption) _).1 | exact (okl_at (by assumption) _).2 | (simp; done) | (simp; omega) | decide)); done) | (simp; done) | (simp; omega) | (simp only [List.length_append, List.length_cons, List.length_nil]; omega) | (simp only [List.length_append, List.length_cons, List.length_nil] at *; omega) | decide)) (fun w27 (hm28 : Mm none (fun _ => True) w w27 [.blk g5 #[.string (tx ([98])), .int .i64 5, .string (tx ([50]))] 24, .blk g8 #[.string (tx ([97])), .string (tx ([49])), .slice (some ⟨g5, 0, none⟩) 1 1, .slice none 0 0, .slice none 0 0, .string (tx ([98])), .string (tx ([50, 46, 48])), .slice none 0 0, .slice (some ⟨g21, 0, none⟩) 1 1, .slice none 0 0] 37, .blk g21 #[.string (tx ([97])), .int .i64 0, .string (tx ([]))] 24]) => ?_))
  simp only [nz1, nz2, nz3]
  refine lvb 30 ((solve_m ([(Mf.mk ([97]) ([49]) ([(Rul.mk ([98]) 5 ([50]))] : List Rul) ([] : List Rul) ([] : List Ent5)), (Mf.mk ([98]) ([50, 46, 48]) ([] : List Rul) ([(Rul.mk ([97]) 0 ([]))] : List Rul) ([] : List Ent5))] : List Mf)) = 16) rfl rfl (z_eql (solve_m ([(Mf.mk ([97]) ([49]) ([(Rul.mk ([98]) 5 ([50]))] : List Rul) ([] : List Rul) ([] : List Ent5)), (Mf.mk ([98]) ([50, 46, 48]) ([] : List Rul) ([(Rul.mk ([97]) 0 ([]))] : List Rul) ([] : List Ent5))] : List Mf)) 16 rfl rfl rfl) (fun hs29 => ?_) (fun hs29 => ?_)
  rotate_left
  · simp only [nz1, nz2, nz3]
    refine lvw 31 (.bool false) rfl rfl (run_pick rfl rfl rfl) ?_
    simp only [nz1, nz2, nz3]
    refine lvw 32 (.bool false) rfl rfl (run_mv rfl rfl) ?_
    simp only [nz1, nz2, nz3]
    refine lst_skip 33 rfl rfl ?_
    simp only [nz1, nz2, nz3]
    refine lst_skip 34 rfl rfl ?_
    simp only [nz1, nz2, nz3]
    refine lst_skip 35 rfl rfl ?_
    simp only [nz1, nz2, nz3]
    refine lst_skip 36 rfl rfl ?_
    simp only [nz1, nz2, nz3]
    refine lst_skip 37 rfl rfl ?_
    simp only [nz1, nz2, nz3]
    refine lst_skip 38 rfl rfl ?_
    simp only [nz1, nz2, nz3]
    refine lst_skip 39 rfl rfl ?_
    simp only [nz1, nz2, nz3]
    refine lvw 40 (.bool false) rfl rfl (run_pickf rfl rfl rfl) ?_
    simp only [nz1, nz2, nz3]
    refine lvw 0 (.bool false) rfl rfl (run_as rfl rfl) ?_
    simp only [nz1, nz2]
    refine wpList_nil ?_
    refine then_n (hK24 _ _ ?_)
    refine wp_ret ?_
    have he39 : sawake_m = false := (show sawake_m = false from by unfold sawake_m; rw [if_pos hs25, if_pos hs26, if_neg hs29] <;> rfl)
    exact ⟨rfl, .bool false, res_t rfl rfl, ⟨by (rw [he39]; try rfl), hm28.below⟩⟩
  simp only [nz1, nz2, nz3]
  refine lvw 31 (.bool true) rfl rfl (run_pick rfl rfl rfl) ?_
  simp only [nz1, nz2, nz3]
  refine lvw 32 (.bool true) rfl rfl (run_mv rfl rfl) ?_
  simp only [nz1, nz2, nz3]
  refine lvw 33 (.slice (some ⟨g8, 0, none⟩) 2 2) rfl rfl (run_mv rfl rfl) ?_
  simp only [nz1, nz2, nz3]
  refine lvw 34 (.slice (some ⟨g8, 0, none⟩) 2 2) rfl rfl (run_mv rfl rfl) ?_
  simp only [nz1, nz2, nz3]
  refine lvw 35 (.pointer (some ⟨g8, 5, none⟩)) rfl rfl (r_ixS g8 0 1 2 2 5 (by decide) Tryd.underlying22 sz_37 rfl rfl rfl) ?_
  simp only [nz1, nz2, nz3]
  refine lvw 36 (.agg #[.string (tx ([98])), .string (tx ([50, 46, 48])), .slice none 0 0, .slice (some ⟨g21, 0, none⟩) 1 1, .slice none 0 0]) rfl rfl (r_agg (hm28.at 1 rfl) (fun j u hj => by have hlt := lt_of_get (n := 5) rfl hj; match j, hlt, hj with | 0, _, hj => exact hj | 1, _, hj => exact hj | 2, _, hj => exact hj | 3, _, hj => exact hj | 4, _, hj => exact hj) Tryd.underlying37 rfl (by exact sz_37) rfl rfl) ?_
  simp only [nz1, nz2, nz3]
  refine lst rfl (m_callx hm28 37 rfl (run_users rfl rfl rfl) (users_any ([(Mf.mk ([97]) ([49]) ([(Rul.mk ([98]) 5 ([50]))] : List Rul) ([] : List Rul) ([] : List Ent5)), (Mf.mk ([98]) ([50, 46, 48]) ([] : List Rul) ([(Rul.mk ([97]) 0 ([]))] : List Rul) ([] : List Ent5))] : List Mf) (Mf.mk ([98]) ([50, 46, 48]) ([] : List Rul) ([(Rul.mk ([97]) 0 ([]))] : List Rul) ([] : List Ent5)) (.slice (some ⟨g8, 0, none⟩) 2 2) ([(.slice (some ⟨g5, 0, none⟩) 1 1, .slice none 0 0, .slice none 0 0), (.slice none 0 0, .slice (some ⟨g21, 0, none⟩) 1 1, .slice none 0 0)] : List (Value × Value × Value)) (.slice none 0 0) (.slice (some ⟨g21, 0, none⟩) 1 1) (.slice none 0 0) _ (Rn.blk (l := ([(Mf.mk ([97]) ([49]) ([(Rul.mk ([98]) 5 ([50]))] : List Rul) ([] : List Rul) ([] : List Ent5)), (Mf.mk ([98]) ([50, 46, 48]) ([] : List Rul) ([(Rul.mk ([97]) 0 ([]))] : List Rul) ([] : List Ent5))] : List Mf)) (u := [(.slice (some ⟨g5, 0, none⟩) 1 1, .slice none 0 0, .slice none 0 0), (.slice none 0 0, .slice (some ⟨g21, 0, none⟩) 1 1, .slice none 0 0)]) (hm28.at 1 rfl) rfl rfl nMf_len (Nat.le_refl _) (Els.app (Els.one (RM := MfN) (a := (Mf.mk ([97]) ([49]) ([(Rul.mk ([98]) 5 ([50]))] : List Rul) ([] : List Rul) ([] : List Ent5))) (b := (.slice (some ⟨g5, 0, none⟩) 1 1, .slice none 0 0, .slice none 0 0)) (⟨(Rs.blk (l := [(Rul.mk ([98]) 5 ([50]))]) (hm28.at 0 rfl) rfl rfl eRul_len (Nat.le_refl _)), (Rs.nil eRul 3 _), (Rs.nil eEnt5 5 _)⟩)) (Els.app (Els.one (RM := MfN) (a := (Mf.mk ([98]) ([50, 46, 48]) ([] : List Rul) ([(Rul.mk ([97]) 0 ([]))] : List Rul) ([] : List Ent5))) (b := (.slice none 0 0, .slice (some ⟨g21, 0, none⟩) 1 1, .slice none 0 0)) (⟨(Rs.nil eRul 3 _), (Rs.blk (l := [(Rul.mk ([97]) 0 ([]))]) (hm28.at 2 rfl) rfl rfl eRul_len (Nat.le_refl _)), (Rs.nil eEnt5 5 _)⟩)) Els.nil))) ⟨(Rs.nil eRul 3 _), (Rs.blk (l := [(Rul.mk ([97]) 0 ([]))]) (hm28.at 2 rfl) rfl rfl eRul_len (Nat.le_refl _)), (Rs.nil eEnt5 5 _)⟩ (by first | omega | assumption | ((repeat' (first | assumption | exact okl_nil | apply okl_app | apply okl_drop | apply okl_take | apply okl_cons | exact (okl_at (by assumption) _).1 | exact (okl_at (by assumption) _).2 | (simp; done) | (simp; omega) | decide)); done) | (simp; done) | (simp; omega) | (simp only [List.length_append, List.length_cons, List.length_nil]; omega) | (simp only [List.length_append, List.length_cons, List.length_nil] at *; omega) | decide) (by first | omega | assumption | ((repeat' (first | assumption | exact okl_nil | apply okl_app | apply okl_drop | apply okl_take | apply okl_cons | exact (okl_at (by assumption) _).1 | exact (okl_at (by assumption) _).2 | (simp; done) | (simp; omega) | decide)); done) | (simp; done) | (simp; omega) | (simp only [List.length_append, List.length_cons, List.length_nil]; omega) | (simp only [List.length_append, List.length_cons, List.length_nil] at *; omega) | decide)) (fun v32 w30 hR34 hb35 hm31 => ?_))
  obtain ⟨_, rfl, ho37⟩ := hR34
  have hm36 : Mm none (fun _ => True) w w30 [.blk g5 #[.string (tx ([98])), .int .i64 5, .string (tx ([50]))] 24, .blk g8 #[.string (tx ([97])), .string (tx ([49])), .slice (some ⟨g5, 0, none⟩) 1 1, .slice none 0 0, .slice none 0 0, .string (tx ([98])), .string (tx ([50, 46, 48])), .slice none 0 0, .slice (some ⟨g21, 0, none⟩) 1 1, .slice none 0 0] 37, .blk g21 #[.string (tx ([97])), .int .i64 0, .string (tx ([]))] 24, .row v32 (users_m ([(Mf.mk ([97]) ([49]) ([(Rul.mk ([98]) 5 ([50]))] : List Rul) ([] : List Rul) ([] : List Ent5)), (Mf.mk ([98]) ([50, 46, 48]) ([] : List Rul) ([(Rul.mk ([97]) 0 ([]))] : List Rul) ([] : List Ent5))] : List Mf) (Mf.mk ([98]) ([50, 46, 48]) ([] : List Rul) ([(Rul.mk ([97]) 0 ([]))] : List Rul) ([] : List Ent5))).length ((users_m ([(Mf.mk ([97]) ([49]) ([(Rul.mk ([98]) 5 ([50]))] : List Rul) ([] : List Rul) ([] : List Ent5)), (Mf.mk ([98]) ([50, 46, 48]) ([] : List Rul) ([(Rul.mk ([97]) 0 ([]))] : List Rul) ([] : List Ent5))] : List Mf) (Mf.mk ([98]) ([50, 46, 48]) ([] : List Rul) ([(Rul.mk ([97]) 0 ([]))] : List Rul) ([] : List Ent5))).flatMap eS) 9 1] := hm28.gained hb35 ho37
  clear hm31
  simp only [nz1, nz2, nz3]
  refine lvw 38 (.int .i64 (((users_m ([(Mf.mk ([97]) ([49]) ([(Rul.mk ([98]) 5 ([50]))] : List Rul) ([] : List Rul) ([] : List Ent5)), (Mf.mk ([98]) ([50, 46, 48]) ([] : List Rul) ([(Rul.mk ([97]) 0 ([]))] : List Rul) ([] : List Ent5))] : List Mf) (Mf.mk ([98]) ([50, 46, 48]) ([] : List Rul) ([(Rul.mk ([97]) 0 ([]))] : List Rul) ([] : List Ent5))).length : Nat) : Int)) rfl rfl (s_len (Rs.row (hm36.row 3 rfl)) rfl Tryd.underlying33 rfl) ?_
  simp only [nz1, nz2, nz3]
  refine lvw 39 (.bool (decide ((users_m ([(Mf.mk ([97]) ([49]) ([(Rul.mk ([98]) 5 ([50]))] : List Rul) ([] : List Rul) ([] : List Ent5)), (Mf.mk ([98]) ([50, 46, 48]) ([] : List Rul) ([(Rul.mk ([97]) 0 ([]))] : List Rul) ([] : List Ent5))] : List Mf) (Mf.mk ([98]) ([50, 46, 48]) ([] : List Rul) ([(Rul.mk ([97]) 0 ([]))] : List Rul) ([] : List Ent5))).length = 1))) rfl rfl (r_eql ((users_m ([(Mf.mk ([97]) ([49]) ([(Rul.mk ([98]) 5 ([50]))] : List Rul) ([] : List Rul) ([] : List Ent5)), (Mf.mk ([98]) ([50, 46, 48]) ([] : List Rul) ([(Rul.mk ([97]) 0 ([]))] : List Rul) ([] : List Ent5))] : List Mf) (Mf.mk ([98]) ([50, 46, 48]) ([] : List Rul) ([(Rul.mk ([97]) 0 ([]))] : List Rul) ([] : List Ent5))).length) 1 rfl rfl rfl) ?_
  simp only [nz1, nz2, nz3]
  refine lvw 40 (.bool (decide ((users_m ([(Mf.mk ([97]) ([49]) ([(Rul.mk ([98]) 5 ([50]))] : List Rul) ([] : List Rul) ([] : List Ent5)), (Mf.mk ([98]) ([50, 46, 48]) ([] : List Rul) ([(Rul.mk ([97]) 0 ([]))] : List Rul) ([] : List Ent5))] : List Mf) (Mf.mk ([98]) ([50, 46, 48]) ([] : List Rul) ([(Rul.mk ([97]) 0 ([]))] : List Rul) ([] : List Ent5))).length = 1))) rfl rfl (run_pick rfl rfl rfl) ?_
  simp only [nz1, nz2, nz3]
  refine lvw 0 (.bool (decide ((users_m ([(Mf.mk ([97]) ([49]) ([(Rul.mk ([98]) 5 ([50]))] : List Rul) ([] : List Rul) ([] : List Ent5)), (Mf.mk ([98]) ([50, 46, 48]) ([] : List Rul) ([(Rul.mk ([97]) 0 ([]))] : List Rul) ([] : List Ent5))] : List Mf) (Mf.mk ([98]) ([50, 46, 48]) ([] : List Rul) ([(Rul.mk ([97]) 0 ([]))] : List Rul) ([] : List Ent5))).length = 1))) rfl rfl (run_as rfl rfl) ?_
  simp only [nz1, nz2]
  refine wpList_nil ?_
  refine then_n (hK24 _ _ ?_)
  refine wp_ret ?_
  have he38 : sawake_m = (decide ((users_m ([(Mf.mk ([97]) ([49]) ([(Rul.mk ([98]) 5 ([50]))] : List Rul) ([] : List Rul) ([] : List Ent5)), (Mf.mk ([98]) ([50, 46, 48]) ([] : List Rul) ([(Rul.mk ([97]) 0 ([]))] : List Rul) ([] : List Ent5))] : List Mf) (Mf.mk ([98]) ([50, 46, 48]) ([] : List Rul) ([(Rul.mk ([97]) 0 ([]))] : List Rul) ([] : List Ent5))).length = 1)) := (show sawake_m = (decide ((users_m ([(Mf.mk ([97]) ([49]) ([(Rul.mk ([98]) 5 ([50]))] : List Rul) ([] : List Rul) ([] : List Ent5)), (Mf.mk ([98]) ([50, 46, 48]) ([] : List Rul) ([(Rul.mk ([97]) 0 ([]))] : List Rul) ([] : List Ent5))] : List Mf) (Mf.mk ([98]) ([50, 46, 48]) ([] : List Rul) ([(Rul.mk ([97]) 0 ([]))] : List Rul) ([] : List Ent5))).length = 1)) from by unfold sawake_m; rw [if_pos hs25, if_pos hs26, if_pos hs29] <;> rfl)
  exact ⟨rfl, .bool (decide ((users_m ([(Mf.mk ([97]) ([49]) ([(Rul.mk ([98]) 5 ([50]))] : List Rul) ([] : List Rul) ([] : List Ent5)), (Mf.mk ([98]) ([50, 46, 48]) ([] : List Rul) ([(Rul.mk ([97]) 0 ([]))] : List Rul) ([] : List Ent5))] : List Mf) (Mf.mk ([98]) ([50, 46, 48]) ([] : List Rul) ([(Rul.mk ([97]) 0 ([]))] : List Rul) ([] : List Ent5))).length = 1)), res_t rfl rfl, ⟨by (rw [he38]; try rfl), hm36.below⟩⟩
theorem run_sawake {o : Oper} {a : Act} {w : World} (ho : o.op = .call { callee := .value (.func 8), args := #[], argTypes := #[] })  :
    (execOp a.eval o).run Tryd.prog w = .ok (.enter 8 #[]) w := by
  unfold execOp
  simp only [ho]
  have hf : a.eval (.func 8) = .func (.func 8) #[] #[] := rfl
  generalize a.eval = f at *
  go_simp
end Go.Proofs.YtpbenhfnebgbiaaDoor.So
