/- Layer 20: SolveOrder. -/
import Derived.Test.YtpbenhfnebgbiaaDoorSoE
namespace Go.Proofs.YtpbenhfnebgbiaaDoor.So
open Go.RowKit
open Go.Proofs.YtpbenhfnebgbiaaDoor.Sym Go.Proofs.YtpbenhfnebgbiaaDoor.Mem
open Go.Proofs.YtpbenhfnebgbiaaDoor.Sx hiding Mm m_alloc m_store m_put m_call m_callx m_make m_append r_string r_ixS
set_option linter.unusedVariables false
open Go.Proofs.YtpbenhfnebgbiaaDoor.Pa
open Go.Proofs.YtpbenhfnebgbiaaDoor.Ve
attribute [local irreducible] holds_m meets_m lacks_m clashes_m solve_m needs_m users_m
attribute [local irreducible] great_m
attribute [local irreducible] sawake_m
attribute [local irreducible] wpList Oper.wp

def lorder_m_b0 (l : List Mf) (rec : (List Mf) × Int → Sum ((List Mf) × Int) (Bool)) (l20 : List Mf) (x25 : Int) : Sum ((List Mf) × Int) (Bool) :=
  if 0 < x25 then
    rec ((l20 ++ ([(Mf.mk ((l.getD ((x25 - (1 : Int)).toNat) dMf).name) ((l.getD ((x25 - (1 : Int)).toNat) dMf).version) ((l.getD ((x25 - (1 : Int)).toNat) dMf).needs) ((l.getD ((x25 - (1 : Int)).toNat) dMf).clashes) ((l.getD ((x25 - (1 : Int)).toNat) dMf).entries))] : List Mf)), (x25 - (1 : Int)))
  else
    .inl (l20, x25)
def lorder_m_l0 (l : List Mf) : Nat → (List Mf) × Int → Sum ((List Mf) × Int) (Bool)
  | 0, zz => .inl zz
  | nq + 1, zz => lorder_m_b0 l (lorder_m_l0 l nq) zz.1 zz.2

def lorder_m_k0 (l : List Mf) (y29 : List Mf) (y33 : Int) : Bool :=
  if sawake_m = true then
    if (solve_m l) = (solve_m y29) then
      if (lacks_m l).length = (lacks_m y29).length then
        (decide ((clashes_m l).length = (clashes_m y29).length))
      else
        false
    else
      false
  else
    false

def lorder_m (l : List Mf) : Bool :=
  if 500 < grn l then
    sawake_m
  else
    fin (lorder_m_l0 l ((((l.length : Nat) : Int)).toNat + 1) (([] : List Mf), ((l.length : Nat) : Int))) (fun r => r) (fun zz => lorder_m_k0 l zz.1 zz.2)

set_option maxHeartbeats 4000000 in
set_option maxRecDepth 100000 in
theorem lorder_any (l : List Mf) (lv0 : Value) (lv1 : List (Value × Value × Value)) (w : World) (hl : Rn nMf 5 MfN l lv1 lv0 w) (hp0 : l.length ≤ 268435456) (hp1 : okl l) : Calls Tryd.prog 6 #[lv0] w (fun e w' => e = .returned (.bool ((lorder_m l))) ∧ Below w.heap.size w w') := by
  go_enter Tryd.func6, Tryd.ntmps6
  have hm00 := Mm.nil none (fun _ => True) w
  obtain ⟨Fl, hm01⟩ : ∃ Fl, Mm none (fun _ => True) w w [.see (Rn nMf 5 MfN l lv1 lv0) Fl] := hm00.come ((Rn.all MfN_all) hl)
  have hm0 := hm01
  refine wp_seq_k (fun K1 hK1 => ?_)
  refine wp_region_lit ?_
  refine lvw 2 (.bool false) rfl rfl (run_as rfl rfl) ?_
  simp only [nz1, nz2, nz3]
  refine wpList_nil ?_
  refine then_n (hK1 _ _ ?_)
  refine wp_seq_k (fun K2 hK2 => ?_)
  refine wp_seq_k (fun K3 hK3 => ?_)
  refine wp_region_lit ?_
  refine lvw 5 (lv0) rfl rfl (run_mv rfl rfl) ?_
  simp only [nz1, nz2, nz3]
  refine lst rfl (m_call hm0 6 (.bool (decide (500 < grn l))) rfl (run_great rfl rfl) (greatd_any l lv0 lv1 _ (hm0.see 0 rfl) (by first | omega | assumption | ((repeat' (first | assumption | exact okl_nil | apply okl_app | apply okl_drop | apply okl_take | apply okl_cons | exact (okl_at (by assumption) _).1 | exact (okl_at (by assumption) _).2 | (simp; done) | (simp; omega) | decide)); done) | (simp; done) | (simp; omega) | (simp only [List.length_append, List.length_cons, List.length_nil]; omega) | (simp only [List.length_append, List.length_cons, List.length_nil] at *; omega) | decide) (by first | omega | assumption | ((repeat' (first | assumption | exact okl_nil | apply okl_app | apply okl_drop | apply okl_take | apply okl_cons | exact (okl_at (by assumption) _).1 | exact (okl_at (by assumption) _).2 | (simp; done) | (simp; omega) | decide)); done) | (simp; done) | (simp; omega) | (simp only [List.length_append, List.length_cons, List.length_nil]; omega) | (simp only [List.length_append, List.length_cons, List.length_nil] at *; omega) | decide)) (fun w4 (hm5 : Mm none (fun _ => True) w w4 [.see (Rn nMf 5 MfN l lv1 lv0) Fl]) => ?_))
  have hf6 : l.length ≤ grn l := grn_len l
  simp only [nz1, nz2, nz3]
  refine wpList_nil ?_
  refine then_n (hK3 _ _ ?_)
  refine cond_d (500 < grn l) rfl (fun hc7 => ?_) (fun hc7 => ?_)
  · refine wp_seq_k (fun K8 hK8 => ?_)
    refine wp_region_lit ?_
    refine lst rfl (m_call hm5 7 (.bool (sawake_m)) rfl (run_sawake rfl) (sawake_any   _  ) (fun w9 (hm10 : Mm none (fun _ => True) w w9 [.see (Rn nMf 5 MfN l lv1 lv0) Fl]) => ?_))
    simp only [nz1, nz2, nz3]
    refine lvw 2 (.bool (sawake_m)) rfl rfl (run_as rfl rfl) ?_
    simp only [nz1, nz2, nz3]
    refine wpList_nil ?_
    refine then_n (hK8 _ _ ?_)
    refine wp_ret ?_
    refine then_r ?_
    have he11 : lorder_m l = sawake_m := (show lorder_m l = sawake_m from by unfold lorder_m; rw [if_pos hc7] <;> rfl)
    exact ⟨rfl, .bool (sawake_m), res_t rfl rfl, ⟨by (rw [he11]; try rfl), hm10.below⟩⟩
  refine wp_skip ?_
  refine then_n (hK2 _ _ ?_)
  refine wp_seq_k (fun K12 hK12 => ?_)
  refine wp_region_lit ?_
  refine lvw 3 (.slice none 0 0) rfl rfl (run_as rfl rfl) ?_
  simp only [nz1, nz2, nz3]
  refine wpList_nil ?_
  refine then_n (hK12 _ _ ?_)
  refine wp_seq_k (fun K13 hK13 => ?_)
  refine wp_seq_k (fun K14 hK14 => ?_)
  refine wp_region_lit ?_
  refine lvw 8 (lv0) rfl rfl (run_mv rfl rfl) ?_
  simp only [nz1, nz2, nz3]
  refine lvw 9 (.int .i64 ((l.length : Nat) : Int)) rfl rfl (s_len ((hm5.see 0 rfl)).rd rfl Tryd.underlying22 rfl) ?_
  simp only [nz1, nz2, nz3]
  refine lvw 4 (.int .i64 ((l.length : Nat) : Int)) rfl rfl (run_as rfl rfl) ?_
  simp only [nz1, nz2, nz3]
  refine wpList_nil ?_
  refine then_n (hK14 _ _ ?_)
  have hm16 : Mm none (fun _ => True) w w4 [.see (Rn nMf 5 MfN l lv1 lv0) Fl, .row (.slice none 0 0) (([] : List Mf).zip ([] : List (Value × Value × Value))).length ((([] : List Mf).zip ([] : List (Value × Value × Value))).flatMap nMf) 37 5] := hm5.nilrow 37 5
  obtain ⟨F17, hm18⟩ : ∃ F17, Mm none (fun _ => True) w w4 [.see (Rn nMf 5 MfN l lv1 lv0) Fl, .row (.slice none 0 0) (([] : List Mf).zip ([] : List (Value × Value × Value))).length ((([] : List Mf).zip ([] : List (Value × Value × Value))).flatMap nMf) 37 5, .see (Els MfN ([] : List Mf) ([] : List (Value × Value × Value))) F17] := hm16.derive (From.pure (fun _ => Els.nil))
  refine wp_cutK (fun a' w' => ∃ (y29 : List Mf) (y33 : Int) (v30 : Value) (q31 : List (Value × Value × Value)) (F32 : Nat → Prop) (yu0 : Nat → Value), lorder_m_l0 l ((((l.length : Nat) : Int)).toNat + 1) (([] : List Mf), ((l.length : Nat) : Int)) = .inl (y29, y33) ∧ (y29.length + y33 = l.length ∧ 0 ≤ y33) ∧ (okl y29) ∧ a' = ⟨#[lv0, undef, .bool false, v30, .int .i64 (y33), lv0, .bool (decide (500 < grn l)), undef, lv0, .int .i64 ((l.length : Nat) : Int), yu0 0, yu0 1, yu0 2, yu0 3, yu0 4, yu0 5, yu0 6, yu0 7, yu0 8, yu0 9, yu0 10, yu0 11, undef, undef, undef, undef, undef, undef, undef, undef, undef, undef, undef, undef, undef, undef, undef, undef, undef, undef, undef, undef, undef, undef, undef, undef, undef, undef], []⟩ ∧ Mm none (fun _ => True) w w' [.see (Rn nMf 5 MfN l lv1 lv0) Fl, .row v30 (y29.zip q31).length ((y29.zip q31).flatMap nMf) 37 5, .see (Els MfN y29 q31) F32]) ?_ ?_
  · refine wp_block ?_
    refine wp_loop_n (fun n' a' w' => ∃ (n26 : Nat) (l20 : List Mf) (x25 : Int) (v21 : Value) (q22 : List (Value × Value × Value)) (F23 : Nat → Prop) (u0 : Nat → Value), n' = n26 ∧ (x25).toNat < n26 ∧ lorder_m_l0 l ((((l.length : Nat) : Int)).toNat + 1) (([] : List Mf), ((l.length : Nat) : Int)) = lorder_m_l0 l n26 (l20, x25) ∧ (l20.length + x25 = l.length ∧ 0 ≤ x25) ∧ (okl l20) ∧ a' = ⟨#[lv0, undef, .bool false, v21, .int .i64 (x25), lv0, .bool (decide (500 < grn l)), undef, lv0, .int .i64 ((l.length : Nat) : Int), u0 0, u0 1, u0 2, u0 3, u0 4, u0 5, u0 6, u0 7, u0 8, u0 9, u0 10, u0 11, undef, undef, undef, undef, undef, undef, undef, undef, undef, undef, undef, undef, undef, undef, undef, undef, undef, undef, undef, undef, undef, undef, undef, undef, undef, undef], []⟩ ∧ Mm none (fun _ => True) w w' [.see (Rn nMf 5 MfN l lv1 lv0) Fl, .row v21 (l20.zip q22).length ((l20.zip q22).flatMap nMf) 37 5, .see (Els MfN l20 q22) F23]) ⟨((((l.length : Nat) : Int)).toNat + 1), ([] : List Mf), ((l.length : Nat) : Int), .slice none 0 0, ([] : List (Value × Value × Value)), F17, (fun qq => List.getD [undef, undef, undef, undef, undef, undef, undef, undef, undef, undef, undef, undef] qq undef), rfl, Nat.lt_succ_self _, rfl, ⟨by simp, by omega⟩, okl_nil, rfl, hm18⟩ ?_
    rintro n26 _ w35 ⟨_, l20, x25, v21, q22, F23, u0, rfl, hl39, hi28, hbk, hbo, rfl, hm36⟩ R37 hR37
    obtain ⟨k27, rfl⟩ : ∃ k, n26 = k + 1 := ⟨n26 - 1, by omega⟩
    refine wp_seq_k (fun K40 hK40 => ?_)
    refine wp_seq_k (fun K41 hK41 => ?_)
    refine wp_region_lit ?_
    refine lvw 10 (.int .i64 (x25)) rfl rfl (run_mv rfl rfl) ?_
    simp only [nz1, nz2, nz3]
    refine lvw 11 (.bool (decide (0 < x25))) rfl rfl (z_gtr x25 0 rfl rfl rfl) ?_
    simp only [nz1, nz2, nz3]
    refine wpList_nil ?_
    refine then_n (hK41 _ _ ?_)
    refine cond_d (0 < x25) rfl (fun hc42 => ?_) (fun hc42 => ?_)
    rotate_left
    · refine wp_exit ?_
      refine then_x ?_
      refine then_x ?_
      refine blk_x ?_
      refine then_n ?_
      exact ⟨l20, x25, v21, q22, F23, (fun qq => List.getD [.int .i64 (x25), .bool (decide (0 < x25)), u0 2, u0 3, u0 4, u0 5, u0 6, u0 7, u0 8, u0 9, u0 10, u0 11] qq undef), (hi28.trans (show lorder_m_b0 l (lorder_m_l0 l k27) l20 x25 = .inl (l20, x25) from by unfold lorder_m_b0; rw [if_neg hc42] <;> rfl)), hbk, hbo, rfl, hm36⟩
    refine wp_skip ?_
    refine then_n (hK40 _ _ ?_)
    refine wp_seq_k (fun K43 hK43 => ?_)
    refine wp_block ?_
    refine wp_region_lit ?_
    refine lvw 14 (v21) rfl rfl (run_mv rfl rfl) ?_
    simp only [nz1, nz2, nz3]
    refine lvw 15 (lv0) rfl rfl (run_mv rfl rfl) ?_
    simp only [nz1, nz2, nz3]
    refine lvw 16 (.int .i64 (x25)) rfl rfl (run_mv rfl rfl) ?_
    simp only [nz1, nz2, nz3]
    refine lvw 17 (.int .i64 ((x25 - (1 : Int)))) rfl rfl (z_sub x25 (1 : Int) _ (by rw [IntKind.wrap_i64]; omega) rfl rfl rfl) ?_
    simp only [nz1, nz2, nz3]
    refine lvw 18 (.pointer (some ⟨(bk lv0), (po lv0 + (x25 - (1 : Int)).toNat * 5), none⟩)) rfl rfl (r_ixvZ ((hm36.see 0 rfl)).rd (x25 - (1 : Int)) (by omega) (by omega) Tryd.underlying22 sz_37 rfl rfl rfl) ?_
    simp only [nz1, nz2, nz3]
    refine lvw 19 (.agg #[.string (tx ((l.getD ((x25 - (1 : Int)).toNat) dMf).name)), .string (tx ((l.getD ((x25 - (1 : Int)).toNat) dMf).version)), (lv1.getD ((x25 - (1 : Int)).toNat) ((Value.slice none 0 0), (Value.slice none 0 0), (Value.slice none 0 0))).1, (lv1.getD ((x25 - (1 : Int)).toNat) ((Value.slice none 0 0), (Value.slice none 0 0), (Value.slice none 0 0))).2.1, (lv1.getD ((x25 - (1 : Int)).toNat) ((Value.slice none 0 0), (Value.slice none 0 0), (Value.slice none 0 0))).2.2]) rfl rfl (r_partw (fun j u hj => Rn.cell ((hm36.see 0 rfl)) nMf_len dMf ((Value.slice none 0 0), (Value.slice none 0 0), (Value.slice none 0 0)) ((x25 - (1 : Int)).toNat) (by omega) j u (arr_get hj)) Tryd.underlying37 rfl (by exact sz_37) rfl rfl) ?_
    simp only [nz1, nz2, nz3]
    refine lst rfl (m_make (c := #[.string (tx ((l.getD ((x25 - (1 : Int)).toNat) dMf).name)), .string (tx ((l.getD ((x25 - (1 : Int)).toNat) dMf).version)), (lv1.getD ((x25 - (1 : Int)).toNat) ((Value.slice none 0 0), (Value.slice none 0 0), (Value.slice none 0 0))).1, (lv1.getD ((x25 - (1 : Int)).toNat) ((Value.slice none 0 0), (Value.slice none 0 0), (Value.slice none 0 0))).2.1, (lv1.getD ((x25 - (1 : Int)).toNat) ((Value.slice none 0 0), (Value.slice none 0 0), (Value.slice none 0 0))).2.2]) (T := 37) (fun g => .slice (some ⟨g, 0, none⟩) 1 1) hm36 20 rfl (by unfold execOp; go_simp; try rfl) (fun g46 w44 (hm45 : Mm none (fun _ => True) w w44 [.see (Rn nMf 5 MfN l lv1 lv0) Fl, .row v21 (l20.zip q22).length ((l20.zip q22).flatMap nMf) 37 5, .see (Els MfN l20 q22) F23, .blk g46 #[.string (tx ((l.getD ((x25 - (1 : Int)).toNat) dMf).name)), .string (tx ((l.getD ((x25 - (1 : Int)).toNat) dMf).version)), (lv1.getD ((x25 - (1 : Int)).toNat) ((Value.slice none 0 0), (Value.slice none 0 0), (Value.slice none 0 0))).1, (lv1.getD ((x25 - (1 : Int)).toNat) ((Value.slice none 0 0), (Value.slice none 0 0), (Value.slice none 0 0))).2.1, (lv1.getD ((x25 - (1 : Int)).toNat) ((Value.slice none 0 0), (Value.slice none 0 0), (Value.slice none 0 0))).2.2] 37]) => ?_))
    simp only [nz1, nz2, nz3]
    obtain ⟨iq, hiq, hz1, hz2, hz3⟩ := inf_37
    refine lst rfl (m_appendN 1 (l := l20) (u := q22) (l2 := ([(Mf.mk ((l.getD ((x25 - (1 : Int)).toNat) dMf).name) ((l.getD ((x25 - (1 : Int)).toNat) dMf).version) ((l.getD ((x25 - (1 : Int)).toNat) dMf).needs) ((l.getD ((x25 - (1 : Int)).toNat) dMf).clashes) ((l.getD ((x25 - (1 : Int)).toNat) dMf).entries))] : List Mf)) (u2 := ([((lv1.getD ((x25 - (1 : Int)).toNat) ((Value.slice none 0 0), (Value.slice none 0 0), (Value.slice none 0 0))).1, (lv1.getD ((x25 - (1 : Int)).toNat) ((Value.slice none 0 0), (Value.slice none 0 0), (Value.slice none 0 0))).2.1, (lv1.getD ((x25 - (1 : Int)).toNat) ((Value.slice none 0 0), (Value.slice none 0 0), (Value.slice none 0 0))).2.2)] : List (Value × Value × Value))) iq _ _ _ (.slice (some ⟨g46, 0, none⟩) 1 1) (hm45.see 2 rfl).1 hm45 rfl 21 rfl rfl Tryd.underlying22 hiq hz1 hz2 hz3 nMf_len nMf_one rfl (by decide) rfl rfl (Rn.blk (l := ([(Mf.mk ((l.getD ((x25 - (1 : Int)).toNat) dMf).name) ((l.getD ((x25 - (1 : Int)).toNat) dMf).version) ((l.getD ((x25 - (1 : Int)).toNat) dMf).needs) ((l.getD ((x25 - (1 : Int)).toNat) dMf).clashes) ((l.getD ((x25 - (1 : Int)).toNat) dMf).entries))] : List Mf)) (u := [((lv1.getD ((x25 - (1 : Int)).toNat) ((Value.slice none 0 0), (Value.slice none 0 0), (Value.slice none 0 0))).1, (lv1.getD ((x25 - (1 : Int)).toNat) ((Value.slice none 0 0), (Value.slice none 0 0), (Value.slice none 0 0))).2.1, (lv1.getD ((x25 - (1 : Int)).toNat) ((Value.slice none 0 0), (Value.slice none 0 0), (Value.slice none 0 0))).2.2)]) (hm45.at 3 rfl) rfl rfl nMf_len (Nat.le_refl _) (Els.app (Els.one (RM := MfN) (a := (Mf.mk ((l.getD ((x25 - (1 : Int)).toNat) dMf).name) ((l.getD ((x25 - (1 : Int)).toNat) dMf).version) ((l.getD ((x25 - (1 : Int)).toNat) dMf).needs) ((l.getD ((x25 - (1 : Int)).toNat) dMf).clashes) ((l.getD ((x25 - (1 : Int)).toNat) dMf).entries))) (b := ((lv1.getD ((x25 - (1 : Int)).toNat) ((Value.slice none 0 0), (Value.slice none 0 0), (Value.slice none 0 0))).1, (lv1.getD ((x25 - (1 : Int)).toNat) ((Value.slice none 0 0), (Value.slice none 0 0), (Value.slice none 0 0))).2.1, (lv1.getD ((x25 - (1 : Int)).toNat) ((Value.slice none 0 0), (Value.slice none 0 0), (Value.slice none 0 0))).2.2)) ((Rn.el (hm45.see 0 rfl) dMf ((Value.slice none 0 0), (Value.slice none 0 0), (Value.slice none 0 0)) ((x25 - (1 : Int)).toNat) (by omega)))) Els.nil)) (by first | omega | (simp; omega)) (by first | omega | (simp; omega)) (fun v49 w47 (hm48 : Mm none (fun _ => True) w w47 [.see (Rn nMf 5 MfN l lv1 lv0) Fl, .row v49 ((l20 ++ ([(Mf.mk ((l.getD ((x25 - (1 : Int)).toNat) dMf).name) ((l.getD ((x25 - (1 : Int)).toNat) dMf).version) ((l.getD ((x25 - (1 : Int)).toNat) dMf).needs) ((l.getD ((x25 - (1 : Int)).toNat) dMf).clashes) ((l.getD ((x25 - (1 : Int)).toNat) dMf).entries))] : List Mf)).zip (q22 ++ ([((lv1.getD ((x25 - (1 : Int)).toNat) ((Value.slice none 0 0), (Value.slice none 0 0), (Value.slice none 0 0))).1, (lv1.getD ((x25 - (1 : Int)).toNat) ((Value.slice none 0 0), (Value.slice none 0 0), (Value.slice none 0 0))).2.1, (lv1.getD ((x25 - (1 : Int)).toNat) ((Value.slice none 0 0), (Value.slice none 0 0), (Value.slice none 0 0))).2.2)] : List (Value × Value × Value)))).length (((l20 ++ ([(Mf.mk ((l.getD ((x25 - (1 : Int)).toNat) dMf).name) ((l.getD ((x25 - (1 : Int)).toNat) dMf).version) ((l.getD ((x25 - (1 : Int)).toNat) dMf).needs) ((l.getD ((x25 - (1 : Int)).toNat) dMf).clashes) ((l.getD ((x25 - (1 : Int)).toNat) dMf).entries))] : List Mf)).zip (q22 ++ ([((lv1.getD ((x25 - (1 : Int)).toNat) ((Value.slice none 0 0), (Value.slice none 0 0), (Value.slice none 0 0))).1, (lv1.getD ((x25 - (1 : Int)).toNat) ((Value.slice none 0 0), (Value.slice none 0 0), (Value.slice none 0 0))).2.1, (lv1.getD ((x25 - (1 : Int)).toNat) ((Value.slice none 0 0), (Value.slice none 0 0), (Value.slice none 0 0))).2.2)] : List (Value × Value × Value)))).flatMap nMf) 37 5, .see (Els MfN l20 q22) F23, .blk g46 #[.string (tx ((l.getD ((x25 - (1 : Int)).toNat) dMf).name)), .string (tx ((l.getD ((x25 - (1 : Int)).toNat) dMf).version)), (lv1.getD ((x25 - (1 : Int)).toNat) ((Value.slice none 0 0), (Value.slice none 0 0), (Value.slice none 0 0))).1, (lv1.getD ((x25 - (1 : Int)).toNat) ((Value.slice none 0 0), (Value.slice none 0 0), (Value.slice none 0 0))).2.1, (lv1.getD ((x25 - (1 : Int)).toNat) ((Value.slice none 0 0), (Value.slice none 0 0), (Value.slice none 0 0))).2.2] 37]) => ?_))
    obtain ⟨F50, hm51⟩ : ∃ F50, Mm none (fun _ => True) w w47 [.see (Rn nMf 5 MfN l lv1 lv0) Fl, .row v49 ((l20 ++ ([(Mf.mk ((l.getD ((x25 - (1 : Int)).toNat) dMf).name) ((l.getD ((x25 - (1 : Int)).toNat) dMf).version) ((l.getD ((x25 - (1 : Int)).toNat) dMf).needs) ((l.getD ((x25 - (1 : Int)).toNat) dMf).clashes) ((l.getD ((x25 - (1 : Int)).toNat) dMf).entries))] : List Mf)).zip (q22 ++ ([((lv1.getD ((x25 - (1 : Int)).toNat) ((Value.slice none 0 0), (Value.slice none 0 0), (Value.slice none 0 0))).1, (lv1.getD ((x25 - (1 : Int)).toNat) ((Value.slice none 0 0), (Value.slice none 0 0), (Value.slice none 0 0))).2.1, (lv1.getD ((x25 - (1 : Int)).toNat) ((Value.slice none 0 0), (Value.slice none 0 0), (Value.slice none 0 0))).2.2)] : List (Value × Value × Value)))).length (((l20 ++ ([(Mf.mk ((l.getD ((x25 - (1 : Int)).toNat) dMf).name) ((l.getD ((x25 - (1 : Int)).toNat) dMf).version) ((l.getD ((x25 - (1 : Int)).toNat) dMf).needs) ((l.getD ((x25 - (1 : Int)).toNat) dMf).clashes) ((l.getD ((x25 - (1 : Int)).toNat) dMf).entries))] : List Mf)).zip (q22 ++ ([((lv1.getD ((x25 - (1 : Int)).toNat) ((Value.slice none 0 0), (Value.slice none 0 0), (Value.slice none 0 0))).1, (lv1.getD ((x25 - (1 : Int)).toNat) ((Value.slice none 0 0), (Value.slice none 0 0), (Value.slice none 0 0))).2.1, (lv1.getD ((x25 - (1 : Int)).toNat) ((Value.slice none 0 0), (Value.slice none 0 0), (Value.slice none 0 0))).2.2)] : List (Value × Value × Value)))).flatMap nMf) 37 5, .see (Els MfN l20 q22) F23, .blk g46 #[.string (tx ((l.getD ((x25 - (1 : Int)).toNat) dMf).name)), .string (tx ((l.getD ((x25 - (1 : Int)).toNat) dMf).version)), (lv1.getD ((x25 - (1 : Int)).toNat) ((Value.slice none 0 0), (Value.slice none 0 0), (Value.slice none 0 0))).1, (lv1.getD ((x25 - (1 : Int)).toNat) ((Value.slice none 0 0), (Value.slice none 0 0), (Value.slice none 0 0))).2.1, (lv1.getD ((x25 - (1 : Int)).toNat) ((Value.slice none 0 0), (Value.slice none 0 0), (Value.slice none 0 0))).2.2] 37, .see (Els MfN (l20 ++ ([(Mf.mk ((l.getD ((x25 - (1 : Int)).toNat) dMf).name) ((l.getD ((x25 - (1 : Int)).toNat) dMf).version) ((l.getD ((x25 - (1 : Int)).toNat) dMf).needs) ((l.getD ((x25 - (1 : Int)).toNat) dMf).clashes) ((l.getD ((x25 - (1 : Int)).toNat) dMf).entries))] : List Mf)) (q22 ++ ([((lv1.getD ((x25 - (1 : Int)).toNat) ((Value.slice none 0 0), (Value.slice none 0 0), (Value.slice none 0 0))).1, (lv1.getD ((x25 - (1 : Int)).toNat) ((Value.slice none 0 0), (Value.slice none 0 0), (Value.slice none 0 0))).2.1, (lv1.getD ((x25 - (1 : Int)).toNat) ((Value.slice none 0 0), (Value.slice none 0 0), (Value.slice none 0 0))).2.2)] : List (Value × Value × Value)))) F50] := hm48.derive (((hm48.from 2 rfl).and ((((hm48.from 0 rfl).mono (fun _ h => ((Rn.el h dMf ((Value.slice none 0 0), (Value.slice none 0 0), (Value.slice none 0 0)) ((x25 - (1 : Int)).toNat) (by omega))))).and (From.pure (fun _ => Els.nil))).mono (fun _ h => Els.app (Els.one (RM := MfN) (a := (Mf.mk ((l.getD ((x25 - (1 : Int)).toNat) dMf).name) ((l.getD ((x25 - (1 : Int)).toNat) dMf).version) ((l.getD ((x25 - (1 : Int)).toNat) dMf).needs) ((l.getD ((x25 - (1 : Int)).toNat) dMf).clashes) ((l.getD ((x25 - (1 : Int)).toNat) dMf).entries))) (b := ((lv1.getD ((x25 - (1 : Int)).toNat) ((Value.slice none 0 0), (Value.slice none 0 0), (Value.slice none 0 0))).1, (lv1.getD ((x25 - (1 : Int)).toNat) ((Value.slice none 0 0), (Value.slice none 0 0), (Value.slice none 0 0))).2.1, (lv1.getD ((x25 - (1 : Int)).toNat) ((Value.slice none 0 0), (Value.slice none 0 0), (Value.slice none 0 0))).2.2)) h.1) h.2))).mono (fun _ h => Els.app h.1 h.2))
    simp only [nz1, nz2, nz3]
    refine lvw 3 (v49) rfl rfl (run_as rfl rfl) ?_
    simp only [nz1, nz2, nz3]
    refine wpList_nil ?_
    refine blk_n ?_
    refine then_n (hK43 _ _ ?_)
    refine wp_region_lit ?_
    refine lvw 12 (.int .i64 (x25)) rfl rfl (run_mv rfl rfl) ?_
    simp only [nz1, nz2, nz3]
    refine lvw 13 (.int .i64 ((x25 - (1 : Int)))) rfl rfl (z_sub x25 (1 : Int) _ (by rw [IntKind.wrap_i64]; omega) rfl rfl rfl) ?_
    simp only [nz1, nz2, nz3]
    refine lvw 4 (.int .i64 ((x25 - (1 : Int)))) rfl rfl (run_as rfl rfl) ?_
    simp only [nz1, nz2, nz3]
    refine wpList_nil ?_
    refine then_n (hR37 _ _ _ ⟨k27, (l20 ++ ([(Mf.mk ((l.getD ((x25 - (1 : Int)).toNat) dMf).name) ((l.getD ((x25 - (1 : Int)).toNat) dMf).version) ((l.getD ((x25 - (1 : Int)).toNat) dMf).needs) ((l.getD ((x25 - (1 : Int)).toNat) dMf).clashes) ((l.getD ((x25 - (1 : Int)).toNat) dMf).entries))] : List Mf)), (x25 - (1 : Int)), v49, (q22 ++ ([((lv1.getD ((x25 - (1 : Int)).toNat) ((Value.slice none 0 0), (Value.slice none 0 0), (Value.slice none 0 0))).1, (lv1.getD ((x25 - (1 : Int)).toNat) ((Value.slice none 0 0), (Value.slice none 0 0), (Value.slice none 0 0))).2.1, (lv1.getD ((x25 - (1 : Int)).toNat) ((Value.slice none 0 0), (Value.slice none 0 0), (Value.slice none 0 0))).2.2)] : List (Value × Value × Value))), F50, (fun qq => List.getD [.int .i64 (x25), .bool (decide (0 < x25)), .int .i64 (x25), .int .i64 ((x25 - (1 : Int))), v21, lv0, .int .i64 (x25), .int .i64 ((x25 - (1 : Int))), .pointer (some ⟨(bk lv0), (po lv0 + (x25 - (1 : Int)).toNat * 5), none⟩), .agg #[.string (tx ((l.getD ((x25 - (1 : Int)).toNat) dMf).name)), .string (tx ((l.getD ((x25 - (1 : Int)).toNat) dMf).version)), (lv1.getD ((x25 - (1 : Int)).toNat) ((Value.slice none 0 0), (Value.slice none 0 0), (Value.slice none 0 0))).1, (lv1.getD ((x25 - (1 : Int)).toNat) ((Value.slice none 0 0), (Value.slice none 0 0), (Value.slice none 0 0))).2.1, (lv1.getD ((x25 - (1 : Int)).toNat) ((Value.slice none 0 0), (Value.slice none 0 0), (Value.slice none 0 0))).2.2], .slice (some ⟨g46, 0, none⟩) 1 1, v49] qq undef), rfl, (by first | omega | (simp; omega) | (simp at *; omega)), (hi28.trans (show lorder_m_b0 l (lorder_m_l0 l k27) l20 x25 = lorder_m_l0 l k27 ((l20 ++ ([(Mf.mk ((l.getD ((x25 - (1 : Int)).toNat) dMf).name) ((l.getD ((x25 - (1 : Int)).toNat) dMf).version) ((l.getD ((x25 - (1 : Int)).toNat) dMf).needs) ((l.getD ((x25 - (1 : Int)).toNat) dMf).clashes) ((l.getD ((x25 - (1 : Int)).toNat) dMf).entries))] : List Mf)), (x25 - (1 : Int))) from by unfold lorder_m_b0; rw [if_pos hc42] <;> rfl)), (by rw [List.length_append, List.length_singleton]; omega), (okl_app hbo (okl_one (okl_at hp1 _).1 (okl_at hp1 _).2)), rfl, (Mm.reorder hm51 [0, 1, 4] (by decide) rfl)⟩ ?_)
    omega
  rintro _ w53 ⟨y29, y33, v30, q31, F32, yu0, hx34, hbk, hbo, rfl, hm54⟩
  have hq55 : lorder_m l = lorder_m_k0 l y29 y33 := (show lorder_m l = lorder_m_k0 l y29 y33 from by unfold lorder_m; rw [if_neg hc7, hx34] <;> rfl)
  refine then_n (hK13 _ _ ?_)
  refine wp_seq_k (fun K56 hK56 => ?_)
  refine wp_region_lit ?_
  refine lst rfl (m_call hm54 22 (.bool (sawake_m)) rfl (run_sawake rfl) (sawake_any   _  ) (fun w57 (hm58 : Mm none (fun _ => True) w w57 [.see (Rn nMf 5 MfN l lv1 lv0) Fl, .row v30 (y29.zip q31).length ((y29.zip q31).flatMap nMf) 37 5, .see (Els MfN y29 q31) F32]) => ?_))
  simp only [nz1, nz2, nz3]
  by_cases hs59 : sawake_m = true
  rotate_left
  · rw [(Bool.eq_false_iff.2 hs59 : sawake_m = false)]
    refine lvw 23 (.bool false) rfl rfl (run_mv rfl rfl) ?_
    simp only [nz1, nz2, nz3]
    refine lst_skip 24 rfl rfl ?_
    simp only [nz1, nz2, nz3]
    refine lst_skip 25 rfl rfl ?_
    simp only [nz1, nz2, nz3]
    refine lst_skip 26 rfl rfl ?_
    simp only [nz1, nz2, nz3]
    refine lst_skip 27 rfl rfl ?_
    simp only [nz1, nz2, nz3]
    refine lst_skip 28 rfl rfl ?_
    simp only [nz1, nz2, nz3]
    refine lvw 29 (.bool false) rfl rfl (run_pickf rfl rfl rfl) ?_
    simp only [nz1, nz2, nz3]
    refine lvw 30 (.bool false) rfl rfl (run_mv rfl rfl) ?_
    simp only [nz1, nz2, nz3]
    refine lst_skip 31 rfl rfl ?_
    simp only [nz1, nz2, nz3]
    refine lst_skip 32 rfl rfl ?_
    simp only [nz1, nz2, nz3]
    refine lst_skip 33 rfl rfl ?_
    simp only [nz1, nz2, nz3]
    refine lst_skip 34 rfl rfl ?_
    simp only [nz1, nz2, nz3]
    refine lst_skip 35 rfl rfl ?_
    simp only [nz1, nz2, nz3]
    refine lst_skip 36 rfl rfl ?_
    simp only [nz1, nz2, nz3]
    refine lst_skip 37 rfl rfl ?_
    simp only [nz1, nz2, nz3]
    refine lvw 38 (.bool false) rfl rfl (run_pickf rfl rfl rfl) ?_
    simp only [nz1, nz2, nz3]
    refine lvw 39 (.bool false) rfl rfl (run_mv rfl rfl) ?_
    simp only [nz1, nz2, nz3]
    refine lst_skip 40 rfl rfl ?_
    simp only [nz1, nz2, nz3]
    refine lst_skip 41 rfl rfl ?_
    simp only [nz1, nz2, nz3]
    refine lst_skip 42 rfl rfl ?_
    simp only [nz1, nz2, nz3]
    refine lst_skip 43 rfl rfl ?_
    simp only [nz1, nz2, nz3]
    refine lst_skip 44 rfl rfl ?_
    simp only [nz1, nz2, nz3]
    refine lst_skip 45 rfl rfl ?_
    simp only [nz1, nz2, nz3]
    refine lst_skip 46 rfl rfl ?_
    simp only [nz1, nz2, nz3]
    refine lvw 47 (.bool false) rfl rfl (run_pickf rfl rfl rfl) ?_
    simp only [nz1, nz2, nz3]
    refine lvw 2 (.bool false) rfl rfl (run_as rfl rfl) ?_
    simp only [nz1, nz2, nz3]
    refine wpList_nil ?_
    refine then_n (hK56 _ _ ?_)
    refine wp_ret ?_
    have he101 : lorder_m l = false := (hq55.trans (show lorder_m_k0 l y29 y33 = false from by unfold lorder_m_k0; rw [if_neg hs59] <;> rfl))
    exact ⟨rfl, .bool false, res_t rfl rfl, ⟨by (rw [he101]; try rfl), hm58.below⟩⟩
  rw [(hs59 : sawake_m = true)]
  refine lvw 23 (.bool true) rfl rfl (run_mv rfl rfl) ?_
  simp only [nz1, nz2, nz3]
  refine lvw 24 (lv0) rfl rfl (run_mv rfl rfl) ?_
  simp only [nz1, nz2, nz3]
  refine lst rfl (m_call hm58 25 (.int .i64 ((solve_m l))) rfl (run_solve rfl rfl) (solve_any l lv0 lv1 _ (hm58.see 0 rfl) (by first | omega | assumption | ((repeat' (first | assumption | exact okl_nil | apply okl_app | apply okl_drop | apply okl_take | apply okl_cons | exact (okl_at (by assumption) _).1 | exact (okl_at (by assumption) _).2 | (simp; done) | (simp; omega) | decide)); done) | (simp; done) | (simp; omega) | (simp only [List.length_append, List.length_cons, List.length_nil]; omega) | (simp only [List.length_append, List.length_cons, List.length_nil] at *; omega) | decide) (by first | omega | assumption | ((repeat' (first | assumption | exact okl_nil | apply okl_app | apply okl_drop | apply okl_take | apply okl_cons | exact (okl_at (by assumption) _).1 | exact (okl_at (by assumption) _).2 | (simp; done) | (simp; omega) | decide)); done) | (simp; done) | (simp; omega) | (simp only [List.length_append, List.length_cons, List.length_nil]; omega) | (simp only [List.length_append, List.length_cons, List.length_nil] at *; omega) | decide)) (fun w60 (hm61 : Mm none (fun _ => True) w w60 [.see (Rn nMf 5 MfN l lv1 lv0) Fl, .row v30 (y29.zip q31).length ((y29.zip q31).flatMap nMf) 37 5, .see (Els MfN y29 q31) F32]) => ?_))
  simp only [nz1, nz2, nz3]
  refine lvw 26 (v30) rfl rfl (run_mv rfl rfl) ?_
  simp only [nz1, nz2, nz3]
  refine lst rfl (m_call hm61 27 (.int .i64 ((solve_m y29))) rfl (run_solve rfl rfl) (solve_any y29 v30 q31 _ (Rn.row (hm61.row 1 rfl) (hm61.see 2 rfl)) (by first | omega | assumption | ((repeat' (first | assumption | exact okl_nil | apply okl_app | apply okl_drop | apply okl_take | apply okl_cons | exact (okl_at (by assumption) _).1 | exact (okl_at (by assumption) _).2 | (simp; done) | (simp; omega) | decide)); done) | (simp; done) | (simp; omega) | (simp only [List.length_append, List.length_cons, List.length_nil]; omega) | (simp only [List.length_append, List.length_cons, List.length_nil] at *; omega) | decide) (by first | omega | assumption | ((repeat' (first | assumption | exact okl_nil | apply okl_app | apply okl_drop | apply okl_take | apply okl_cons | exact (okl_at (by assumption) _).1 | exact (okl_at (by assumption) _).2 | (simp; done) | (simp; omega) | decide)); done) | (simp; done) | (simp; omega) | (simp only [List.length_append, List.length_cons, List.length_nil]; omega) | (simp only [List.length_append, List.length_cons, List.length_nil] at *; omega) | decide)) (fun w62 (hm63 : Mm none (fun _ => True) w w62 [.see (Rn nMf 5 MfN l lv1 lv0) Fl, .row v30 (y29.zip q31).length ((y29.zip q31).flatMap nMf) 37 5, .see (Els MfN y29 q31) F32]) => ?_))
  simp only [nz1, nz2, nz3]
  refine lvb 28 ((solve_m l) = (solve_m y29)) rfl rfl (z_eql (solve_m l) (solve_m y29) rfl rfl rfl) (fun hs64 => ?_) (fun hs64 => ?_)
  rotate_left
  · simp only [nz1, nz2, nz3]
    refine lvw 29 (.bool false) rfl rfl (run_pick rfl rfl rfl) ?_
    simp only [nz1, nz2, nz3]
    refine lvw 30 (.bool false) rfl rfl (run_mv rfl rfl) ?_
    simp only [nz1, nz2, nz3]
    refine lst_skip 31 rfl rfl ?_
    simp only [nz1, nz2, nz3]
    refine lst_skip 32 rfl rfl ?_
    simp only [nz1, nz2, nz3]
    refine lst_skip 33 rfl rfl ?_
    simp only [nz1, nz2, nz3]
    refine lst_skip 34 rfl rfl ?_
    simp only [nz1, nz2, nz3]
    refine lst_skip 35 rfl rfl ?_
    simp only [nz1, nz2, nz3]
    refine lst_skip 36 rfl rfl ?_
    simp only [nz1, nz2, nz3]
    refine lst_skip 37 rfl rfl ?_
    simp only [nz1, nz2, nz3]
    refine lvw 38 (.bool false) rfl rfl (run_pickf rfl rfl rfl) ?_
    simp only [nz1, nz2, nz3]
    refine lvw 39 (.bool false) rfl rfl (run_mv rfl rfl) ?_
    simp only [nz1, nz2, nz3]
    refine lst_skip 40 rfl rfl ?_
    simp only [nz1, nz2, nz3]
    refine lst_skip 41 rfl rfl ?_
    simp only [nz1, nz2, nz3]
    refine lst_skip 42 rfl rfl ?_
    simp only [nz1, nz2, nz3]
    refine lst_skip 43 rfl rfl ?_
    simp only [nz1, nz2, nz3]
    refine lst_skip 44 rfl rfl ?_
    simp only [nz1, nz2, nz3]
    refine lst_skip 45 rfl rfl ?_
    simp only [nz1, nz2, nz3]
    refine lst_skip 46 rfl rfl ?_
    simp only [nz1, nz2, nz3]
    refine lvw 47 (.bool false) rfl rfl (run_pickf rfl rfl rfl) ?_
    simp only [nz1, nz2, nz3]
    refine lvw 2 (.bool false) rfl rfl (run_as rfl rfl) ?_
    simp only [nz1, nz2, nz3]
    refine wpList_nil ?_
    refine then_n (hK56 _ _ ?_)
    refine wp_ret ?_
    have he100 : lorder_m l = false := (hq55.trans (show lorder_m_k0 l y29 y33 = false from by unfold lorder_m_k0; rw [if_pos hs59, if_neg hs64] <;> rfl))
    exact ⟨rfl, .bool false, res_t rfl rfl, ⟨by (rw [he100]; try rfl), hm63.below⟩⟩
  simp only [nz1, nz2, nz3]
  refine lvw 29 (.bool true) rfl rfl (run_pick rfl rfl rfl) ?_
  simp only [nz1, nz2, nz3]
  refine lvw 30 (.bool true) rfl rfl (run_mv rfl rfl) ?_
  simp only [nz1, nz2, nz3]
  refine lvw 31 (lv0) rfl rfl (run_mv rfl rfl) ?_
  simp only [nz1, nz2, nz3]
  refine lst rfl (m_callx hm63 32 rfl (run_lacks rfl rfl) (lacks_any l lv0 lv1 _ (hm63.see 0 rfl) (by first | omega | assumption | ((repeat' (first | assumption | exact okl_nil | apply okl_app | apply okl_drop | apply okl_take | apply okl_cons | exact (okl_at (by assumption) _).1 | exact (okl_at (by assumption) _).2 | (simp; done) | (simp; omega) | decide)); done) | (simp; done) | (simp; omega) | (simp only [List.length_append, List.length_cons, List.length_nil]; omega) | (simp only [List.length_append, List.length_cons, List.length_nil] at *; omega) | decide) (by first | omega | assumption | ((repeat' (first | assumption | exact okl_nil | apply okl_app | apply okl_drop | apply okl_take | apply okl_cons | exact (okl_at (by assumption) _).1 | exact (okl_at (by assumption) _).2 | (simp; done) | (simp; omega) | decide)); done) | (simp; done) | (simp; omega) | (simp only [List.length_append, List.length_cons, List.length_nil]; omega) | (simp only [List.length_append, List.length_cons, List.length_nil] at *; omega) | decide)) (fun v67 w65 hR69 hb70 hm66 => ?_))
  obtain ⟨_, rfl, ho72⟩ := hR69
  have hm71 : Mm none (fun _ => True) w w65 [.see (Rn nMf 5 MfN l lv1 lv0) Fl, .row v30 (y29.zip q31).length ((y29.zip q31).flatMap nMf) 37 5, .see (Els MfN y29 q31) F32, .row v67 (lacks_m l).length ((lacks_m l).flatMap eRul) 24 3] := hm63.gained hb70 ho72
  clear hm66
  simp only [nz1, nz2, nz3]
  refine lvw 33 (.int .i64 (((lacks_m l).length : Nat) : Int)) rfl rfl (s_len (Rs.row (hm71.row 3 rfl)) rfl Tryd.underlying28 rfl) ?_
  simp only [nz1, nz2, nz3]
  refine lvw 34 (v30) rfl rfl (run_mv rfl rfl) ?_
  simp only [nz1, nz2, nz3]
  refine lst rfl (m_callx hm71 35 rfl (run_lacks rfl rfl) (lacks_any y29 v30 q31 _ (Rn.row (hm71.row 1 rfl) (hm71.see 2 rfl)) (by first | omega | assumption | ((repeat' (first | assumption | exact okl_nil | apply okl_app | apply okl_drop | apply okl_take | apply okl_cons | exact (okl_at (by assumption) _).1 | exact (okl_at (by assumption) _).2 | (simp; done) | (simp; omega) | decide)); done) | (simp; done) | (simp; omega) | (simp only [List.length_append, List.length_cons, List.length_nil]; omega) | (simp only [List.length_append, List.length_cons, List.length_nil] at *; omega) | decide) (by first | omega | assumption | ((repeat' (first | assumption | exact okl_nil | apply okl_app | apply okl_drop | apply okl_take | apply okl_cons | exact (okl_at (by assumption) _).1 | exact (okl_at (by assumption) _).2 | (simp; done) | (simp; omega) | decide)); done) | (simp; done) | (simp; omega) | (simp only [List.length_append, List.length_cons, List.length_nil]; omega) | (simp only [List.length_append, List.length_cons, List.length_nil] at *; omega) | decide)) (fun v75 w73 hR77 hb78 hm74 => ?_))
  obtain ⟨_, rfl, ho80⟩ := hR77
  have hm79 : Mm none (fun _ => True) w w73 [.see (Rn nMf 5 MfN l lv1 lv0) Fl, .row v30 (y29.zip q31).length ((y29.zip q31).flatMap nMf) 37 5, .see (Els MfN y29 q31) F32, .row v67 (lacks_m l).length ((lacks_m l).flatMap eRul) 24 3, .row v75 (lacks_m y29).length ((lacks_m y29).flatMap eRul) 24 3] := hm71.gained hb78 ho80
  clear hm74
  simp only [nz1, nz2, nz3]
  refine lvw 36 (.int .i64 (((lacks_m y29).length : Nat) : Int)) rfl rfl (s_len (Rs.row (hm79.row 4 rfl)) rfl Tryd.underlying28 rfl) ?_
  simp only [nz1, nz2, nz3]
  refine lvb 37 ((lacks_m l).length = (lacks_m y29).length) rfl rfl (r_eql ((lacks_m l).length) ((lacks_m y29).length) rfl rfl rfl) (fun hs81 => ?_) (fun hs81 => ?_)
  rotate_left
  · simp only [nz1, nz2, nz3]
    refine lvw 38 (.bool false) rfl rfl (run_pick rfl rfl rfl) ?_
    simp only [nz1, nz2, nz3]
    refine lvw 39 (.bool false) rfl rfl (run_mv rfl rfl) ?_
    simp only [nz1, nz2, nz3]
    refine lst_skip 40 rfl rfl ?_
    simp only [nz1, nz2, nz3]
    refine lst_skip 41 rfl rfl ?_
    simp only [nz1, nz2, nz3]
    refine lst_skip 42 rfl rfl ?_
    simp only [nz1, nz2, nz3]
    refine lst_skip 43 rfl rfl ?_
    simp only [nz1, nz2, nz3]
    refine lst_skip 44 rfl rfl ?_
    simp only [nz1, nz2, nz3]
    refine lst_skip 45 rfl rfl ?_
    simp only [nz1, nz2, nz3]
    refine lst_skip 46 rfl rfl ?_
    simp only [nz1, nz2, nz3]
    refine lvw 47 (.bool false) rfl rfl (run_pickf rfl rfl rfl) ?_
    simp only [nz1, nz2, nz3]
    refine lvw 2 (.bool false) rfl rfl (run_as rfl rfl) ?_
    simp only [nz1, nz2, nz3]
    refine wpList_nil ?_
    refine then_n (hK56 _ _ ?_)
    refine wp_ret ?_
    have he99 : lorder_m l = false := (hq55.trans (show lorder_m_k0 l y29 y33 = false from by unfold lorder_m_k0; rw [if_pos hs59, if_pos hs64, if_neg hs81] <;> rfl))
    exact ⟨rfl, .bool false, res_t rfl rfl, ⟨by (rw [he99]; try rfl), hm79.below⟩⟩
  simp only [nz1, nz2, nz3]
  refine lvw 38 (.bool true) rfl rfl (run_pick rfl rfl rfl) ?_
  simp only [nz1, nz2, nz3]
  refine lvw 39 (.bool true) rfl rfl (run_mv rfl rfl) ?_
  simp only [nz1, nz2, nz3]
  refine lvw 40 (lv0) rfl rfl (run_mv rfl rfl) ?_
  simp only [nz1, nz2, nz3]
  refine lst rfl (m_callx hm79 41 rfl (run_clashes rfl rfl) (clashes_any l lv0 lv1 _ (hm79.see 0 rfl) (by first | omega | assumption | ((repeat' (first | assumption | exact okl_nil | apply okl_app | apply okl_drop | apply okl_take | apply okl_cons | exact (okl_at (by assumption) _).1 | exact (okl_at (by assumption) _).2 | (simp; done) | (simp; omega) | decide)); done) | (simp; done) | (simp; omega) | (simp only [List.length_append, List.length_cons, List.length_nil]; omega) | (simp only [List.length_append, List.length_cons, List.length_nil] at *; omega) | decide) (by first | omega | assumption | ((repeat' (first | assumption | exact okl_nil | apply okl_app | apply okl_drop | apply okl_take | apply okl_cons | exact (okl_at (by assumption) _).1 | exact (okl_at (by assumption) _).2 | (simp; done) | (simp; omega) | decide)); done) | (simp; done) | (simp; omega) | (simp only [List.length_append, List.length_cons, List.length_nil]; omega) | (simp only [List.length_append, List.length_cons, List.length_nil] at *; omega) | decide)) (fun v84 w82 hR86 hb87 hm83 => ?_))
  obtain ⟨_, rfl, ho89⟩ := hR86
  have hm88 : Mm none (fun _ => True) w w82 [.see (Rn nMf 5 MfN l lv1 lv0) Fl, .row v30 (y29.zip q31).length ((y29.zip q31).flatMap nMf) 37 5, .see (Els MfN y29 q31) F32, .row v67 (lacks_m l).length ((lacks_m l).flatMap eRul) 24 3, .row v75 (lacks_m y29).length ((lacks_m y29).flatMap eRul) 24 3, .row v84 (clashes_m l).length ((clashes_m l).flatMap eRul) 24 3] := hm79.gained hb87 ho89
  clear hm83
  simp only [nz1, nz2, nz3]
  refine lvw 42 (.int .i64 (((clashes_m l).length : Nat) : Int)) rfl rfl (s_len (Rs.row (hm88.row 5 rfl)) rfl Tryd.underlying28 rfl) ?_
  simp only [nz1, nz2, nz3]
  refine lvw 43 (v30) rfl rfl (run_mv rfl rfl) ?_
  simp only [nz1, nz2, nz3]
  refine lst rfl (m_callx hm88 44 rfl (run_clashes rfl rfl) (clashes_any y29 v30 q31 _ (Rn.row (hm88.row 1 rfl) (hm88.see 2 rfl)) (by first | omega | assumption | ((repeat' (first | assumption | exact okl_nil | apply okl_app | apply okl_drop | apply okl_take | apply okl_cons | exact (okl_at (by assumption) _).1 | exact (okl_at (by assumption) _).2 | (simp; done) | (simp; omega) | decide)); done) | (simp; done) | (simp; omega) | (simp only [List.length_append, List.length_cons, List.length_nil]; omega) | (simp only [List.length_append, List.length_cons, List.length_nil] at *; omega) | decide) (by first | omega | assumption | ((repeat' (first | assumption | exact okl_nil | apply okl_app | apply okl_drop | apply okl_take | apply okl_cons | exact (okl_at (by assumption) _).1 | exact (okl_at (by assumption) _).2 | (simp; done) | (simp; omega) | decide)); done) | (simp; done) | (simp; omega) | (simp only [List.length_append, List.length_cons, List.length_nil]; omega) | (simp only [List.length_append, List.length_cons, List.length_nil] at *; omega) | decide)) (fun v92 w90 hR94 hb95 hm91 => ?_))
  obtain ⟨_, rfl, ho97⟩ := hR94
  have hm96 : Mm none (fun _ => True) w w90 [.see (Rn nMf 5 MfN l lv1 lv0) Fl, .row v30 (y29.zip q31).length ((y29.zip q31).flatMap nMf) 37 5, .see (Els MfN y29 q31) F32, .row v67 (lacks_m l).length ((lacks_m l).flatMap eRul) 24 3, .row v75 (lacks_m y29).length ((lacks_m y29).flatMap eRul) 24 3, .row v84 (clashes_m l).length ((clashes_m l).flatMap eRul) 24 3, .row v92 (clashes_m y29).length ((clashes_m y29).flatMap eRul) 24 3] := hm88.gained hb95 ho97
  clear hm91
  simp only [nz1, nz2, nz3]
  refine lvw 45 (.int .i64 (((clashes_m y29).length : Nat) : Int)) rfl rfl (s_len (Rs.row (hm96.row 6 rfl)) rfl Tryd.underlying28 rfl) ?_
  simp only [nz1, nz2, nz3]
  refine lvw 46 (.bool (decide ((clashes_m l).length = (clashes_m y29).length))) rfl rfl (r_eql ((clashes_m l).length) ((clashes_m y29).length) rfl rfl rfl) ?_
  simp only [nz1, nz2, nz3]
  refine lvw 47 (.bool (decide ((clashes_m l).length = (clashes_m y29).length))) rfl rfl (run_pick rfl rfl rfl) ?_
  simp only [nz1, nz2, nz3]
  refine lvw 2 (.bool (decide ((clashes_m l).length = (clashes_m y29).length))) rfl rfl (run_as rfl rfl) ?_
  simp only [nz1, nz2, nz3]
  refine wpList_nil ?_
  refine then_n (hK56 _ _ ?_)
  refine wp_ret ?_
  have he98 : lorder_m l = (decide ((clashes_m l).length = (clashes_m y29).length)) := (hq55.trans (show lorder_m_k0 l y29 y33 = (decide ((clashes_m l).length = (clashes_m y29).length)) from by unfold lorder_m_k0; rw [if_pos hs59, if_pos hs64, if_pos hs81] <;> rfl))
  exact ⟨rfl, .bool (decide ((clashes_m l).length = (clashes_m y29).length)), res_t rfl rfl, ⟨by (rw [he98]; try rfl), hm96.below⟩⟩
theorem run_lorder {o : Oper} {a : Act} {w : World} {x0 : Operand} {v0 : Value} (ho : o.op = .call { callee := .value (.func 6), args := #[x0], argTypes := #[22] }) (h0 : a.eval x0 = v0) :
    (execOp a.eval o).run Tryd.prog w = .ok (.enter 6 #[v0]) w := by
  unfold execOp
  simp only [ho]
  have hf : a.eval (.func 6) = .func (.func 6) #[] #[] := rfl
  generalize a.eval = f at *
  go_simp
end Go.Proofs.YtpbenhfnebgbiaaDoor.So
