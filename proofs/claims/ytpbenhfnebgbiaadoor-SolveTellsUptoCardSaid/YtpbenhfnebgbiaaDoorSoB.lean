/- Layer 20: what is wrong; who needs one. -/
import Derived.Test.YtpbenhfnebgbiaaDoorSoA
import Derived.Test.YtpbenhfnebgbiaaDoorSoL
namespace Go.Proofs.YtpbenhfnebgbiaaDoor.So
open Go.RowKit
open Go.Proofs.YtpbenhfnebgbiaaDoor.Sym Go.Proofs.YtpbenhfnebgbiaaDoor.Mem
open Go.Proofs.YtpbenhfnebgbiaaDoor.Sx hiding Mm m_alloc m_store m_put m_call m_callx m_make m_append r_string r_ixS
set_option linter.unusedVariables false
open Go.Proofs.YtpbenhfnebgbiaaDoor.Pa
open Go.Proofs.YtpbenhfnebgbiaaDoor.Ve
attribute [local irreducible] holds_m meets_m lacks_m clashes_m
attribute [local irreducible] wpList Oper.wp

theorem run_sorts {o : Oper} {a : Act} {w : World} {x0 : Operand} {v0 : Value} (ho : o.op = .call { callee := .value (.func 23), args := #[x0], argTypes := #[33] }) (h0 : a.eval x0 = v0) :
    (execOp a.eval o).run Tryd.prog w = .ok (.enter 23 #[v0]) w := by
  unfold execOp
  simp only [ho]
  have hf : a.eval (.func 23) = .func (.func 23) #[] #[] := rfl
  generalize a.eval = f at *
  go_simp
theorem run_compacts {o : Oper} {a : Act} {w : World} {x0 : Operand} {v0 : Value} (ho : o.op = .call { callee := .value (.func 24), args := #[x0], argTypes := #[33] }) (h0 : a.eval x0 = v0) :
    (execOp a.eval o).run Tryd.prog w = .ok (.enter 24 #[v0]) w := by
  unfold execOp
  simp only [ho]
  have hf : a.eval (.func 24) = .func (.func 24) #[] #[] := rfl
  generalize a.eval = f at *
  go_simp
def solve_m (l : List Mf) : Int :=
  if 0 < (lacks_m l).length then
    15
  else
    if 0 < (clashes_m l).length then
      16
    else
      0

set_option maxHeartbeats 4000000 in
set_option maxRecDepth 100000 in
theorem solve_any (l : List Mf) (lv0 : Value) (lv1 : List (Value × Value × Value)) (w : World) (hl : Rn nMf 5 MfN l lv1 lv0 w) (hp0 : l.length ≤ 100000) (hp1 : okl l) : Calls Tryd.prog 14 #[lv0] w (fun e w' => e = .returned (.int .i64 ((solve_m l))) ∧ Below w.heap.size w w') := by
  go_enter Tryd.func14, Tryd.ntmps14
  have hm00 := Mm.nil none (fun _ => True) w
  obtain ⟨Fl, hm01⟩ : ∃ Fl, Mm none (fun _ => True) w w [.see (Rn nMf 5 MfN l lv1 lv0) Fl] := hm00.come ((Rn.all MfN_all) hl)
  have hm0 := hm01
  refine wp_seq_k (fun K1 hK1 => ?_)
  refine wp_region_lit ?_
  refine lvw 2 (.int .i64 0) rfl rfl (run_as rfl rfl) ?_
  simp only [nz1, nz2, nz3]
  refine wpList_nil ?_
  refine then_n (hK1 _ _ ?_)
  refine wp_seq_k (fun K2 hK2 => ?_)
  refine wp_block ?_
  refine wp_seq_k (fun K3 hK3 => ?_)
  refine wp_region_lit ?_
  refine lvw 4 (lv0) rfl rfl (run_mv rfl rfl) ?_
  simp only [nz1, nz2, nz3]
  refine lst rfl (m_callx hm0 5 rfl (run_lacks rfl rfl) (lacks_any l lv0 lv1 _ (hm0.see 0 rfl) (by first | omega | assumption | (simp; done) | (simp; omega) | (simp only [List.length_append, List.length_cons, List.length_nil]; omega) | (simp only [List.length_append, List.length_cons, List.length_nil] at *; omega) | decide) (by first | omega | assumption | (simp; done) | (simp; omega) | (simp only [List.length_append, List.length_cons, List.length_nil]; omega) | (simp only [List.length_append, List.length_cons, List.length_nil] at *; omega) | decide)) (fun v6 w4 hR8 hb9 hm5 => ?_))
  obtain ⟨_, rfl, ho11⟩ := hR8
  have hm10 : Mm none (fun _ => True) w w4 [.see (Rn nMf 5 MfN l lv1 lv0) Fl, .row v6 (lacks_m l).length ((lacks_m l).flatMap eRul) 24 3] := hm0.gained hb9 ho11
  clear hm5
  simp only [nz1, nz2, nz3]
  refine lvw 6 (.int .i64 (((lacks_m l).length : Nat) : Int)) rfl rfl (s_len (Rs.row (hm10.row 1 rfl)) rfl Tryd.underlying28 rfl) ?_
  simp only [nz1, nz2, nz3]
  refine lvw 7 (.bool (decide (0 < (lacks_m l).length))) rfl rfl (r_gtr ((lacks_m l).length) 0 rfl rfl rfl) ?_
  simp only [nz1, nz2, nz3]
  refine lvw 3 (.bool (decide (0 < (lacks_m l).length))) rfl rfl (run_as rfl rfl) ?_
  simp only [nz1, nz2, nz3]
  refine wpList_nil ?_
  refine then_n (hK3 _ _ ?_)
  refine cond_d (0 < (lacks_m l).length) rfl (fun hc12 => ?_) (fun hc12 => ?_)
  · refine wp_seq_k (fun K13 hK13 => ?_)
    refine wp_region_lit ?_
    refine lvw 2 (.int .i64 15) rfl rfl (run_as rfl rfl) ?_
    simp only [nz1, nz2, nz3]
    refine wpList_nil ?_
    refine then_n (hK13 _ _ ?_)
    refine wp_ret ?_
    refine blk_r ?_
    refine then_r ?_
    have he14 : solve_m l = 15 := (show solve_m l = 15 from by unfold solve_m; rw [if_pos hc12] <;> rfl)
    exact ⟨rfl, .int .i64 15, res_t rfl rfl, ⟨by (rw [he14]; try rfl), hm10.below⟩⟩
  refine wp_seq_k (fun K15 hK15 => ?_)
  refine wp_region_lit ?_
  refine lvw 9 (lv0) rfl rfl (run_mv rfl rfl) ?_
  simp only [nz1, nz2, nz3]
  refine lst rfl (m_callx hm10 10 rfl (run_clashes rfl rfl) (clashes_any l lv0 lv1 _ (hm10.see 0 rfl) (by first | omega | assumption | (simp; done) | (simp; omega) | (simp only [List.length_append, List.length_cons, List.length_nil]; omega) | (simp only [List.length_append, List.length_cons, List.length_nil] at *; omega) | decide) (by first | omega | assumption | (simp; done) | (simp; omega) | (simp only [List.length_append, List.length_cons, List.length_nil]; omega) | (simp only [List.length_append, List.length_cons, List.length_nil] at *; omega) | decide)) (fun v18 w16 hR20 hb21 hm17 => ?_))
  obtain ⟨_, rfl, ho23⟩ := hR20
  have hm22 : Mm none (fun _ => True) w w16 [.see (Rn nMf 5 MfN l lv1 lv0) Fl, .row v6 (lacks_m l).length ((lacks_m l).flatMap eRul) 24 3, .row v18 (clashes_m l).length ((clashes_m l).flatMap eRul) 24 3] := hm10.gained hb21 ho23
  clear hm17
  simp only [nz1, nz2, nz3]
  refine lvw 11 (.int .i64 (((clashes_m l).length : Nat) : Int)) rfl rfl (s_len (Rs.row (hm22.row 2 rfl)) rfl Tryd.underlying28 rfl) ?_
  simp only [nz1, nz2, nz3]
  refine lvw 12 (.bool (decide (0 < (clashes_m l).length))) rfl rfl (r_gtr ((clashes_m l).length) 0 rfl rfl rfl) ?_
  simp only [nz1, nz2, nz3]
  refine lvw 8 (.bool (decide (0 < (clashes_m l).length))) rfl rfl (run_as rfl rfl) ?_
  simp only [nz1, nz2, nz3]
  refine wpList_nil ?_
  refine then_n (hK15 _ _ ?_)
  refine cond_d (0 < (clashes_m l).length) rfl (fun hc24 => ?_) (fun hc24 => ?_)
  · refine wp_seq_k (fun K25 hK25 => ?_)
    refine wp_region_lit ?_
    refine lvw 2 (.int .i64 16) rfl rfl (run_as rfl rfl) ?_
    simp only [nz1, nz2, nz3]
    refine wpList_nil ?_
    refine then_n (hK25 _ _ ?_)
    refine wp_ret ?_
    refine blk_r ?_
    refine then_r ?_
    have he26 : solve_m l = 16 := (show solve_m l = 16 from by unfold solve_m; rw [if_neg hc12, if_pos hc24] <;> rfl)
    exact ⟨rfl, .int .i64 16, res_t rfl rfl, ⟨by (rw [he26]; try rfl), hm22.below⟩⟩
  refine wp_skip ?_
  refine blk_n ?_
  refine then_n (hK2 _ _ ?_)
  refine wp_seq_k (fun K27 hK27 => ?_)
  refine wp_region_lit ?_
  refine lvw 2 (.int .i64 0) rfl rfl (run_as rfl rfl) ?_
  simp only [nz1, nz2, nz3]
  refine wpList_nil ?_
  refine then_n (hK27 _ _ ?_)
  refine wp_ret ?_
  have he28 : solve_m l = 0 := (show solve_m l = 0 from by unfold solve_m; rw [if_neg hc12, if_neg hc24] <;> rfl)
  exact ⟨rfl, .int .i64 0, res_t rfl rfl, ⟨by (rw [he28]; try rfl), hm22.below⟩⟩
theorem run_solve {o : Oper} {a : Act} {w : World} {x0 : Operand} {v0 : Value} (ho : o.op = .call { callee := .value (.func 14), args := #[x0], argTypes := #[22] }) (h0 : a.eval x0 = v0) :
    (execOp a.eval o).run Tryd.prog w = .ok (.enter 14 #[v0]) w := by
  unfold execOp
  simp only [ho]
  have hf : a.eval (.func 14) = .func (.func 14) #[] #[] := rfl
  generalize a.eval = f at *
  go_simp
def needs_m_b0 (l : List Rul) (m : Mf) (rec : Nat → Sum (Nat) (Bool)) (x7 : Nat) : Sum (Nat) (Bool) :=
  if x7 < l.length then
    if (l.getD x7 dRul).name = m.name then
      if (holds_m (l.getD x7 dRul) m.version) = true then
        .inr true
      else
        rec (x7 + 1)
    else
      rec (x7 + 1)
  else
    .inl x7
def needs_m_l0 (l : List Rul) (m : Mf) : Nat → Nat → Sum (Nat) (Bool)
  | 0, zz => .inl zz
  | nq + 1, zz => needs_m_b0 l m (needs_m_l0 l m nq) zz

def needs_m_k0 (l : List Rul) (m : Mf) (y11 : Nat) : Bool :=
  false

def needs_m (l : List Rul) (m : Mf) : Bool :=
  fin (needs_m_l0 l m ((l.length - 0) + 1) 0) (fun r => r) (fun zz => needs_m_k0 l m zz)

set_option maxHeartbeats 4000000 in
set_option maxRecDepth 100000 in
theorem needs_any (l : List Rul) (m : Mf) (lv0 : Value) (mv0 : Value) (mv1 : Value) (mv2 : Value) (w : World) (hl : Rs eRul 3 l lv0 w) (hm : MfR m mv0 mv1 mv2 w) (hp0 : l.length ≤ 6710887) : Calls Tryd.prog 22 #[lv0, .agg #[.string (tx m.name), .string (tx m.version), mv0, mv1, mv2]] w (fun e w' => e = .returned (.bool ((needs_m l m))) ∧ Below w.heap.size w w') := by
  go_enter Tryd.func22, Tryd.ntmps22
  have hm00 := Mm.nil none (fun _ => True) w
  obtain ⟨Fl, hm01⟩ : ∃ Fl, Mm none (fun _ => True) w w [.see (Rs eRul 3 l lv0) Fl] := hm00.come (Rs.all hl)
  obtain ⟨Fm, hm02⟩ : ∃ Fm, Mm none (fun _ => True) w w [.see (Rs eRul 3 l lv0) Fl, .see (MfR m mv0 mv1 mv2) Fm] := hm01.come (MfR_all hm)
  have hm0 := hm02
  refine wp_seq_k (fun K1 hK1 => ?_)
  refine wp_region_lit ?_
  refine lst rfl (m_alloc (c := #[.string (tx m.name), .string (tx m.version), mv0, mv1, mv2]) (T := 37) hm0 3 rfl (run_box rfl rfl) (fun g4 w2 (hm3 : Mm none (fun _ => True) w w2 [.see (Rs eRul 3 l lv0) Fl, .see (MfR m mv0 mv1 mv2) Fm, .blk g4 #[.string (tx m.name), .string (tx m.version), mv0, mv1, mv2] 37]) => ?_))
  simp only [nz1, nz2, nz3]
  refine lvw 4 (.bool false) rfl rfl (run_as rfl rfl) ?_
  simp only [nz1, nz2, nz3]
  refine wpList_nil ?_
  refine then_n (hK1 _ _ ?_)
  refine wp_seq_k (fun K5 hK5 => ?_)
  refine wp_seq_k (fun K6 hK6 => ?_)
  refine wp_region_lit ?_
  refine lvw 7 (lv0) rfl rfl (run_mv rfl rfl) ?_
  simp only [nz1, nz2, nz3]
  refine lvw 8 (.int .i64 ((l.length : Nat) : Int)) rfl rfl (s_len ((hm3.see 0 rfl)) rfl Tryd.underlying28 rfl) ?_
  simp only [nz1, nz2, nz3]
  refine lvw 9 (.int .i64 0) rfl rfl (run_mv rfl rfl) ?_
  simp only [nz1, nz2, nz3]
  refine wpList_nil ?_
  refine then_n (hK6 _ _ ?_)
  refine wp_cutK (fun a' w' => ∃ (y11 : Nat) (yu0 : Nat → Value), needs_m_l0 l m ((l.length - 0) + 1) 0 = .inl y11 ∧ a' = ⟨#[lv0, .agg #[.string (tx m.name), .string (tx m.version), mv0, mv1, mv2], undef, .pointer (some ⟨g4, 0, none⟩), yu0 0, undef, yu0 1, lv0, .int .i64 ((l.length : Nat) : Int), .int .i64 ((y11 : Nat) : Int), yu0 2, yu0 3, yu0 4, yu0 5, yu0 6, yu0 7, yu0 8, yu0 9, yu0 10, yu0 11, yu0 12, yu0 13, yu0 14, yu0 15, yu0 16], []⟩ ∧ Mm none (fun _ => True) w w' [.see (Rs eRul 3 l lv0) Fl, .see (MfR m mv0 mv1 mv2) Fm, .blk g4 #[.string (tx m.name), .string (tx m.version), mv0, mv1, mv2] 37]) ?_ ?_
  · refine wp_block ?_
    refine wp_loop_n (fun n' a' w' => ∃ (n8 : Nat) (x7 : Nat) (u0 : Nat → Value), n' = n8 ∧ (l.length - x7) < n8 ∧ needs_m_l0 l m ((l.length - 0) + 1) 0 = needs_m_l0 l m n8 x7 ∧ a' = ⟨#[lv0, .agg #[.string (tx m.name), .string (tx m.version), mv0, mv1, mv2], undef, .pointer (some ⟨g4, 0, none⟩), u0 0, undef, u0 1, lv0, .int .i64 ((l.length : Nat) : Int), .int .i64 ((x7 : Nat) : Int), u0 2, u0 3, u0 4, u0 5, u0 6, u0 7, u0 8, u0 9, u0 10, u0 11, u0 12, u0 13, u0 14, u0 15, u0 16], []⟩ ∧ Mm none (fun _ => True) w w' [.see (Rs eRul 3 l lv0) Fl, .see (MfR m mv0 mv1 mv2) Fm, .blk g4 #[.string (tx m.name), .string (tx m.version), mv0, mv1, mv2] 37]) ⟨((l.length - 0) + 1), 0, (fun qq => List.getD [.bool false, undef, undef, undef, undef, undef, undef, undef, undef, undef, undef, undef, undef, undef, undef, undef, undef] qq undef), rfl, Nat.lt_succ_self _, rfl, rfl, hm3⟩ ?_
    rintro n8 _ w13 ⟨_, x7, u0, rfl, hl17, hi10, rfl, hm14⟩ R15 hR15
    obtain ⟨k9, rfl⟩ : ∃ k, n8 = k + 1 := ⟨n8 - 1, by omega⟩
    refine wp_seq_k (fun K18 hK18 => ?_)
    refine wp_region_lit ?_
    refine lvw 10 (.bool (decide (x7 < l.length))) rfl rfl (r_lss x7 l.length rfl rfl rfl) ?_
    simp only [nz1, nz2, nz3]
    refine wpList_nil ?_
    refine then_n (hK18 _ _ ?_)
    refine wp_seq_k (fun K19 hK19 => ?_)
    refine cond_d (x7 < l.length) rfl (fun hc20 => ?_) (fun hc20 => ?_)
    rotate_left
    · refine wp_exit ?_
      refine then_x ?_
      refine then_x ?_
      refine blk_x ?_
      refine then_n ?_
      exact ⟨x7, (fun qq => List.getD [u0 0, u0 1, .bool (decide (x7 < l.length)), u0 3, u0 4, u0 5, u0 6, u0 7, u0 8, u0 9, u0 10, u0 11, u0 12, u0 13, u0 14, u0 15, u0 16] qq undef), (hi10.trans (show needs_m_b0 l m (needs_m_l0 l m k9) x7 = .inl x7 from by unfold needs_m_b0; rw [if_neg hc20] <;> rfl)), rfl, hm14⟩
    refine wp_skip ?_
    refine then_n (hK19 _ _ ?_)
    refine wp_seq_k (fun K21 hK21 => ?_)
    refine wp_block ?_
    refine wp_seq_k (fun K22 hK22 => ?_)
    refine wp_region_lit ?_
    refine lvw 11 (.pointer (some ⟨(bk lv0), (po lv0 + x7 * 3), none⟩)) rfl rfl (r_ixv ((hm14.see 0 rfl)) x7 (by omega) Tryd.underlying28 sz_24 rfl rfl rfl) ?_
    simp only [nz1, nz2, nz3]
    refine lvw 12 (.agg #[.string (tx ((l.getD x7 dRul).name)), .int .i64 ((l.getD x7 dRul).op), .string (tx ((l.getD x7 dRul).version))]) rfl rfl (r_partw (fun j u hj => Rs.cell ((hm14.see 0 rfl)) eRul_len dRul x7 (by omega) j u (arr_get hj)) Tryd.underlying24 rfl (by exact sz_24) rfl rfl) ?_
    simp only [nz1, nz2, nz3]
    refine lst rfl (m_alloc (c := #[.string (tx ([])), .int .i64 0, .string (tx ([]))]) (T := 24) hm14 6 rfl (by unfold execOp; go_simp; try rfl) (fun g25 w23 (hm24 : Mm none (fun _ => True) w w23 [.see (Rs eRul 3 l lv0) Fl, .see (MfR m mv0 mv1 mv2) Fm, .blk g4 #[.string (tx m.name), .string (tx m.version), mv0, mv1, mv2] 37, .blk g25 #[.string (tx ([])), .int .i64 0, .string (tx ([]))] 24]) => ?_))
    simp only [nz1, nz2, nz3]
    refine lst rfl (m_store 3 24 _ _ 0 (.agg #[.string (tx ((l.getD x7 dRul).name)), .int .i64 ((l.getD x7 dRul).op), .string (tx ((l.getD x7 dRul).version))]) (old := #[.string (tx ([])), .int .i64 0, .string (tx ([]))]) (new := #[.string (tx ((l.getD x7 dRul).name)), .int .i64 ((l.getD x7 dRul).op), .string (tx ((l.getD x7 dRul).version))]) hm24 rfl rfl rfl rfl rfl (by exact sz_24) (show 0 + 3 ≤ 3 from by decide) (by simp [Value.cells, Value.oneCell']) rfl (fun w26 (hm27 : Mm none (fun _ => True) w w26 [.see (Rs eRul 3 l lv0) Fl, .see (MfR m mv0 mv1 mv2) Fm, .blk g4 #[.string (tx m.name), .string (tx m.version), mv0, mv1, mv2] 37, .blk g25 #[.string (tx ((l.getD x7 dRul).name)), .int .i64 ((l.getD x7 dRul).op), .string (tx ((l.getD x7 dRul).version))] 24]) => ?_))
    refine wpList_nil ?_
    refine then_n (hK22 _ _ ?_)
    refine wp_seq_k (fun K28 hK28 => ?_)
    refine wp_region_lit ?_
    refine lvw 13 (.pointer (some ⟨g25, 0, none⟩)) rfl rfl (r_fa24_0 g25 0 rfl rfl) ?_
    simp only [nz1, nz2, nz3]
    refine lvw 14 (.string (tx ((l.getD x7 dRul).name))) rfl rfl (r_load (hm27.at 3 rfl) rfl Tryd.underlying9 rfl rfl rfl) ?_
    simp only [nz1, nz2, nz3]
    refine lvw 15 (.pointer (some ⟨g4, 0, none⟩)) rfl rfl (r_fa37_0 g4 0 rfl rfl) ?_
    simp only [nz1, nz2, nz3]
    refine lvw 16 (.string (tx m.name)) rfl rfl (r_load (hm27.at 2 rfl) rfl Tryd.underlying9 rfl rfl rfl) ?_
    simp only [nz1, nz2, nz3]
    refine lvb 17 ((l.getD x7 dRul).name = m.name) rfl rfl (t_eql ((l.getD x7 dRul).name) m.name rfl rfl rfl) (fun hs29 => ?_) (fun hs29 => ?_)
    rotate_left
    · simp only [nz1, nz2, nz3]
      refine lvw 18 (.bool false) rfl rfl (run_mv rfl rfl) ?_
      simp only [nz1, nz2, nz3]
      refine lst_skip 19 rfl rfl ?_
      simp only [nz1, nz2, nz3]
      refine lst_skip 20 rfl rfl ?_
      simp only [nz1, nz2, nz3]
      refine lst_skip 21 rfl rfl ?_
      simp only [nz1, nz2, nz3]
      refine lst_skip 22 rfl rfl ?_
      simp only [nz1, nz2, nz3]
      refine lvw 23 (.bool false) rfl rfl (run_pickf rfl rfl rfl) ?_
      simp only [nz1, nz2, nz3]
      refine wpList_nil ?_
      refine then_n (hK28 _ _ ?_)
      refine cond_f rfl ?_
      refine wp_skip ?_
      refine blk_n ?_
      refine then_n (hK21 _ _ ?_)
      refine wp_region_lit ?_
      refine lvw 24 (.int .i64 (((x7 + 1) : Nat) : Int)) rfl rfl (r_add x7 1 (show (x7 + 1) < 9223372036854775808 from by omega) rfl rfl rfl) ?_
      simp only [nz1, nz2, nz3]
      refine lvw 9 (.int .i64 (((x7 + 1) : Nat) : Int)) rfl rfl (run_mv rfl rfl) ?_
      simp only [nz1, nz2, nz3]
      refine wpList_nil ?_
      refine then_n (hR15 _ _ _ ⟨k9, (x7 + 1), (fun qq => List.getD [u0 0, .pointer (some ⟨g25, 0, none⟩), .bool (decide (x7 < l.length)), .pointer (some ⟨(bk lv0), (po lv0 + x7 * 3), none⟩), .agg #[.string (tx ((l.getD x7 dRul).name)), .int .i64 ((l.getD x7 dRul).op), .string (tx ((l.getD x7 dRul).version))], .pointer (some ⟨g25, 0, none⟩), .string (tx ((l.getD x7 dRul).name)), .pointer (some ⟨g4, 0, none⟩), .string (tx m.name), .bool false, .bool false, undef, undef, undef, undef, .bool false, .int .i64 (((x7 + 1) : Nat) : Int)] qq undef), rfl, (by first | omega | (simp; omega) | (simp at *; omega)), (hi10.trans (show needs_m_b0 l m (needs_m_l0 l m k9) x7 = needs_m_l0 l m k9 (x7 + 1) from by unfold needs_m_b0; rw [if_pos hc20, if_neg hs29] <;> rfl)), rfl, (Mm.reorder hm27 [0, 1, 2] (by decide) rfl)⟩ ?_)
      omega
    simp only [nz1, nz2, nz3]
    refine lvw 18 (.bool true) rfl rfl (run_mv rfl rfl) ?_
    simp only [nz1, nz2, nz3]
    refine lvw 19 (.agg #[.string (tx ((l.getD x7 dRul).name)), .int .i64 ((l.getD x7 dRul).op), .string (tx ((l.getD x7 dRul).version))]) rfl rfl (r_whole (hm27.at 3 rfl) Tryd.underlying24 rfl (by exact sz_24) rfl rfl) ?_
    simp only [nz1, nz2, nz3]
    refine lvw 20 (.pointer (some ⟨g4, 1, none⟩)) rfl rfl (r_fa37_1 g4 0 rfl rfl) ?_
    simp only [nz1, nz2, nz3]
    refine lvw 21 (.string (tx m.version)) rfl rfl (r_load (hm27.at 2 rfl) rfl Tryd.underlying9 rfl rfl rfl) ?_
    simp only [nz1, nz2, nz3]
    refine lst rfl (m_call hm27 22 (.bool ((holds_m (l.getD x7 dRul) m.version))) rfl (run_holds rfl rfl rfl) (holds_any (l.getD x7 dRul) m.version  _  ) (fun w30 (hm31 : Mm none (fun _ => True) w w30 [.see (Rs eRul 3 l lv0) Fl, .see (MfR m mv0 mv1 mv2) Fm, .blk g4 #[.string (tx m.name), .string (tx m.version), mv0, mv1, mv2] 37, .blk g25 #[.string (tx ((l.getD x7 dRul).name)), .int .i64 ((l.getD x7 dRul).op), .string (tx ((l.getD x7 dRul).version))] 24]) => ?_))
    simp only [nz1, nz2, nz3]
    refine lvw 23 (.bool ((holds_m (l.getD x7 dRul) m.version))) rfl rfl (run_pick rfl rfl rfl) ?_
    simp only [nz1, nz2, nz3]
    refine wpList_nil ?_
    refine then_n (hK28 _ _ ?_)
    refine cond_B (holds_m (l.getD x7 dRul) m.version) rfl (fun hc32 => ?_) (fun hc32 => ?_)
    rotate_left
    · refine wp_skip ?_
      refine blk_n ?_
      refine then_n (hK21 _ _ ?_)
      refine wp_region_lit ?_
      refine lvw 24 (.int .i64 (((x7 + 1) : Nat) : Int)) rfl rfl (r_add x7 1 (show (x7 + 1) < 9223372036854775808 from by omega) rfl rfl rfl) ?_
      simp only [nz1, nz2, nz3]
      refine lvw 9 (.int .i64 (((x7 + 1) : Nat) : Int)) rfl rfl (run_mv rfl rfl) ?_
      simp only [nz1, nz2, nz3]
      refine wpList_nil ?_
      refine then_n (hR15 _ _ _ ⟨k9, (x7 + 1), (fun qq => List.getD [u0 0, .pointer (some ⟨g25, 0, none⟩), .bool (decide (x7 < l.length)), .pointer (some ⟨(bk lv0), (po lv0 + x7 * 3), none⟩), .agg #[.string (tx ((l.getD x7 dRul).name)), .int .i64 ((l.getD x7 dRul).op), .string (tx ((l.getD x7 dRul).version))], .pointer (some ⟨g25, 0, none⟩), .string (tx ((l.getD x7 dRul).name)), .pointer (some ⟨g4, 0, none⟩), .string (tx m.name), .bool true, .bool true, .agg #[.string (tx ((l.getD x7 dRul).name)), .int .i64 ((l.getD x7 dRul).op), .string (tx ((l.getD x7 dRul).version))], .pointer (some ⟨g4, 1, none⟩), .string (tx m.version), .bool ((holds_m (l.getD x7 dRul) m.version)), .bool ((holds_m (l.getD x7 dRul) m.version)), .int .i64 (((x7 + 1) : Nat) : Int)] qq undef), rfl, (by first | omega | (simp; omega) | (simp at *; omega)), (hi10.trans (show needs_m_b0 l m (needs_m_l0 l m k9) x7 = needs_m_l0 l m k9 (x7 + 1) from by unfold needs_m_b0; rw [if_pos hc20, if_pos hs29, if_neg hc32] <;> rfl)), rfl, (Mm.reorder hm31 [0, 1, 2] (by decide) rfl)⟩ ?_)
      omega
    refine wp_seq_k (fun K33 hK33 => ?_)
    refine wp_region_lit ?_
    refine lvw 4 (.bool true) rfl rfl (run_as rfl rfl) ?_
    simp only [nz1, nz2, nz3]
    refine wpList_nil ?_
    refine then_n (hK33 _ _ ?_)
    refine wp_ret ?_
    refine blk_r ?_
    refine then_r ?_
    refine then_r ?_
    refine blk_r ?_
    refine then_r ?_
    refine then_r ?_
    have he34 : needs_m_l0 l m ((l.length - 0) + 1) 0 = .inr true := (hi10.trans (show needs_m_b0 l m (needs_m_l0 l m k9) x7 = .inr true from by unfold needs_m_b0; rw [if_pos hc20, if_pos hs29, if_pos hc32] <;> rfl))
    have he35 : needs_m l m = true := (show needs_m l m = true from by unfold needs_m; rw [he34] <;> rfl)
    exact ⟨rfl, .bool true, res_t rfl rfl, ⟨by (rw [he35]; try rfl), hm31.below⟩⟩
  rintro _ w36 ⟨y11, yu0, hx12, rfl, hm37⟩
  have hq38 : needs_m l m = needs_m_k0 l m y11 := (show needs_m l m = needs_m_k0 l m y11 from by unfold needs_m; rw [hx12] <;> rfl)
  refine then_n (hK5 _ _ ?_)
  refine wp_seq_k (fun K39 hK39 => ?_)
  refine wp_region_lit ?_
  refine lvw 4 (.bool false) rfl rfl (run_as rfl rfl) ?_
  simp only [nz1, nz2, nz3]
  refine wpList_nil ?_
  refine then_n (hK39 _ _ ?_)
  refine wp_ret ?_
  have he40 : needs_m l m = false := (hq38.trans (show needs_m_k0 l m y11 = false from by unfold needs_m_k0; rfl))
  exact ⟨rfl, .bool false, res_t rfl rfl, ⟨by (rw [he40]; try rfl), hm37.below⟩⟩
theorem run_needs {o : Oper} {a : Act} {w : World} {x0 x1 : Operand} {v0 v1 : Value} (ho : o.op = .call { callee := .value (.func 22), args := #[x0, x1], argTypes := #[28, 37] }) (h0 : a.eval x0 = v0) (h1 : a.eval x1 = v1) :
    (execOp a.eval o).run Tryd.prog w = .ok (.enter 22 #[v0, v1]) w := by
  unfold execOp
  simp only [ho]
  have hf : a.eval (.func 22) = .func (.func 22) #[] #[] := rfl
  generalize a.eval = f at *
  go_simp
def users_m_b0 (l : List Mf) (m : Mf) (rec : (List (List UInt8)) × Nat → Sum ((List (List UInt8)) × Nat) ((List (List UInt8)))) (l10 : List (List UInt8)) (x12 : Nat) : Sum ((List (List UInt8)) × Nat) ((List (List UInt8))) :=
  if x12 < l.length then
    if (needs_m ((l.getD x12 dMf).needs) m) = true then
      rec ((l10 ++ [((l.getD x12 dMf).name)]), (x12 + 1))
    else
      rec (l10, (x12 + 1))
  else
    .inl (l10, x12)
def users_m_l0 (l : List Mf) (m : Mf) : Nat → (List (List UInt8)) × Nat → Sum ((List (List UInt8)) × Nat) ((List (List UInt8)))
  | 0, zz => .inl zz
  | nq + 1, zz => users_m_b0 l m (users_m_l0 l m nq) zz.1 zz.2

def users_m_k0 (l : List Mf) (m : Mf) (y16 : List (List UInt8)) (y18 : Nat) : (List (List UInt8)) :=
  (cpt (srt y16))

def users_m (l : List Mf) (m : Mf) : (List (List UInt8)) :=
  fin (users_m_l0 l m ((l.length - 0) + 1) (([] : List (List UInt8)), 0)) (fun r => r) (fun zz => users_m_k0 l m zz.1 zz.2)

set_option maxHeartbeats 4000000 in
set_option maxRecDepth 100000 in
theorem users_any (l : List Mf) (m : Mf) (lv0 : Value) (lv1 : List (Value × Value × Value)) (mv0 : Value) (mv1 : Value) (mv2 : Value) (w : World) (hl : Rn nMf 5 MfN l lv1 lv0 w) (hm : MfR m mv0 mv1 mv2 w) (hp0 : l.length ≤ 100000) (hp1 : okl l) : Calls Tryd.prog 18 #[lv0, .agg #[.string (tx m.name), .string (tx m.version), mv0, mv1, mv2]] w (fun e w' => (∃ v, e = .returned v ∧ ∃ o0 : Value, v = o0 ∧ w'.ownsRow w.heap.size 9 1 o0 (users_m l m).length ((users_m l m).flatMap eS)) ∧ Below w.heap.size w w') := by
  go_enter Tryd.func18, Tryd.ntmps18
  have hm00 := Mm.nil none (fun _ => True) w
  obtain ⟨Fl, hm01⟩ : ∃ Fl, Mm none (fun _ => True) w w [.see (Rn nMf 5 MfN l lv1 lv0) Fl] := hm00.come ((Rn.all MfN_all) hl)
  obtain ⟨Fm, hm02⟩ : ∃ Fm, Mm none (fun _ => True) w w [.see (Rn nMf 5 MfN l lv1 lv0) Fl, .see (MfR m mv0 mv1 mv2) Fm] := hm01.come (MfR_all hm)
  have hm0 := hm02
  refine wp_seq_k (fun K1 hK1 => ?_)
  refine wp_region_lit ?_
  refine lst rfl (m_alloc (c := #[.string (tx m.name), .string (tx m.version), mv0, mv1, mv2]) (T := 37) hm0 3 rfl (run_box rfl rfl) (fun g4 w2 (hm3 : Mm none (fun _ => True) w w2 [.see (Rn nMf 5 MfN l lv1 lv0) Fl, .see (MfR m mv0 mv1 mv2) Fm, .blk g4 #[.string (tx m.name), .string (tx m.version), mv0, mv1, mv2] 37]) => ?_))
  simp only [nz1, nz2, nz3]
  refine lvw 4 (.slice none 0 0) rfl rfl (run_as rfl rfl) ?_
  simp only [nz1, nz2, nz3]
  refine wpList_nil ?_
  refine then_n (hK1 _ _ ?_)
  refine wp_seq_k (fun K5 hK5 => ?_)
  refine wp_region_lit ?_
  refine lvw 5 (.slice none 0 0) rfl rfl (run_as rfl rfl) ?_
  simp only [nz1, nz2, nz3]
  refine wpList_nil ?_
  refine then_n (hK5 _ _ ?_)
  refine wp_seq_k (fun K6 hK6 => ?_)
  refine wp_seq_k (fun K7 hK7 => ?_)
  refine wp_region_lit ?_
  refine lvw 8 (lv0) rfl rfl (run_mv rfl rfl) ?_
  simp only [nz1, nz2, nz3]
  refine lvw 9 (.int .i64 ((l.length : Nat) : Int)) rfl rfl (s_len ((hm3.see 0 rfl)).rd rfl Tryd.underlying22 rfl) ?_
  simp only [nz1, nz2, nz3]
  refine lvw 10 (.int .i64 0) rfl rfl (run_mv rfl rfl) ?_
  simp only [nz1, nz2, nz3]
  refine wpList_nil ?_
  refine then_n (hK7 _ _ ?_)
  have hm9 : Mm none (fun _ => True) w w2 [.see (Rn nMf 5 MfN l lv1 lv0) Fl, .see (MfR m mv0 mv1 mv2) Fm, .blk g4 #[.string (tx m.name), .string (tx m.version), mv0, mv1, mv2] 37, .row (.slice none 0 0) ([] : List (List UInt8)).length (([] : List (List UInt8)).flatMap eS) 9 1] := hm3.nilrow 9 1
  refine wp_cutK (fun a' w' => ∃ (y16 : List (List UInt8)) (y18 : Nat) (v17 : Value) (yu0 : Nat → Value), users_m_l0 l m ((l.length - 0) + 1) (([] : List (List UInt8)), 0) = .inl (y16, y18) ∧ (y16.length ≤ y18 ∧ y18 ≤ l.length) ∧ a' = ⟨#[lv0, .agg #[.string (tx m.name), .string (tx m.version), mv0, mv1, mv2], undef, .pointer (some ⟨g4, 0, none⟩), .slice none 0 0, v17, undef, yu0 0, lv0, .int .i64 ((l.length : Nat) : Int), .int .i64 ((y18 : Nat) : Int), yu0 1, yu0 2, yu0 3, yu0 4, yu0 5, yu0 6, yu0 7, yu0 8, yu0 9, yu0 10, yu0 11, yu0 12, yu0 13, undef, undef, undef, undef], []⟩ ∧ Mm none (fun _ => True) w w' [.see (Rn nMf 5 MfN l lv1 lv0) Fl, .see (MfR m mv0 mv1 mv2) Fm, .blk g4 #[.string (tx m.name), .string (tx m.version), mv0, mv1, mv2] 37, .row v17 y16.length (y16.flatMap eS) 9 1]) ?_ ?_
  · refine wp_block ?_
    refine wp_loop_n (fun n' a' w' => ∃ (n13 : Nat) (l10 : List (List UInt8)) (x12 : Nat) (v11 : Value) (u0 : Nat → Value), n' = n13 ∧ (l.length - x12) < n13 ∧ users_m_l0 l m ((l.length - 0) + 1) (([] : List (List UInt8)), 0) = users_m_l0 l m n13 (l10, x12) ∧ (l10.length ≤ x12 ∧ x12 ≤ l.length) ∧ a' = ⟨#[lv0, .agg #[.string (tx m.name), .string (tx m.version), mv0, mv1, mv2], undef, .pointer (some ⟨g4, 0, none⟩), .slice none 0 0, v11, undef, u0 0, lv0, .int .i64 ((l.length : Nat) : Int), .int .i64 ((x12 : Nat) : Int), u0 1, u0 2, u0 3, u0 4, u0 5, u0 6, u0 7, u0 8, u0 9, u0 10, u0 11, u0 12, u0 13, undef, undef, undef, undef], []⟩ ∧ Mm none (fun _ => True) w w' [.see (Rn nMf 5 MfN l lv1 lv0) Fl, .see (MfR m mv0 mv1 mv2) Fm, .blk g4 #[.string (tx m.name), .string (tx m.version), mv0, mv1, mv2] 37, .row v11 l10.length (l10.flatMap eS) 9 1]) ⟨((l.length - 0) + 1), ([] : List (List UInt8)), 0, .slice none 0 0, (fun qq => List.getD [undef, undef, undef, undef, undef, undef, undef, undef, undef, undef, undef, undef, undef, undef] qq undef), rfl, Nat.lt_succ_self _, rfl, (by first | omega | (simp; done) | (simp; omega) | (simp at *; omega)), rfl, hm9⟩ ?_
    rintro n13 _ w20 ⟨_, l10, x12, v11, u0, rfl, hl24, hi15, hus, rfl, hm21⟩ R22 hR22
    obtain ⟨k14, rfl⟩ : ∃ k, n13 = k + 1 := ⟨n13 - 1, by omega⟩
    refine wp_seq_k (fun K25 hK25 => ?_)
    refine wp_region_lit ?_
    refine lvw 11 (.bool (decide (x12 < l.length))) rfl rfl (r_lss x12 l.length rfl rfl rfl) ?_
    simp only [nz1, nz2, nz3]
    refine wpList_nil ?_
    refine then_n (hK25 _ _ ?_)
    refine wp_seq_k (fun K26 hK26 => ?_)
    refine cond_d (x12 < l.length) rfl (fun hc27 => ?_) (fun hc27 => ?_)
    rotate_left
    · refine wp_exit ?_
      refine then_x ?_
      refine then_x ?_
      refine blk_x ?_
      refine then_n ?_
      exact ⟨l10, x12, v11, (fun qq => List.getD [u0 0, .bool (decide (x12 < l.length)), u0 2, u0 3, u0 4, u0 5, u0 6, u0 7, u0 8, u0 9, u0 10, u0 11, u0 12, u0 13] qq undef), (hi15.trans (show users_m_b0 l m (users_m_l0 l m k14) l10 x12 = .inl (l10, x12) from by unfold users_m_b0; rw [if_neg hc27] <;> rfl)), (by first | omega | (simp; done) | (simp; omega) | (simp at *; omega)), rfl, hm21⟩
    refine wp_skip ?_
    refine then_n (hK26 _ _ ?_)
    refine wp_seq_k (fun K28 hK28 => ?_)
    refine wp_block ?_
    refine wp_seq_k (fun K29 hK29 => ?_)
    refine wp_region_lit ?_
    refine lvw 12 (.pointer (some ⟨(bk lv0), (po lv0 + x12 * 5), none⟩)) rfl rfl (r_ixv ((hm21.see 0 rfl)).rd x12 (by omega) Tryd.underlying22 sz_37 rfl rfl rfl) ?_
    simp only [nz1, nz2, nz3]
    refine lvw 13 (.agg #[.string (tx ((l.getD x12 dMf).name)), .string (tx ((l.getD x12 dMf).version)), (lv1.getD x12 ((Value.slice none 0 0), (Value.slice none 0 0), (Value.slice none 0 0))).1, (lv1.getD x12 ((Value.slice none 0 0), (Value.slice none 0 0), (Value.slice none 0 0))).2.1, (lv1.getD x12 ((Value.slice none 0 0), (Value.slice none 0 0), (Value.slice none 0 0))).2.2]) rfl rfl (r_partw (fun j u hj => Rn.cell ((hm21.see 0 rfl)) nMf_len dMf ((Value.slice none 0 0), (Value.slice none 0 0), (Value.slice none 0 0)) x12 (by omega) j u (arr_get hj)) Tryd.underlying37 rfl (by exact sz_37) rfl rfl) ?_
    simp only [nz1, nz2, nz3]
    refine lst rfl (m_alloc (c := #[.string (tx ([])), .string (tx ([])), .slice none 0 0, .slice none 0 0, .slice none 0 0]) (T := 37) hm21 7 rfl (by unfold execOp; go_simp; try rfl) (fun g32 w30 (hm31 : Mm none (fun _ => True) w w30 [.see (Rn nMf 5 MfN l lv1 lv0) Fl, .see (MfR m mv0 mv1 mv2) Fm, .blk g4 #[.string (tx m.name), .string (tx m.version), mv0, mv1, mv2] 37, .row v11 l10.length (l10.flatMap eS) 9 1, .blk g32 #[.string (tx ([])), .string (tx ([])), .slice none 0 0, .slice none 0 0, .slice none 0 0] 37]) => ?_))
    simp only [nz1, nz2, nz3]
    have ho35 := (rd_one ((Rn.el ((hm31.see 0 rfl)) dMf ((Value.slice none 0 0), (Value.slice none 0 0), (Value.slice none 0 0)) x12 (by omega)).1))
    have ho36 := (rd_one ((Rn.el ((hm31.see 0 rfl)) dMf ((Value.slice none 0 0), (Value.slice none 0 0), (Value.slice none 0 0)) x12 (by omega)).2.1))
    have ho37 := (rd_one ((Rn.el ((hm31.see 0 rfl)) dMf ((Value.slice none 0 0), (Value.slice none 0 0), (Value.slice none 0 0)) x12 (by omega)).2.2))
    refine lst rfl (m_store 4 37 _ _ 0 (.agg #[.string (tx ((l.getD x12 dMf).name)), .string (tx ((l.getD x12 dMf).version)), (lv1.getD x12 ((Value.slice none 0 0), (Value.slice none 0 0), (Value.slice none 0 0))).1, (lv1.getD x12 ((Value.slice none 0 0), (Value.slice none 0 0), (Value.slice none 0 0))).2.1, (lv1.getD x12 ((Value.slice none 0 0), (Value.slice none 0 0), (Value.slice none 0 0))).2.2]) (old := #[.string (tx ([])), .string (tx ([])), .slice none 0 0, .slice none 0 0, .slice none 0 0]) (new := #[.string (tx ((l.getD x12 dMf).name)), .string (tx ((l.getD x12 dMf).version)), (lv1.getD x12 ((Value.slice none 0 0), (Value.slice none 0 0), (Value.slice none 0 0))).1, (lv1.getD x12 ((Value.slice none 0 0), (Value.slice none 0 0), (Value.slice none 0 0))).2.1, (lv1.getD x12 ((Value.slice none 0 0), (Value.slice none 0 0), (Value.slice none 0 0))).2.2]) hm31 rfl rfl rfl rfl rfl (by exact sz_37) (show 0 + 5 ≤ 5 from by decide) (by rw [Array.all_eq_true_iff_forall_mem]; intro x hx; simp only [Value.cells, List.mem_toArray, List.mem_cons, List.not_mem_nil, or_false] at hx; rcases hx with rfl | rfl | rfl | rfl | rfl <;> first | rfl | assumption) rfl (fun w33 (hm34 : Mm none (fun _ => True) w w33 [.see (Rn nMf 5 MfN l lv1 lv0) Fl, .see (MfR m mv0 mv1 mv2) Fm, .blk g4 #[.string (tx m.name), .string (tx m.version), mv0, mv1, mv2] 37, .row v11 l10.length (l10.flatMap eS) 9 1, .blk g32 #[.string (tx ((l.getD x12 dMf).name)), .string (tx ((l.getD x12 dMf).version)), (lv1.getD x12 ((Value.slice none 0 0), (Value.slice none 0 0), (Value.slice none 0 0))).1, (lv1.getD x12 ((Value.slice none 0 0), (Value.slice none 0 0), (Value.slice none 0 0))).2.1, (lv1.getD x12 ((Value.slice none 0 0), (Value.slice none 0 0), (Value.slice none 0 0))).2.2] 37]) => ?_))
    refine wpList_nil ?_
    refine then_n (hK29 _ _ ?_)
    refine wp_seq_k (fun K38 hK38 => ?_)
    refine wp_region_lit ?_
    refine lvw 14 (.pointer (some ⟨g32, 2, none⟩)) rfl rfl (r_fa37_2 g32 0 rfl rfl) ?_
    simp only [nz1, nz2, nz3]
    refine lvw 15 ((lv1.getD x12 ((Value.slice none 0 0), (Value.slice none 0 0), (Value.slice none 0 0))).1) rfl rfl (r_load (hm34.at 4 rfl) rfl Tryd.underlying28 rfl rfl rfl) ?_
    simp only [nz1, nz2, nz3]
    refine lvw 16 (.agg #[.string (tx m.name), .string (tx m.version), mv0, mv1, mv2]) rfl rfl (r_whole (hm34.at 2 rfl) Tryd.underlying37 rfl (by exact sz_37) rfl rfl) ?_
    simp only [nz1, nz2, nz3]
    refine lst rfl (m_call hm34 17 (.bool ((needs_m ((l.getD x12 dMf).needs) m))) rfl (run_needs rfl rfl rfl) (needs_any ((l.getD x12 dMf).needs) m ((lv1.getD x12 ((Value.slice none 0 0), (Value.slice none 0 0), (Value.slice none 0 0))).1) mv0 mv1 mv2 _ ((Rn.el (hm34.see 0 rfl) dMf ((Value.slice none 0 0), (Value.slice none 0 0), (Value.slice none 0 0)) x12 (by omega)).1) (hm34.see 1 rfl) (by first | omega | assumption | (exact (okl_at (by assumption) _).1) | (simp; done) | (simp; omega) | (simp only [List.length_append, List.length_cons, List.length_nil]; omega) | (simp only [List.length_append, List.length_cons, List.length_nil] at *; omega) | decide)) (fun w39 (hm40 : Mm none (fun _ => True) w w39 [.see (Rn nMf 5 MfN l lv1 lv0) Fl, .see (MfR m mv0 mv1 mv2) Fm, .blk g4 #[.string (tx m.name), .string (tx m.version), mv0, mv1, mv2] 37, .row v11 l10.length (l10.flatMap eS) 9 1, .blk g32 #[.string (tx ((l.getD x12 dMf).name)), .string (tx ((l.getD x12 dMf).version)), (lv1.getD x12 ((Value.slice none 0 0), (Value.slice none 0 0), (Value.slice none 0 0))).1, (lv1.getD x12 ((Value.slice none 0 0), (Value.slice none 0 0), (Value.slice none 0 0))).2.1, (lv1.getD x12 ((Value.slice none 0 0), (Value.slice none 0 0), (Value.slice none 0 0))).2.2] 37]) => ?_))
    simp only [nz1, nz2, nz3]
    refine wpList_nil ?_
    refine then_n (hK38 _ _ ?_)
    refine cond_B (needs_m ((l.getD x12 dMf).needs) m) rfl (fun hc41 => ?_) (fun hc41 => ?_)
    rotate_left
    · refine wp_skip ?_
      refine blk_n ?_
      refine then_n (hK28 _ _ ?_)
      refine wp_region_lit ?_
      refine lvw 23 (.int .i64 (((x12 + 1) : Nat) : Int)) rfl rfl (r_add x12 1 (show (x12 + 1) < 9223372036854775808 from by omega) rfl rfl rfl) ?_
      simp only [nz1, nz2, nz3]
      refine lvw 10 (.int .i64 (((x12 + 1) : Nat) : Int)) rfl rfl (run_mv rfl rfl) ?_
      simp only [nz1, nz2, nz3]
      refine wpList_nil ?_
      refine then_n (hR22 _ _ _ ⟨k14, l10, (x12 + 1), v11, (fun qq => List.getD [.pointer (some ⟨g32, 0, none⟩), .bool (decide (x12 < l.length)), .pointer (some ⟨(bk lv0), (po lv0 + x12 * 5), none⟩), .agg #[.string (tx ((l.getD x12 dMf).name)), .string (tx ((l.getD x12 dMf).version)), (lv1.getD x12 ((Value.slice none 0 0), (Value.slice none 0 0), (Value.slice none 0 0))).1, (lv1.getD x12 ((Value.slice none 0 0), (Value.slice none 0 0), (Value.slice none 0 0))).2.1, (lv1.getD x12 ((Value.slice none 0 0), (Value.slice none 0 0), (Value.slice none 0 0))).2.2], .pointer (some ⟨g32, 2, none⟩), (lv1.getD x12 ((Value.slice none 0 0), (Value.slice none 0 0), (Value.slice none 0 0))).1, .agg #[.string (tx m.name), .string (tx m.version), mv0, mv1, mv2], .bool ((needs_m ((l.getD x12 dMf).needs) m)), u0 8, u0 9, u0 10, u0 11, u0 12, .int .i64 (((x12 + 1) : Nat) : Int)] qq undef), rfl, (by first | omega | (simp; omega) | (simp at *; omega)), (hi15.trans (show users_m_b0 l m (users_m_l0 l m k14) l10 x12 = users_m_l0 l m k14 (l10, (x12 + 1)) from by unfold users_m_b0; rw [if_pos hc27, if_neg hc41] <;> rfl)), (by (try rw [List.length_append, List.length_singleton]); omega), rfl, (Mm.reorder hm40 [0, 1, 2, 3] (by decide) rfl)⟩ ?_)
      omega
    refine wp_region_lit ?_
    refine lvw 18 (v11) rfl rfl (run_mv rfl rfl) ?_
    simp only [nz1, nz2, nz3]
    refine lvw 19 (.pointer (some ⟨g32, 0, none⟩)) rfl rfl (r_fa37_0 g32 0 rfl rfl) ?_
    simp only [nz1, nz2, nz3]
    refine lvw 20 (.string (tx ((l.getD x12 dMf).name))) rfl rfl (r_load (hm40.at 4 rfl) rfl Tryd.underlying9 rfl rfl rfl) ?_
    simp only [nz1, nz2, nz3]
    refine lst rfl (m_make (c := #[.string (tx ((l.getD x12 dMf).name))]) (T := 9) (fun g => .slice (some ⟨g, 0, none⟩) 1 1) hm40 21 rfl (by unfold execOp; go_simp; try rfl) (fun g44 w42 (hm43 : Mm none (fun _ => True) w w42 [.see (Rn nMf 5 MfN l lv1 lv0) Fl, .see (MfR m mv0 mv1 mv2) Fm, .blk g4 #[.string (tx m.name), .string (tx m.version), mv0, mv1, mv2] 37, .row v11 l10.length (l10.flatMap eS) 9 1, .blk g32 #[.string (tx ((l.getD x12 dMf).name)), .string (tx ((l.getD x12 dMf).version)), (lv1.getD x12 ((Value.slice none 0 0), (Value.slice none 0 0), (Value.slice none 0 0))).1, (lv1.getD x12 ((Value.slice none 0 0), (Value.slice none 0 0), (Value.slice none 0 0))).2.1, (lv1.getD x12 ((Value.slice none 0 0), (Value.slice none 0 0), (Value.slice none 0 0))).2.2] 37, .blk g44 #[.string (tx ((l.getD x12 dMf).name))] 9]) => ?_))
    simp only [nz1, nz2, nz3]
    obtain ⟨iq, hiq, hz1, hz2, hz3⟩ := inf_9
    refine lst rfl (m_appendR 3 (l := l10) (l2 := [((l.getD x12 dMf).name)]) iq _ _ _ (.slice (some ⟨g44, 0, none⟩) 1 1) hm43 rfl 22 rfl rfl Tryd.underlying33 hiq hz1 hz2 hz3 eS_len eS_one rfl (by decide) rfl rfl (Rs.blk (l := [((l.getD x12 dMf).name)]) (hm43.at 5 rfl) rfl rfl eS_len (Nat.le_refl _)) (by first | omega | (simp; omega)) (by first | omega | (simp; omega)) (fun v47 w45 (hm46 : Mm none (fun _ => True) w w45 [.see (Rn nMf 5 MfN l lv1 lv0) Fl, .see (MfR m mv0 mv1 mv2) Fm, .blk g4 #[.string (tx m.name), .string (tx m.version), mv0, mv1, mv2] 37, .row v47 (l10 ++ [((l.getD x12 dMf).name)]).length ((l10 ++ [((l.getD x12 dMf).name)]).flatMap eS) 9 1, .blk g32 #[.string (tx ((l.getD x12 dMf).name)), .string (tx ((l.getD x12 dMf).version)), (lv1.getD x12 ((Value.slice none 0 0), (Value.slice none 0 0), (Value.slice none 0 0))).1, (lv1.getD x12 ((Value.slice none 0 0), (Value.slice none 0 0), (Value.slice none 0 0))).2.1, (lv1.getD x12 ((Value.slice none 0 0), (Value.slice none 0 0), (Value.slice none 0 0))).2.2] 37, .blk g44 #[.string (tx ((l.getD x12 dMf).name))] 9]) => ?_))
    simp only [nz1, nz2, nz3]
    refine lvw 5 (v47) rfl rfl (run_as rfl rfl) ?_
    simp only [nz1, nz2, nz3]
    refine wpList_nil ?_
    refine blk_n ?_
    refine then_n (hK28 _ _ ?_)
    refine wp_region_lit ?_
    refine lvw 23 (.int .i64 (((x12 + 1) : Nat) : Int)) rfl rfl (r_add x12 1 (show (x12 + 1) < 9223372036854775808 from by omega) rfl rfl rfl) ?_
    simp only [nz1, nz2, nz3]
    refine lvw 10 (.int .i64 (((x12 + 1) : Nat) : Int)) rfl rfl (run_mv rfl rfl) ?_
    simp only [nz1, nz2, nz3]
    refine wpList_nil ?_
    refine then_n (hR22 _ _ _ ⟨k14, (l10 ++ [((l.getD x12 dMf).name)]), (x12 + 1), v47, (fun qq => List.getD [.pointer (some ⟨g32, 0, none⟩), .bool (decide (x12 < l.length)), .pointer (some ⟨(bk lv0), (po lv0 + x12 * 5), none⟩), .agg #[.string (tx ((l.getD x12 dMf).name)), .string (tx ((l.getD x12 dMf).version)), (lv1.getD x12 ((Value.slice none 0 0), (Value.slice none 0 0), (Value.slice none 0 0))).1, (lv1.getD x12 ((Value.slice none 0 0), (Value.slice none 0 0), (Value.slice none 0 0))).2.1, (lv1.getD x12 ((Value.slice none 0 0), (Value.slice none 0 0), (Value.slice none 0 0))).2.2], .pointer (some ⟨g32, 2, none⟩), (lv1.getD x12 ((Value.slice none 0 0), (Value.slice none 0 0), (Value.slice none 0 0))).1, .agg #[.string (tx m.name), .string (tx m.version), mv0, mv1, mv2], .bool ((needs_m ((l.getD x12 dMf).needs) m)), v11, .pointer (some ⟨g32, 0, none⟩), .string (tx ((l.getD x12 dMf).name)), .slice (some ⟨g44, 0, none⟩) 1 1, v47, .int .i64 (((x12 + 1) : Nat) : Int)] qq undef), rfl, (by first | omega | (simp; omega) | (simp at *; omega)), (hi15.trans (show users_m_b0 l m (users_m_l0 l m k14) l10 x12 = users_m_l0 l m k14 ((l10 ++ [((l.getD x12 dMf).name)]), (x12 + 1)) from by unfold users_m_b0; rw [if_pos hc27, if_pos hc41] <;> rfl)), (by (try rw [List.length_append, List.length_singleton]); omega), rfl, (Mm.reorder hm46 [0, 1, 2, 3] (by decide) rfl)⟩ ?_)
    omega
  rintro _ w48 ⟨y16, y18, v17, yu0, hx19, hus, rfl, hm49⟩
  have hq50 : users_m l m = users_m_k0 l m y16 y18 := (show users_m l m = users_m_k0 l m y16 y18 from by unfold users_m; rw [hx19] <;> rfl)
  refine then_n (hK6 _ _ ?_)
  refine wp_seq_k (fun K51 hK51 => ?_)
  refine wp_region_lit ?_
  refine lvw 24 (v17) rfl rfl (run_mv rfl rfl) ?_
  simp only [nz1, nz2, nz3]
  refine lst rfl (m_callq 3 hm49 rfl 25 rfl (run_sorts rfl rfl) (.tuple #[]) (sort_own (hm49.row 3 rfl) (by omega)) (fun w52 (hm53 : Mm none (fun _ => True) w w52 [.see (Rn nMf 5 MfN l lv1 lv0) Fl, .see (MfR m mv0 mv1 mv2) Fm, .blk g4 #[.string (tx m.name), .string (tx m.version), mv0, mv1, mv2] 37, .row v17 (srt y16).length ((srt y16).flatMap eS) 9 1]) => ?_))
  simp only [nz1, nz2, nz3]
  refine wpList_nil ?_
  refine then_n (hK51 _ _ ?_)
  refine wp_seq_k (fun K54 hK54 => ?_)
  refine wp_region_lit ?_
  refine lvw 26 (v17) rfl rfl (run_mv rfl rfl) ?_
  simp only [nz1, nz2, nz3]
  refine lst rfl (m_callg 3 hm53 rfl 27 rfl (run_compacts rfl rfl) (compact_own (hm53.row 3 rfl) (by (try rw [srt_len]); omega)) (fun v57 w55 (hm56 : Mm none (fun _ => True) w w55 [.see (Rn nMf 5 MfN l lv1 lv0) Fl, .see (MfR m mv0 mv1 mv2) Fm, .blk g4 #[.string (tx m.name), .string (tx m.version), mv0, mv1, mv2] 37, .row v57 (cpt (srt y16)).length ((cpt (srt y16)).flatMap eS) 9 1]) => ?_))
  simp only [nz1, nz2, nz3]
  refine lvw 4 (v57) rfl rfl (run_as rfl rfl) ?_
  simp only [nz1, nz2, nz3]
  refine wpList_nil ?_
  refine then_n (hK54 _ _ ?_)
  refine wp_ret ?_
  have he58 : users_m l m = (cpt (srt y16)) := (hq50.trans (show users_m_k0 l m y16 y18 = (cpt (srt y16)) from by unfold users_m_k0; rfl))
  exact ⟨rfl, v57, res_t rfl rfl, ⟨⟨_, rfl, v57, (by first | rfl | rw [he58]), by rw [he58]; exact hm56.gives 3 rfl⟩, hm56.below⟩⟩
theorem run_users {o : Oper} {a : Act} {w : World} {x0 x1 : Operand} {v0 v1 : Value} (ho : o.op = .call { callee := .value (.func 18), args := #[x0, x1], argTypes := #[22, 37] }) (h0 : a.eval x0 = v0) (h1 : a.eval x1 = v1) :
    (execOp a.eval o).run Tryd.prog w = .ok (.enter 18 #[v0, v1]) w := by
  unfold execOp
  simp only [ho]
  have hf : a.eval (.func 18) = .func (.func 18) #[] #[] := rfl
  generalize a.eval = f at *
  go_simp
end Go.Proofs.YtpbenhfnebgbiaaDoor.So
