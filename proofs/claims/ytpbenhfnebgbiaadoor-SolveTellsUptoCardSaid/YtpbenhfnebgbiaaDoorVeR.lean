/- Layer 12: a rune of more bytes than one is no mark. -/
import Derived.Test.YtpbenhfnebgbiaaDoorVeJ
namespace Go.Proofs.YtpbenhfnebgbiaaDoor.Ve
open Go.RowKit
open Go.Proofs.YtpbenhfnebgbiaaDoor.Sym Go.Proofs.YtpbenhfnebgbiaaDoor.Mem
open Go.Proofs.YtpbenhfnebgbiaaDoor.Sx hiding Mm m_alloc m_store m_put m_call m_callx m_make m_append r_string r_ixS
set_option linter.unusedVariables false
open Go.Proofs.YtpbenhfnebgbiaaDoor.Pa
attribute [local irreducible] wpList Oper.wp

theorem run_ib {o : Oper} {a : Act} {w : World} {x0 x1 : Operand} {v0 v1 : Value} (ho : o.op = .call { callee := .value (.func 74), args := #[x0, x1], argTypes := #[9, 5] }) (h0 : a.eval x0 = v0) (h1 : a.eval x1 = v1) :
    (execOp a.eval o).run Tryd.prog w = .ok (.enter 74 #[v0, v1]) w := by
  unfold execOp
  simp only [ho]
  have hf : a.eval (.func 74) = .func (.func 74) #[] #[] := rfl
  generalize a.eval = f at *
  go_simp
theorem run_vrune {o : Oper} {a : Act} {w : World} {x0 : Operand} {v0 : Value} (ho : o.op = .call { callee := .value (.func 75), args := #[x0], argTypes := #[21] }) (h0 : a.eval x0 = v0) :
    (execOp a.eval o).run Tryd.prog w = .ok (.enter 75 #[v0]) w := by
  unfold execOp
  simp only [ho]
  have hf : a.eval (.func 75) = .func (.func 75) #[] #[] := rfl
  generalize a.eval = f at *
  go_simp
def irune_m_b0 (r : Int) (rec : Nat → Sum (Nat) (Int)) (p10 : Nat) : Sum (Nat) (Int) :=
  if p10 < marks.length then
    rec (nxp marks p10)
  else
    .inl (nxp marks p10)
def irune_m_l0 (r : Int) : Nat → Nat → Sum (Nat) (Int)
  | 0, zz => .inl zz
  | nq + 1, zz => irune_m_b0 r (irune_m_l0 r nq) zz

def irune_m_k0 (r : Int) (y14 : Nat) : Int :=
  -1

def irune_m_b1 (r : Int) (rec : Int → Sum (Int) (Int)) (x46 : Int) : Sum (Int) (Int) :=
  .inr (-1)
def irune_m_l1 (r : Int) : Nat → Int → Sum (Int) (Int)
  | 0, zz => .inl zz
  | nq + 1, zz => irune_m_b1 r (irune_m_l1 r nq) zz

def irune_m_k1 (r : Int) (y50 : Int) : Int :=
  -1

def irune_m (r : Int) : Int :=
  if r = 65533 then
    fin (irune_m_l0 r ((marks.length - 0) + 1) 0) (fun r => r) (fun zz => irune_m_k0 r zz)
  else
    if (!(vrune_m r)) = true then
      -1
    else
      fin (irune_m_l1 r ((1 : Nat) + 1) ((((rune1 r).length : Nat) : Int) - (1 : Int))) (fun r => r) (fun zz => irune_m_k1 r zz)

set_option maxHeartbeats 4000000 in
set_option maxRecDepth 100000 in
theorem irune_any (r : Int) (w : World)  (hp0 : 128 ≤ r) (hp1 : r ≤ 1114111) : Calls Tryd.prog 67 #[.string (tx marks), .int .i32 (r)] w (fun e w' => e = .returned (.int .i64 ((irune_m r))) ∧ Below w.heap.size w w') := by
  go_enter Tryd.func67, Tryd.ntmps67
  have hm00 := Mm.nil none (fun _ => True) w
  have hm0 := hm00
  refine wp_seq_k (fun K1 hK1 => ?_)
  refine wp_region_lit ?_
  refine lvw 4 (.int .i64 0) rfl rfl (run_as rfl rfl) ?_
  simp only [nz1, nz2, nz3]
  refine wpList_nil ?_
  refine then_n (hK1 _ _ ?_)
  refine wp_block ?_
  refine wp_seq_k (fun K2 hK2 => ?_)
  refine wp_region_lit ?_
  refine lvw 161 (.int .i32 (r)) rfl rfl (run_mv rfl rfl) ?_
  simp only [nz1, nz2, nz3]
  refine lvw 162 (.bool true) rfl rfl ((z_leq 0 r rfl rfl rfl).trans (by rw [(decide_eq_true (show (0 ≤ r) from (by omega)))])) ?_
  simp only [nz1, nz2, nz3]
  refine lvw 163 (.bool true) rfl rfl (run_mv rfl rfl) ?_
  simp only [nz1, nz2, nz3]
  refine lvw 164 (.int .i32 (r)) rfl rfl (run_mv rfl rfl) ?_
  simp only [nz1, nz2, nz3]
  refine lvw 165 (.bool false) rfl rfl ((z_lss r 128 rfl rfl rfl).trans (by rw [(decide_eq_false (show ¬ (r < 128) from (by omega)))])) ?_
  simp only [nz1, nz2, nz3]
  refine lvw 166 (.bool false) rfl rfl (run_pick rfl rfl rfl) ?_
  simp only [nz1, nz2, nz3]
  refine lvw 160 (.bool false) rfl rfl (run_as rfl rfl) ?_
  simp only [nz1, nz2, nz3]
  refine wpList_nil ?_
  refine then_n (hK2 _ _ ?_)
  refine cond_f rfl ?_
  refine wp_seq_k (fun K3 hK3 => ?_)
  refine wp_region_lit ?_
  refine lvw 172 (.int .i32 (r)) rfl rfl (run_mv rfl rfl) ?_
  simp only [nz1, nz2, nz3]
  refine lvw 173 (.bool (decide (r = 65533))) rfl rfl (z_eql r 65533 rfl rfl rfl) ?_
  simp only [nz1, nz2, nz3]
  refine lvw 171 (.bool (decide (r = 65533))) rfl rfl (run_as rfl rfl) ?_
  simp only [nz1, nz2, nz3]
  refine wpList_nil ?_
  refine then_n (hK3 _ _ ?_)
  refine cond_d (r = 65533) rfl (fun hc4 => ?_) (fun hc4 => ?_)
  · refine wp_seq_k (fun K5 hK5 => ?_)
    refine wp_seq_k (fun K6 hK6 => ?_)
    refine wp_region_lit ?_
    refine lvw 174 (.string (tx marks)) rfl rfl (run_mv rfl rfl) ?_
    simp only [nz1, nz2, nz3]
    refine lst rfl (m_range marks hm0 175 rfl rfl Tryd.underlying9 rfl (fun g9 w7 (hm8 : Mm none (fun _ => True) w w7 [.itr g9 (tx marks) 0]) => ?_))
    simp only [nz1, nz2, nz3]
    refine wpList_nil ?_
    refine then_n (hK6 _ _ ?_)
    refine wp_cutK (fun a' w' => ∃ (y14 : Nat) (yu0 : Nat → Value), irune_m_l0 r ((marks.length - 0) + 1) 0 = .inl y14 ∧ a' = ⟨#[.string (tx marks), .int .i32 (r), undef, undef, yu0 0, yu0 1, yu0 2, undef, undef, undef, undef, undef, undef, undef, undef, undef, undef, undef, undef, undef, undef, undef, undef, undef, undef, undef, undef, undef, undef, undef, undef, undef, undef, undef, undef, undef, undef, undef, undef, undef, undef, undef, undef, undef, undef, undef, undef, undef, undef, undef, undef, undef, undef, undef, undef, undef, undef, undef, undef, undef, undef, undef, undef, undef, undef, undef, undef, undef, undef, undef, undef, undef, undef, undef, undef, undef, undef, undef, undef, undef, undef, undef, undef, undef, undef, undef, undef, undef, undef, undef, undef, undef, undef, undef, undef, undef, undef, undef, undef, undef, undef, undef, undef, undef, undef, undef, undef, undef, undef, undef, undef, undef, undef, undef, undef, undef, undef, undef, undef, undef, undef, undef, undef, undef, undef, undef, undef, undef, undef, undef, undef, undef, undef, undef, undef, undef, undef, undef, undef, undef, undef, undef, undef, undef, undef, undef, undef, undef, undef, undef, undef, undef, undef, undef, undef, undef, undef, undef, undef, undef, .bool false, .int .i32 (r), .bool true, .bool true, .int .i32 (r), .bool false, .bool false, undef, undef, undef, undef, .bool (decide (r = 65533)), .int .i32 (r), .bool (decide (r = 65533)), .string (tx marks), .pointer (some ⟨g9, 0, none⟩), yu0 3, yu0 4, yu0 5, yu0 6, yu0 7, yu0 8, yu0 9, undef, undef, undef, undef], []⟩ ∧ Mm none (fun _ => True) w w' [.itr g9 (tx marks) y14]) ?_ ?_
    · refine wp_block ?_
      refine wp_loop_n (fun n' a' w' => ∃ (n11 : Nat) (p10 : Nat) (u0 : Nat → Value), n' = n11 ∧ (marks.length - p10) < n11 ∧ irune_m_l0 r ((marks.length - 0) + 1) 0 = irune_m_l0 r n11 p10 ∧ a' = ⟨#[.string (tx marks), .int .i32 (r), undef, undef, u0 0, u0 1, u0 2, undef, undef, undef, undef, undef, undef, undef, undef, undef, undef, undef, undef, undef, undef, undef, undef, undef, undef, undef, undef, undef, undef, undef, undef, undef, undef, undef, undef, undef, undef, undef, undef, undef, undef, undef, undef, undef, undef, undef, undef, undef, undef, undef, undef, undef, undef, undef, undef, undef, undef, undef, undef, undef, undef, undef, undef, undef, undef, undef, undef, undef, undef, undef, undef, undef, undef, undef, undef, undef, undef, undef, undef, undef, undef, undef, undef, undef, undef, undef, undef, undef, undef, undef, undef, undef, undef, undef, undef, undef, undef, undef, undef, undef, undef, undef, undef, undef, undef, undef, undef, undef, undef, undef, undef, undef, undef, undef, undef, undef, undef, undef, undef, undef, undef, undef, undef, undef, undef, undef, undef, undef, undef, undef, undef, undef, undef, undef, undef, undef, undef, undef, undef, undef, undef, undef, undef, undef, undef, undef, undef, undef, undef, undef, undef, undef, undef, undef, undef, undef, undef, undef, undef, undef, .bool false, .int .i32 (r), .bool true, .bool true, .int .i32 (r), .bool false, .bool false, undef, undef, undef, undef, .bool (decide (r = 65533)), .int .i32 (r), .bool (decide (r = 65533)), .string (tx marks), .pointer (some ⟨g9, 0, none⟩), u0 3, u0 4, u0 5, u0 6, u0 7, u0 8, u0 9, undef, undef, undef, undef], []⟩ ∧ Mm none (fun _ => True) w w' [.itr g9 (tx marks) p10]) ⟨((marks.length - 0) + 1), 0, (fun qq => List.getD [.int .i64 0, undef, undef, undef, undef, undef, undef, undef, undef, undef] qq undef), rfl, Nat.lt_succ_self _, rfl, rfl, hm8⟩ ?_
      rintro n11 _ w16 ⟨_, p10, u0, rfl, hl20, hi13, rfl, hm17⟩ R18 hR18
      obtain ⟨k12, rfl⟩ : ∃ k, n11 = k + 1 := ⟨n11 - 1, by omega⟩
      refine wp_seq_k (fun K21 hK21 => ?_)
      refine wp_region_lit ?_
      have hf24 : (p10 < marks.length ∧ p10 < nxp marks p10 ∧ nxp marks p10 ≤ p10 + 4 ∧ nxp marks p10 ≤ marks.length) ∨ (marks.length ≤ p10 ∧ nxp marks p10 = p10) := nxp_or marks p10
      have hf25 : (dec marks p10).1 ≤ 1114111 := dec_max marks p10
      refine lst rfl (m_next marks 0 hm17 rfl 176 rfl rfl rfl (fun w22 (hm23 : Mm none (fun _ => True) w w22 [.itr g9 (tx marks) (nxp marks p10)]) => ?_))
      simp only [nz1, nz2, nz3]
      refine lvw 177 (.bool (decide (p10 < marks.length))) rfl rfl (r_ext0 marks p10 rfl rfl) ?_
      simp only [nz1, nz2, nz3]
      refine wpList_nil ?_
      refine then_n (hK21 _ _ ?_)
      refine wp_seq_k (fun K26 hK26 => ?_)
      refine cond_d (p10 < marks.length) rfl (fun hc27 => ?_) (fun hc27 => ?_)
      rotate_left
      · refine wp_exit ?_
        refine then_x ?_
        refine then_x ?_
        refine blk_x ?_
        refine then_n ?_
        exact ⟨(nxp marks p10), (fun qq => List.getD [u0 0, u0 1, u0 2, nxv marks p10, .bool (decide (p10 < marks.length)), u0 5, u0 6, u0 7, u0 8, u0 9] qq undef), (hi13.trans (show irune_m_b0 r (irune_m_l0 r k12) p10 = .inl (nxp marks p10) from by unfold irune_m_b0; rw [if_neg hc27] <;> rfl)), rfl, hm23⟩
      refine wp_skip ?_
      refine then_n (hK26 _ _ ?_)
      refine wp_block ?_
      refine wp_seq_k (fun K28 hK28 => ?_)
      refine wp_region_lit ?_
      refine lvw 178 (.int .i64 ((p10 : Nat) : Int)) rfl rfl (r_ext1 (s := marks) (i := p10) (by first | assumption | omega) rfl rfl) ?_
      simp only [nz1, nz2, nz3]
      refine lvw 179 (.int .i32 (((dec marks p10).1 : Nat) : Int)) rfl rfl (r_ext2 (s := marks) (i := p10) (by first | assumption | omega) rfl rfl) ?_
      simp only [nz1, nz2, nz3]
      refine lvw 5 (.int .i64 ((p10 : Nat) : Int)) rfl rfl (run_as rfl rfl) ?_
      simp only [nz1, nz2, nz3]
      refine lvw 6 (.int .i32 (((dec marks p10).1 : Nat) : Int)) rfl rfl (run_as rfl rfl) ?_
      simp only [nz1, nz2, nz3]
      refine wpList_nil ?_
      refine then_n (hK28 _ _ ?_)
      refine wp_seq_k (fun K29 hK29 => ?_)
      refine wp_region_lit ?_
      refine lvw 180 (.int .i32 (((dec marks p10).1 : Nat) : Int)) rfl rfl (run_mv rfl rfl) ?_
      simp only [nz1, nz2, nz3]
      refine lvw 181 (.bool false) rfl rfl ((r_eql ((dec marks p10).1) 65533 rfl rfl rfl).trans (by rw [(decide_eq_false (show ¬ ((dec marks p10).1 = 65533) from (by have := marks_dec _ (by assumption); omega)))])) ?_
      simp only [nz1, nz2, nz3]
      refine wpList_nil ?_
      refine then_n (hK29 _ _ ?_)
      refine cond_f rfl ?_
      refine wp_skip ?_
      refine blk_n ?_
      refine then_n (hR18 _ _ _ ⟨k12, (nxp marks p10), (fun qq => List.getD [u0 0, .int .i64 ((p10 : Nat) : Int), .int .i32 (((dec marks p10).1 : Nat) : Int), nxv marks p10, .bool (decide (p10 < marks.length)), .int .i64 ((p10 : Nat) : Int), .int .i32 (((dec marks p10).1 : Nat) : Int), .int .i32 (((dec marks p10).1 : Nat) : Int), .bool false, u0 9] qq undef), rfl, (by first | omega | (simp; omega) | (simp at *; omega)), (hi13.trans (show irune_m_b0 r (irune_m_l0 r k12) p10 = irune_m_l0 r k12 (nxp marks p10) from by unfold irune_m_b0; rw [if_pos hc27] <;> rfl)), rfl, hm23⟩ ?_)
      omega
    rintro _ w30 ⟨y14, yu0, hx15, rfl, hm31⟩
    have hq32 : irune_m r = irune_m_k0 r y14 := (show irune_m r = irune_m_k0 r y14 from by unfold irune_m; rw [if_pos hc4, hx15] <;> rfl)
    refine then_n (hK5 _ _ ?_)
    refine wp_seq_k (fun K33 hK33 => ?_)
    refine wp_region_lit ?_
    refine lvw 4 (.int .i64 (-1)) rfl rfl (run_as rfl rfl) ?_
    simp only [nz1, nz2, nz3]
    refine wpList_nil ?_
    refine then_n (hK33 _ _ ?_)
    refine wp_ret ?_
    refine blk_r ?_
    have he34 : irune_m r = -1 := (hq32.trans (show irune_m_k0 r y14 = -1 from by unfold irune_m_k0; rfl))
    exact ⟨rfl, .int .i64 (-1), res_t rfl rfl, ⟨by (rw [he34]; try rfl), hm31.below⟩⟩
  refine wp_seq_k (fun K35 hK35 => ?_)
  refine wp_region_lit ?_
  refine lvw 184 (.int .i32 (r)) rfl rfl (run_mv rfl rfl) ?_
  simp only [nz1, nz2, nz3]
  refine lst rfl (m_call hm0 185 (.bool ((vrune_m r))) rfl (run_vrune rfl rfl) (vrune_any r  _  ) (fun w36 (hm37 : Mm none (fun _ => True) w w36 []) => ?_))
  simp only [nz1, nz2, nz3]
  refine lvw 186 (.bool (!(vrune_m r))) rfl rfl (r_not (vrune_m r) rfl rfl) ?_
  simp only [nz1, nz2, nz3]
  refine lvw 183 (.bool (!(vrune_m r))) rfl rfl (run_as rfl rfl) ?_
  simp only [nz1, nz2, nz3]
  refine wpList_nil ?_
  refine then_n (hK35 _ _ ?_)
  refine cond_B (!(vrune_m r)) rfl (fun hc38 => ?_) (fun hc38 => ?_)
  · refine wp_seq_k (fun K39 hK39 => ?_)
    refine wp_region_lit ?_
    refine lvw 4 (.int .i64 (-1)) rfl rfl (run_as rfl rfl) ?_
    simp only [nz1, nz2, nz3]
    refine wpList_nil ?_
    refine then_n (hK39 _ _ ?_)
    refine wp_ret ?_
    refine blk_r ?_
    have he40 : irune_m r = -1 := (show irune_m r = -1 from by unfold irune_m; rw [if_neg hc4, if_pos hc38] <;> rfl)
    exact ⟨rfl, .int .i64 (-1), res_t rfl rfl, ⟨by (rw [he40]; try rfl), hm37.below⟩⟩
  refine Go.wp_scope_straight ?_
  refine wp_seq_k (fun K41 hK41 => ?_)
  refine wp_region_lit ?_
  refine lvw 17 (.int .i32 (r)) rfl rfl (run_mv rfl rfl) ?_
  simp only [nz1, nz2, nz3]
  refine lvw 18 (.string (tx (rune1 r))) rfl rfl (r_runeI r Tryd.underlying21 Tryd.underlying9 rfl rfl) ?_
  simp only [nz1, nz2, nz3]
  refine lvw 7 (.string (tx (rune1 r))) rfl rfl (run_as rfl rfl) ?_
  simp only [nz1, nz2, nz3]
  refine wpList_nil ?_
  refine then_n (hK41 _ _ ?_)
  refine wp_seq_k (fun K42 hK42 => ?_)
  refine wp_region_lit ?_
  refine lvw 19 (.string (tx (rune1 r))) rfl rfl (run_mv rfl rfl) ?_
  simp only [nz1, nz2, nz3]
  refine lvw 20 (.int .i64 (((rune1 r).length : Nat) : Int)) rfl rfl (t_len rfl Tryd.underlying9 rfl) ?_
  simp only [nz1, nz2, nz3]
  refine lvw 21 (.int .i64 (((((rune1 r).length : Nat) : Int) - (1 : Int)))) rfl rfl (z_sub (((rune1 r).length : Nat) : Int) (1 : Int) _ (by have := rune1_le r; rw [IntKind.wrap_i64]; omega) rfl rfl rfl) ?_
  simp only [nz1, nz2, nz3]
  refine lvw 8 (.int .i64 (((((rune1 r).length : Nat) : Int) - (1 : Int)))) rfl rfl (run_as rfl rfl) ?_
  simp only [nz1, nz2, nz3]
  refine wpList_nil ?_
  refine then_n (hK42 _ _ ?_)
  refine wp_seq_k (fun K43 hK43 => ?_)
  refine wp_region_lit ?_
  refine lvw 22 (.int .i64 (((((rune1 r).length : Nat) : Int) - (1 : Int)))) rfl rfl (run_mv rfl rfl) ?_
  simp only [nz1, nz2, nz3]
  refine lvw 9 (.int .i64 (((((rune1 r).length : Nat) : Int) - (1 : Int)))) rfl rfl (run_as rfl rfl) ?_
  simp only [nz1, nz2, nz3]
  refine wpList_nil ?_
  refine then_n (hK43 _ _ ?_)
  refine wp_seq_k (fun K44 hK44 => ?_)
  refine wp_region_lit ?_
  refine lvw 10 (.int .i64 0) rfl rfl (run_as rfl rfl) ?_
  simp only [nz1, nz2, nz3]
  refine wpList_nil ?_
  refine then_n (hK44 _ _ ?_)
  refine wp_seq_k (fun K45 hK45 => ?_)
  refine wp_cutK (fun a' w' => ∃ (y50 : Int) (yu1 : Nat → Value), irune_m_l1 r ((1 : Nat) + 1) ((((rune1 r).length : Nat) : Int) - (1 : Int)) = .inl y50 ∧ (y50 = (((rune1 r).length : Nat) : Int) - 1 ∧ 2 ≤ (rune1 r).length ∧ (rune1 r).length ≤ 4) ∧ a' = ⟨#[.string (tx marks), .int .i32 (r), undef, undef, yu1 0, undef, undef, .string (tx (rune1 r)), .int .i64 (((((rune1 r).length : Nat) : Int) - (1 : Int))), .int .i64 (y50), yu1 1, yu1 2, yu1 3, undef, undef, undef, undef, .int .i32 (r), .string (tx (rune1 r)), .string (tx (rune1 r)), .int .i64 (((rune1 r).length : Nat) : Int), .int .i64 (((((rune1 r).length : Nat) : Int) - (1 : Int))), .int .i64 (((((rune1 r).length : Nat) : Int) - (1 : Int))), yu1 4, yu1 5, yu1 6, yu1 7, yu1 8, yu1 9, yu1 10, yu1 11, yu1 12, yu1 13, yu1 14, yu1 15, yu1 16, yu1 17, yu1 18, yu1 19, yu1 20, yu1 21, yu1 22, yu1 23, yu1 24, yu1 25, yu1 26, yu1 27, yu1 28, yu1 29, yu1 30, yu1 31, yu1 32, yu1 33, yu1 34, yu1 35, yu1 36, yu1 37, yu1 38, yu1 39, yu1 40, yu1 41, yu1 42, yu1 43, yu1 44, yu1 45, yu1 46, yu1 47, yu1 48, yu1 49, yu1 50, yu1 51, yu1 52, yu1 53, yu1 54, yu1 55, yu1 56, yu1 57, yu1 58, yu1 59, yu1 60, yu1 61, yu1 62, yu1 63, yu1 64, yu1 65, yu1 66, yu1 67, yu1 68, yu1 69, yu1 70, yu1 71, yu1 72, yu1 73, yu1 74, yu1 75, yu1 76, yu1 77, yu1 78, yu1 79, undef, undef, undef, undef, undef, undef, undef, undef, undef, undef, undef, undef, undef, undef, undef, undef, undef, undef, undef, undef, undef, undef, undef, undef, undef, undef, undef, undef, undef, undef, undef, undef, undef, undef, undef, undef, undef, undef, undef, undef, undef, undef, undef, undef, undef, undef, undef, undef, undef, undef, undef, undef, undef, undef, undef, undef, undef, undef, undef, undef, undef, .bool false, .int .i32 (r), .bool true, .bool true, .int .i32 (r), .bool false, .bool false, undef, undef, undef, undef, .bool (decide (r = 65533)), .int .i32 (r), .bool (decide (r = 65533)), undef, undef, undef, undef, undef, undef, undef, undef, undef, .bool (!(vrune_m r)), .int .i32 (r), .bool ((vrune_m r)), .bool (!(vrune_m r))], []⟩ ∧ Mm none (fun _ => True) w w' []) ?_ ?_
  · refine wp_block ?_
    refine wp_loop_n (fun n' a' w' => ∃ (n47 : Nat) (x46 : Int) (u1 : Nat → Value), n' = n47 ∧ (1 : Nat) < n47 ∧ irune_m_l1 r ((1 : Nat) + 1) ((((rune1 r).length : Nat) : Int) - (1 : Int)) = irune_m_l1 r n47 x46 ∧ (x46 = (((rune1 r).length : Nat) : Int) - 1 ∧ 2 ≤ (rune1 r).length ∧ (rune1 r).length ≤ 4) ∧ a' = ⟨#[.string (tx marks), .int .i32 (r), undef, undef, u1 0, undef, undef, .string (tx (rune1 r)), .int .i64 (((((rune1 r).length : Nat) : Int) - (1 : Int))), .int .i64 (x46), u1 1, u1 2, u1 3, undef, undef, undef, undef, .int .i32 (r), .string (tx (rune1 r)), .string (tx (rune1 r)), .int .i64 (((rune1 r).length : Nat) : Int), .int .i64 (((((rune1 r).length : Nat) : Int) - (1 : Int))), .int .i64 (((((rune1 r).length : Nat) : Int) - (1 : Int))), u1 4, u1 5, u1 6, u1 7, u1 8, u1 9, u1 10, u1 11, u1 12, u1 13, u1 14, u1 15, u1 16, u1 17, u1 18, u1 19, u1 20, u1 21, u1 22, u1 23, u1 24, u1 25, u1 26, u1 27, u1 28, u1 29, u1 30, u1 31, u1 32, u1 33, u1 34, u1 35, u1 36, u1 37, u1 38, u1 39, u1 40, u1 41, u1 42, u1 43, u1 44, u1 45, u1 46, u1 47, u1 48, u1 49, u1 50, u1 51, u1 52, u1 53, u1 54, u1 55, u1 56, u1 57, u1 58, u1 59, u1 60, u1 61, u1 62, u1 63, u1 64, u1 65, u1 66, u1 67, u1 68, u1 69, u1 70, u1 71, u1 72, u1 73, u1 74, u1 75, u1 76, u1 77, u1 78, u1 79, undef, undef, undef, undef, undef, undef, undef, undef, undef, undef, undef, undef, undef, undef, undef, undef, undef, undef, undef, undef, undef, undef, undef, undef, undef, undef, undef, undef, undef, undef, undef, undef, undef, undef, undef, undef, undef, undef, undef, undef, undef, undef, undef, undef, undef, undef, undef, undef, undef, undef, undef, undef, undef, undef, undef, undef, undef, undef, undef, undef, undef, .bool false, .int .i32 (r), .bool true, .bool true, .int .i32 (r), .bool false, .bool false, undef, undef, undef, undef, .bool (decide (r = 65533)), .int .i32 (r), .bool (decide (r = 65533)), undef, undef, undef, undef, undef, undef, undef, undef, undef, .bool (!(vrune_m r)), .int .i32 (r), .bool ((vrune_m r)), .bool (!(vrune_m r))], []⟩ ∧ Mm none (fun _ => True) w w' []) ⟨((1 : Nat) + 1), ((((rune1 r).length : Nat) : Int) - (1 : Int)), (fun qq => bif Nat.blt qq 24 then List.getD [.int .i64 0, .int .i64 0, undef, undef, undef, undef, undef, undef, undef, undef, undef, undef, undef, undef, undef, undef, undef, undef, undef, undef, undef, undef, undef, undef] qq undef else bif Nat.blt qq 48 then List.getD [undef, undef, undef, undef, undef, undef, undef, undef, undef, undef, undef, undef, undef, undef, undef, undef, undef, undef, undef, undef, undef, undef, undef, undef] (qq - 24) undef else bif Nat.blt qq 72 then List.getD [undef, undef, undef, undef, undef, undef, undef, undef, undef, undef, undef, undef, undef, undef, undef, undef, undef, undef, undef, undef, undef, undef, undef, undef] (qq - 48) undef else List.getD [undef, undef, undef, undef, undef, undef, undef, undef] (qq - 72) undef), rfl, Nat.lt_succ_self _, rfl, ⟨rfl, (rune1_hi r hp0).1, (rune1_hi r hp0).2.1⟩, rfl, hm37⟩ ?_
    rintro n47 _ w52 ⟨_, x46, u1, rfl, hl56, hi49, hix, rfl, hm53⟩ R54 hR54
    obtain ⟨k48, rfl⟩ : ∃ k, n47 = k + 1 := ⟨n47 - 1, by omega⟩
    refine wp_seq_k (fun K57 hK57 => ?_)
    refine wp_seq_k (fun K58 hK58 => ?_)
    refine wp_region_lit ?_
    refine lvw 23 (.int .i64 (x46)) rfl rfl (run_mv rfl rfl) ?_
    simp only [nz1, nz2, nz3]
    refine lvw 24 (.string (tx marks)) rfl rfl (run_mv rfl rfl) ?_
    simp only [nz1, nz2, nz3]
    refine lvw 25 (.int .i64 ((marks.length : Nat) : Int)) rfl rfl (t_len rfl Tryd.underlying9 rfl) ?_
    simp only [nz1, nz2, nz3]
    refine lvw 26 (.bool true) rfl rfl ((z_lss x46 ((marks.length : Nat) : Int) rfl rfl rfl).trans (by rw [(decide_eq_true (show (x46 < ((marks.length : Nat) : Int)) from (by have := marks_len; omega)))])) ?_
    simp only [nz1, nz2, nz3]
    refine wpList_nil ?_
    refine then_n (hK58 _ _ ?_)
    refine cond_t rfl ?_
    refine wp_skip ?_
    refine then_n (hK57 _ _ ?_)
    refine wp_block ?_
    refine Go.wp_scope_straight ?_
    refine wp_seq_k (fun K59 hK59 => ?_)
    refine wp_seq_k (fun K60 hK60 => ?_)
    have hm61 := hm53.drew
    refine wp_region_held_drew (S := fun w' => True) (by kernel_rfl) (trivial) (fun _ => ?_)
    generalize w52.drew = w62 at *
    refine tk 0 27 (.string (tx marks)) rfl rfl (fun _ hw => run_mv rfl rfl) trivial ?_
    simp only [nz1, nz2, nz3]
    refine tk 1 28 (.int .i64 (x46)) rfl rfl (fun _ hw => run_mv rfl rfl) trivial ?_
    simp only [nz1, nz2, nz3]
    refine tk 2 29 (.int .u8 ((by' marks (x46.toNat) : Nat) : Int)) rfl rfl (fun _ hw => t_char marks (x46.toNat) (by have := marks_len; omega) Tryd.underlying9 rfl rfl (show (Value.int .i64 x46) = .int .i64 (((x46.toNat) : Nat) : Int) from by congr 1; omega)) trivial ?_
    simp only [nz1, nz2, nz3]
    refine tk 3 30 (.string (tx (rune1 r))) rfl rfl (fun _ hw => run_mv rfl rfl) trivial ?_
    simp only [nz1, nz2, nz3]
    refine tk 4 31 (.int .i64 (((((rune1 r).length : Nat) : Int) - (1 : Int)))) rfl rfl (fun _ hw => run_mv rfl rfl) trivial ?_
    simp only [nz1, nz2, nz3]
    refine tk 5 32 (.int .u8 ((by' (rune1 r) (((((rune1 r).length : Nat) : Int) - (1 : Int)).toNat) : Nat) : Int)) rfl rfl (fun _ hw => t_char (rune1 r) (((((rune1 r).length : Nat) : Int) - (1 : Int)).toNat) (by omega) Tryd.underlying9 rfl rfl (show (Value.int .i64 ((((rune1 r).length : Nat) : Int) - (1 : Int))) = .int .i64 (((((((rune1 r).length : Nat) : Int) - (1 : Int)).toNat) : Nat) : Int) from by congr 1; omega)) trivial ?_
    simp only [nz1, nz2, nz3]
    refine tk 6 33 (.bool true) rfl rfl (fun _ hw => (r_neq (by' marks (x46.toNat)) (by' (rune1 r) (((((rune1 r).length : Nat) : Int) - (1 : Int)).toNat)) rfl rfl rfl).trans (by rw [(decide_eq_true (show (¬ by' marks (x46.toNat) = by' (rune1 r) (((((rune1 r).length : Nat) : Int) - (1 : Int)).toNat)) from (by have h1 := marks_lo (x46).toNat; have h2 := hi_at r hp0 (((((rune1 r).length : Nat) : Int) - (1 : Int))).toNat (by omega); omega)))])) trivial ?_
    simp only [nz1, nz2, nz3]
    refine wpAnyH_done (by kernel_rfl) ?_ _
    refine then_n (hK60 _ _ ?_)
    refine cond_t rfl ?_
    refine wp_seq_k (fun K63 hK63 => ?_)
    have hm64 := hm61.drew
    refine wp_region_held_drew (S := fun w' => True) (by kernel_rfl) (trivial) (fun _ => ?_)
    generalize w62.drew = w65 at *
    refine tk 0 34 (.string (tx marks)) rfl rfl (fun _ hw => run_mv rfl rfl) trivial ?_
    simp only [nz1, nz2, nz3]
    refine tk 1 35 (.int .i64 (x46)) rfl rfl (fun _ hw => run_mv rfl rfl) trivial ?_
    simp only [nz1, nz2, nz3]
    refine tk 2 36 (.int .i64 ((x46 + (1 : Int)))) rfl rfl (fun _ hw => z_add x46 (1 : Int) _ (by rw [IntKind.wrap_i64]; omega) rfl rfl rfl) trivial ?_
    simp only [nz1, nz2, nz3]
    refine tk 3 37 (.string (tx (marks.drop ((x46 + (1 : Int)).toNat)))) rfl rfl (fun _ hw => t_from marks ((x46 + (1 : Int)).toNat) (by have := marks_len; omega) Tryd.underlying9 rfl rfl (show (Value.int .i64 (x46 + (1 : Int))) = .int .i64 (((x46 + (1 : Int)).toNat : Nat) : Int) from by congr 1; omega)) trivial ?_
    simp only [nz1, nz2, nz3]
    refine tk 4 38 (.string (tx (rune1 r))) rfl rfl (fun _ hw => run_mv rfl rfl) trivial ?_
    simp only [nz1, nz2, nz3]
    refine tk 5 39 (.int .i64 (((((rune1 r).length : Nat) : Int) - (1 : Int)))) rfl rfl (fun _ hw => run_mv rfl rfl) trivial ?_
    simp only [nz1, nz2, nz3]
    refine tk 6 40 (.int .u8 ((by' (rune1 r) (((((rune1 r).length : Nat) : Int) - (1 : Int)).toNat) : Nat) : Int)) rfl rfl (fun _ hw => t_char (rune1 r) (((((rune1 r).length : Nat) : Int) - (1 : Int)).toNat) (by omega) Tryd.underlying9 rfl rfl (show (Value.int .i64 ((((rune1 r).length : Nat) : Int) - (1 : Int))) = .int .i64 (((((((rune1 r).length : Nat) : Int) - (1 : Int)).toNat) : Nat) : Int) from by congr 1; omega)) trivial ?_
    simp only [nz1, nz2, nz3]
    refine one_ready 7 (by kernel_rfl) ?_
    refine opd rfl (wanted_none rfl) (m_call hm64 41 (.int .i64 ((ib_m (marks.drop ((x46 + (1 : Int)).toNat)) (by' (rune1 r) (((((rune1 r).length : Nat) : Int) - (1 : Int)).toNat))))) rfl (run_ib rfl rfl rfl) (ib_any (marks.drop ((x46 + (1 : Int)).toNat)) (by' (rune1 r) (((((rune1 r).length : Nat) : Int) - (1 : Int)).toNat))  _  ) (fun w66 (hm67 : Mm none (fun _ => True) w w66 []) => ?_))
    refine ⟨trivial, ?_⟩
    simp only [nz1, nz2, nz3]
    refine one_ready 8 (by kernel_rfl) ?_
    refine opd rfl (wanted_none rfl) (w_value 11 (.int .i64 ((ib_m (marks.drop ((x46 + (1 : Int)).toNat)) (by' (rune1 r) (((((rune1 r).length : Nat) : Int) - (1 : Int)).toNat))))) rfl (run_as rfl rfl) ⟨trivial, ?_⟩)
    simp only [nz1, nz2, nz3]
    refine wpAnyH_done (by kernel_rfl) ?_ _
    refine then_n (hK63 _ _ ?_)
    refine wp_seq_k (fun K68 hK68 => ?_)
    refine wp_seq_k (fun K69 hK69 => ?_)
    refine wp_region_lit ?_
    refine lvw 42 (.int .i64 ((ib_m (marks.drop ((x46 + (1 : Int)).toNat)) (by' (rune1 r) (((((rune1 r).length : Nat) : Int) - (1 : Int)).toNat))))) rfl rfl (run_mv rfl rfl) ?_
    simp only [nz1, nz2, nz3]
    refine lvw 43 (.bool true) rfl rfl ((z_lss (ib_m (marks.drop ((x46 + (1 : Int)).toNat)) (by' (rune1 r) (((((rune1 r).length : Nat) : Int) - (1 : Int)).toNat))) 0 rfl rfl rfl).trans (by rw [(decide_eq_true (show ((ib_m (marks.drop ((x46 + (1 : Int)).toNat)) (by' (rune1 r) (((((rune1 r).length : Nat) : Int) - (1 : Int)).toNat))) < 0) from (ib_marks _ _ (hi_at r hp0 _ (by omega)) (by_lt _ _))))])) ?_
    simp only [nz1, nz2, nz3]
    refine wpList_nil ?_
    refine then_n (hK69 _ _ ?_)
    refine cond_t rfl ?_
    refine wp_seq_k (fun K70 hK70 => ?_)
    refine wp_region_lit ?_
    refine lvw 4 (.int .i64 (-1)) rfl rfl (run_as rfl rfl) ?_
    simp only [nz1, nz2, nz3]
    refine wpList_nil ?_
    refine then_n (hK70 _ _ ?_)
    refine wp_ret ?_
    refine then_r ?_
    refine then_r ?_
    refine scope_r ?_
    refine blk_r ?_
    refine then_r ?_
    refine blk_r ?_
    refine then_r ?_
    refine then_r ?_
    refine scope_r ?_
    refine blk_r ?_
    have he71 : irune_m_l1 r ((1 : Nat) + 1) ((((rune1 r).length : Nat) : Int) - (1 : Int)) = .inr (-1) := (hi49.trans (show irune_m_b1 r (irune_m_l1 r k48) x46 = .inr (-1) from by unfold irune_m_b1; rfl))
    have he72 : irune_m r = -1 := (show irune_m r = -1 from by unfold irune_m; rw [if_neg hc4, if_neg hc38, he71] <;> rfl)
    exact ⟨rfl, .int .i64 (-1), res_t rfl rfl, ⟨by (rw [he72]; try rfl), hm67.below⟩⟩
  rintro _ w73 ⟨y50, yu1, hx51, hix, rfl, hm74⟩
  have hq75 : irune_m r = irune_m_k1 r y50 := (show irune_m r = irune_m_k1 r y50 from by unfold irune_m; rw [if_neg hc4, if_neg hc38, hx51] <;> rfl)
  refine then_n (hK45 _ _ ?_)
  refine wp_seq_k (fun K76 hK76 => ?_)
  refine wp_seq_k (fun K77 hK77 => ?_)
  refine wp_region_lit ?_
  refine lvw 4 (.int .i64 (-1)) rfl rfl (run_as rfl rfl) ?_
  simp only [nz1, nz2, nz3]
  refine wpList_nil ?_
  refine then_n (hK77 _ _ ?_)
  refine wp_ret ?_
  refine then_r ?_
  refine scope_r ?_
  refine blk_r ?_
  have he78 : irune_m r = -1 := (hq75.trans (show irune_m_k1 r y50 = -1 from by unfold irune_m_k1; rfl))
  exact ⟨rfl, .int .i64 (-1), res_t rfl rfl, ⟨by (rw [he78]; try rfl), hm74.below⟩⟩
theorem run_irune {o : Oper} {a : Act} {w : World} {x0 : Operand} {v0 : Value} (ho : o.op = .call { callee := .value (.func 67), args := #[x0], argTypes := #[21] }) (h0 : a.eval x0 = v0) :
    (execOp a.eval o).run Tryd.prog w = .ok (.enter 67 #[v0]) w := by
  unfold execOp
  simp only [ho]
  have hf : a.eval (.func 67) = .func (.func 67) #[] #[] := rfl
  generalize a.eval = f at *
  go_simp
theorem irune_l0 (r : Int) : ∀ n p, ∃ q, irune_m_l0 r n p = .inl q
  | 0, p => ⟨p, rfl⟩
  | n + 1, p => by
    have E : irune_m_l0 r (n + 1) p = irune_m_b0 r (irune_m_l0 r n) p := rfl
    rw [E]
    unfold irune_m_b0
    split
    · exact irune_l0 r n _
    · exact ⟨_, rfl⟩
theorem irune_no (r : Int) : irune_m r = -1 := by
  unfold irune_m
  split
  · obtain ⟨q, hq⟩ := irune_l0 r _ _
    rw [hq]
    rfl
  · split <;> rfl
theorem run_irune2 {o : Oper} {a : Act} {w : World} {x0 x1 : Operand} {v0 v1 : Value} (ho : o.op = .call { callee := .value (.func 67), args := #[x0, x1], argTypes := #[9, 21] }) (h0 : a.eval x0 = v0) (h1 : a.eval x1 = v1) :
    (execOp a.eval o).run Tryd.prog w = .ok (.enter 67 #[v0, v1]) w := by
  unfold execOp
  simp only [ho]
  have hf : a.eval (.func 67) = .func (.func 67) #[] #[] := rfl
  generalize a.eval = f at *
  go_simp
def irune2_m (s : List UInt8) (r : Int) : Int := irune_m r
theorem irune2_any (s : List UInt8) (r : Int) (w : World) (h : s = marks) (h0 : 128 ≤ r) (h1 : r ≤ 1114111) : Calls Tryd.prog 67 #[.string (tx s), .int .i32 r] w (fun e w' => e = .returned (.int .i64 (irune2_m s r)) ∧ Below w.heap.size w w') := by
  subst h
  exact irune_any r w h0 h1
def crhi_m (r : Int) : Bool :=
  (decide (0 ≤ (irune2_m marks r)))

set_option maxHeartbeats 4000000 in
set_option maxRecDepth 100000 in
theorem crhi_any (r : Int) (w : World)  (hp0 : 128 ≤ r) (hp1 : r ≤ 1114111) : Calls Tryd.prog 55 #[.string (tx marks), .int .i32 (r)] w (fun e w' => e = .returned (.bool ((crhi_m r))) ∧ Below w.heap.size w w') := by
  go_enter Tryd.func55, Tryd.ntmps55
  have hm00 := Mm.nil none (fun _ => True) w
  have hm0 := hm00
  refine wp_seq_k (fun K1 hK1 => ?_)
  refine wp_region_lit ?_
  refine lvw 4 (.bool false) rfl rfl (run_as rfl rfl) ?_
  simp only [nz1, nz2, nz3]
  refine wpList_nil ?_
  refine then_n (hK1 _ _ ?_)
  refine wp_seq_k (fun K2 hK2 => ?_)
  refine wp_region_lit ?_
  refine lvw 5 (.string (tx marks)) rfl rfl (run_mv rfl rfl) ?_
  simp only [nz1, nz2, nz3]
  refine lvw 6 (.int .i32 (r)) rfl rfl (run_mv rfl rfl) ?_
  simp only [nz1, nz2, nz3]
  refine lst rfl (m_call hm0 7 (.int .i64 ((irune2_m marks r))) rfl (run_irune2 rfl rfl rfl) (irune2_any marks r  _  (by first | omega | assumption | rfl | (simp; done) | (simp; omega) | (simp only [List.length_append, List.length_cons, List.length_nil]; omega) | (simp only [List.length_append, List.length_cons, List.length_nil] at *; omega) | decide) (by first | omega | assumption | rfl | (simp; done) | (simp; omega) | (simp only [List.length_append, List.length_cons, List.length_nil]; omega) | (simp only [List.length_append, List.length_cons, List.length_nil] at *; omega) | decide) (by first | omega | assumption | rfl | (simp; done) | (simp; omega) | (simp only [List.length_append, List.length_cons, List.length_nil]; omega) | (simp only [List.length_append, List.length_cons, List.length_nil] at *; omega) | decide)) (fun w3 (hm4 : Mm none (fun _ => True) w w3 []) => ?_))
  simp only [nz1, nz2, nz3]
  refine lvw 8 (.bool (decide (0 ≤ (irune2_m marks r)))) rfl rfl (z_geq (irune2_m marks r) 0 rfl rfl rfl) ?_
  simp only [nz1, nz2, nz3]
  refine lvw 4 (.bool (decide (0 ≤ (irune2_m marks r)))) rfl rfl (run_as rfl rfl) ?_
  simp only [nz1, nz2, nz3]
  refine wpList_nil ?_
  refine then_n (hK2 _ _ ?_)
  refine wp_ret ?_
  have he5 : crhi_m r = (decide (0 ≤ (irune2_m marks r))) := (show crhi_m r = (decide (0 ≤ (irune2_m marks r))) from by unfold crhi_m; rfl)
  exact ⟨rfl, .bool (decide (0 ≤ (irune2_m marks r))), res_t rfl rfl, ⟨by (rw [he5]; try rfl), hm4.below⟩⟩
theorem run_crhi {o : Oper} {a : Act} {w : World} {x0 : Operand} {v0 : Value} (ho : o.op = .call { callee := .value (.func 55), args := #[x0], argTypes := #[21] }) (h0 : a.eval x0 = v0) :
    (execOp a.eval o).run Tryd.prog w = .ok (.enter 55 #[v0]) w := by
  unfold execOp
  simp only [ho]
  have hf : a.eval (.func 55) = .func (.func 55) #[] #[] := rfl
  generalize a.eval = f at *
  go_simp
theorem crhi_no (r : Int) (h0 : 128 ≤ r) (h1 : r ≤ 1114111) : crhi_m r = false := by
  unfold crhi_m irune2_m
  rw [irune_no]
  rfl
end Go.Proofs.YtpbenhfnebgbiaaDoor.Ve
