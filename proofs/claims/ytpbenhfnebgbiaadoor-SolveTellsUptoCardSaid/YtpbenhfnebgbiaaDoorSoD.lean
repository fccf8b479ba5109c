/- Layer 20: how much is looked at. -/
import Derived.Test.YtpbenhfnebgbiaaDoorSoB
namespace Go.Proofs.YtpbenhfnebgbiaaDoor.So
open Go.RowKit
open Go.Proofs.YtpbenhfnebgbiaaDoor.Sym Go.Proofs.YtpbenhfnebgbiaaDoor.Mem
open Go.Proofs.YtpbenhfnebgbiaaDoor.Sx hiding Mm m_alloc m_store m_put m_call m_callx m_make m_append r_string r_ixS
set_option linter.unusedVariables false
open Go.Proofs.YtpbenhfnebgbiaaDoor.Pa
open Go.Proofs.YtpbenhfnebgbiaaDoor.Ve
attribute [local irreducible] holds_m meets_m lacks_m clashes_m solve_m needs_m users_m
attribute [local irreducible] wpList Oper.wp

def great_m_b0 (l : List Mf) (rec : Nat × Nat → Sum (Nat × Nat) (Bool)) (x5 : Nat) (x6 : Nat) : Sum (Nat × Nat) (Bool) :=
  if x6 < l.length then
    if x5 ≤ 2000 then
      rec (((x5 + ((((l.getD x6 dMf).needs).length) % 3000)) + ((((l.getD x6 dMf).clashes).length) % 3000)), (x6 + 1))
    else
      .inl (x5, x6)
  else
    .inl (x5, x6)
def great_m_l0 (l : List Mf) : Nat → Nat × Nat → Sum (Nat × Nat) (Bool)
  | 0, zz => .inl zz
  | nq + 1, zz => great_m_b0 l (great_m_l0 l nq) zz.1 zz.2

def great_m_k0 (l : List Mf) (y10 : Nat) (y11 : Nat) : Bool :=
  (decide (500 < y10))

def great_m (l : List Mf) : Bool :=
  fin (great_m_l0 l ((l.length - 0) + 1) (l.length, 0)) (fun r => r) (fun zz => great_m_k0 l zz.1 zz.2)

set_option maxHeartbeats 4000000 in
set_option maxRecDepth 100000 in
theorem great_any (l : List Mf) (lv0 : Value) (lv1 : List (Value × Value × Value)) (w : World) (hl : Rn nMf 5 MfN l lv1 lv0 w) (hp0 : l.length ≤ 268435456) (hp1 : okl l) : Calls Tryd.prog 7 #[lv0] w (fun e w' => e = .returned (.bool ((great_m l))) ∧ Below w.heap.size w w') := by
  go_enter Tryd.func7, Tryd.ntmps7
  have hm00 := Mm.nil none (fun _ => True) w
  obtain ⟨Fl, hm01⟩ : ∃ Fl, Mm none (fun _ => True) w w [.see (Rn nMf 5 MfN l lv1 lv0) Fl] := hm00.come ((Rn.all MfN_all) hl)
  have hm0 := hm01
  refine wp_seq_k (fun K1 hK1 => ?_)
  refine wp_region_lit ?_
  refine lvw 2 (.bool false) rfl rfl (run_as rfl rfl) ?_
  simp only [nz1, nz2, nz3]
  refine wpList_nil ?_
  refine then_n (hK1 _ _ ?_)
  refine wp_seq_k (fun K2 hK2 => ?_)
  refine wp_region_lit ?_
  refine lvw 5 (lv0) rfl rfl (run_mv rfl rfl) ?_
  simp only [nz1, nz2, nz3]
  refine lvw 6 (.int .i64 ((l.length : Nat) : Int)) rfl rfl (s_len ((hm0.see 0 rfl)).rd rfl Tryd.underlying22 rfl) ?_
  simp only [nz1, nz2, nz3]
  refine lvw 3 (.int .i64 ((l.length : Nat) : Int)) rfl rfl (run_as rfl rfl) ?_
  simp only [nz1, nz2, nz3]
  refine wpList_nil ?_
  refine then_n (hK2 _ _ ?_)
  refine wp_seq_k (fun K3 hK3 => ?_)
  refine wp_seq_k (fun K4 hK4 => ?_)
  refine wp_region_lit ?_
  refine lvw 4 (.int .i64 0) rfl rfl (run_as rfl rfl) ?_
  simp only [nz1, nz2, nz3]
  refine wpList_nil ?_
  refine then_n (hK4 _ _ ?_)
  refine wp_cutK (fun a' w' => ∃ (y10 : Nat) (y11 : Nat) (yu0 : Nat → Value), great_m_l0 l ((l.length - 0) + 1) (l.length, 0) = .inl (y10, y11) ∧ (True) ∧ a' = ⟨#[lv0, undef, .bool false, .int .i64 ((y10 : Nat) : Int), .int .i64 ((y11 : Nat) : Int), lv0, .int .i64 ((l.length : Nat) : Int), yu0 0, yu0 1, yu0 2, yu0 3, yu0 4, yu0 5, yu0 6, yu0 7, yu0 8, yu0 9, yu0 10, yu0 11, yu0 12, yu0 13, yu0 14, yu0 15, yu0 16, yu0 17, yu0 18, yu0 19, yu0 20, yu0 21, yu0 22, yu0 23, yu0 24, yu0 25, yu0 26, undef, undef], []⟩ ∧ Mm none (fun _ => True) w w' [.see (Rn nMf 5 MfN l lv1 lv0) Fl]) ?_ ?_
  · refine wp_block ?_
    refine wp_loop_n (fun n' a' w' => ∃ (n7 : Nat) (x5 : Nat) (x6 : Nat) (u0 : Nat → Value), n' = n7 ∧ (l.length - x6) < n7 ∧ great_m_l0 l ((l.length - 0) + 1) (l.length, 0) = great_m_l0 l n7 (x5, x6) ∧ (True) ∧ a' = ⟨#[lv0, undef, .bool false, .int .i64 ((x5 : Nat) : Int), .int .i64 ((x6 : Nat) : Int), lv0, .int .i64 ((l.length : Nat) : Int), u0 0, u0 1, u0 2, u0 3, u0 4, u0 5, u0 6, u0 7, u0 8, u0 9, u0 10, u0 11, u0 12, u0 13, u0 14, u0 15, u0 16, u0 17, u0 18, u0 19, u0 20, u0 21, u0 22, u0 23, u0 24, u0 25, u0 26, undef, undef], []⟩ ∧ Mm none (fun _ => True) w w' [.see (Rn nMf 5 MfN l lv1 lv0) Fl]) ⟨((l.length - 0) + 1), l.length, 0, (fun qq => bif Nat.blt qq 24 then List.getD [undef, undef, undef, undef, undef, undef, undef, undef, undef, undef, undef, undef, undef, undef, undef, undef, undef, undef, undef, undef, undef, undef, undef, undef] qq undef else List.getD [undef, undef, undef] (qq - 24) undef), rfl, Nat.lt_succ_self _, rfl, trivial, rfl, hm0⟩ ?_
    rintro n7 _ w13 ⟨_, x5, x6, u0, rfl, hl17, hi9, hgr, rfl, hm14⟩ R15 hR15
    obtain ⟨k8, rfl⟩ : ∃ k, n7 = k + 1 := ⟨n7 - 1, by omega⟩
    refine wp_seq_k (fun K18 hK18 => ?_)
    refine wp_seq_k (fun K19 hK19 => ?_)
    refine wp_region_lit ?_
    refine lvw 7 (.int .i64 ((x6 : Nat) : Int)) rfl rfl (run_mv rfl rfl) ?_
    simp only [nz1, nz2, nz3]
    refine lvw 8 (lv0) rfl rfl (run_mv rfl rfl) ?_
    simp only [nz1, nz2, nz3]
    refine lvw 9 (.int .i64 ((l.length : Nat) : Int)) rfl rfl (s_len ((hm14.see 0 rfl)).rd rfl Tryd.underlying22 rfl) ?_
    simp only [nz1, nz2, nz3]
    refine lvb 10 (x6 < l.length) rfl rfl (r_lss x6 l.length rfl rfl rfl) (fun hs20 => ?_) (fun hs20 => ?_)
    rotate_left
    · simp only [nz1, nz2, nz3]
      refine lvw 11 (.bool false) rfl rfl (run_mv rfl rfl) ?_
      simp only [nz1, nz2, nz3]
      refine lst_skip 12 rfl rfl ?_
      simp only [nz1, nz2, nz3]
      refine lst_skip 13 rfl rfl ?_
      simp only [nz1, nz2, nz3]
      refine lvw 14 (.bool false) rfl rfl (run_pickf rfl rfl rfl) ?_
      simp only [nz1, nz2, nz3]
      refine wpList_nil ?_
      refine then_n (hK19 _ _ ?_)
      refine cond_f rfl ?_
      refine wp_exit ?_
      refine then_x ?_
      refine then_x ?_
      refine blk_x ?_
      refine then_n ?_
      exact ⟨x5, x6, (fun qq => bif Nat.blt qq 24 then List.getD [.int .i64 ((x6 : Nat) : Int), lv0, .int .i64 ((l.length : Nat) : Int), .bool false, .bool false, undef, undef, .bool false, u0 8, u0 9, u0 10, u0 11, u0 12, u0 13, u0 14, u0 15, u0 16, u0 17, u0 18, u0 19, u0 20, u0 21, u0 22, u0 23] qq undef else List.getD [u0 24, u0 25, u0 26] (qq - 24) undef), (hi9.trans (show great_m_b0 l (great_m_l0 l k8) x5 x6 = .inl (x5, x6) from by unfold great_m_b0; rw [if_neg hs20] <;> rfl)), trivial, rfl, hm14⟩
    simp only [nz1, nz2, nz3]
    refine lvw 11 (.bool true) rfl rfl (run_mv rfl rfl) ?_
    simp only [nz1, nz2, nz3]
    refine lvw 12 (.int .i64 ((x5 : Nat) : Int)) rfl rfl (run_mv rfl rfl) ?_
    simp only [nz1, nz2, nz3]
    refine lvw 13 (.bool (decide (x5 ≤ 2000))) rfl rfl (r_leq x5 2000 rfl rfl rfl) ?_
    simp only [nz1, nz2, nz3]
    refine lvw 14 (.bool (decide (x5 ≤ 2000))) rfl rfl (run_pick rfl rfl rfl) ?_
    simp only [nz1, nz2, nz3]
    refine wpList_nil ?_
    refine then_n (hK19 _ _ ?_)
    refine cond_d (x5 ≤ 2000) rfl (fun hc21 => ?_) (fun hc21 => ?_)
    rotate_left
    · refine wp_exit ?_
      refine then_x ?_
      refine then_x ?_
      refine blk_x ?_
      refine then_n ?_
      exact ⟨x5, x6, (fun qq => bif Nat.blt qq 24 then List.getD [.int .i64 ((x6 : Nat) : Int), lv0, .int .i64 ((l.length : Nat) : Int), .bool true, .bool true, .int .i64 ((x5 : Nat) : Int), .bool (decide (x5 ≤ 2000)), .bool (decide (x5 ≤ 2000)), u0 8, u0 9, u0 10, u0 11, u0 12, u0 13, u0 14, u0 15, u0 16, u0 17, u0 18, u0 19, u0 20, u0 21, u0 22, u0 23] qq undef else List.getD [u0 24, u0 25, u0 26] (qq - 24) undef), (hi9.trans (show great_m_b0 l (great_m_l0 l k8) x5 x6 = .inl (x5, x6) from by unfold great_m_b0; rw [if_pos hs20, if_neg hc21] <;> rfl)), trivial, rfl, hm14⟩
    refine wp_skip ?_
    refine then_n (hK18 _ _ ?_)
    refine wp_seq_k (fun K22 hK22 => ?_)
    refine wp_block ?_
    have hm23 := hm14.drew
    refine wp_region_held_drew (S := fun w' => Rn nMf 5 MfN l lv1 lv0 w') (by kernel_rfl) (((hm23.see 0 rfl))) (fun _ => ?_)
    generalize w13.drew = w24 at *
    refine tk 0 17 (.int .i64 ((x5 : Nat) : Int)) rfl rfl (fun _ hw => run_mv rfl rfl) ((hm23.see 0 rfl)) ?_
    simp only [nz1, nz2, nz3]
    refine tk 1 18 (lv0) rfl rfl (fun _ hw => run_mv rfl rfl) ((hm23.see 0 rfl)) ?_
    simp only [nz1, nz2, nz3]
    refine tk 2 19 (.int .i64 ((x6 : Nat) : Int)) rfl rfl (fun _ hw => run_mv rfl rfl) ((hm23.see 0 rfl)) ?_
    simp only [nz1, nz2, nz3]
    refine tk 3 20 (.pointer (some ⟨(bk lv0), (po lv0 + x6 * 5), none⟩)) rfl rfl (fun _ hw => r_ixv ((hm23.see 0 rfl)).rd x6 (by omega) Tryd.underlying22 sz_37 rfl rfl rfl) ((hm23.see 0 rfl)) ?_
    simp only [nz1, nz2, nz3]
    refine tk 4 21 (.pointer (some ⟨(bk lv0), ((po lv0 + x6 * 5) + 2), none⟩)) rfl rfl (fun _ hw => r_fa37_2 (bk lv0) (po lv0 + x6 * 5) rfl rfl) ((hm23.see 0 rfl)) ?_
    simp only [nz1, nz2, nz3]
    refine tk 5 22 ((lv1.getD x6 ((Value.slice none 0 0), (Value.slice none 0 0), (Value.slice none 0 0))).1) rfl rfl (fun _ hw => r_cellw (Rn.cell hw nMf_len dMf ((Value.slice none 0 0), (Value.slice none 0 0), (Value.slice none 0 0)) x6 (by omega) 2 _ rfl) Tryd.underlying28 rfl rfl rfl) ((hm23.see 0 rfl)) ?_
    simp only [nz1, nz2, nz3]
    refine tk 6 23 (.int .i64 ((((l.getD x6 dMf).needs).length : Nat) : Int)) rfl rfl (fun _ hw => s_len ((Rn.el ((hm23.see 0 rfl)) dMf ((Value.slice none 0 0), (Value.slice none 0 0), (Value.slice none 0 0)) x6 (by omega)).1) rfl Tryd.underlying28 rfl) ((hm23.see 0 rfl)) ?_
    simp only [nz1, nz2, nz3]
    refine tk 7 24 (.int .i64 ((((((l.getD x6 dMf).needs).length) % 3000) : Nat) : Int)) rfl rfl (fun _ hw => r_rem (((l.getD x6 dMf).needs).length) 3000 (by have hqn := okl_at hp1 x6; show _ < 9223372036854775808; omega) (by decide) rfl rfl rfl) ((hm23.see 0 rfl)) ?_
    simp only [nz1, nz2, nz3]
    refine tk 8 25 (.int .i64 (((x5 + ((((l.getD x6 dMf).needs).length) % 3000)) : Nat) : Int)) rfl rfl (fun _ hw => r_add x5 ((((l.getD x6 dMf).needs).length) % 3000) (show (x5 + ((((l.getD x6 dMf).needs).length) % 3000)) < 9223372036854775808 from by omega) rfl rfl rfl) ((hm23.see 0 rfl)) ?_
    simp only [nz1, nz2, nz3]
    refine tk 9 26 (lv0) rfl rfl (fun _ hw => run_mv rfl rfl) ((hm23.see 0 rfl)) ?_
    simp only [nz1, nz2, nz3]
    refine tk 10 27 (.int .i64 ((x6 : Nat) : Int)) rfl rfl (fun _ hw => run_mv rfl rfl) ((hm23.see 0 rfl)) ?_
    simp only [nz1, nz2, nz3]
    refine tk 11 28 (.pointer (some ⟨(bk lv0), (po lv0 + x6 * 5), none⟩)) rfl rfl (fun _ hw => r_ixv ((hm23.see 0 rfl)).rd x6 (by omega) Tryd.underlying22 sz_37 rfl rfl rfl) ((hm23.see 0 rfl)) ?_
    simp only [nz1, nz2, nz3]
    refine tk 12 29 (.pointer (some ⟨(bk lv0), ((po lv0 + x6 * 5) + 3), none⟩)) rfl rfl (fun _ hw => r_fa37_3 (bk lv0) (po lv0 + x6 * 5) rfl rfl) ((hm23.see 0 rfl)) ?_
    simp only [nz1, nz2, nz3]
    refine tk 13 30 ((lv1.getD x6 ((Value.slice none 0 0), (Value.slice none 0 0), (Value.slice none 0 0))).2.1) rfl rfl (fun _ hw => r_cellw (Rn.cell hw nMf_len dMf ((Value.slice none 0 0), (Value.slice none 0 0), (Value.slice none 0 0)) x6 (by omega) 3 _ rfl) Tryd.underlying28 rfl rfl rfl) ((hm23.see 0 rfl)) ?_
    simp only [nz1, nz2, nz3]
    refine tk 14 31 (.int .i64 ((((l.getD x6 dMf).clashes).length : Nat) : Int)) rfl rfl (fun _ hw => s_len ((Rn.el ((hm23.see 0 rfl)) dMf ((Value.slice none 0 0), (Value.slice none 0 0), (Value.slice none 0 0)) x6 (by omega)).2.1) rfl Tryd.underlying28 rfl) ((hm23.see 0 rfl)) ?_
    simp only [nz1, nz2, nz3]
    refine tk 15 32 (.int .i64 ((((((l.getD x6 dMf).clashes).length) % 3000) : Nat) : Int)) rfl rfl (fun _ hw => r_rem (((l.getD x6 dMf).clashes).length) 3000 (by have hqn := okl_at hp1 x6; show _ < 9223372036854775808; omega) (by decide) rfl rfl rfl) ((hm23.see 0 rfl)) ?_
    simp only [nz1, nz2, nz3]
    refine tk 16 33 (.int .i64 ((((x5 + ((((l.getD x6 dMf).needs).length) % 3000)) + ((((l.getD x6 dMf).clashes).length) % 3000)) : Nat) : Int)) rfl rfl (fun _ hw => r_add (x5 + ((((l.getD x6 dMf).needs).length) % 3000)) ((((l.getD x6 dMf).clashes).length) % 3000) (show ((x5 + ((((l.getD x6 dMf).needs).length) % 3000)) + ((((l.getD x6 dMf).clashes).length) % 3000)) < 9223372036854775808 from by omega) rfl rfl rfl) ((hm23.see 0 rfl)) ?_
    simp only [nz1, nz2, nz3]
    refine one_ready 17 (by kernel_rfl) ?_
    refine opd rfl (wanted_none rfl) (w_value 3 (.int .i64 ((((x5 + ((((l.getD x6 dMf).needs).length) % 3000)) + ((((l.getD x6 dMf).clashes).length) % 3000)) : Nat) : Int)) rfl (run_as rfl rfl) ⟨((hm23.see 0 rfl)), ?_⟩)
    simp only [nz1, nz2, nz3]
    refine wpAnyH_done (by kernel_rfl) ?_ _
    refine blk_n ?_
    refine then_n (hK22 _ _ ?_)
    refine wp_region_lit ?_
    refine lvw 15 (.int .i64 ((x6 : Nat) : Int)) rfl rfl (run_mv rfl rfl) ?_
    simp only [nz1, nz2, nz3]
    refine lvw 16 (.int .i64 (((x6 + 1) : Nat) : Int)) rfl rfl (r_add x6 1 (show (x6 + 1) < 9223372036854775808 from by omega) rfl rfl rfl) ?_
    simp only [nz1, nz2, nz3]
    refine lvw 4 (.int .i64 (((x6 + 1) : Nat) : Int)) rfl rfl (run_as rfl rfl) ?_
    simp only [nz1, nz2, nz3]
    refine wpList_nil ?_
    refine then_n (hR15 _ _ _ ⟨k8, ((x5 + ((((l.getD x6 dMf).needs).length) % 3000)) + ((((l.getD x6 dMf).clashes).length) % 3000)), (x6 + 1), (fun qq => bif Nat.blt qq 24 then List.getD [.int .i64 ((x6 : Nat) : Int), lv0, .int .i64 ((l.length : Nat) : Int), .bool true, .bool true, .int .i64 ((x5 : Nat) : Int), .bool (decide (x5 ≤ 2000)), .bool (decide (x5 ≤ 2000)), .int .i64 ((x6 : Nat) : Int), .int .i64 (((x6 + 1) : Nat) : Int), .int .i64 ((x5 : Nat) : Int), lv0, .int .i64 ((x6 : Nat) : Int), .pointer (some ⟨(bk lv0), (po lv0 + x6 * 5), none⟩), .pointer (some ⟨(bk lv0), ((po lv0 + x6 * 5) + 2), none⟩), (lv1.getD x6 ((Value.slice none 0 0), (Value.slice none 0 0), (Value.slice none 0 0))).1, .int .i64 ((((l.getD x6 dMf).needs).length : Nat) : Int), .int .i64 ((((((l.getD x6 dMf).needs).length) % 3000) : Nat) : Int), .int .i64 (((x5 + ((((l.getD x6 dMf).needs).length) % 3000)) : Nat) : Int), lv0, .int .i64 ((x6 : Nat) : Int), .pointer (some ⟨(bk lv0), (po lv0 + x6 * 5), none⟩), .pointer (some ⟨(bk lv0), ((po lv0 + x6 * 5) + 3), none⟩), (lv1.getD x6 ((Value.slice none 0 0), (Value.slice none 0 0), (Value.slice none 0 0))).2.1] qq undef else List.getD [.int .i64 ((((l.getD x6 dMf).clashes).length : Nat) : Int), .int .i64 ((((((l.getD x6 dMf).clashes).length) % 3000) : Nat) : Int), .int .i64 ((((x5 + ((((l.getD x6 dMf).needs).length) % 3000)) + ((((l.getD x6 dMf).clashes).length) % 3000)) : Nat) : Int)] (qq - 24) undef), rfl, (by first | omega | (simp; omega) | (simp at *; omega)), (hi9.trans (show great_m_b0 l (great_m_l0 l k8) x5 x6 = great_m_l0 l k8 (((x5 + ((((l.getD x6 dMf).needs).length) % 3000)) + ((((l.getD x6 dMf).clashes).length) % 3000)), (x6 + 1)) from by unfold great_m_b0; rw [if_pos hs20, if_pos hc21] <;> rfl)), trivial, rfl, hm23⟩ ?_)
    omega
  rintro _ w25 ⟨y10, y11, yu0, hx12, hgr, rfl, hm26⟩
  have hq27 : great_m l = great_m_k0 l y10 y11 := (show great_m l = great_m_k0 l y10 y11 from by unfold great_m; rw [hx12] <;> rfl)
  refine then_n (hK3 _ _ ?_)
  refine wp_seq_k (fun K28 hK28 => ?_)
  refine wp_region_lit ?_
  refine lvw 34 (.int .i64 ((y10 : Nat) : Int)) rfl rfl (run_mv rfl rfl) ?_
  simp only [nz1, nz2, nz3]
  refine lvw 35 (.bool (decide (500 < y10))) rfl rfl (r_gtr y10 500 rfl rfl rfl) ?_
  simp only [nz1, nz2, nz3]
  refine lvw 2 (.bool (decide (500 < y10))) rfl rfl (run_as rfl rfl) ?_
  simp only [nz1, nz2, nz3]
  refine wpList_nil ?_
  refine then_n (hK28 _ _ ?_)
  refine wp_ret ?_
  have he29 : great_m l = (decide (500 < y10)) := (hq27.trans (show great_m_k0 l y10 y11 = (decide (500 < y10)) from by unfold great_m_k0; rfl))
  exact ⟨rfl, .bool (decide (500 < y10)), res_t rfl rfl, ⟨by (rw [he29]; try rfl), hm26.below⟩⟩
theorem run_great {o : Oper} {a : Act} {w : World} {x0 : Operand} {v0 : Value} (ho : o.op = .call { callee := .value (.func 7), args := #[x0], argTypes := #[22] }) (h0 : a.eval x0 = v0) :
    (execOp a.eval o).run Tryd.prog w = .ok (.enter 7 #[v0]) w := by
  unfold execOp
  simp only [ho]
  have hf : a.eval (.func 7) = .func (.func 7) #[] #[] := rfl
  generalize a.eval = f at *
  go_simp
end Go.Proofs.YtpbenhfnebgbiaaDoor.So
