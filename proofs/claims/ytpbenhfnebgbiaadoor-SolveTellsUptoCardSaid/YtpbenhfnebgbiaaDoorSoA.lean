/- Layer 20: what meets, what lacks, what clashes. -/
import Derived.Test.YtpbenhfnebgbiaaDoorVeH
import Derived.Test.YtpbenhfnebgbiaaDoorSoK
namespace Go.Proofs.YtpbenhfnebgbiaaDoor.So
open Go.RowKit
open Go.Proofs.YtpbenhfnebgbiaaDoor.Sym Go.Proofs.YtpbenhfnebgbiaaDoor.Mem
open Go.Proofs.YtpbenhfnebgbiaaDoor.Sx hiding Mm m_alloc m_store m_put m_call m_callx m_make m_append r_string r_ixS
set_option linter.unusedVariables false
open Go.Proofs.YtpbenhfnebgbiaaDoor.Pa
open Go.Proofs.YtpbenhfnebgbiaaDoor.Ve
attribute [local irreducible] holds_m
attribute [local irreducible] wpList Oper.wp

def meets_m_b0 (l : List Mf) (r : Rul) (but : List UInt8) (rec : Nat → Sum (Nat) (Bool)) (x7 : Nat) : Sum (Nat) (Bool) :=
  if x7 < l.length then
    if (l.getD x7 dMf).name = r.name then
      if ¬ (l.getD x7 dMf).name = but then
        if (holds_m r ((l.getD x7 dMf).version)) = true then
          .inr true
        else
          rec (x7 + 1)
      else
        rec (x7 + 1)
    else
      rec (x7 + 1)
  else
    .inl x7
def meets_m_l0 (l : List Mf) (r : Rul) (but : List UInt8) : Nat → Nat → Sum (Nat) (Bool)
  | 0, zz => .inl zz
  | nq + 1, zz => meets_m_b0 l r but (meets_m_l0 l r but nq) zz

def meets_m_k0 (l : List Mf) (r : Rul) (but : List UInt8) (y11 : Nat) : Bool :=
  false

def meets_m (l : List Mf) (r : Rul) (but : List UInt8) : Bool :=
  fin (meets_m_l0 l r but ((l.length - 0) + 1) 0) (fun r => r) (fun zz => meets_m_k0 l r but zz)

set_option maxHeartbeats 4000000 in
set_option maxRecDepth 100000 in
theorem meets_any (l : List Mf) (r : Rul) (but : List UInt8) (lv0 : Value) (lv1 : List (Value × Value × Value)) (w : World) (hl : Rn nMf 5 MfN l lv1 lv0 w) (hp0 : l.length ≤ 100000) : Calls Tryd.prog 16 #[lv0, .agg #[.string (tx r.name), .int .i64 (r.op), .string (tx r.version)], .string (tx but)] w (fun e w' => e = .returned (.bool ((meets_m l r but))) ∧ Below w.heap.size w w') := by
  go_enter Tryd.func16, Tryd.ntmps16
  have hm00 := Mm.nil none (fun _ => True) w
  obtain ⟨Fl, hm01⟩ : ∃ Fl, Mm none (fun _ => True) w w [.see (Rn nMf 5 MfN l lv1 lv0) Fl] := hm00.come ((Rn.all MfN_all) hl)
  have hm0 := hm01
  refine wp_seq_k (fun K1 hK1 => ?_)
  refine wp_region_lit ?_
  refine lst rfl (m_alloc (c := #[.string (tx r.name), .int .i64 (r.op), .string (tx r.version)]) (T := 24) hm0 4 rfl (run_box rfl rfl) (fun g4 w2 (hm3 : Mm none (fun _ => True) w w2 [.see (Rn nMf 5 MfN l lv1 lv0) Fl, .blk g4 #[.string (tx r.name), .int .i64 (r.op), .string (tx r.version)] 24]) => ?_))
  simp only [nz1, nz2, nz3]
  refine lvw 6 (.bool false) rfl rfl (run_as rfl rfl) ?_
  simp only [nz1, nz2, nz3]
  refine wpList_nil ?_
  refine then_n (hK1 _ _ ?_)
  refine wp_seq_k (fun K5 hK5 => ?_)
  refine wp_seq_k (fun K6 hK6 => ?_)
  refine wp_region_lit ?_
  refine lvw 9 (lv0) rfl rfl (run_mv rfl rfl) ?_
  simp only [nz1, nz2, nz3]
  refine lvw 10 (.int .i64 ((l.length : Nat) : Int)) rfl rfl (s_len ((hm3.see 0 rfl)).rd rfl Tryd.underlying22 rfl) ?_
  simp only [nz1, nz2, nz3]
  refine lvw 11 (.int .i64 0) rfl rfl (run_mv rfl rfl) ?_
  simp only [nz1, nz2, nz3]
  refine wpList_nil ?_
  refine then_n (hK6 _ _ ?_)
  refine wp_cutK (fun a' w' => ∃ (y11 : Nat) (yu0 : Nat → Value), meets_m_l0 l r but ((l.length - 0) + 1) 0 = .inl y11 ∧ a' = ⟨#[lv0, .agg #[.string (tx r.name), .int .i64 (r.op), .string (tx r.version)], .string (tx but), undef, .pointer (some ⟨g4, 0, none⟩), undef, yu0 0, undef, yu0 1, lv0, .int .i64 ((l.length : Nat) : Int), .int .i64 ((y11 : Nat) : Int), yu0 2, yu0 3, yu0 4, yu0 5, yu0 6, yu0 7, yu0 8, yu0 9, yu0 10, yu0 11, yu0 12, yu0 13, yu0 14, yu0 15, yu0 16, yu0 17, yu0 18, yu0 19, yu0 20, yu0 21, yu0 22], []⟩ ∧ Mm none (fun _ => True) w w' [.see (Rn nMf 5 MfN l lv1 lv0) Fl, .blk g4 #[.string (tx r.name), .int .i64 (r.op), .string (tx r.version)] 24]) ?_ ?_
  · refine wp_block ?_
    refine wp_loop_n (fun n' a' w' => ∃ (n8 : Nat) (x7 : Nat) (u0 : Nat → Value), n' = n8 ∧ (l.length - x7) < n8 ∧ meets_m_l0 l r but ((l.length - 0) + 1) 0 = meets_m_l0 l r but n8 x7 ∧ a' = ⟨#[lv0, .agg #[.string (tx r.name), .int .i64 (r.op), .string (tx r.version)], .string (tx but), undef, .pointer (some ⟨g4, 0, none⟩), undef, u0 0, undef, u0 1, lv0, .int .i64 ((l.length : Nat) : Int), .int .i64 ((x7 : Nat) : Int), u0 2, u0 3, u0 4, u0 5, u0 6, u0 7, u0 8, u0 9, u0 10, u0 11, u0 12, u0 13, u0 14, u0 15, u0 16, u0 17, u0 18, u0 19, u0 20, u0 21, u0 22], []⟩ ∧ Mm none (fun _ => True) w w' [.see (Rn nMf 5 MfN l lv1 lv0) Fl, .blk g4 #[.string (tx r.name), .int .i64 (r.op), .string (tx r.version)] 24]) ⟨((l.length - 0) + 1), 0, (fun qq => List.getD [.bool false, undef, undef, undef, undef, undef, undef, undef, undef, undef, undef, undef, undef, undef, undef, undef, undef, undef, undef, undef, undef, undef, undef] qq undef), rfl, Nat.lt_succ_self _, rfl, rfl, hm3⟩ ?_
    rintro n8 _ w13 ⟨_, x7, u0, rfl, hl17, hi10, rfl, hm14⟩ R15 hR15
    obtain ⟨k9, rfl⟩ : ∃ k, n8 = k + 1 := ⟨n8 - 1, by omega⟩
    refine wp_seq_k (fun K18 hK18 => ?_)
    refine wp_region_lit ?_
    refine lvw 12 (.bool (decide (x7 < l.length))) rfl rfl (r_lss x7 l.length rfl rfl rfl) ?_
    simp only [nz1, nz2, nz3]
    refine wpList_nil ?_
    refine then_n (hK18 _ _ ?_)
    refine wp_seq_k (fun K19 hK19 => ?_)
    refine cond_d (x7 < l.length) rfl (fun hc20 => ?_) (fun hc20 => ?_)
    rotate_left
    · refine wp_exit ?_
      refine then_x ?_
      refine then_x ?_
      refine blk_x ?_
      refine then_n ?_
      exact ⟨x7, (fun qq => List.getD [u0 0, u0 1, .bool (decide (x7 < l.length)), u0 3, u0 4, u0 5, u0 6, u0 7, u0 8, u0 9, u0 10, u0 11, u0 12, u0 13, u0 14, u0 15, u0 16, u0 17, u0 18, u0 19, u0 20, u0 21, u0 22] qq undef), (hi10.trans (show meets_m_b0 l r but (meets_m_l0 l r but k9) x7 = .inl x7 from by unfold meets_m_b0; rw [if_neg hc20] <;> rfl)), rfl, hm14⟩
    refine wp_skip ?_
    refine then_n (hK19 _ _ ?_)
    refine wp_seq_k (fun K21 hK21 => ?_)
    refine wp_block ?_
    refine wp_seq_k (fun K22 hK22 => ?_)
    refine wp_region_lit ?_
    refine lvw 13 (.pointer (some ⟨(bk lv0), (po lv0 + x7 * 5), none⟩)) rfl rfl (r_ixv ((hm14.see 0 rfl)).rd x7 (by omega) Tryd.underlying22 sz_37 rfl rfl rfl) ?_
    simp only [nz1, nz2, nz3]
    refine lvw 14 (.agg #[.string (tx ((l.getD x7 dMf).name)), .string (tx ((l.getD x7 dMf).version)), (lv1.getD x7 ((Value.slice none 0 0), (Value.slice none 0 0), (Value.slice none 0 0))).1, (lv1.getD x7 ((Value.slice none 0 0), (Value.slice none 0 0), (Value.slice none 0 0))).2.1, (lv1.getD x7 ((Value.slice none 0 0), (Value.slice none 0 0), (Value.slice none 0 0))).2.2]) rfl rfl (r_partw (fun j u hj => Rn.cell ((hm14.see 0 rfl)) nMf_len dMf ((Value.slice none 0 0), (Value.slice none 0 0), (Value.slice none 0 0)) x7 (by omega) j u (arr_get hj)) Tryd.underlying37 rfl (by exact sz_37) rfl rfl) ?_
    simp only [nz1, nz2, nz3]
    refine lst rfl (m_alloc (c := #[.string (tx ([])), .string (tx ([])), .slice none 0 0, .slice none 0 0, .slice none 0 0]) (T := 37) hm14 8 rfl (by unfold execOp; go_simp; try rfl) (fun g25 w23 (hm24 : Mm none (fun _ => True) w w23 [.see (Rn nMf 5 MfN l lv1 lv0) Fl, .blk g4 #[.string (tx r.name), .int .i64 (r.op), .string (tx r.version)] 24, .blk g25 #[.string (tx ([])), .string (tx ([])), .slice none 0 0, .slice none 0 0, .slice none 0 0] 37]) => ?_))
    simp only [nz1, nz2, nz3]
    have ho28 := (rd_one ((Rn.el ((hm24.see 0 rfl)) dMf ((Value.slice none 0 0), (Value.slice none 0 0), (Value.slice none 0 0)) x7 (by omega)).1))
    have ho29 := (rd_one ((Rn.el ((hm24.see 0 rfl)) dMf ((Value.slice none 0 0), (Value.slice none 0 0), (Value.slice none 0 0)) x7 (by omega)).2.1))
    have ho30 := (rd_one ((Rn.el ((hm24.see 0 rfl)) dMf ((Value.slice none 0 0), (Value.slice none 0 0), (Value.slice none 0 0)) x7 (by omega)).2.2))
    refine lst rfl (m_store 2 37 _ _ 0 (.agg #[.string (tx ((l.getD x7 dMf).name)), .string (tx ((l.getD x7 dMf).version)), (lv1.getD x7 ((Value.slice none 0 0), (Value.slice none 0 0), (Value.slice none 0 0))).1, (lv1.getD x7 ((Value.slice none 0 0), (Value.slice none 0 0), (Value.slice none 0 0))).2.1, (lv1.getD x7 ((Value.slice none 0 0), (Value.slice none 0 0), (Value.slice none 0 0))).2.2]) (old := #[.string (tx ([])), .string (tx ([])), .slice none 0 0, .slice none 0 0, .slice none 0 0]) (new := #[.string (tx ((l.getD x7 dMf).name)), .string (tx ((l.getD x7 dMf).version)), (lv1.getD x7 ((Value.slice none 0 0), (Value.slice none 0 0), (Value.slice none 0 0))).1, (lv1.getD x7 ((Value.slice none 0 0), (Value.slice none 0 0), (Value.slice none 0 0))).2.1, (lv1.getD x7 ((Value.slice none 0 0), (Value.slice none 0 0), (Value.slice none 0 0))).2.2]) hm24 rfl rfl rfl rfl rfl (by exact sz_37) (show 0 + 5 ≤ 5 from by decide) (by rw [Array.all_eq_true_iff_forall_mem]; intro x hx; simp only [Value.cells, List.mem_toArray, List.mem_cons, List.not_mem_nil, or_false] at hx; rcases hx with rfl | rfl | rfl | rfl | rfl <;> first | rfl | assumption) rfl (fun w26 (hm27 : Mm none (fun _ => True) w w26 [.see (Rn nMf 5 MfN l lv1 lv0) Fl, .blk g4 #[.string (tx r.name), .int .i64 (r.op), .string (tx r.version)] 24, .blk g25 #[.string (tx ((l.getD x7 dMf).name)), .string (tx ((l.getD x7 dMf).version)), (lv1.getD x7 ((Value.slice none 0 0), (Value.slice none 0 0), (Value.slice none 0 0))).1, (lv1.getD x7 ((Value.slice none 0 0), (Value.slice none 0 0), (Value.slice none 0 0))).2.1, (lv1.getD x7 ((Value.slice none 0 0), (Value.slice none 0 0), (Value.slice none 0 0))).2.2] 37]) => ?_))
    refine wpList_nil ?_
    refine then_n (hK22 _ _ ?_)
    refine wp_seq_k (fun K31 hK31 => ?_)
    refine wp_region_lit ?_
    refine lvw 15 (.pointer (some ⟨g25, 0, none⟩)) rfl rfl (r_fa37_0 g25 0 rfl rfl) ?_
    simp only [nz1, nz2, nz3]
    refine lvw 16 (.string (tx ((l.getD x7 dMf).name))) rfl rfl (r_load (hm27.at 2 rfl) rfl Tryd.underlying9 rfl rfl rfl) ?_
    simp only [nz1, nz2, nz3]
    refine lvw 17 (.pointer (some ⟨g4, 0, none⟩)) rfl rfl (r_fa24_0 g4 0 rfl rfl) ?_
    simp only [nz1, nz2, nz3]
    refine lvw 18 (.string (tx r.name)) rfl rfl (r_load (hm27.at 1 rfl) rfl Tryd.underlying9 rfl rfl rfl) ?_
    simp only [nz1, nz2, nz3]
    refine lvb 19 ((l.getD x7 dMf).name = r.name) rfl rfl (t_eql ((l.getD x7 dMf).name) r.name rfl rfl rfl) (fun hs32 => ?_) (fun hs32 => ?_)
    rotate_left
    · simp only [nz1, nz2, nz3]
      refine lvw 20 (.bool false) rfl rfl (run_mv rfl rfl) ?_
      simp only [nz1, nz2, nz3]
      refine lst_skip 21 rfl rfl ?_
      simp only [nz1, nz2, nz3]
      refine lst_skip 22 rfl rfl ?_
      simp only [nz1, nz2, nz3]
      refine lst_skip 23 rfl rfl ?_
      simp only [nz1, nz2, nz3]
      refine lst_skip 24 rfl rfl ?_
      simp only [nz1, nz2, nz3]
      refine lvw 25 (.bool false) rfl rfl (run_pickf rfl rfl rfl) ?_
      simp only [nz1, nz2, nz3]
      refine lvw 26 (.bool false) rfl rfl (run_mv rfl rfl) ?_
      simp only [nz1, nz2, nz3]
      refine lst_skip 27 rfl rfl ?_
      simp only [nz1, nz2, nz3]
      refine lst_skip 28 rfl rfl ?_
      simp only [nz1, nz2, nz3]
      refine lst_skip 29 rfl rfl ?_
      simp only [nz1, nz2, nz3]
      refine lst_skip 30 rfl rfl ?_
      simp only [nz1, nz2, nz3]
      refine lvw 31 (.bool false) rfl rfl (run_pickf rfl rfl rfl) ?_
      simp only [nz1, nz2, nz3]
      refine wpList_nil ?_
      refine then_n (hK31 _ _ ?_)
      refine cond_f rfl ?_
      refine wp_skip ?_
      refine blk_n ?_
      refine then_n (hK21 _ _ ?_)
      refine wp_region_lit ?_
      refine lvw 32 (.int .i64 (((x7 + 1) : Nat) : Int)) rfl rfl (r_add x7 1 (show (x7 + 1) < 9223372036854775808 from by omega) rfl rfl rfl) ?_
      simp only [nz1, nz2, nz3]
      refine lvw 11 (.int .i64 (((x7 + 1) : Nat) : Int)) rfl rfl (run_mv rfl rfl) ?_
      simp only [nz1, nz2, nz3]
      refine wpList_nil ?_
      refine then_n (hR15 _ _ _ ⟨k9, (x7 + 1), (fun qq => List.getD [u0 0, .pointer (some ⟨g25, 0, none⟩), .bool (decide (x7 < l.length)), .pointer (some ⟨(bk lv0), (po lv0 + x7 * 5), none⟩), .agg #[.string (tx ((l.getD x7 dMf).name)), .string (tx ((l.getD x7 dMf).version)), (lv1.getD x7 ((Value.slice none 0 0), (Value.slice none 0 0), (Value.slice none 0 0))).1, (lv1.getD x7 ((Value.slice none 0 0), (Value.slice none 0 0), (Value.slice none 0 0))).2.1, (lv1.getD x7 ((Value.slice none 0 0), (Value.slice none 0 0), (Value.slice none 0 0))).2.2], .pointer (some ⟨g25, 0, none⟩), .string (tx ((l.getD x7 dMf).name)), .pointer (some ⟨g4, 0, none⟩), .string (tx r.name), .bool false, .bool false, undef, undef, undef, undef, .bool false, .bool false, undef, undef, undef, undef, .bool false, .int .i64 (((x7 + 1) : Nat) : Int)] qq undef), rfl, (by first | omega | (simp; omega) | (simp at *; omega)), (hi10.trans (show meets_m_b0 l r but (meets_m_l0 l r but k9) x7 = meets_m_l0 l r but k9 (x7 + 1) from by unfold meets_m_b0; rw [if_pos hc20, if_neg hs32] <;> rfl)), rfl, (Mm.reorder hm27 [0, 1] (by decide) rfl)⟩ ?_)
      omega
    simp only [nz1, nz2, nz3]
    refine lvw 20 (.bool true) rfl rfl (run_mv rfl rfl) ?_
    simp only [nz1, nz2, nz3]
    refine lvw 21 (.pointer (some ⟨g25, 0, none⟩)) rfl rfl (r_fa37_0 g25 0 rfl rfl) ?_
    simp only [nz1, nz2, nz3]
    refine lvw 22 (.string (tx ((l.getD x7 dMf).name))) rfl rfl (r_load (hm27.at 2 rfl) rfl Tryd.underlying9 rfl rfl rfl) ?_
    simp only [nz1, nz2, nz3]
    refine lvw 23 (.string (tx but)) rfl rfl (run_mv rfl rfl) ?_
    simp only [nz1, nz2, nz3]
    refine lvb 24 (¬ (l.getD x7 dMf).name = but) rfl rfl (t_neq ((l.getD x7 dMf).name) but rfl rfl rfl) (fun hs33 => ?_) (fun hs33 => ?_)
    rotate_left
    · simp only [nz1, nz2, nz3]
      refine lvw 25 (.bool false) rfl rfl (run_pick rfl rfl rfl) ?_
      simp only [nz1, nz2, nz3]
      refine lvw 26 (.bool false) rfl rfl (run_mv rfl rfl) ?_
      simp only [nz1, nz2, nz3]
      refine lst_skip 27 rfl rfl ?_
      simp only [nz1, nz2, nz3]
      refine lst_skip 28 rfl rfl ?_
      simp only [nz1, nz2, nz3]
      refine lst_skip 29 rfl rfl ?_
      simp only [nz1, nz2, nz3]
      refine lst_skip 30 rfl rfl ?_
      simp only [nz1, nz2, nz3]
      refine lvw 31 (.bool false) rfl rfl (run_pickf rfl rfl rfl) ?_
      simp only [nz1, nz2, nz3]
      refine wpList_nil ?_
      refine then_n (hK31 _ _ ?_)
      refine cond_f rfl ?_
      refine wp_skip ?_
      refine blk_n ?_
      refine then_n (hK21 _ _ ?_)
      refine wp_region_lit ?_
      refine lvw 32 (.int .i64 (((x7 + 1) : Nat) : Int)) rfl rfl (r_add x7 1 (show (x7 + 1) < 9223372036854775808 from by omega) rfl rfl rfl) ?_
      simp only [nz1, nz2, nz3]
      refine lvw 11 (.int .i64 (((x7 + 1) : Nat) : Int)) rfl rfl (run_mv rfl rfl) ?_
      simp only [nz1, nz2, nz3]
      refine wpList_nil ?_
      refine then_n (hR15 _ _ _ ⟨k9, (x7 + 1), (fun qq => List.getD [u0 0, .pointer (some ⟨g25, 0, none⟩), .bool (decide (x7 < l.length)), .pointer (some ⟨(bk lv0), (po lv0 + x7 * 5), none⟩), .agg #[.string (tx ((l.getD x7 dMf).name)), .string (tx ((l.getD x7 dMf).version)), (lv1.getD x7 ((Value.slice none 0 0), (Value.slice none 0 0), (Value.slice none 0 0))).1, (lv1.getD x7 ((Value.slice none 0 0), (Value.slice none 0 0), (Value.slice none 0 0))).2.1, (lv1.getD x7 ((Value.slice none 0 0), (Value.slice none 0 0), (Value.slice none 0 0))).2.2], .pointer (some ⟨g25, 0, none⟩), .string (tx ((l.getD x7 dMf).name)), .pointer (some ⟨g4, 0, none⟩), .string (tx r.name), .bool true, .bool true, .pointer (some ⟨g25, 0, none⟩), .string (tx ((l.getD x7 dMf).name)), .string (tx but), .bool false, .bool false, .bool false, undef, undef, undef, undef, .bool false, .int .i64 (((x7 + 1) : Nat) : Int)] qq undef), rfl, (by first | omega | (simp; omega) | (simp at *; omega)), (hi10.trans (show meets_m_b0 l r but (meets_m_l0 l r but k9) x7 = meets_m_l0 l r but k9 (x7 + 1) from by unfold meets_m_b0; rw [if_pos hc20, if_pos hs32, if_neg hs33] <;> rfl)), rfl, (Mm.reorder hm27 [0, 1] (by decide) rfl)⟩ ?_)
      omega
    simp only [nz1, nz2, nz3]
    refine lvw 25 (.bool true) rfl rfl (run_pick rfl rfl rfl) ?_
    simp only [nz1, nz2, nz3]
    refine lvw 26 (.bool true) rfl rfl (run_mv rfl rfl) ?_
    simp only [nz1, nz2, nz3]
    refine lvw 27 (.agg #[.string (tx r.name), .int .i64 (r.op), .string (tx r.version)]) rfl rfl (r_whole (hm27.at 1 rfl) Tryd.underlying24 rfl (by exact sz_24) rfl rfl) ?_
    simp only [nz1, nz2, nz3]
    refine lvw 28 (.pointer (some ⟨g25, 1, none⟩)) rfl rfl (r_fa37_1 g25 0 rfl rfl) ?_
    simp only [nz1, nz2, nz3]
    refine lvw 29 (.string (tx ((l.getD x7 dMf).version))) rfl rfl (r_load (hm27.at 2 rfl) rfl Tryd.underlying9 rfl rfl rfl) ?_
    simp only [nz1, nz2, nz3]
    refine lst rfl (m_call hm27 30 (.bool ((holds_m r ((l.getD x7 dMf).version)))) rfl (run_holds rfl rfl rfl) (holds_any r ((l.getD x7 dMf).version)  _  ) (fun w34 (hm35 : Mm none (fun _ => True) w w34 [.see (Rn nMf 5 MfN l lv1 lv0) Fl, .blk g4 #[.string (tx r.name), .int .i64 (r.op), .string (tx r.version)] 24, .blk g25 #[.string (tx ((l.getD x7 dMf).name)), .string (tx ((l.getD x7 dMf).version)), (lv1.getD x7 ((Value.slice none 0 0), (Value.slice none 0 0), (Value.slice none 0 0))).1, (lv1.getD x7 ((Value.slice none 0 0), (Value.slice none 0 0), (Value.slice none 0 0))).2.1, (lv1.getD x7 ((Value.slice none 0 0), (Value.slice none 0 0), (Value.slice none 0 0))).2.2] 37]) => ?_))
    simp only [nz1, nz2, nz3]
    refine lvw 31 (.bool ((holds_m r ((l.getD x7 dMf).version)))) rfl rfl (run_pick rfl rfl rfl) ?_
    simp only [nz1, nz2, nz3]
    refine wpList_nil ?_
    refine then_n (hK31 _ _ ?_)
    refine cond_B (holds_m r ((l.getD x7 dMf).version)) rfl (fun hc36 => ?_) (fun hc36 => ?_)
    rotate_left
    · refine wp_skip ?_
      refine blk_n ?_
      refine then_n (hK21 _ _ ?_)
      refine wp_region_lit ?_
      refine lvw 32 (.int .i64 (((x7 + 1) : Nat) : Int)) rfl rfl (r_add x7 1 (show (x7 + 1) < 9223372036854775808 from by omega) rfl rfl rfl) ?_
      simp only [nz1, nz2, nz3]
      refine lvw 11 (.int .i64 (((x7 + 1) : Nat) : Int)) rfl rfl (run_mv rfl rfl) ?_
      simp only [nz1, nz2, nz3]
      refine wpList_nil ?_
      refine then_n (hR15 _ _ _ ⟨k9, (x7 + 1), (fun qq => List.getD [u0 0, .pointer (some ⟨g25, 0, none⟩), .bool (decide (x7 < l.length)), .pointer (some ⟨(bk lv0), (po lv0 + x7 * 5), none⟩), .agg #[.string (tx ((l.getD x7 dMf).name)), .string (tx ((l.getD x7 dMf).version)), (lv1.getD x7 ((Value.slice none 0 0), (Value.slice none 0 0), (Value.slice none 0 0))).1, (lv1.getD x7 ((Value.slice none 0 0), (Value.slice none 0 0), (Value.slice none 0 0))).2.1, (lv1.getD x7 ((Value.slice none 0 0), (Value.slice none 0 0), (Value.slice none 0 0))).2.2], .pointer (some ⟨g25, 0, none⟩), .string (tx ((l.getD x7 dMf).name)), .pointer (some ⟨g4, 0, none⟩), .string (tx r.name), .bool true, .bool true, .pointer (some ⟨g25, 0, none⟩), .string (tx ((l.getD x7 dMf).name)), .string (tx but), .bool true, .bool true, .bool true, .agg #[.string (tx r.name), .int .i64 (r.op), .string (tx r.version)], .pointer (some ⟨g25, 1, none⟩), .string (tx ((l.getD x7 dMf).version)), .bool ((holds_m r ((l.getD x7 dMf).version))), .bool ((holds_m r ((l.getD x7 dMf).version))), .int .i64 (((x7 + 1) : Nat) : Int)] qq undef), rfl, (by first | omega | (simp; omega) | (simp at *; omega)), (hi10.trans (show meets_m_b0 l r but (meets_m_l0 l r but k9) x7 = meets_m_l0 l r but k9 (x7 + 1) from by unfold meets_m_b0; rw [if_pos hc20, if_pos hs32, if_pos hs33, if_neg hc36] <;> rfl)), rfl, (Mm.reorder hm35 [0, 1] (by decide) rfl)⟩ ?_)
      omega
    refine wp_seq_k (fun K37 hK37 => ?_)
    refine wp_region_lit ?_
    refine lvw 6 (.bool true) rfl rfl (run_as rfl rfl) ?_
    simp only [nz1, nz2, nz3]
    refine wpList_nil ?_
    refine then_n (hK37 _ _ ?_)
    refine wp_ret ?_
    refine blk_r ?_
    refine then_r ?_
    refine then_r ?_
    refine blk_r ?_
    refine then_r ?_
    refine then_r ?_
    have he38 : meets_m_l0 l r but ((l.length - 0) + 1) 0 = .inr true := (hi10.trans (show meets_m_b0 l r but (meets_m_l0 l r but k9) x7 = .inr true from by unfold meets_m_b0; rw [if_pos hc20, if_pos hs32, if_pos hs33, if_pos hc36] <;> rfl))
    have he39 : meets_m l r but = true := (show meets_m l r but = true from by unfold meets_m; rw [he38] <;> rfl)
    exact ⟨rfl, .bool true, res_t rfl rfl, ⟨by (rw [he39]; try rfl), hm35.below⟩⟩
  rintro _ w40 ⟨y11, yu0, hx12, rfl, hm41⟩
  have hq42 : meets_m l r but = meets_m_k0 l r but y11 := (show meets_m l r but = meets_m_k0 l r but y11 from by unfold meets_m; rw [hx12] <;> rfl)
  refine then_n (hK5 _ _ ?_)
  refine wp_seq_k (fun K43 hK43 => ?_)
  refine wp_region_lit ?_
  refine lvw 6 (.bool false) rfl rfl (run_as rfl rfl) ?_
  simp only [nz1, nz2, nz3]
  refine wpList_nil ?_
  refine then_n (hK43 _ _ ?_)
  refine wp_ret ?_
  have he44 : meets_m l r but = false := (hq42.trans (show meets_m_k0 l r but y11 = false from by unfold meets_m_k0; rfl))
  exact ⟨rfl, .bool false, res_t rfl rfl, ⟨by (rw [he44]; try rfl), hm41.below⟩⟩
theorem run_meets {o : Oper} {a : Act} {w : World} {x0 x1 x2 : Operand} {v0 v1 v2 : Value} (ho : o.op = .call { callee := .value (.func 16), args := #[x0, x1, x2], argTypes := #[22, 24, 9] }) (h0 : a.eval x0 = v0) (h1 : a.eval x1 = v1) (h2 : a.eval x2 = v2) :
    (execOp a.eval o).run Tryd.prog w = .ok (.enter 16 #[v0, v1, v2]) w := by
  unfold execOp
  simp only [ho]
  have hf : a.eval (.func 16) = .func (.func 16) #[] #[] := rfl
  generalize a.eval = f at *
  go_simp
def lacks_m_b1 (l : List Mf) (l7 : List Rul) (x9 : Nat) (rec : (List Rul) × Nat → Sum ((List Rul) × Nat) ((List Rul))) (l36 : List Rul) (x38 : Nat) : Sum ((List Rul) × Nat) ((List Rul)) :=
  if x38 < ((l.getD x9 dMf).needs).length then
    if (!(meets_m l (((l.getD x9 dMf).needs).getD x38 dRul) ([]))) = true then
      rec ((l36 ++ [(((l.getD x9 dMf).needs).getD x38 dRul)]), (x38 + 1))
    else
      rec (l36, (x38 + 1))
  else
    .inl (l36, x38)
def lacks_m_l1 (l : List Mf) (l7 : List Rul) (x9 : Nat) : Nat → (List Rul) × Nat → Sum ((List Rul) × Nat) ((List Rul))
  | 0, zz => .inl zz
  | nq + 1, zz => lacks_m_b1 l l7 x9 (lacks_m_l1 l l7 x9 nq) zz.1 zz.2

def lacks_m_k1 (l : List Mf) (l7 : List Rul) (x9 : Nat) (rec : (List Rul) × Nat → Sum ((List Rul) × Nat) ((List Rul))) (y42 : List Rul) (y44 : Nat) : Sum ((List Rul) × Nat) ((List Rul)) :=
  rec (y42, (x9 + 1))

def lacks_m_b0 (l : List Mf) (rec : (List Rul) × Nat → Sum ((List Rul) × Nat) ((List Rul))) (l7 : List Rul) (x9 : Nat) : Sum ((List Rul) × Nat) ((List Rul)) :=
  if x9 < l.length then
    fin (lacks_m_l1 l l7 x9 ((((l.getD x9 dMf).needs).length - 0) + 1) (l7, 0)) .inr (fun zz => lacks_m_k1 l l7 x9 rec zz.1 zz.2)
  else
    .inl (l7, x9)
def lacks_m_l0 (l : List Mf) : Nat → (List Rul) × Nat → Sum ((List Rul) × Nat) ((List Rul))
  | 0, zz => .inl zz
  | nq + 1, zz => lacks_m_b0 l (lacks_m_l0 l nq) zz.1 zz.2

def lacks_m_k0 (l : List Mf) (y13 : List Rul) (y15 : Nat) : (List Rul) :=
  y13

def lacks_m (l : List Mf) : (List Rul) :=
  fin (lacks_m_l0 l ((l.length - 0) + 1) (([] : List Rul), 0)) (fun r => r) (fun zz => lacks_m_k0 l zz.1 zz.2)

set_option maxHeartbeats 4000000 in
set_option maxRecDepth 100000 in
theorem lacks_any (l : List Mf) (lv0 : Value) (lv1 : List (Value × Value × Value)) (w : World) (hl : Rn nMf 5 MfN l lv1 lv0 w) (hp0 : l.length ≤ 100000) (hp1 : okl l) : Calls Tryd.prog 10 #[lv0] w (fun e w' => (∃ v, e = .returned v ∧ ∃ o0 : Value, v = o0 ∧ w'.ownsRow w.heap.size 24 3 o0 (lacks_m l).length ((lacks_m l).flatMap eRul)) ∧ Below w.heap.size w w') := by
  go_enter Tryd.func10, Tryd.ntmps10
  have hm00 := Mm.nil none (fun _ => True) w
  obtain ⟨Fl, hm01⟩ : ∃ Fl, Mm none (fun _ => True) w w [.see (Rn nMf 5 MfN l lv1 lv0) Fl] := hm00.come ((Rn.all MfN_all) hl)
  have hm0 := hm01
  refine wp_seq_k (fun K1 hK1 => ?_)
  refine wp_region_lit ?_
  refine lvw 2 (.slice none 0 0) rfl rfl (run_as rfl rfl) ?_
  simp only [nz1, nz2, nz3]
  refine wpList_nil ?_
  refine then_n (hK1 _ _ ?_)
  refine wp_seq_k (fun K2 hK2 => ?_)
  refine wp_region_lit ?_
  refine lvw 3 (.slice none 0 0) rfl rfl (run_as rfl rfl) ?_
  simp only [nz1, nz2, nz3]
  refine wpList_nil ?_
  refine then_n (hK2 _ _ ?_)
  refine wp_seq_k (fun K3 hK3 => ?_)
  refine wp_seq_k (fun K4 hK4 => ?_)
  refine wp_region_lit ?_
  refine lvw 8 (lv0) rfl rfl (run_mv rfl rfl) ?_
  simp only [nz1, nz2, nz3]
  refine lvw 9 (.int .i64 ((l.length : Nat) : Int)) rfl rfl (s_len ((hm0.see 0 rfl)).rd rfl Tryd.underlying22 rfl) ?_
  simp only [nz1, nz2, nz3]
  refine lvw 10 (.int .i64 0) rfl rfl (run_mv rfl rfl) ?_
  simp only [nz1, nz2, nz3]
  refine wpList_nil ?_
  refine then_n (hK4 _ _ ?_)
  have hm6 : Mm none (fun _ => True) w w [.see (Rn nMf 5 MfN l lv1 lv0) Fl, .row (.slice none 0 0) ([] : List Rul).length (([] : List Rul).flatMap eRul) 24 3] := hm0.nilrow 24 3
  refine wp_cutK (fun a' w' => ∃ (y13 : List Rul) (y15 : Nat) (v14 : Value) (yu0 : Nat → Value), lacks_m_l0 l ((l.length - 0) + 1) (([] : List Rul), 0) = .inl (y13, y15) ∧ (y13.length ≤ 6710887 * y15 ∧ y15 ≤ l.length) ∧ a' = ⟨#[lv0, undef, .slice none 0 0, v14, undef, yu0 0, undef, yu0 1, lv0, .int .i64 ((l.length : Nat) : Int), .int .i64 ((y15 : Nat) : Int), yu0 2, yu0 3, yu0 4, yu0 5, yu0 6, yu0 7, yu0 8, yu0 9, yu0 10, yu0 11, yu0 12, yu0 13, yu0 14, yu0 15, yu0 16, yu0 17, yu0 18, yu0 19, yu0 20, yu0 21, undef], []⟩ ∧ Mm none (fun _ => True) w w' [.see (Rn nMf 5 MfN l lv1 lv0) Fl, .row v14 y13.length (y13.flatMap eRul) 24 3]) ?_ ?_
  · refine wp_block ?_
    refine wp_loop_n (fun n' a' w' => ∃ (n10 : Nat) (l7 : List Rul) (x9 : Nat) (v8 : Value) (u0 : Nat → Value), n' = n10 ∧ (l.length - x9) < n10 ∧ lacks_m_l0 l ((l.length - 0) + 1) (([] : List Rul), 0) = lacks_m_l0 l n10 (l7, x9) ∧ (l7.length ≤ 6710887 * x9 ∧ x9 ≤ l.length) ∧ a' = ⟨#[lv0, undef, .slice none 0 0, v8, undef, u0 0, undef, u0 1, lv0, .int .i64 ((l.length : Nat) : Int), .int .i64 ((x9 : Nat) : Int), u0 2, u0 3, u0 4, u0 5, u0 6, u0 7, u0 8, u0 9, u0 10, u0 11, u0 12, u0 13, u0 14, u0 15, u0 16, u0 17, u0 18, u0 19, u0 20, u0 21, undef], []⟩ ∧ Mm none (fun _ => True) w w' [.see (Rn nMf 5 MfN l lv1 lv0) Fl, .row v8 l7.length (l7.flatMap eRul) 24 3]) ⟨((l.length - 0) + 1), ([] : List Rul), 0, .slice none 0 0, (fun qq => List.getD [undef, undef, undef, undef, undef, undef, undef, undef, undef, undef, undef, undef, undef, undef, undef, undef, undef, undef, undef, undef, undef, undef] qq undef), rfl, Nat.lt_succ_self _, rfl, (by first | omega | (simp; done) | (simp; omega) | (simp at *; omega)), rfl, hm6⟩ ?_
    rintro n10 _ w17 ⟨_, l7, x9, v8, u0, rfl, hl21, hi12, hlo, rfl, hm18⟩ R19 hR19
    obtain ⟨k11, rfl⟩ : ∃ k, n10 = k + 1 := ⟨n10 - 1, by omega⟩
    refine wp_seq_k (fun K22 hK22 => ?_)
    refine wp_region_lit ?_
    refine lvw 11 (.bool (decide (x9 < l.length))) rfl rfl (r_lss x9 l.length rfl rfl rfl) ?_
    simp only [nz1, nz2, nz3]
    refine wpList_nil ?_
    refine then_n (hK22 _ _ ?_)
    refine wp_seq_k (fun K23 hK23 => ?_)
    refine cond_d (x9 < l.length) rfl (fun hc24 => ?_) (fun hc24 => ?_)
    rotate_left
    · refine wp_exit ?_
      refine then_x ?_
      refine then_x ?_
      refine blk_x ?_
      refine then_n ?_
      exact ⟨l7, x9, v8, (fun qq => List.getD [u0 0, u0 1, .bool (decide (x9 < l.length)), u0 3, u0 4, u0 5, u0 6, u0 7, u0 8, u0 9, u0 10, u0 11, u0 12, u0 13, u0 14, u0 15, u0 16, u0 17, u0 18, u0 19, u0 20, u0 21] qq undef), (hi12.trans (show lacks_m_b0 l (lacks_m_l0 l k11) l7 x9 = .inl (l7, x9) from by unfold lacks_m_b0; rw [if_neg hc24] <;> rfl)), (by first | omega | (simp; done) | (simp; omega) | (simp at *; omega)), rfl, hm18⟩
    refine wp_skip ?_
    refine then_n (hK23 _ _ ?_)
    refine wp_seq_k (fun K25 hK25 => ?_)
    refine wp_block ?_
    refine wp_seq_k (fun K26 hK26 => ?_)
    refine wp_region_lit ?_
    refine lvw 12 (.pointer (some ⟨(bk lv0), (po lv0 + x9 * 5), none⟩)) rfl rfl (r_ixv ((hm18.see 0 rfl)).rd x9 (by omega) Tryd.underlying22 sz_37 rfl rfl rfl) ?_
    simp only [nz1, nz2, nz3]
    refine lvw 13 (.agg #[.string (tx ((l.getD x9 dMf).name)), .string (tx ((l.getD x9 dMf).version)), (lv1.getD x9 ((Value.slice none 0 0), (Value.slice none 0 0), (Value.slice none 0 0))).1, (lv1.getD x9 ((Value.slice none 0 0), (Value.slice none 0 0), (Value.slice none 0 0))).2.1, (lv1.getD x9 ((Value.slice none 0 0), (Value.slice none 0 0), (Value.slice none 0 0))).2.2]) rfl rfl (r_partw (fun j u hj => Rn.cell ((hm18.see 0 rfl)) nMf_len dMf ((Value.slice none 0 0), (Value.slice none 0 0), (Value.slice none 0 0)) x9 (by omega) j u (arr_get hj)) Tryd.underlying37 rfl (by exact sz_37) rfl rfl) ?_
    simp only [nz1, nz2, nz3]
    refine lst rfl (m_alloc (c := #[.string (tx ([])), .string (tx ([])), .slice none 0 0, .slice none 0 0, .slice none 0 0]) (T := 37) hm18 5 rfl (by unfold execOp; go_simp; try rfl) (fun g29 w27 (hm28 : Mm none (fun _ => True) w w27 [.see (Rn nMf 5 MfN l lv1 lv0) Fl, .row v8 l7.length (l7.flatMap eRul) 24 3, .blk g29 #[.string (tx ([])), .string (tx ([])), .slice none 0 0, .slice none 0 0, .slice none 0 0] 37]) => ?_))
    simp only [nz1, nz2, nz3]
    have ho32 := (rd_one ((Rn.el ((hm28.see 0 rfl)) dMf ((Value.slice none 0 0), (Value.slice none 0 0), (Value.slice none 0 0)) x9 (by omega)).1))
    have ho33 := (rd_one ((Rn.el ((hm28.see 0 rfl)) dMf ((Value.slice none 0 0), (Value.slice none 0 0), (Value.slice none 0 0)) x9 (by omega)).2.1))
    have ho34 := (rd_one ((Rn.el ((hm28.see 0 rfl)) dMf ((Value.slice none 0 0), (Value.slice none 0 0), (Value.slice none 0 0)) x9 (by omega)).2.2))
    refine lst rfl (m_store 2 37 _ _ 0 (.agg #[.string (tx ((l.getD x9 dMf).name)), .string (tx ((l.getD x9 dMf).version)), (lv1.getD x9 ((Value.slice none 0 0), (Value.slice none 0 0), (Value.slice none 0 0))).1, (lv1.getD x9 ((Value.slice none 0 0), (Value.slice none 0 0), (Value.slice none 0 0))).2.1, (lv1.getD x9 ((Value.slice none 0 0), (Value.slice none 0 0), (Value.slice none 0 0))).2.2]) (old := #[.string (tx ([])), .string (tx ([])), .slice none 0 0, .slice none 0 0, .slice none 0 0]) (new := #[.string (tx ((l.getD x9 dMf).name)), .string (tx ((l.getD x9 dMf).version)), (lv1.getD x9 ((Value.slice none 0 0), (Value.slice none 0 0), (Value.slice none 0 0))).1, (lv1.getD x9 ((Value.slice none 0 0), (Value.slice none 0 0), (Value.slice none 0 0))).2.1, (lv1.getD x9 ((Value.slice none 0 0), (Value.slice none 0 0), (Value.slice none 0 0))).2.2]) hm28 rfl rfl rfl rfl rfl (by exact sz_37) (show 0 + 5 ≤ 5 from by decide) (by rw [Array.all_eq_true_iff_forall_mem]; intro x hx; simp only [Value.cells, List.mem_toArray, List.mem_cons, List.not_mem_nil, or_false] at hx; rcases hx with rfl | rfl | rfl | rfl | rfl <;> first | rfl | assumption) rfl (fun w30 (hm31 : Mm none (fun _ => True) w w30 [.see (Rn nMf 5 MfN l lv1 lv0) Fl, .row v8 l7.length (l7.flatMap eRul) 24 3, .blk g29 #[.string (tx ((l.getD x9 dMf).name)), .string (tx ((l.getD x9 dMf).version)), (lv1.getD x9 ((Value.slice none 0 0), (Value.slice none 0 0), (Value.slice none 0 0))).1, (lv1.getD x9 ((Value.slice none 0 0), (Value.slice none 0 0), (Value.slice none 0 0))).2.1, (lv1.getD x9 ((Value.slice none 0 0), (Value.slice none 0 0), (Value.slice none 0 0))).2.2] 37]) => ?_))
    refine wpList_nil ?_
    refine then_n (hK26 _ _ ?_)
    refine wp_seq_k (fun K35 hK35 => ?_)
    refine wp_region_lit ?_
    refine lvw 14 (.pointer (some ⟨g29, 2, none⟩)) rfl rfl (r_fa37_2 g29 0 rfl rfl) ?_
    simp only [nz1, nz2, nz3]
    refine lvw 15 ((lv1.getD x9 ((Value.slice none 0 0), (Value.slice none 0 0), (Value.slice none 0 0))).1) rfl rfl (r_load (hm31.at 2 rfl) rfl Tryd.underlying28 rfl rfl rfl) ?_
    simp only [nz1, nz2, nz3]
    refine lvw 16 (.int .i64 ((((l.getD x9 dMf).needs).length : Nat) : Int)) rfl rfl (s_len ((Rn.el ((hm31.see 0 rfl)) dMf ((Value.slice none 0 0), (Value.slice none 0 0), (Value.slice none 0 0)) x9 (by omega)).1) rfl Tryd.underlying28 rfl) ?_
    simp only [nz1, nz2, nz3]
    refine lvw 17 (.int .i64 0) rfl rfl (run_mv rfl rfl) ?_
    simp only [nz1, nz2, nz3]
    refine wpList_nil ?_
    refine then_n (hK35 _ _ ?_)
    refine wp_cutK (fun a' w' => ∃ (y42 : List Rul) (y44 : Nat) (v43 : Value) (yu1 : Nat → Value), lacks_m_l1 l l7 x9 ((((l.getD x9 dMf).needs).length - 0) + 1) (l7, 0) = .inl (y42, y44) ∧ (y42.length ≤ 6710887 * x9 + y44 ∧ y44 ≤ (l.getD x9 dMf).needs.length ∧ (l.getD x9 dMf).needs.length ≤ 6710887) ∧ a' = ⟨#[lv0, undef, .slice none 0 0, v43, undef, .pointer (some ⟨g29, 0, none⟩), undef, yu1 0, lv0, .int .i64 ((l.length : Nat) : Int), .int .i64 ((x9 : Nat) : Int), .bool (decide (x9 < l.length)), .pointer (some ⟨(bk lv0), (po lv0 + x9 * 5), none⟩), .agg #[.string (tx ((l.getD x9 dMf).name)), .string (tx ((l.getD x9 dMf).version)), (lv1.getD x9 ((Value.slice none 0 0), (Value.slice none 0 0), (Value.slice none 0 0))).1, (lv1.getD x9 ((Value.slice none 0 0), (Value.slice none 0 0), (Value.slice none 0 0))).2.1, (lv1.getD x9 ((Value.slice none 0 0), (Value.slice none 0 0), (Value.slice none 0 0))).2.2], .pointer (some ⟨g29, 2, none⟩), (lv1.getD x9 ((Value.slice none 0 0), (Value.slice none 0 0), (Value.slice none 0 0))).1, .int .i64 ((((l.getD x9 dMf).needs).length : Nat) : Int), .int .i64 ((y44 : Nat) : Int), yu1 1, yu1 2, yu1 3, yu1 4, yu1 5, yu1 6, yu1 7, yu1 8, yu1 9, yu1 10, yu1 11, yu1 12, u0 21, undef], []⟩ ∧ Mm none (fun _ => True) w w' [.see (Rn nMf 5 MfN l lv1 lv0) Fl, .row v43 y42.length (y42.flatMap eRul) 24 3, .blk g29 #[.string (tx ((l.getD x9 dMf).name)), .string (tx ((l.getD x9 dMf).version)), (lv1.getD x9 ((Value.slice none 0 0), (Value.slice none 0 0), (Value.slice none 0 0))).1, (lv1.getD x9 ((Value.slice none 0 0), (Value.slice none 0 0), (Value.slice none 0 0))).2.1, (lv1.getD x9 ((Value.slice none 0 0), (Value.slice none 0 0), (Value.slice none 0 0))).2.2] 37]) ?_ ?_
    · refine wp_block ?_
      refine wp_loop_n (fun n' a' w' => ∃ (n39 : Nat) (l36 : List Rul) (x38 : Nat) (v37 : Value) (u1 : Nat → Value), n' = n39 ∧ (((l.getD x9 dMf).needs).length - x38) < n39 ∧ lacks_m_l1 l l7 x9 ((((l.getD x9 dMf).needs).length - 0) + 1) (l7, 0) = lacks_m_l1 l l7 x9 n39 (l36, x38) ∧ (l36.length ≤ 6710887 * x9 + x38 ∧ x38 ≤ (l.getD x9 dMf).needs.length ∧ (l.getD x9 dMf).needs.length ≤ 6710887) ∧ a' = ⟨#[lv0, undef, .slice none 0 0, v37, undef, .pointer (some ⟨g29, 0, none⟩), undef, u1 0, lv0, .int .i64 ((l.length : Nat) : Int), .int .i64 ((x9 : Nat) : Int), .bool (decide (x9 < l.length)), .pointer (some ⟨(bk lv0), (po lv0 + x9 * 5), none⟩), .agg #[.string (tx ((l.getD x9 dMf).name)), .string (tx ((l.getD x9 dMf).version)), (lv1.getD x9 ((Value.slice none 0 0), (Value.slice none 0 0), (Value.slice none 0 0))).1, (lv1.getD x9 ((Value.slice none 0 0), (Value.slice none 0 0), (Value.slice none 0 0))).2.1, (lv1.getD x9 ((Value.slice none 0 0), (Value.slice none 0 0), (Value.slice none 0 0))).2.2], .pointer (some ⟨g29, 2, none⟩), (lv1.getD x9 ((Value.slice none 0 0), (Value.slice none 0 0), (Value.slice none 0 0))).1, .int .i64 ((((l.getD x9 dMf).needs).length : Nat) : Int), .int .i64 ((x38 : Nat) : Int), u1 1, u1 2, u1 3, u1 4, u1 5, u1 6, u1 7, u1 8, u1 9, u1 10, u1 11, u1 12, u0 21, undef], []⟩ ∧ Mm none (fun _ => True) w w' [.see (Rn nMf 5 MfN l lv1 lv0) Fl, .row v37 l36.length (l36.flatMap eRul) 24 3, .blk g29 #[.string (tx ((l.getD x9 dMf).name)), .string (tx ((l.getD x9 dMf).version)), (lv1.getD x9 ((Value.slice none 0 0), (Value.slice none 0 0), (Value.slice none 0 0))).1, (lv1.getD x9 ((Value.slice none 0 0), (Value.slice none 0 0), (Value.slice none 0 0))).2.1, (lv1.getD x9 ((Value.slice none 0 0), (Value.slice none 0 0), (Value.slice none 0 0))).2.2] 37]) ⟨((((l.getD x9 dMf).needs).length - 0) + 1), l7, 0, v8, (fun qq => List.getD [u0 1, u0 9, u0 10, u0 11, u0 12, u0 13, u0 14, u0 15, u0 16, u0 17, u0 18, u0 19, u0 20] qq undef), rfl, Nat.lt_succ_self _, rfl, (by have hqn := (okl_at hp1 x9).1; exact ⟨by omega, Nat.zero_le _, hqn⟩), rfl, hm31⟩ ?_
      rintro n39 _ w46 ⟨_, l36, x38, v37, u1, rfl, hl50, hi41, hli, rfl, hm47⟩ R48 hR48
      obtain ⟨k40, rfl⟩ : ∃ k, n39 = k + 1 := ⟨n39 - 1, by omega⟩
      refine wp_seq_k (fun K51 hK51 => ?_)
      refine wp_region_lit ?_
      refine lvw 18 (.bool (decide (x38 < ((l.getD x9 dMf).needs).length))) rfl rfl (r_lss x38 (((l.getD x9 dMf).needs).length) rfl rfl rfl) ?_
      simp only [nz1, nz2, nz3]
      refine wpList_nil ?_
      refine then_n (hK51 _ _ ?_)
      refine wp_seq_k (fun K52 hK52 => ?_)
      refine cond_d (x38 < ((l.getD x9 dMf).needs).length) rfl (fun hc53 => ?_) (fun hc53 => ?_)
      rotate_left
      · refine wp_exit ?_
        refine then_x ?_
        refine then_x ?_
        refine blk_x ?_
        refine then_n ?_
        exact ⟨l36, x38, v37, (fun qq => List.getD [u1 0, .bool (decide (x38 < ((l.getD x9 dMf).needs).length)), u1 2, u1 3, u1 4, u1 5, u1 6, u1 7, u1 8, u1 9, u1 10, u1 11, u1 12] qq undef), (hi41.trans (show lacks_m_b1 l l7 x9 (lacks_m_l1 l l7 x9 k40) l36 x38 = .inl (l36, x38) from by unfold lacks_m_b1; rw [if_neg hc53] <;> rfl)), (by first | omega | (simp; done) | (simp; omega) | (simp at *; omega)), rfl, hm47⟩
      refine wp_skip ?_
      refine then_n (hK52 _ _ ?_)
      refine wp_seq_k (fun K54 hK54 => ?_)
      refine wp_block ?_
      refine wp_seq_k (fun K55 hK55 => ?_)
      refine wp_region_lit ?_
      refine lvw 19 (.pointer (some ⟨(bk ((lv1.getD x9 ((Value.slice none 0 0), (Value.slice none 0 0), (Value.slice none 0 0))).1)), (po ((lv1.getD x9 ((Value.slice none 0 0), (Value.slice none 0 0), (Value.slice none 0 0))).1) + x38 * 3), none⟩)) rfl rfl (r_ixv ((Rn.el ((hm47.see 0 rfl)) dMf ((Value.slice none 0 0), (Value.slice none 0 0), (Value.slice none 0 0)) x9 (by omega)).1) x38 (by omega) Tryd.underlying28 sz_24 rfl rfl rfl) ?_
      simp only [nz1, nz2, nz3]
      refine lvw 20 (.agg #[.string (tx ((((l.getD x9 dMf).needs).getD x38 dRul).name)), .int .i64 ((((l.getD x9 dMf).needs).getD x38 dRul).op), .string (tx ((((l.getD x9 dMf).needs).getD x38 dRul).version))]) rfl rfl (r_partw (fun j u hj => Rs.cell ((Rn.el ((hm47.see 0 rfl)) dMf ((Value.slice none 0 0), (Value.slice none 0 0), (Value.slice none 0 0)) x9 (by omega)).1) eRul_len dRul x38 (by omega) j u (arr_get hj)) Tryd.underlying24 rfl (by exact sz_24) rfl rfl) ?_
      simp only [nz1, nz2, nz3]
      refine lst rfl (m_alloc (c := #[.string (tx ([])), .int .i64 0, .string (tx ([]))]) (T := 24) hm47 7 rfl (by unfold execOp; go_simp; try rfl) (fun g58 w56 (hm57 : Mm none (fun _ => True) w w56 [.see (Rn nMf 5 MfN l lv1 lv0) Fl, .row v37 l36.length (l36.flatMap eRul) 24 3, .blk g29 #[.string (tx ((l.getD x9 dMf).name)), .string (tx ((l.getD x9 dMf).version)), (lv1.getD x9 ((Value.slice none 0 0), (Value.slice none 0 0), (Value.slice none 0 0))).1, (lv1.getD x9 ((Value.slice none 0 0), (Value.slice none 0 0), (Value.slice none 0 0))).2.1, (lv1.getD x9 ((Value.slice none 0 0), (Value.slice none 0 0), (Value.slice none 0 0))).2.2] 37, .blk g58 #[.string (tx ([])), .int .i64 0, .string (tx ([]))] 24]) => ?_))
      simp only [nz1, nz2, nz3]
      refine lst rfl (m_store 3 24 _ _ 0 (.agg #[.string (tx ((((l.getD x9 dMf).needs).getD x38 dRul).name)), .int .i64 ((((l.getD x9 dMf).needs).getD x38 dRul).op), .string (tx ((((l.getD x9 dMf).needs).getD x38 dRul).version))]) (old := #[.string (tx ([])), .int .i64 0, .string (tx ([]))]) (new := #[.string (tx ((((l.getD x9 dMf).needs).getD x38 dRul).name)), .int .i64 ((((l.getD x9 dMf).needs).getD x38 dRul).op), .string (tx ((((l.getD x9 dMf).needs).getD x38 dRul).version))]) hm57 rfl rfl rfl rfl rfl (by exact sz_24) (show 0 + 3 ≤ 3 from by decide) (by simp [Value.cells, Value.oneCell']) rfl (fun w59 (hm60 : Mm none (fun _ => True) w w59 [.see (Rn nMf 5 MfN l lv1 lv0) Fl, .row v37 l36.length (l36.flatMap eRul) 24 3, .blk g29 #[.string (tx ((l.getD x9 dMf).name)), .string (tx ((l.getD x9 dMf).version)), (lv1.getD x9 ((Value.slice none 0 0), (Value.slice none 0 0), (Value.slice none 0 0))).1, (lv1.getD x9 ((Value.slice none 0 0), (Value.slice none 0 0), (Value.slice none 0 0))).2.1, (lv1.getD x9 ((Value.slice none 0 0), (Value.slice none 0 0), (Value.slice none 0 0))).2.2] 37, .blk g58 #[.string (tx ((((l.getD x9 dMf).needs).getD x38 dRul).name)), .int .i64 ((((l.getD x9 dMf).needs).getD x38 dRul).op), .string (tx ((((l.getD x9 dMf).needs).getD x38 dRul).version))] 24]) => ?_))
      refine wpList_nil ?_
      refine then_n (hK55 _ _ ?_)
      refine wp_seq_k (fun K61 hK61 => ?_)
      refine wp_region_lit ?_
      refine lvw 21 (lv0) rfl rfl (run_mv rfl rfl) ?_
      simp only [nz1, nz2, nz3]
      refine lvw 22 (.agg #[.string (tx ((((l.getD x9 dMf).needs).getD x38 dRul).name)), .int .i64 ((((l.getD x9 dMf).needs).getD x38 dRul).op), .string (tx ((((l.getD x9 dMf).needs).getD x38 dRul).version))]) rfl rfl (r_whole (hm60.at 3 rfl) Tryd.underlying24 rfl (by exact sz_24) rfl rfl) ?_
      simp only [nz1, nz2, nz3]
      refine lst rfl (m_call hm60 23 (.bool ((meets_m l (((l.getD x9 dMf).needs).getD x38 dRul) ([])))) rfl (run_meets rfl rfl rfl rfl) (meets_any l (((l.getD x9 dMf).needs).getD x38 dRul) ([]) lv0 lv1 _ (hm60.see 0 rfl) (by first | omega | assumption | (simp; done) | (simp; omega) | (simp only [List.length_append, List.length_cons, List.length_nil]; omega) | (simp only [List.length_append, List.length_cons, List.length_nil] at *; omega) | decide)) (fun w62 (hm63 : Mm none (fun _ => True) w w62 [.see (Rn nMf 5 MfN l lv1 lv0) Fl, .row v37 l36.length (l36.flatMap eRul) 24 3, .blk g29 #[.string (tx ((l.getD x9 dMf).name)), .string (tx ((l.getD x9 dMf).version)), (lv1.getD x9 ((Value.slice none 0 0), (Value.slice none 0 0), (Value.slice none 0 0))).1, (lv1.getD x9 ((Value.slice none 0 0), (Value.slice none 0 0), (Value.slice none 0 0))).2.1, (lv1.getD x9 ((Value.slice none 0 0), (Value.slice none 0 0), (Value.slice none 0 0))).2.2] 37, .blk g58 #[.string (tx ((((l.getD x9 dMf).needs).getD x38 dRul).name)), .int .i64 ((((l.getD x9 dMf).needs).getD x38 dRul).op), .string (tx ((((l.getD x9 dMf).needs).getD x38 dRul).version))] 24]) => ?_))
      simp only [nz1, nz2, nz3]
      refine lvw 24 (.bool (!(meets_m l (((l.getD x9 dMf).needs).getD x38 dRul) ([])))) rfl rfl (r_not (meets_m l (((l.getD x9 dMf).needs).getD x38 dRul) ([])) rfl rfl) ?_
      simp only [nz1, nz2, nz3]
      refine wpList_nil ?_
      refine then_n (hK61 _ _ ?_)
      refine cond_B (!(meets_m l (((l.getD x9 dMf).needs).getD x38 dRul) ([]))) rfl (fun hc64 => ?_) (fun hc64 => ?_)
      rotate_left
      · refine wp_skip ?_
        refine blk_n ?_
        refine then_n (hK54 _ _ ?_)
        refine wp_region_lit ?_
        refine lvw 29 (.int .i64 (((x38 + 1) : Nat) : Int)) rfl rfl (r_add x38 1 (show (x38 + 1) < 9223372036854775808 from by omega) rfl rfl rfl) ?_
        simp only [nz1, nz2, nz3]
        refine lvw 17 (.int .i64 (((x38 + 1) : Nat) : Int)) rfl rfl (run_mv rfl rfl) ?_
        simp only [nz1, nz2, nz3]
        refine wpList_nil ?_
        refine then_n (hR48 _ _ _ ⟨k40, l36, (x38 + 1), v37, (fun qq => List.getD [.pointer (some ⟨g58, 0, none⟩), .bool (decide (x38 < ((l.getD x9 dMf).needs).length)), .pointer (some ⟨(bk ((lv1.getD x9 ((Value.slice none 0 0), (Value.slice none 0 0), (Value.slice none 0 0))).1)), (po ((lv1.getD x9 ((Value.slice none 0 0), (Value.slice none 0 0), (Value.slice none 0 0))).1) + x38 * 3), none⟩), .agg #[.string (tx ((((l.getD x9 dMf).needs).getD x38 dRul).name)), .int .i64 ((((l.getD x9 dMf).needs).getD x38 dRul).op), .string (tx ((((l.getD x9 dMf).needs).getD x38 dRul).version))], lv0, .agg #[.string (tx ((((l.getD x9 dMf).needs).getD x38 dRul).name)), .int .i64 ((((l.getD x9 dMf).needs).getD x38 dRul).op), .string (tx ((((l.getD x9 dMf).needs).getD x38 dRul).version))], .bool ((meets_m l (((l.getD x9 dMf).needs).getD x38 dRul) ([]))), .bool (!(meets_m l (((l.getD x9 dMf).needs).getD x38 dRul) ([]))), u1 8, u1 9, u1 10, u1 11, .int .i64 (((x38 + 1) : Nat) : Int)] qq undef), rfl, (by first | omega | (simp; omega) | (simp at *; omega)), (hi41.trans (show lacks_m_b1 l l7 x9 (lacks_m_l1 l l7 x9 k40) l36 x38 = lacks_m_l1 l l7 x9 k40 (l36, (x38 + 1)) from by unfold lacks_m_b1; rw [if_pos hc53, if_neg hc64] <;> rfl)), (by (try rw [List.length_append, List.length_singleton]); omega), rfl, (Mm.reorder hm63 [0, 1, 2] (by decide) rfl)⟩ ?_)
        omega
      refine wp_region_lit ?_
      refine lvw 25 (v37) rfl rfl (run_mv rfl rfl) ?_
      simp only [nz1, nz2, nz3]
      refine lvw 26 (.agg #[.string (tx ((((l.getD x9 dMf).needs).getD x38 dRul).name)), .int .i64 ((((l.getD x9 dMf).needs).getD x38 dRul).op), .string (tx ((((l.getD x9 dMf).needs).getD x38 dRul).version))]) rfl rfl (r_whole (hm63.at 3 rfl) Tryd.underlying24 rfl (by exact sz_24) rfl rfl) ?_
      simp only [nz1, nz2, nz3]
      refine lst rfl (m_make (c := #[.string (tx ((((l.getD x9 dMf).needs).getD x38 dRul).name)), .int .i64 ((((l.getD x9 dMf).needs).getD x38 dRul).op), .string (tx ((((l.getD x9 dMf).needs).getD x38 dRul).version))]) (T := 24) (fun g => .slice (some ⟨g, 0, none⟩) 1 1) hm63 27 rfl (by unfold execOp; go_simp; try rfl) (fun g67 w65 (hm66 : Mm none (fun _ => True) w w65 [.see (Rn nMf 5 MfN l lv1 lv0) Fl, .row v37 l36.length (l36.flatMap eRul) 24 3, .blk g29 #[.string (tx ((l.getD x9 dMf).name)), .string (tx ((l.getD x9 dMf).version)), (lv1.getD x9 ((Value.slice none 0 0), (Value.slice none 0 0), (Value.slice none 0 0))).1, (lv1.getD x9 ((Value.slice none 0 0), (Value.slice none 0 0), (Value.slice none 0 0))).2.1, (lv1.getD x9 ((Value.slice none 0 0), (Value.slice none 0 0), (Value.slice none 0 0))).2.2] 37, .blk g58 #[.string (tx ((((l.getD x9 dMf).needs).getD x38 dRul).name)), .int .i64 ((((l.getD x9 dMf).needs).getD x38 dRul).op), .string (tx ((((l.getD x9 dMf).needs).getD x38 dRul).version))] 24, .blk g67 #[.string (tx ((((l.getD x9 dMf).needs).getD x38 dRul).name)), .int .i64 ((((l.getD x9 dMf).needs).getD x38 dRul).op), .string (tx ((((l.getD x9 dMf).needs).getD x38 dRul).version))] 24]) => ?_))
      simp only [nz1, nz2, nz3]
      obtain ⟨iq, hiq, hz1, hz2, hz3⟩ := inf_24
      refine lst rfl (m_appendR 1 (l := l36) (l2 := [(((l.getD x9 dMf).needs).getD x38 dRul)]) iq _ _ _ (.slice (some ⟨g67, 0, none⟩) 1 1) hm66 rfl 28 rfl rfl Tryd.underlying28 hiq hz1 hz2 hz3 eRul_len eRul_one rfl (by decide) rfl rfl (Rs.blk (l := [(((l.getD x9 dMf).needs).getD x38 dRul)]) (hm66.at 4 rfl) rfl rfl eRul_len (Nat.le_refl _)) (by first | omega | (simp; omega)) (by first | omega | (simp; omega)) (fun v70 w68 (hm69 : Mm none (fun _ => True) w w68 [.see (Rn nMf 5 MfN l lv1 lv0) Fl, .row v70 (l36 ++ [(((l.getD x9 dMf).needs).getD x38 dRul)]).length ((l36 ++ [(((l.getD x9 dMf).needs).getD x38 dRul)]).flatMap eRul) 24 3, .blk g29 #[.string (tx ((l.getD x9 dMf).name)), .string (tx ((l.getD x9 dMf).version)), (lv1.getD x9 ((Value.slice none 0 0), (Value.slice none 0 0), (Value.slice none 0 0))).1, (lv1.getD x9 ((Value.slice none 0 0), (Value.slice none 0 0), (Value.slice none 0 0))).2.1, (lv1.getD x9 ((Value.slice none 0 0), (Value.slice none 0 0), (Value.slice none 0 0))).2.2] 37, .blk g58 #[.string (tx ((((l.getD x9 dMf).needs).getD x38 dRul).name)), .int .i64 ((((l.getD x9 dMf).needs).getD x38 dRul).op), .string (tx ((((l.getD x9 dMf).needs).getD x38 dRul).version))] 24, .blk g67 #[.string (tx ((((l.getD x9 dMf).needs).getD x38 dRul).name)), .int .i64 ((((l.getD x9 dMf).needs).getD x38 dRul).op), .string (tx ((((l.getD x9 dMf).needs).getD x38 dRul).version))] 24]) => ?_))
      simp only [nz1, nz2, nz3]
      refine lvw 3 (v70) rfl rfl (run_as rfl rfl) ?_
      simp only [nz1, nz2, nz3]
      refine wpList_nil ?_
      refine blk_n ?_
      refine then_n (hK54 _ _ ?_)
      refine wp_region_lit ?_
      refine lvw 29 (.int .i64 (((x38 + 1) : Nat) : Int)) rfl rfl (r_add x38 1 (show (x38 + 1) < 9223372036854775808 from by omega) rfl rfl rfl) ?_
      simp only [nz1, nz2, nz3]
      refine lvw 17 (.int .i64 (((x38 + 1) : Nat) : Int)) rfl rfl (run_mv rfl rfl) ?_
      simp only [nz1, nz2, nz3]
      refine wpList_nil ?_
      refine then_n (hR48 _ _ _ ⟨k40, (l36 ++ [(((l.getD x9 dMf).needs).getD x38 dRul)]), (x38 + 1), v70, (fun qq => List.getD [.pointer (some ⟨g58, 0, none⟩), .bool (decide (x38 < ((l.getD x9 dMf).needs).length)), .pointer (some ⟨(bk ((lv1.getD x9 ((Value.slice none 0 0), (Value.slice none 0 0), (Value.slice none 0 0))).1)), (po ((lv1.getD x9 ((Value.slice none 0 0), (Value.slice none 0 0), (Value.slice none 0 0))).1) + x38 * 3), none⟩), .agg #[.string (tx ((((l.getD x9 dMf).needs).getD x38 dRul).name)), .int .i64 ((((l.getD x9 dMf).needs).getD x38 dRul).op), .string (tx ((((l.getD x9 dMf).needs).getD x38 dRul).version))], lv0, .agg #[.string (tx ((((l.getD x9 dMf).needs).getD x38 dRul).name)), .int .i64 ((((l.getD x9 dMf).needs).getD x38 dRul).op), .string (tx ((((l.getD x9 dMf).needs).getD x38 dRul).version))], .bool ((meets_m l (((l.getD x9 dMf).needs).getD x38 dRul) ([]))), .bool (!(meets_m l (((l.getD x9 dMf).needs).getD x38 dRul) ([]))), v37, .agg #[.string (tx ((((l.getD x9 dMf).needs).getD x38 dRul).name)), .int .i64 ((((l.getD x9 dMf).needs).getD x38 dRul).op), .string (tx ((((l.getD x9 dMf).needs).getD x38 dRul).version))], .slice (some ⟨g67, 0, none⟩) 1 1, v70, .int .i64 (((x38 + 1) : Nat) : Int)] qq undef), rfl, (by first | omega | (simp; omega) | (simp at *; omega)), (hi41.trans (show lacks_m_b1 l l7 x9 (lacks_m_l1 l l7 x9 k40) l36 x38 = lacks_m_l1 l l7 x9 k40 ((l36 ++ [(((l.getD x9 dMf).needs).getD x38 dRul)]), (x38 + 1)) from by unfold lacks_m_b1; rw [if_pos hc53, if_pos hc64] <;> rfl)), (by (try rw [List.length_append, List.length_singleton]); omega), rfl, (Mm.reorder hm69 [0, 1, 2] (by decide) rfl)⟩ ?_)
      omega
    rintro _ w71 ⟨y42, y44, v43, yu1, hx45, hli, rfl, hm72⟩
    have hq73 : lacks_m_l0 l ((l.length - 0) + 1) (([] : List Rul), 0) = lacks_m_k1 l l7 x9 (lacks_m_l0 l k11) y42 y44 := (hi12.trans (show lacks_m_b0 l (lacks_m_l0 l k11) l7 x9 = lacks_m_k1 l l7 x9 (lacks_m_l0 l k11) y42 y44 from by unfold lacks_m_b0; rw [if_pos hc24, hx45] <;> rfl))
    refine blk_n ?_
    refine then_n (hK25 _ _ ?_)
    refine wp_region_lit ?_
    refine lvw 30 (.int .i64 (((x9 + 1) : Nat) : Int)) rfl rfl (r_add x9 1 (show (x9 + 1) < 9223372036854775808 from by omega) rfl rfl rfl) ?_
    simp only [nz1, nz2, nz3]
    refine lvw 10 (.int .i64 (((x9 + 1) : Nat) : Int)) rfl rfl (run_mv rfl rfl) ?_
    simp only [nz1, nz2, nz3]
    refine wpList_nil ?_
    refine then_n (hR19 _ _ _ ⟨k11, y42, (x9 + 1), v43, (fun qq => List.getD [.pointer (some ⟨g29, 0, none⟩), yu1 0, .bool (decide (x9 < l.length)), .pointer (some ⟨(bk lv0), (po lv0 + x9 * 5), none⟩), .agg #[.string (tx ((l.getD x9 dMf).name)), .string (tx ((l.getD x9 dMf).version)), (lv1.getD x9 ((Value.slice none 0 0), (Value.slice none 0 0), (Value.slice none 0 0))).1, (lv1.getD x9 ((Value.slice none 0 0), (Value.slice none 0 0), (Value.slice none 0 0))).2.1, (lv1.getD x9 ((Value.slice none 0 0), (Value.slice none 0 0), (Value.slice none 0 0))).2.2], .pointer (some ⟨g29, 2, none⟩), (lv1.getD x9 ((Value.slice none 0 0), (Value.slice none 0 0), (Value.slice none 0 0))).1, .int .i64 ((((l.getD x9 dMf).needs).length : Nat) : Int), .int .i64 ((y44 : Nat) : Int), yu1 1, yu1 2, yu1 3, yu1 4, yu1 5, yu1 6, yu1 7, yu1 8, yu1 9, yu1 10, yu1 11, yu1 12, .int .i64 (((x9 + 1) : Nat) : Int)] qq undef), rfl, (by first | omega | (simp; omega) | (simp at *; omega)), (hq73.trans (show lacks_m_k1 l l7 x9 (lacks_m_l0 l k11) y42 y44 = lacks_m_l0 l k11 (y42, (x9 + 1)) from by unfold lacks_m_k1; rfl)), (by have hqn := okl_at hp1 x9; omega), rfl, (Mm.reorder hm72 [0, 1] (by decide) rfl)⟩ ?_)
    omega
  rintro _ w74 ⟨y13, y15, v14, yu0, hx16, hlo, rfl, hm75⟩
  have hq76 : lacks_m l = lacks_m_k0 l y13 y15 := (show lacks_m l = lacks_m_k0 l y13 y15 from by unfold lacks_m; rw [hx16] <;> rfl)
  refine then_n (hK3 _ _ ?_)
  refine wp_seq_k (fun K77 hK77 => ?_)
  refine wp_region_lit ?_
  refine lvw 31 (v14) rfl rfl (run_mv rfl rfl) ?_
  simp only [nz1, nz2, nz3]
  refine lvw 2 (v14) rfl rfl (run_as rfl rfl) ?_
  simp only [nz1, nz2, nz3]
  refine wpList_nil ?_
  refine then_n (hK77 _ _ ?_)
  refine wp_ret ?_
  have he78 : lacks_m l = y13 := (hq76.trans (show lacks_m_k0 l y13 y15 = y13 from by unfold lacks_m_k0; rfl))
  exact ⟨rfl, v14, res_t rfl rfl, ⟨⟨_, rfl, v14, (by first | rfl | rw [he78]), by rw [he78]; exact hm75.gives 1 rfl⟩, hm75.below⟩⟩
theorem run_lacks {o : Oper} {a : Act} {w : World} {x0 : Operand} {v0 : Value} (ho : o.op = .call { callee := .value (.func 10), args := #[x0], argTypes := #[22] }) (h0 : a.eval x0 = v0) :
    (execOp a.eval o).run Tryd.prog w = .ok (.enter 10 #[v0]) w := by
  unfold execOp
  simp only [ho]
  have hf : a.eval (.func 10) = .func (.func 10) #[] #[] := rfl
  generalize a.eval = f at *
  go_simp
def clashes_m_b1 (l : List Mf) (l7 : List Rul) (x9 : Nat) (rec : (List Rul) × Nat → Sum ((List Rul) × Nat) ((List Rul))) (l36 : List Rul) (x38 : Nat) : Sum ((List Rul) × Nat) ((List Rul)) :=
  if x38 < ((l.getD x9 dMf).clashes).length then
    if (meets_m l (((l.getD x9 dMf).clashes).getD x38 dRul) ((l.getD x9 dMf).name)) = true then
      rec ((l36 ++ [(((l.getD x9 dMf).clashes).getD x38 dRul)]), (x38 + 1))
    else
      rec (l36, (x38 + 1))
  else
    .inl (l36, x38)
def clashes_m_l1 (l : List Mf) (l7 : List Rul) (x9 : Nat) : Nat → (List Rul) × Nat → Sum ((List Rul) × Nat) ((List Rul))
  | 0, zz => .inl zz
  | nq + 1, zz => clashes_m_b1 l l7 x9 (clashes_m_l1 l l7 x9 nq) zz.1 zz.2

def clashes_m_k1 (l : List Mf) (l7 : List Rul) (x9 : Nat) (rec : (List Rul) × Nat → Sum ((List Rul) × Nat) ((List Rul))) (y42 : List Rul) (y44 : Nat) : Sum ((List Rul) × Nat) ((List Rul)) :=
  rec (y42, (x9 + 1))

def clashes_m_b0 (l : List Mf) (rec : (List Rul) × Nat → Sum ((List Rul) × Nat) ((List Rul))) (l7 : List Rul) (x9 : Nat) : Sum ((List Rul) × Nat) ((List Rul)) :=
  if x9 < l.length then
    fin (clashes_m_l1 l l7 x9 ((((l.getD x9 dMf).clashes).length - 0) + 1) (l7, 0)) .inr (fun zz => clashes_m_k1 l l7 x9 rec zz.1 zz.2)
  else
    .inl (l7, x9)
def clashes_m_l0 (l : List Mf) : Nat → (List Rul) × Nat → Sum ((List Rul) × Nat) ((List Rul))
  | 0, zz => .inl zz
  | nq + 1, zz => clashes_m_b0 l (clashes_m_l0 l nq) zz.1 zz.2

def clashes_m_k0 (l : List Mf) (y13 : List Rul) (y15 : Nat) : (List Rul) :=
  y13

def clashes_m (l : List Mf) : (List Rul) :=
  fin (clashes_m_l0 l ((l.length - 0) + 1) (([] : List Rul), 0)) (fun r => r) (fun zz => clashes_m_k0 l zz.1 zz.2)

set_option maxHeartbeats 4000000 in
set_option maxRecDepth 100000 in
theorem clashes_any (l : List Mf) (lv0 : Value) (lv1 : List (Value × Value × Value)) (w : World) (hl : Rn nMf 5 MfN l lv1 lv0 w) (hp0 : l.length ≤ 100000) (hp1 : okl l) : Calls Tryd.prog 12 #[lv0] w (fun e w' => (∃ v, e = .returned v ∧ ∃ o0 : Value, v = o0 ∧ w'.ownsRow w.heap.size 24 3 o0 (clashes_m l).length ((clashes_m l).flatMap eRul)) ∧ Below w.heap.size w w') := by
  go_enter Tryd.func12, Tryd.ntmps12
  have hm00 := Mm.nil none (fun _ => True) w
  obtain ⟨Fl, hm01⟩ : ∃ Fl, Mm none (fun _ => True) w w [.see (Rn nMf 5 MfN l lv1 lv0) Fl] := hm00.come ((Rn.all MfN_all) hl)
  have hm0 := hm01
  refine wp_seq_k (fun K1 hK1 => ?_)
  refine wp_region_lit ?_
  refine lvw 2 (.slice none 0 0) rfl rfl (run_as rfl rfl) ?_
  simp only [nz1, nz2, nz3]
  refine wpList_nil ?_
  refine then_n (hK1 _ _ ?_)
  refine wp_seq_k (fun K2 hK2 => ?_)
  refine wp_region_lit ?_
  refine lvw 3 (.slice none 0 0) rfl rfl (run_as rfl rfl) ?_
  simp only [nz1, nz2, nz3]
  refine wpList_nil ?_
  refine then_n (hK2 _ _ ?_)
  refine wp_seq_k (fun K3 hK3 => ?_)
  refine wp_seq_k (fun K4 hK4 => ?_)
  refine wp_region_lit ?_
  refine lvw 8 (lv0) rfl rfl (run_mv rfl rfl) ?_
  simp only [nz1, nz2, nz3]
  refine lvw 9 (.int .i64 ((l.length : Nat) : Int)) rfl rfl (s_len ((hm0.see 0 rfl)).rd rfl Tryd.underlying22 rfl) ?_
  simp only [nz1, nz2, nz3]
  refine lvw 10 (.int .i64 0) rfl rfl (run_mv rfl rfl) ?_
  simp only [nz1, nz2, nz3]
  refine wpList_nil ?_
  refine then_n (hK4 _ _ ?_)
  have hm6 : Mm none (fun _ => True) w w [.see (Rn nMf 5 MfN l lv1 lv0) Fl, .row (.slice none 0 0) ([] : List Rul).length (([] : List Rul).flatMap eRul) 24 3] := hm0.nilrow 24 3
  refine wp_cutK (fun a' w' => ∃ (y13 : List Rul) (y15 : Nat) (v14 : Value) (yu0 : Nat → Value), clashes_m_l0 l ((l.length - 0) + 1) (([] : List Rul), 0) = .inl (y13, y15) ∧ (y13.length ≤ 6710887 * y15 ∧ y15 ≤ l.length) ∧ a' = ⟨#[lv0, undef, .slice none 0 0, v14, undef, yu0 0, undef, yu0 1, lv0, .int .i64 ((l.length : Nat) : Int), .int .i64 ((y15 : Nat) : Int), yu0 2, yu0 3, yu0 4, yu0 5, yu0 6, yu0 7, yu0 8, yu0 9, yu0 10, yu0 11, yu0 12, yu0 13, yu0 14, yu0 15, yu0 16, yu0 17, yu0 18, yu0 19, yu0 20, yu0 21, yu0 22, undef], []⟩ ∧ Mm none (fun _ => True) w w' [.see (Rn nMf 5 MfN l lv1 lv0) Fl, .row v14 y13.length (y13.flatMap eRul) 24 3]) ?_ ?_
  · refine wp_block ?_
    refine wp_loop_n (fun n' a' w' => ∃ (n10 : Nat) (l7 : List Rul) (x9 : Nat) (v8 : Value) (u0 : Nat → Value), n' = n10 ∧ (l.length - x9) < n10 ∧ clashes_m_l0 l ((l.length - 0) + 1) (([] : List Rul), 0) = clashes_m_l0 l n10 (l7, x9) ∧ (l7.length ≤ 6710887 * x9 ∧ x9 ≤ l.length) ∧ a' = ⟨#[lv0, undef, .slice none 0 0, v8, undef, u0 0, undef, u0 1, lv0, .int .i64 ((l.length : Nat) : Int), .int .i64 ((x9 : Nat) : Int), u0 2, u0 3, u0 4, u0 5, u0 6, u0 7, u0 8, u0 9, u0 10, u0 11, u0 12, u0 13, u0 14, u0 15, u0 16, u0 17, u0 18, u0 19, u0 20, u0 21, u0 22, undef], []⟩ ∧ Mm none (fun _ => True) w w' [.see (Rn nMf 5 MfN l lv1 lv0) Fl, .row v8 l7.length (l7.flatMap eRul) 24 3]) ⟨((l.length - 0) + 1), ([] : List Rul), 0, .slice none 0 0, (fun qq => List.getD [undef, undef, undef, undef, undef, undef, undef, undef, undef, undef, undef, undef, undef, undef, undef, undef, undef, undef, undef, undef, undef, undef, undef] qq undef), rfl, Nat.lt_succ_self _, rfl, (by first | omega | (simp; done) | (simp; omega) | (simp at *; omega)), rfl, hm6⟩ ?_
    rintro n10 _ w17 ⟨_, l7, x9, v8, u0, rfl, hl21, hi12, hlo, rfl, hm18⟩ R19 hR19
    obtain ⟨k11, rfl⟩ : ∃ k, n10 = k + 1 := ⟨n10 - 1, by omega⟩
    refine wp_seq_k (fun K22 hK22 => ?_)
    refine wp_region_lit ?_
    refine lvw 11 (.bool (decide (x9 < l.length))) rfl rfl (r_lss x9 l.length rfl rfl rfl) ?_
    simp only [nz1, nz2, nz3]
    refine wpList_nil ?_
    refine then_n (hK22 _ _ ?_)
    refine wp_seq_k (fun K23 hK23 => ?_)
    refine cond_d (x9 < l.length) rfl (fun hc24 => ?_) (fun hc24 => ?_)
    rotate_left
    · refine wp_exit ?_
      refine then_x ?_
      refine then_x ?_
      refine blk_x ?_
      refine then_n ?_
      exact ⟨l7, x9, v8, (fun qq => List.getD [u0 0, u0 1, .bool (decide (x9 < l.length)), u0 3, u0 4, u0 5, u0 6, u0 7, u0 8, u0 9, u0 10, u0 11, u0 12, u0 13, u0 14, u0 15, u0 16, u0 17, u0 18, u0 19, u0 20, u0 21, u0 22] qq undef), (hi12.trans (show clashes_m_b0 l (clashes_m_l0 l k11) l7 x9 = .inl (l7, x9) from by unfold clashes_m_b0; rw [if_neg hc24] <;> rfl)), (by first | omega | (simp; done) | (simp; omega) | (simp at *; omega)), rfl, hm18⟩
    refine wp_skip ?_
    refine then_n (hK23 _ _ ?_)
    refine wp_seq_k (fun K25 hK25 => ?_)
    refine wp_block ?_
    refine wp_seq_k (fun K26 hK26 => ?_)
    refine wp_region_lit ?_
    refine lvw 12 (.pointer (some ⟨(bk lv0), (po lv0 + x9 * 5), none⟩)) rfl rfl (r_ixv ((hm18.see 0 rfl)).rd x9 (by omega) Tryd.underlying22 sz_37 rfl rfl rfl) ?_
    simp only [nz1, nz2, nz3]
    refine lvw 13 (.agg #[.string (tx ((l.getD x9 dMf).name)), .string (tx ((l.getD x9 dMf).version)), (lv1.getD x9 ((Value.slice none 0 0), (Value.slice none 0 0), (Value.slice none 0 0))).1, (lv1.getD x9 ((Value.slice none 0 0), (Value.slice none 0 0), (Value.slice none 0 0))).2.1, (lv1.getD x9 ((Value.slice none 0 0), (Value.slice none 0 0), (Value.slice none 0 0))).2.2]) rfl rfl (r_partw (fun j u hj => Rn.cell ((hm18.see 0 rfl)) nMf_len dMf ((Value.slice none 0 0), (Value.slice none 0 0), (Value.slice none 0 0)) x9 (by omega) j u (arr_get hj)) Tryd.underlying37 rfl (by exact sz_37) rfl rfl) ?_
    simp only [nz1, nz2, nz3]
    refine lst rfl (m_alloc (c := #[.string (tx ([])), .string (tx ([])), .slice none 0 0, .slice none 0 0, .slice none 0 0]) (T := 37) hm18 5 rfl (by unfold execOp; go_simp; try rfl) (fun g29 w27 (hm28 : Mm none (fun _ => True) w w27 [.see (Rn nMf 5 MfN l lv1 lv0) Fl, .row v8 l7.length (l7.flatMap eRul) 24 3, .blk g29 #[.string (tx ([])), .string (tx ([])), .slice none 0 0, .slice none 0 0, .slice none 0 0] 37]) => ?_))
    simp only [nz1, nz2, nz3]
    have ho32 := (rd_one ((Rn.el ((hm28.see 0 rfl)) dMf ((Value.slice none 0 0), (Value.slice none 0 0), (Value.slice none 0 0)) x9 (by omega)).1))
    have ho33 := (rd_one ((Rn.el ((hm28.see 0 rfl)) dMf ((Value.slice none 0 0), (Value.slice none 0 0), (Value.slice none 0 0)) x9 (by omega)).2.1))
    have ho34 := (rd_one ((Rn.el ((hm28.see 0 rfl)) dMf ((Value.slice none 0 0), (Value.slice none 0 0), (Value.slice none 0 0)) x9 (by omega)).2.2))
    refine lst rfl (m_store 2 37 _ _ 0 (.agg #[.string (tx ((l.getD x9 dMf).name)), .string (tx ((l.getD x9 dMf).version)), (lv1.getD x9 ((Value.slice none 0 0), (Value.slice none 0 0), (Value.slice none 0 0))).1, (lv1.getD x9 ((Value.slice none 0 0), (Value.slice none 0 0), (Value.slice none 0 0))).2.1, (lv1.getD x9 ((Value.slice none 0 0), (Value.slice none 0 0), (Value.slice none 0 0))).2.2]) (old := #[.string (tx ([])), .string (tx ([])), .slice none 0 0, .slice none 0 0, .slice none 0 0]) (new := #[.string (tx ((l.getD x9 dMf).name)), .string (tx ((l.getD x9 dMf).version)), (lv1.getD x9 ((Value.slice none 0 0), (Value.slice none 0 0), (Value.slice none 0 0))).1, (lv1.getD x9 ((Value.slice none 0 0), (Value.slice none 0 0), (Value.slice none 0 0))).2.1, (lv1.getD x9 ((Value.slice none 0 0), (Value.slice none 0 0), (Value.slice none 0 0))).2.2]) hm28 rfl rfl rfl rfl rfl (by exact sz_37) (show 0 + 5 ≤ 5 from by decide) (by rw [Array.all_eq_true_iff_forall_mem]; intro x hx; simp only [Value.cells, List.mem_toArray, List.mem_cons, List.not_mem_nil, or_false] at hx; rcases hx with rfl | rfl | rfl | rfl | rfl <;> first | rfl | assumption) rfl (fun w30 (hm31 : Mm none (fun _ => True) w w30 [.see (Rn nMf 5 MfN l lv1 lv0) Fl, .row v8 l7.length (l7.flatMap eRul) 24 3, .blk g29 #[.string (tx ((l.getD x9 dMf).name)), .string (tx ((l.getD x9 dMf).version)), (lv1.getD x9 ((Value.slice none 0 0), (Value.slice none 0 0), (Value.slice none 0 0))).1, (lv1.getD x9 ((Value.slice none 0 0), (Value.slice none 0 0), (Value.slice none 0 0))).2.1, (lv1.getD x9 ((Value.slice none 0 0), (Value.slice none 0 0), (Value.slice none 0 0))).2.2] 37]) => ?_))
    refine wpList_nil ?_
    refine then_n (hK26 _ _ ?_)
    refine wp_seq_k (fun K35 hK35 => ?_)
    refine wp_region_lit ?_
    refine lvw 14 (.pointer (some ⟨g29, 3, none⟩)) rfl rfl (r_fa37_3 g29 0 rfl rfl) ?_
    simp only [nz1, nz2, nz3]
    refine lvw 15 ((lv1.getD x9 ((Value.slice none 0 0), (Value.slice none 0 0), (Value.slice none 0 0))).2.1) rfl rfl (r_load (hm31.at 2 rfl) rfl Tryd.underlying28 rfl rfl rfl) ?_
    simp only [nz1, nz2, nz3]
    refine lvw 16 (.int .i64 ((((l.getD x9 dMf).clashes).length : Nat) : Int)) rfl rfl (s_len ((Rn.el ((hm31.see 0 rfl)) dMf ((Value.slice none 0 0), (Value.slice none 0 0), (Value.slice none 0 0)) x9 (by omega)).2.1) rfl Tryd.underlying28 rfl) ?_
    simp only [nz1, nz2, nz3]
    refine lvw 17 (.int .i64 0) rfl rfl (run_mv rfl rfl) ?_
    simp only [nz1, nz2, nz3]
    refine wpList_nil ?_
    refine then_n (hK35 _ _ ?_)
    refine wp_cutK (fun a' w' => ∃ (y42 : List Rul) (y44 : Nat) (v43 : Value) (yu1 : Nat → Value), clashes_m_l1 l l7 x9 ((((l.getD x9 dMf).clashes).length - 0) + 1) (l7, 0) = .inl (y42, y44) ∧ (y42.length ≤ 6710887 * x9 + y44 ∧ y44 ≤ (l.getD x9 dMf).clashes.length ∧ (l.getD x9 dMf).clashes.length ≤ 6710887) ∧ a' = ⟨#[lv0, undef, .slice none 0 0, v43, undef, .pointer (some ⟨g29, 0, none⟩), undef, yu1 0, lv0, .int .i64 ((l.length : Nat) : Int), .int .i64 ((x9 : Nat) : Int), .bool (decide (x9 < l.length)), .pointer (some ⟨(bk lv0), (po lv0 + x9 * 5), none⟩), .agg #[.string (tx ((l.getD x9 dMf).name)), .string (tx ((l.getD x9 dMf).version)), (lv1.getD x9 ((Value.slice none 0 0), (Value.slice none 0 0), (Value.slice none 0 0))).1, (lv1.getD x9 ((Value.slice none 0 0), (Value.slice none 0 0), (Value.slice none 0 0))).2.1, (lv1.getD x9 ((Value.slice none 0 0), (Value.slice none 0 0), (Value.slice none 0 0))).2.2], .pointer (some ⟨g29, 3, none⟩), (lv1.getD x9 ((Value.slice none 0 0), (Value.slice none 0 0), (Value.slice none 0 0))).2.1, .int .i64 ((((l.getD x9 dMf).clashes).length : Nat) : Int), .int .i64 ((y44 : Nat) : Int), yu1 1, yu1 2, yu1 3, yu1 4, yu1 5, yu1 6, yu1 7, yu1 8, yu1 9, yu1 10, yu1 11, yu1 12, yu1 13, u0 22, undef], []⟩ ∧ Mm none (fun _ => True) w w' [.see (Rn nMf 5 MfN l lv1 lv0) Fl, .row v43 y42.length (y42.flatMap eRul) 24 3, .blk g29 #[.string (tx ((l.getD x9 dMf).name)), .string (tx ((l.getD x9 dMf).version)), (lv1.getD x9 ((Value.slice none 0 0), (Value.slice none 0 0), (Value.slice none 0 0))).1, (lv1.getD x9 ((Value.slice none 0 0), (Value.slice none 0 0), (Value.slice none 0 0))).2.1, (lv1.getD x9 ((Value.slice none 0 0), (Value.slice none 0 0), (Value.slice none 0 0))).2.2] 37]) ?_ ?_
    · refine wp_block ?_
      refine wp_loop_n (fun n' a' w' => ∃ (n39 : Nat) (l36 : List Rul) (x38 : Nat) (v37 : Value) (u1 : Nat → Value), n' = n39 ∧ (((l.getD x9 dMf).clashes).length - x38) < n39 ∧ clashes_m_l1 l l7 x9 ((((l.getD x9 dMf).clashes).length - 0) + 1) (l7, 0) = clashes_m_l1 l l7 x9 n39 (l36, x38) ∧ (l36.length ≤ 6710887 * x9 + x38 ∧ x38 ≤ (l.getD x9 dMf).clashes.length ∧ (l.getD x9 dMf).clashes.length ≤ 6710887) ∧ a' = ⟨#[lv0, undef, .slice none 0 0, v37, undef, .pointer (some ⟨g29, 0, none⟩), undef, u1 0, lv0, .int .i64 ((l.length : Nat) : Int), .int .i64 ((x9 : Nat) : Int), .bool (decide (x9 < l.length)), .pointer (some ⟨(bk lv0), (po lv0 + x9 * 5), none⟩), .agg #[.string (tx ((l.getD x9 dMf).name)), .string (tx ((l.getD x9 dMf).version)), (lv1.getD x9 ((Value.slice none 0 0), (Value.slice none 0 0), (Value.slice none 0 0))).1, (lv1.getD x9 ((Value.slice none 0 0), (Value.slice none 0 0), (Value.slice none 0 0))).2.1, (lv1.getD x9 ((Value.slice none 0 0), (Value.slice none 0 0), (Value.slice none 0 0))).2.2], .pointer (some ⟨g29, 3, none⟩), (lv1.getD x9 ((Value.slice none 0 0), (Value.slice none 0 0), (Value.slice none 0 0))).2.1, .int .i64 ((((l.getD x9 dMf).clashes).length : Nat) : Int), .int .i64 ((x38 : Nat) : Int), u1 1, u1 2, u1 3, u1 4, u1 5, u1 6, u1 7, u1 8, u1 9, u1 10, u1 11, u1 12, u1 13, u0 22, undef], []⟩ ∧ Mm none (fun _ => True) w w' [.see (Rn nMf 5 MfN l lv1 lv0) Fl, .row v37 l36.length (l36.flatMap eRul) 24 3, .blk g29 #[.string (tx ((l.getD x9 dMf).name)), .string (tx ((l.getD x9 dMf).version)), (lv1.getD x9 ((Value.slice none 0 0), (Value.slice none 0 0), (Value.slice none 0 0))).1, (lv1.getD x9 ((Value.slice none 0 0), (Value.slice none 0 0), (Value.slice none 0 0))).2.1, (lv1.getD x9 ((Value.slice none 0 0), (Value.slice none 0 0), (Value.slice none 0 0))).2.2] 37]) ⟨((((l.getD x9 dMf).clashes).length - 0) + 1), l7, 0, v8, (fun qq => List.getD [u0 1, u0 9, u0 10, u0 11, u0 12, u0 13, u0 14, u0 15, u0 16, u0 17, u0 18, u0 19, u0 20, u0 21] qq undef), rfl, Nat.lt_succ_self _, rfl, (by have hqn := (okl_at hp1 x9).2; exact ⟨by omega, Nat.zero_le _, hqn⟩), rfl, hm31⟩ ?_
      rintro n39 _ w46 ⟨_, l36, x38, v37, u1, rfl, hl50, hi41, hli, rfl, hm47⟩ R48 hR48
      obtain ⟨k40, rfl⟩ : ∃ k, n39 = k + 1 := ⟨n39 - 1, by omega⟩
      refine wp_seq_k (fun K51 hK51 => ?_)
      refine wp_region_lit ?_
      refine lvw 18 (.bool (decide (x38 < ((l.getD x9 dMf).clashes).length))) rfl rfl (r_lss x38 (((l.getD x9 dMf).clashes).length) rfl rfl rfl) ?_
      simp only [nz1, nz2, nz3]
      refine wpList_nil ?_
      refine then_n (hK51 _ _ ?_)
      refine wp_seq_k (fun K52 hK52 => ?_)
      refine cond_d (x38 < ((l.getD x9 dMf).clashes).length) rfl (fun hc53 => ?_) (fun hc53 => ?_)
      rotate_left
      · refine wp_exit ?_
        refine then_x ?_
        refine then_x ?_
        refine blk_x ?_
        refine then_n ?_
        exact ⟨l36, x38, v37, (fun qq => List.getD [u1 0, .bool (decide (x38 < ((l.getD x9 dMf).clashes).length)), u1 2, u1 3, u1 4, u1 5, u1 6, u1 7, u1 8, u1 9, u1 10, u1 11, u1 12, u1 13] qq undef), (hi41.trans (show clashes_m_b1 l l7 x9 (clashes_m_l1 l l7 x9 k40) l36 x38 = .inl (l36, x38) from by unfold clashes_m_b1; rw [if_neg hc53] <;> rfl)), (by first | omega | (simp; done) | (simp; omega) | (simp at *; omega)), rfl, hm47⟩
      refine wp_skip ?_
      refine then_n (hK52 _ _ ?_)
      refine wp_seq_k (fun K54 hK54 => ?_)
      refine wp_block ?_
      refine wp_seq_k (fun K55 hK55 => ?_)
      refine wp_region_lit ?_
      refine lvw 19 (.pointer (some ⟨(bk ((lv1.getD x9 ((Value.slice none 0 0), (Value.slice none 0 0), (Value.slice none 0 0))).2.1)), (po ((lv1.getD x9 ((Value.slice none 0 0), (Value.slice none 0 0), (Value.slice none 0 0))).2.1) + x38 * 3), none⟩)) rfl rfl (r_ixv ((Rn.el ((hm47.see 0 rfl)) dMf ((Value.slice none 0 0), (Value.slice none 0 0), (Value.slice none 0 0)) x9 (by omega)).2.1) x38 (by omega) Tryd.underlying28 sz_24 rfl rfl rfl) ?_
      simp only [nz1, nz2, nz3]
      refine lvw 20 (.agg #[.string (tx ((((l.getD x9 dMf).clashes).getD x38 dRul).name)), .int .i64 ((((l.getD x9 dMf).clashes).getD x38 dRul).op), .string (tx ((((l.getD x9 dMf).clashes).getD x38 dRul).version))]) rfl rfl (r_partw (fun j u hj => Rs.cell ((Rn.el ((hm47.see 0 rfl)) dMf ((Value.slice none 0 0), (Value.slice none 0 0), (Value.slice none 0 0)) x9 (by omega)).2.1) eRul_len dRul x38 (by omega) j u (arr_get hj)) Tryd.underlying24 rfl (by exact sz_24) rfl rfl) ?_
      simp only [nz1, nz2, nz3]
      refine lst rfl (m_alloc (c := #[.string (tx ([])), .int .i64 0, .string (tx ([]))]) (T := 24) hm47 7 rfl (by unfold execOp; go_simp; try rfl) (fun g58 w56 (hm57 : Mm none (fun _ => True) w w56 [.see (Rn nMf 5 MfN l lv1 lv0) Fl, .row v37 l36.length (l36.flatMap eRul) 24 3, .blk g29 #[.string (tx ((l.getD x9 dMf).name)), .string (tx ((l.getD x9 dMf).version)), (lv1.getD x9 ((Value.slice none 0 0), (Value.slice none 0 0), (Value.slice none 0 0))).1, (lv1.getD x9 ((Value.slice none 0 0), (Value.slice none 0 0), (Value.slice none 0 0))).2.1, (lv1.getD x9 ((Value.slice none 0 0), (Value.slice none 0 0), (Value.slice none 0 0))).2.2] 37, .blk g58 #[.string (tx ([])), .int .i64 0, .string (tx ([]))] 24]) => ?_))
      simp only [nz1, nz2, nz3]
      refine lst rfl (m_store 3 24 _ _ 0 (.agg #[.string (tx ((((l.getD x9 dMf).clashes).getD x38 dRul).name)), .int .i64 ((((l.getD x9 dMf).clashes).getD x38 dRul).op), .string (tx ((((l.getD x9 dMf).clashes).getD x38 dRul).version))]) (old := #[.string (tx ([])), .int .i64 0, .string (tx ([]))]) (new := #[.string (tx ((((l.getD x9 dMf).clashes).getD x38 dRul).name)), .int .i64 ((((l.getD x9 dMf).clashes).getD x38 dRul).op), .string (tx ((((l.getD x9 dMf).clashes).getD x38 dRul).version))]) hm57 rfl rfl rfl rfl rfl (by exact sz_24) (show 0 + 3 ≤ 3 from by decide) (by simp [Value.cells, Value.oneCell']) rfl (fun w59 (hm60 : Mm none (fun _ => True) w w59 [.see (Rn nMf 5 MfN l lv1 lv0) Fl, .row v37 l36.length (l36.flatMap eRul) 24 3, .blk g29 #[.string (tx ((l.getD x9 dMf).name)), .string (tx ((l.getD x9 dMf).version)), (lv1.getD x9 ((Value.slice none 0 0), (Value.slice none 0 0), (Value.slice none 0 0))).1, (lv1.getD x9 ((Value.slice none 0 0), (Value.slice none 0 0), (Value.slice none 0 0))).2.1, (lv1.getD x9 ((Value.slice none 0 0), (Value.slice none 0 0), (Value.slice none 0 0))).2.2] 37, .blk g58 #[.string (tx ((((l.getD x9 dMf).clashes).getD x38 dRul).name)), .int .i64 ((((l.getD x9 dMf).clashes).getD x38 dRul).op), .string (tx ((((l.getD x9 dMf).clashes).getD x38 dRul).version))] 24]) => ?_))
      refine wpList_nil ?_
      refine then_n (hK55 _ _ ?_)
      refine wp_seq_k (fun K61 hK61 => ?_)
      refine wp_region_lit ?_
      refine lvw 21 (lv0) rfl rfl (run_mv rfl rfl) ?_
      simp only [nz1, nz2, nz3]
      refine lvw 22 (.agg #[.string (tx ((((l.getD x9 dMf).clashes).getD x38 dRul).name)), .int .i64 ((((l.getD x9 dMf).clashes).getD x38 dRul).op), .string (tx ((((l.getD x9 dMf).clashes).getD x38 dRul).version))]) rfl rfl (r_whole (hm60.at 3 rfl) Tryd.underlying24 rfl (by exact sz_24) rfl rfl) ?_
      simp only [nz1, nz2, nz3]
      refine lvw 23 (.pointer (some ⟨g29, 0, none⟩)) rfl rfl (r_fa37_0 g29 0 rfl rfl) ?_
      simp only [nz1, nz2, nz3]
      refine lvw 24 (.string (tx ((l.getD x9 dMf).name))) rfl rfl (r_load (hm60.at 2 rfl) rfl Tryd.underlying9 rfl rfl rfl) ?_
      simp only [nz1, nz2, nz3]
      refine lst rfl (m_call hm60 25 (.bool ((meets_m l (((l.getD x9 dMf).clashes).getD x38 dRul) ((l.getD x9 dMf).name)))) rfl (run_meets rfl rfl rfl rfl) (meets_any l (((l.getD x9 dMf).clashes).getD x38 dRul) ((l.getD x9 dMf).name) lv0 lv1 _ (hm60.see 0 rfl) (by first | omega | assumption | (simp; done) | (simp; omega) | (simp only [List.length_append, List.length_cons, List.length_nil]; omega) | (simp only [List.length_append, List.length_cons, List.length_nil] at *; omega) | decide)) (fun w62 (hm63 : Mm none (fun _ => True) w w62 [.see (Rn nMf 5 MfN l lv1 lv0) Fl, .row v37 l36.length (l36.flatMap eRul) 24 3, .blk g29 #[.string (tx ((l.getD x9 dMf).name)), .string (tx ((l.getD x9 dMf).version)), (lv1.getD x9 ((Value.slice none 0 0), (Value.slice none 0 0), (Value.slice none 0 0))).1, (lv1.getD x9 ((Value.slice none 0 0), (Value.slice none 0 0), (Value.slice none 0 0))).2.1, (lv1.getD x9 ((Value.slice none 0 0), (Value.slice none 0 0), (Value.slice none 0 0))).2.2] 37, .blk g58 #[.string (tx ((((l.getD x9 dMf).clashes).getD x38 dRul).name)), .int .i64 ((((l.getD x9 dMf).clashes).getD x38 dRul).op), .string (tx ((((l.getD x9 dMf).clashes).getD x38 dRul).version))] 24]) => ?_))
      simp only [nz1, nz2, nz3]
      refine wpList_nil ?_
      refine then_n (hK61 _ _ ?_)
      refine cond_B (meets_m l (((l.getD x9 dMf).clashes).getD x38 dRul) ((l.getD x9 dMf).name)) rfl (fun hc64 => ?_) (fun hc64 => ?_)
      rotate_left
      · refine wp_skip ?_
        refine blk_n ?_
        refine then_n (hK54 _ _ ?_)
        refine wp_region_lit ?_
        refine lvw 30 (.int .i64 (((x38 + 1) : Nat) : Int)) rfl rfl (r_add x38 1 (show (x38 + 1) < 9223372036854775808 from by omega) rfl rfl rfl) ?_
        simp only [nz1, nz2, nz3]
        refine lvw 17 (.int .i64 (((x38 + 1) : Nat) : Int)) rfl rfl (run_mv rfl rfl) ?_
        simp only [nz1, nz2, nz3]
        refine wpList_nil ?_
        refine then_n (hR48 _ _ _ ⟨k40, l36, (x38 + 1), v37, (fun qq => List.getD [.pointer (some ⟨g58, 0, none⟩), .bool (decide (x38 < ((l.getD x9 dMf).clashes).length)), .pointer (some ⟨(bk ((lv1.getD x9 ((Value.slice none 0 0), (Value.slice none 0 0), (Value.slice none 0 0))).2.1)), (po ((lv1.getD x9 ((Value.slice none 0 0), (Value.slice none 0 0), (Value.slice none 0 0))).2.1) + x38 * 3), none⟩), .agg #[.string (tx ((((l.getD x9 dMf).clashes).getD x38 dRul).name)), .int .i64 ((((l.getD x9 dMf).clashes).getD x38 dRul).op), .string (tx ((((l.getD x9 dMf).clashes).getD x38 dRul).version))], lv0, .agg #[.string (tx ((((l.getD x9 dMf).clashes).getD x38 dRul).name)), .int .i64 ((((l.getD x9 dMf).clashes).getD x38 dRul).op), .string (tx ((((l.getD x9 dMf).clashes).getD x38 dRul).version))], .pointer (some ⟨g29, 0, none⟩), .string (tx ((l.getD x9 dMf).name)), .bool ((meets_m l (((l.getD x9 dMf).clashes).getD x38 dRul) ((l.getD x9 dMf).name))), u1 9, u1 10, u1 11, u1 12, .int .i64 (((x38 + 1) : Nat) : Int)] qq undef), rfl, (by first | omega | (simp; omega) | (simp at *; omega)), (hi41.trans (show clashes_m_b1 l l7 x9 (clashes_m_l1 l l7 x9 k40) l36 x38 = clashes_m_l1 l l7 x9 k40 (l36, (x38 + 1)) from by unfold clashes_m_b1; rw [if_pos hc53, if_neg hc64] <;> rfl)), (by (try rw [List.length_append, List.length_singleton]); omega), rfl, (Mm.reorder hm63 [0, 1, 2] (by decide) rfl)⟩ ?_)
        omega
      refine wp_region_lit ?_
      refine lvw 26 (v37) rfl rfl (run_mv rfl rfl) ?_
      simp only [nz1, nz2, nz3]
      refine lvw 27 (.agg #[.string (tx ((((l.getD x9 dMf).clashes).getD x38 dRul).name)), .int .i64 ((((l.getD x9 dMf).clashes).getD x38 dRul).op), .string (tx ((((l.getD x9 dMf).clashes).getD x38 dRul).version))]) rfl rfl (r_whole (hm63.at 3 rfl) Tryd.underlying24 rfl (by exact sz_24) rfl rfl) ?_
      simp only [nz1, nz2, nz3]
      refine lst rfl (m_make (c := #[.string (tx ((((l.getD x9 dMf).clashes).getD x38 dRul).name)), .int .i64 ((((l.getD x9 dMf).clashes).getD x38 dRul).op), .string (tx ((((l.getD x9 dMf).clashes).getD x38 dRul).version))]) (T := 24) (fun g => .slice (some ⟨g, 0, none⟩) 1 1) hm63 28 rfl (by unfold execOp; go_simp; try rfl) (fun g67 w65 (hm66 : Mm none (fun _ => True) w w65 [.see (Rn nMf 5 MfN l lv1 lv0) Fl, .row v37 l36.length (l36.flatMap eRul) 24 3, .blk g29 #[.string (tx ((l.getD x9 dMf).name)), .string (tx ((l.getD x9 dMf).version)), (lv1.getD x9 ((Value.slice none 0 0), (Value.slice none 0 0), (Value.slice none 0 0))).1, (lv1.getD x9 ((Value.slice none 0 0), (Value.slice none 0 0), (Value.slice none 0 0))).2.1, (lv1.getD x9 ((Value.slice none 0 0), (Value.slice none 0 0), (Value.slice none 0 0))).2.2] 37, .blk g58 #[.string (tx ((((l.getD x9 dMf).clashes).getD x38 dRul).name)), .int .i64 ((((l.getD x9 dMf).clashes).getD x38 dRul).op), .string (tx ((((l.getD x9 dMf).clashes).getD x38 dRul).version))] 24, .blk g67 #[.string (tx ((((l.getD x9 dMf).clashes).getD x38 dRul).name)), .int .i64 ((((l.getD x9 dMf).clashes).getD x38 dRul).op), .string (tx ((((l.getD x9 dMf).clashes).getD x38 dRul).version))] 24]) => ?_))
      simp only [nz1, nz2, nz3]
      obtain ⟨iq, hiq, hz1, hz2, hz3⟩ := inf_24
      refine lst rfl (m_appendR 1 (l := l36) (l2 := [(((l.getD x9 dMf).clashes).getD x38 dRul)]) iq _ _ _ (.slice (some ⟨g67, 0, none⟩) 1 1) hm66 rfl 29 rfl rfl Tryd.underlying28 hiq hz1 hz2 hz3 eRul_len eRul_one rfl (by decide) rfl rfl (Rs.blk (l := [(((l.getD x9 dMf).clashes).getD x38 dRul)]) (hm66.at 4 rfl) rfl rfl eRul_len (Nat.le_refl _)) (by first | omega | (simp; omega)) (by first | omega | (simp; omega)) (fun v70 w68 (hm69 : Mm none (fun _ => True) w w68 [.see (Rn nMf 5 MfN l lv1 lv0) Fl, .row v70 (l36 ++ [(((l.getD x9 dMf).clashes).getD x38 dRul)]).length ((l36 ++ [(((l.getD x9 dMf).clashes).getD x38 dRul)]).flatMap eRul) 24 3, .blk g29 #[.string (tx ((l.getD x9 dMf).name)), .string (tx ((l.getD x9 dMf).version)), (lv1.getD x9 ((Value.slice none 0 0), (Value.slice none 0 0), (Value.slice none 0 0))).1, (lv1.getD x9 ((Value.slice none 0 0), (Value.slice none 0 0), (Value.slice none 0 0))).2.1, (lv1.getD x9 ((Value.slice none 0 0), (Value.slice none 0 0), (Value.slice none 0 0))).2.2] 37, .blk g58 #[.string (tx ((((l.getD x9 dMf).clashes).getD x38 dRul).name)), .int .i64 ((((l.getD x9 dMf).clashes).getD x38 dRul).op), .string (tx ((((l.getD x9 dMf).clashes).getD x38 dRul).version))] 24, .blk g67 #[.string (tx ((((l.getD x9 dMf).clashes).getD x38 dRul).name)), .int .i64 ((((l.getD x9 dMf).clashes).getD x38 dRul).op), .string (tx ((((l.getD x9 dMf).clashes).getD x38 dRul).version))] 24]) => ?_))
      simp only [nz1, nz2, nz3]
      refine lvw 3 (v70) rfl rfl (run_as rfl rfl) ?_
      simp only [nz1, nz2, nz3]
      refine wpList_nil ?_
      refine blk_n ?_
      refine then_n (hK54 _ _ ?_)
      refine wp_region_lit ?_
      refine lvw 30 (.int .i64 (((x38 + 1) : Nat) : Int)) rfl rfl (r_add x38 1 (show (x38 + 1) < 9223372036854775808 from by omega) rfl rfl rfl) ?_
      simp only [nz1, nz2, nz3]
      refine lvw 17 (.int .i64 (((x38 + 1) : Nat) : Int)) rfl rfl (run_mv rfl rfl) ?_
      simp only [nz1, nz2, nz3]
      refine wpList_nil ?_
      refine then_n (hR48 _ _ _ ⟨k40, (l36 ++ [(((l.getD x9 dMf).clashes).getD x38 dRul)]), (x38 + 1), v70, (fun qq => List.getD [.pointer (some ⟨g58, 0, none⟩), .bool (decide (x38 < ((l.getD x9 dMf).clashes).length)), .pointer (some ⟨(bk ((lv1.getD x9 ((Value.slice none 0 0), (Value.slice none 0 0), (Value.slice none 0 0))).2.1)), (po ((lv1.getD x9 ((Value.slice none 0 0), (Value.slice none 0 0), (Value.slice none 0 0))).2.1) + x38 * 3), none⟩), .agg #[.string (tx ((((l.getD x9 dMf).clashes).getD x38 dRul).name)), .int .i64 ((((l.getD x9 dMf).clashes).getD x38 dRul).op), .string (tx ((((l.getD x9 dMf).clashes).getD x38 dRul).version))], lv0, .agg #[.string (tx ((((l.getD x9 dMf).clashes).getD x38 dRul).name)), .int .i64 ((((l.getD x9 dMf).clashes).getD x38 dRul).op), .string (tx ((((l.getD x9 dMf).clashes).getD x38 dRul).version))], .pointer (some ⟨g29, 0, none⟩), .string (tx ((l.getD x9 dMf).name)), .bool ((meets_m l (((l.getD x9 dMf).clashes).getD x38 dRul) ((l.getD x9 dMf).name))), v37, .agg #[.string (tx ((((l.getD x9 dMf).clashes).getD x38 dRul).name)), .int .i64 ((((l.getD x9 dMf).clashes).getD x38 dRul).op), .string (tx ((((l.getD x9 dMf).clashes).getD x38 dRul).version))], .slice (some ⟨g67, 0, none⟩) 1 1, v70, .int .i64 (((x38 + 1) : Nat) : Int)] qq undef), rfl, (by first | omega | (simp; omega) | (simp at *; omega)), (hi41.trans (show clashes_m_b1 l l7 x9 (clashes_m_l1 l l7 x9 k40) l36 x38 = clashes_m_l1 l l7 x9 k40 ((l36 ++ [(((l.getD x9 dMf).clashes).getD x38 dRul)]), (x38 + 1)) from by unfold clashes_m_b1; rw [if_pos hc53, if_pos hc64] <;> rfl)), (by (try rw [List.length_append, List.length_singleton]); omega), rfl, (Mm.reorder hm69 [0, 1, 2] (by decide) rfl)⟩ ?_)
      omega
    rintro _ w71 ⟨y42, y44, v43, yu1, hx45, hli, rfl, hm72⟩
    have hq73 : clashes_m_l0 l ((l.length - 0) + 1) (([] : List Rul), 0) = clashes_m_k1 l l7 x9 (clashes_m_l0 l k11) y42 y44 := (hi12.trans (show clashes_m_b0 l (clashes_m_l0 l k11) l7 x9 = clashes_m_k1 l l7 x9 (clashes_m_l0 l k11) y42 y44 from by unfold clashes_m_b0; rw [if_pos hc24, hx45] <;> rfl))
    refine blk_n ?_
    refine then_n (hK25 _ _ ?_)
    refine wp_region_lit ?_
    refine lvw 31 (.int .i64 (((x9 + 1) : Nat) : Int)) rfl rfl (r_add x9 1 (show (x9 + 1) < 9223372036854775808 from by omega) rfl rfl rfl) ?_
    simp only [nz1, nz2, nz3]
    refine lvw 10 (.int .i64 (((x9 + 1) : Nat) : Int)) rfl rfl (run_mv rfl rfl) ?_
    simp only [nz1, nz2, nz3]
    refine wpList_nil ?_
    refine then_n (hR19 _ _ _ ⟨k11, y42, (x9 + 1), v43, (fun qq => List.getD [.pointer (some ⟨g29, 0, none⟩), yu1 0, .bool (decide (x9 < l.length)), .pointer (some ⟨(bk lv0), (po lv0 + x9 * 5), none⟩), .agg #[.string (tx ((l.getD x9 dMf).name)), .string (tx ((l.getD x9 dMf).version)), (lv1.getD x9 ((Value.slice none 0 0), (Value.slice none 0 0), (Value.slice none 0 0))).1, (lv1.getD x9 ((Value.slice none 0 0), (Value.slice none 0 0), (Value.slice none 0 0))).2.1, (lv1.getD x9 ((Value.slice none 0 0), (Value.slice none 0 0), (Value.slice none 0 0))).2.2], .pointer (some ⟨g29, 3, none⟩), (lv1.getD x9 ((Value.slice none 0 0), (Value.slice none 0 0), (Value.slice none 0 0))).2.1, .int .i64 ((((l.getD x9 dMf).clashes).length : Nat) : Int), .int .i64 ((y44 : Nat) : Int), yu1 1, yu1 2, yu1 3, yu1 4, yu1 5, yu1 6, yu1 7, yu1 8, yu1 9, yu1 10, yu1 11, yu1 12, yu1 13, .int .i64 (((x9 + 1) : Nat) : Int)] qq undef), rfl, (by first | omega | (simp; omega) | (simp at *; omega)), (hq73.trans (show clashes_m_k1 l l7 x9 (clashes_m_l0 l k11) y42 y44 = clashes_m_l0 l k11 (y42, (x9 + 1)) from by unfold clashes_m_k1; rfl)), (by have hqn := okl_at hp1 x9; omega), rfl, (Mm.reorder hm72 [0, 1] (by decide) rfl)⟩ ?_)
    omega
  rintro _ w74 ⟨y13, y15, v14, yu0, hx16, hlo, rfl, hm75⟩
  have hq76 : clashes_m l = clashes_m_k0 l y13 y15 := (show clashes_m l = clashes_m_k0 l y13 y15 from by unfold clashes_m; rw [hx16] <;> rfl)
  refine then_n (hK3 _ _ ?_)
  refine wp_seq_k (fun K77 hK77 => ?_)
  refine wp_region_lit ?_
  refine lvw 32 (v14) rfl rfl (run_mv rfl rfl) ?_
  simp only [nz1, nz2, nz3]
  refine lvw 2 (v14) rfl rfl (run_as rfl rfl) ?_
  simp only [nz1, nz2, nz3]
  refine wpList_nil ?_
  refine then_n (hK77 _ _ ?_)
  refine wp_ret ?_
  have he78 : clashes_m l = y13 := (hq76.trans (show clashes_m_k0 l y13 y15 = y13 from by unfold clashes_m_k0; rfl))
  exact ⟨rfl, v14, res_t rfl rfl, ⟨⟨_, rfl, v14, (by first | rfl | rw [he78]), by rw [he78]; exact hm75.gives 1 rfl⟩, hm75.below⟩⟩
theorem run_clashes {o : Oper} {a : Act} {w : World} {x0 : Operand} {v0 : Value} (ho : o.op = .call { callee := .value (.func 12), args := #[x0], argTypes := #[22] }) (h0 : a.eval x0 = v0) :
    (execOp a.eval o).run Tryd.prog w = .ok (.enter 12 #[v0]) w := by
  unfold execOp
  simp only [ho]
  have hf : a.eval (.func 12) = .func (.func 12) #[] #[] := rfl
  generalize a.eval = f at *
  go_simp
end Go.Proofs.YtpbenhfnebgbiaaDoor.So
