/- Layer 7: PathSafe. -/
import Derived.Test.YtdohmmdfenafnaaDoorPaF
namespace Go.Proofs.YtdohmmdfenafnaaDoor.Pa
open Go.RowKit
open Go.Proofs.YtdohmmdfenafnaaDoor.Sym Go.Proofs.YtdohmmdfenafnaaDoor.Mem
open Go.Proofs.YtdohmmdfenafnaaDoor.Sx hiding Mm m_alloc m_store m_put m_call m_callx m_make m_append r_string r_ixS
set_option linter.unusedVariables false
attribute [local irreducible] wpList Oper.wp

def safe_m_b1 (s : List UInt8) (x25 : Nat) (rec : Nat → Sum (Nat) (Bool)) (x59 : Nat) : Sum (Nat) (Bool) :=
  if x59 < (((parts_m s).1).getD x25 []).length then
    if by' (((parts_m s).1).getD x25 []) x59 ≤ 32 then
      .inr false
    else
      if by' (((parts_m s).1).getD x25 []) x59 = 127 then
        .inr false
      else
        if by' (((parts_m s).1).getD x25 []) x59 = 47 then
          .inr false
        else
          if 248 ≤ by' (((parts_m s).1).getD x25 []) x59 then
            .inr false
          else
            if by' (((parts_m s).1).getD x25 []) x59 = 192 then
              .inr false
            else
              if by' (((parts_m s).1).getD x25 []) x59 = 193 then
                .inr false
              else
                rec (x59 + 1)
  else
    .inl x59
def safe_m_l1 (s : List UInt8) (x25 : Nat) : Nat → Nat → Sum (Nat) (Bool)
  | 0, zz => .inl zz
  | nq + 1, zz => safe_m_b1 s x25 (safe_m_l1 s x25 nq) zz

def safe_m_k1 (s : List UInt8) (x25 : Nat) (rec : Nat → Sum (Nat) (Bool)) (y63 : Nat) : Sum (Nat) (Bool) :=
  rec (x25 + 1)

def safe_m_b0 (s : List UInt8) (rec : Nat → Sum (Nat) (Bool)) (x25 : Nat) : Sum (Nat) (Bool) :=
  if x25 < ((parts_m s).1).length then
    if (((parts_m s).1).getD x25 []) = [] then
      .inr false
    else
      if (((parts_m s).1).getD x25 []) = [46] then
        .inr false
      else
        if (((parts_m s).1).getD x25 []) = [46, 46] then
          .inr false
        else
          if 64 < (((parts_m s).1).getD x25 []).length then
            .inr false
          else
            fin (safe_m_l1 s x25 (((((parts_m s).1).getD x25 []).length - 0) + 1) 0) .inr (fun zz => safe_m_k1 s x25 rec zz)
  else
    .inl x25
def safe_m_l0 (s : List UInt8) : Nat → Nat → Sum (Nat) (Bool)
  | 0, zz => .inl zz
  | nq + 1, zz => safe_m_b0 s (safe_m_l0 s nq) zz

def safe_m_k0 (s : List UInt8) (y29 : Nat) : Bool :=
  if awake_m = true then
    if ((parts_m s).1).length ≤ 16 then
      if ¬ by' s 0 = 47 then
        (decide (¬ by' s ((((s.length : Nat) : Int) - (1 : Int)).toNat) = 47))
      else
        false
    else
      false
  else
    false

def safe_m (s : List UInt8) : Bool :=
  if ¬ (parts_m s).2 = 0 then
    if awake_m = true then
      (decide (((parts_m s).1).length = 0))
    else
      false
  else
    fin (safe_m_l0 s ((((parts_m s).1).length - 0) + 1) 0) (fun r => r) (fun zz => safe_m_k0 s zz)

set_option maxHeartbeats 4000000 in
set_option maxRecDepth 100000 in
theorem safe_any (s : List UInt8) (w : World)  (hT : Laid w) (hp0 : s.length ≤ 140737488351232) : Calls Tryd.prog 6 #[.string (tx s)] w (fun e w' => e = .returned (.bool ((safe_m s))) ∧ Below w.heap.size w w') := by
  go_enter Tryd.func6, Tryd.ntmps6
  have hm00 := Mm.nil none (fun _ => True) w
  have hm0 := hm00
  refine wp_seq_k (fun K1 hK1 => ?_)
  refine wp_region_lit ?_
  refine lvw 2 (.bool false) rfl rfl (run_as rfl rfl) ?_
  simp only [nz1, nz2, nz3]
  refine wpList_nil ?_
  refine then_n (hK1 _ _ ?_)
  refine wp_seq_k (fun K2 hK2 => ?_)
  refine wp_region_lit ?_
  refine lvw 9 (.string (tx s)) rfl rfl (run_mv rfl rfl) ?_
  simp only [nz1, nz2, nz3]
  refine lst rfl (m_callx hm0 10 rfl (run_parts rfl rfl) (parts_any s  (seeS []) _  (Laid.below hT hm0.below) ) (fun vv8 w3 hR9 hb10 hm4 => ?_))
  obtain ⟨v5, rfl, hg11⟩ := hR9
  obtain ⟨F7, hm12⟩ : ∃ F7, Mm none (fun _ => True) w w3 [.see (Rs eS 1 ((parts_m s).1) v5) F7] := Mm.tookS hm0 hb10 hg11
  clear hm4 hg11 hb10
  have hf13 : (parts_m s).1.length ≤ 201 ∧ (join_m (parts_m s).1 [47]).length ≤ s.length ∧ ((parts_m s).2 ≠ 0 ∨ (s.length ≤ 200 ∧ 1 ≤ s.length ∧ 1 ≤ (parts_m s).1.length ∧ (parts_m s).1.length ≤ 16)) := parts_facts s
  simp only [nz1, nz2, nz3]
  refine lvw 8 (.tuple #[v5, .int .i64 ((parts_m s).2)]) rfl rfl (run_mv rfl rfl) ?_
  simp only [nz1, nz2, nz3]
  refine lvw 11 (v5) rfl rfl (run_ex rfl rfl rfl) ?_
  simp only [nz1, nz2, nz3]
  refine lvw 12 (.int .i64 ((parts_m s).2)) rfl rfl (run_ex rfl rfl rfl) ?_
  simp only [nz1, nz2, nz3]
  refine lvw 3 (v5) rfl rfl (run_as rfl rfl) ?_
  simp only [nz1, nz2, nz3]
  refine lvw 4 (.int .i64 ((parts_m s).2)) rfl rfl (run_as rfl rfl) ?_
  simp only [nz1, nz2, nz3]
  refine wpList_nil ?_
  refine then_n (hK2 _ _ ?_)
  refine wp_seq_k (fun K14 hK14 => ?_)
  refine wp_seq_k (fun K15 hK15 => ?_)
  refine wp_region_lit ?_
  refine lvw 13 (.int .i64 ((parts_m s).2)) rfl rfl (run_mv rfl rfl) ?_
  simp only [nz1, nz2, nz3]
  refine lvw 14 (.bool (decide (¬ (parts_m s).2 = 0))) rfl rfl (z_neq ((parts_m s).2) 0 rfl rfl rfl) ?_
  simp only [nz1, nz2, nz3]
  refine wpList_nil ?_
  refine then_n (hK15 _ _ ?_)
  refine cond_d (¬ (parts_m s).2 = 0) rfl (fun hc16 => ?_) (fun hc16 => ?_)
  · refine wp_seq_k (fun K17 hK17 => ?_)
    refine wp_region_lit ?_
    refine lst rfl (m_call hm12 15 (.bool (awake_m)) rfl (run_awake rfl) (awake_any   _  (Laid.below hT hm12.below) ) (fun w18 (hm19 : Mm none (fun _ => True) w w18 [.see (Rs eS 1 ((parts_m s).1) v5) F7]) => ?_))
    simp only [nz1, nz2, nz3]
    by_cases hs20 : awake_m = true
    · rw [(hs20 : awake_m = true)]
      refine lvw 16 (.bool true) rfl rfl (run_mv rfl rfl) ?_
      simp only [nz1, nz2, nz3]
      refine lvw 17 (v5) rfl rfl (run_mv rfl rfl) ?_
      simp only [nz1, nz2, nz3]
      refine lvw 18 (.int .i64 ((((parts_m s).1).length : Nat) : Int)) rfl rfl (s_len ((hm19.see 0 rfl)) rfl Tryd.underlying22 rfl) ?_
      simp only [nz1, nz2, nz3]
      refine lvw 19 (.bool (decide (((parts_m s).1).length = 0))) rfl rfl (r_eql (((parts_m s).1).length) 0 rfl rfl rfl) ?_
      simp only [nz1, nz2, nz3]
      refine lvw 20 (.bool (decide (((parts_m s).1).length = 0))) rfl rfl (run_pick rfl rfl rfl) ?_
      simp only [nz1, nz2, nz3]
      refine lvw 2 (.bool (decide (((parts_m s).1).length = 0))) rfl rfl (run_as rfl rfl) ?_
      simp only [nz1, nz2, nz3]
      refine wpList_nil ?_
      refine then_n (hK17 _ _ ?_)
      refine wp_ret ?_
      refine then_r ?_
      have he21 : safe_m s = (decide (((parts_m s).1).length = 0)) := (show safe_m s = (decide (((parts_m s).1).length = 0)) from by unfold safe_m; rw [if_pos hc16, if_pos hs20] <;> rfl)
      exact ⟨rfl, .bool (decide (((parts_m s).1).length = 0)), res_t rfl rfl, ⟨by rw [he21], hm19.below⟩⟩
    rw [(Bool.eq_false_iff.2 hs20 : awake_m = false)]
    refine lvw 16 (.bool false) rfl rfl (run_mv rfl rfl) ?_
    simp only [nz1, nz2, nz3]
    refine lst_skip 17 rfl rfl ?_
    simp only [nz1, nz2, nz3]
    refine lst_skip 18 rfl rfl ?_
    simp only [nz1, nz2, nz3]
    refine lst_skip 19 rfl rfl ?_
    simp only [nz1, nz2, nz3]
    refine lvw 20 (.bool false) rfl rfl (run_pickf rfl rfl rfl) ?_
    simp only [nz1, nz2, nz3]
    refine lvw 2 (.bool false) rfl rfl (run_as rfl rfl) ?_
    simp only [nz1, nz2, nz3]
    refine wpList_nil ?_
    refine then_n (hK17 _ _ ?_)
    refine wp_ret ?_
    refine then_r ?_
    have he22 : safe_m s = false := (show safe_m s = false from by unfold safe_m; rw [if_pos hc16, if_neg hs20] <;> rfl)
    exact ⟨rfl, .bool false, res_t rfl rfl, ⟨by rw [he22], hm19.below⟩⟩
  refine wp_skip ?_
  refine then_n (hK14 _ _ ?_)
  refine wp_seq_k (fun K23 hK23 => ?_)
  refine wp_seq_k (fun K24 hK24 => ?_)
  refine wp_region_lit ?_
  refine lvw 5 (.int .i64 0) rfl rfl (run_as rfl rfl) ?_
  simp only [nz1, nz2, nz3]
  refine wpList_nil ?_
  refine then_n (hK24 _ _ ?_)
  refine wp_cutK (fun a' w' => ∃ (y29 : Nat) (yu0 : Nat → Value), safe_m_l0 s ((((parts_m s).1).length - 0) + 1) 0 = .inl y29 ∧ a' = ⟨#[.string (tx s), undef, yu0 0, v5, .int .i64 ((parts_m s).2), .int .i64 ((y29 : Nat) : Int), yu0 1, yu0 2, .tuple #[v5, .int .i64 ((parts_m s).2)], .string (tx s), .tuple #[v5, .int .i64 ((parts_m s).2)], v5, .int .i64 ((parts_m s).2), .int .i64 ((parts_m s).2), .bool (decide (¬ (parts_m s).2 = 0)), undef, undef, undef, undef, undef, undef, yu0 3, yu0 4, yu0 5, yu0 6, yu0 7, yu0 8, yu0 9, yu0 10, yu0 11, yu0 12, yu0 13, yu0 14, yu0 15, yu0 16, yu0 17, yu0 18, yu0 19, yu0 20, yu0 21, yu0 22, yu0 23, yu0 24, yu0 25, yu0 26, yu0 27, yu0 28, yu0 29, yu0 30, yu0 31, yu0 32, yu0 33, yu0 34, yu0 35, yu0 36, yu0 37, yu0 38, yu0 39, yu0 40, yu0 41, yu0 42, yu0 43, yu0 44, yu0 45, yu0 46, yu0 47, yu0 48, yu0 49, yu0 50, yu0 51, yu0 52, yu0 53, yu0 54, yu0 55, yu0 56, yu0 57, yu0 58, yu0 59, yu0 60, yu0 61, yu0 62, yu0 63, yu0 64, yu0 65, yu0 66, yu0 67, yu0 68, yu0 69, yu0 70, yu0 71, yu0 72, undef, undef, undef, undef, undef, undef, undef, undef, undef, undef, undef, undef, undef, undef, undef, undef, undef, undef, undef], []⟩ ∧ Mm none (fun _ => True) w w' [.see (Rs eS 1 ((parts_m s).1) v5) F7]) ?_ ?_
  · refine wp_block ?_
    refine wp_loop_n (fun n' a' w' => ∃ (n26 : Nat) (x25 : Nat) (u0 : Nat → Value), n' = n26 ∧ (((parts_m s).1).length - x25) < n26 ∧ safe_m_l0 s ((((parts_m s).1).length - 0) + 1) 0 = safe_m_l0 s n26 x25 ∧ a' = ⟨#[.string (tx s), undef, u0 0, v5, .int .i64 ((parts_m s).2), .int .i64 ((x25 : Nat) : Int), u0 1, u0 2, .tuple #[v5, .int .i64 ((parts_m s).2)], .string (tx s), .tuple #[v5, .int .i64 ((parts_m s).2)], v5, .int .i64 ((parts_m s).2), .int .i64 ((parts_m s).2), .bool (decide (¬ (parts_m s).2 = 0)), undef, undef, undef, undef, undef, undef, u0 3, u0 4, u0 5, u0 6, u0 7, u0 8, u0 9, u0 10, u0 11, u0 12, u0 13, u0 14, u0 15, u0 16, u0 17, u0 18, u0 19, u0 20, u0 21, u0 22, u0 23, u0 24, u0 25, u0 26, u0 27, u0 28, u0 29, u0 30, u0 31, u0 32, u0 33, u0 34, u0 35, u0 36, u0 37, u0 38, u0 39, u0 40, u0 41, u0 42, u0 43, u0 44, u0 45, u0 46, u0 47, u0 48, u0 49, u0 50, u0 51, u0 52, u0 53, u0 54, u0 55, u0 56, u0 57, u0 58, u0 59, u0 60, u0 61, u0 62, u0 63, u0 64, u0 65, u0 66, u0 67, u0 68, u0 69, u0 70, u0 71, u0 72, undef, undef, undef, undef, undef, undef, undef, undef, undef, undef, undef, undef, undef, undef, undef, undef, undef, undef, undef], []⟩ ∧ Mm none (fun _ => True) w w' [.see (Rs eS 1 ((parts_m s).1) v5) F7]) ⟨((((parts_m s).1).length - 0) + 1), 0, (fun qq => bif Nat.blt qq 24 then List.getD [.bool false, undef, undef, undef, undef, undef, undef, undef, undef, undef, undef, undef, undef, undef, undef, undef, undef, undef, undef, undef, undef, undef, undef, undef] qq undef else bif Nat.blt qq 48 then List.getD [undef, undef, undef, undef, undef, undef, undef, undef, undef, undef, undef, undef, undef, undef, undef, undef, undef, undef, undef, undef, undef, undef, undef, undef] (qq - 24) undef else bif Nat.blt qq 72 then List.getD [undef, undef, undef, undef, undef, undef, undef, undef, undef, undef, undef, undef, undef, undef, undef, undef, undef, undef, undef, undef, undef, undef, undef, undef] (qq - 48) undef else List.getD [undef] (qq - 72) undef), rfl, Nat.lt_succ_self _, rfl, rfl, hm12⟩ ?_
    rintro n26 _ w31 ⟨_, x25, u0, rfl, hl35, hi28, rfl, hm32⟩ R33 hR33
    obtain ⟨k27, rfl⟩ : ∃ k, n26 = k + 1 := ⟨n26 - 1, by omega⟩
    refine wp_seq_k (fun K36 hK36 => ?_)
    refine wp_seq_k (fun K37 hK37 => ?_)
    refine wp_region_lit ?_
    refine lvw 21 (.int .i64 ((x25 : Nat) : Int)) rfl rfl (run_mv rfl rfl) ?_
    simp only [nz1, nz2, nz3]
    refine lvw 22 (v5) rfl rfl (run_mv rfl rfl) ?_
    simp only [nz1, nz2, nz3]
    refine lvw 23 (.int .i64 ((((parts_m s).1).length : Nat) : Int)) rfl rfl (s_len ((hm32.see 0 rfl)) rfl Tryd.underlying22 rfl) ?_
    simp only [nz1, nz2, nz3]
    refine lvw 24 (.bool (decide (x25 < ((parts_m s).1).length))) rfl rfl (r_lss x25 (((parts_m s).1).length) rfl rfl rfl) ?_
    simp only [nz1, nz2, nz3]
    refine wpList_nil ?_
    refine then_n (hK37 _ _ ?_)
    refine cond_d (x25 < ((parts_m s).1).length) rfl (fun hc38 => ?_) (fun hc38 => ?_)
    rotate_left
    · refine wp_exit ?_
      refine then_x ?_
      refine then_x ?_
      refine blk_x ?_
      refine then_n ?_
      exact ⟨x25, (fun qq => bif Nat.blt qq 24 then List.getD [u0 0, u0 1, u0 2, .int .i64 ((x25 : Nat) : Int), v5, .int .i64 ((((parts_m s).1).length : Nat) : Int), .bool (decide (x25 < ((parts_m s).1).length)), u0 7, u0 8, u0 9, u0 10, u0 11, u0 12, u0 13, u0 14, u0 15, u0 16, u0 17, u0 18, u0 19, u0 20, u0 21, u0 22, u0 23] qq undef else bif Nat.blt qq 48 then List.getD [u0 24, u0 25, u0 26, u0 27, u0 28, u0 29, u0 30, u0 31, u0 32, u0 33, u0 34, u0 35, u0 36, u0 37, u0 38, u0 39, u0 40, u0 41, u0 42, u0 43, u0 44, u0 45, u0 46, u0 47] (qq - 24) undef else bif Nat.blt qq 72 then List.getD [u0 48, u0 49, u0 50, u0 51, u0 52, u0 53, u0 54, u0 55, u0 56, u0 57, u0 58, u0 59, u0 60, u0 61, u0 62, u0 63, u0 64, u0 65, u0 66, u0 67, u0 68, u0 69, u0 70, u0 71] (qq - 48) undef else List.getD [u0 72] (qq - 72) undef), (hi28.trans (show safe_m_b0 s (safe_m_l0 s k27) x25 = .inl x25 from by unfold safe_m_b0; rw [if_neg hc38] <;> rfl)), rfl, hm32⟩
    refine wp_skip ?_
    refine then_n (hK36 _ _ ?_)
    refine wp_seq_k (fun K39 hK39 => ?_)
    refine wp_block ?_
    refine wp_seq_k (fun K40 hK40 => ?_)
    refine wp_seq_k (fun K41 hK41 => ?_)
    refine wp_region_lit ?_
    refine lvw 27 (v5) rfl rfl (run_mv rfl rfl) ?_
    simp only [nz1, nz2, nz3]
    refine lvw 28 (.int .i64 ((x25 : Nat) : Int)) rfl rfl (run_mv rfl rfl) ?_
    simp only [nz1, nz2, nz3]
    refine lvw 29 (.pointer (some ⟨(bk v5), (po v5 + x25 * 1), none⟩)) rfl rfl (r_ixv ((hm32.see 0 rfl)) x25 (by omega) Tryd.underlying22 sz_9 rfl rfl rfl) ?_
    simp only [nz1, nz2, nz3]
    refine lvw 30 (.string (tx (((parts_m s).1).getD x25 []))) rfl rfl (r_cellw (Rs.cell ((hm32.see 0 rfl)) eS_len [] x25 (by omega) 0 _ rfl) Tryd.underlying9 rfl rfl rfl) ?_
    simp only [nz1, nz2, nz3]
    refine lvb 31 ((((parts_m s).1).getD x25 []) = []) rfl rfl (t_eql (((parts_m s).1).getD x25 []) ([]) rfl rfl rfl) (fun hs42 => ?_) (fun hs42 => ?_)
    · simp only [nz1, nz2, nz3]
      refine lvw 32 (.bool true) rfl rfl (run_mv rfl rfl) ?_
      simp only [nz1, nz2, nz3]
      refine lst_skip 33 rfl rfl ?_
      simp only [nz1, nz2, nz3]
      refine lst_skip 34 rfl rfl ?_
      simp only [nz1, nz2, nz3]
      refine lst_skip 35 rfl rfl ?_
      simp only [nz1, nz2, nz3]
      refine lst_skip 36 rfl rfl ?_
      simp only [nz1, nz2, nz3]
      refine lst_skip 37 rfl rfl ?_
      simp only [nz1, nz2, nz3]
      refine lvw 38 (.bool true) rfl rfl (run_pick rfl rfl rfl) ?_
      simp only [nz1, nz2, nz3]
      refine lvw 39 (.bool true) rfl rfl (run_mv rfl rfl) ?_
      simp only [nz1, nz2, nz3]
      refine lst_skip 40 rfl rfl ?_
      simp only [nz1, nz2, nz3]
      refine lst_skip 41 rfl rfl ?_
      simp only [nz1, nz2, nz3]
      refine lst_skip 42 rfl rfl ?_
      simp only [nz1, nz2, nz3]
      refine lst_skip 43 rfl rfl ?_
      simp only [nz1, nz2, nz3]
      refine lst_skip 44 rfl rfl ?_
      simp only [nz1, nz2, nz3]
      refine lvw 45 (.bool true) rfl rfl (run_pick rfl rfl rfl) ?_
      simp only [nz1, nz2, nz3]
      refine lvw 46 (.bool true) rfl rfl (run_mv rfl rfl) ?_
      simp only [nz1, nz2, nz3]
      refine lst_skip 47 rfl rfl ?_
      simp only [nz1, nz2, nz3]
      refine lst_skip 48 rfl rfl ?_
      simp only [nz1, nz2, nz3]
      refine lst_skip 49 rfl rfl ?_
      simp only [nz1, nz2, nz3]
      refine lst_skip 50 rfl rfl ?_
      simp only [nz1, nz2, nz3]
      refine lst_skip 51 rfl rfl ?_
      simp only [nz1, nz2, nz3]
      refine lst_skip 52 rfl rfl ?_
      simp only [nz1, nz2, nz3]
      refine lvw 53 (.bool true) rfl rfl (run_pick rfl rfl rfl) ?_
      simp only [nz1, nz2, nz3]
      refine wpList_nil ?_
      refine then_n (hK41 _ _ ?_)
      refine cond_t rfl ?_
      refine wp_seq_k (fun K43 hK43 => ?_)
      refine wp_region_lit ?_
      refine lvw 2 (.bool false) rfl rfl (run_as rfl rfl) ?_
      simp only [nz1, nz2, nz3]
      refine wpList_nil ?_
      refine then_n (hK43 _ _ ?_)
      refine wp_ret ?_
      refine then_r ?_
      refine blk_r ?_
      refine then_r ?_
      refine then_r ?_
      refine blk_r ?_
      refine then_r ?_
      refine then_r ?_
      have he44 : safe_m_l0 s ((((parts_m s).1).length - 0) + 1) 0 = .inr false := (hi28.trans (show safe_m_b0 s (safe_m_l0 s k27) x25 = .inr false from by unfold safe_m_b0; rw [if_pos hc38, if_pos hs42] <;> rfl))
      have he45 : safe_m s = false := (show safe_m s = false from by unfold safe_m; rw [if_neg hc16, he44] <;> rfl)
      exact ⟨rfl, .bool false, res_t rfl rfl, ⟨by rw [he45], hm32.below⟩⟩
    simp only [nz1, nz2, nz3]
    refine lvw 32 (.bool false) rfl rfl (run_mv rfl rfl) ?_
    simp only [nz1, nz2, nz3]
    refine lvw 33 (v5) rfl rfl (run_mv rfl rfl) ?_
    simp only [nz1, nz2, nz3]
    refine lvw 34 (.int .i64 ((x25 : Nat) : Int)) rfl rfl (run_mv rfl rfl) ?_
    simp only [nz1, nz2, nz3]
    refine lvw 35 (.pointer (some ⟨(bk v5), (po v5 + x25 * 1), none⟩)) rfl rfl (r_ixv ((hm32.see 0 rfl)) x25 (by omega) Tryd.underlying22 sz_9 rfl rfl rfl) ?_
    simp only [nz1, nz2, nz3]
    refine lvw 36 (.string (tx (((parts_m s).1).getD x25 []))) rfl rfl (r_cellw (Rs.cell ((hm32.see 0 rfl)) eS_len [] x25 (by omega) 0 _ rfl) Tryd.underlying9 rfl rfl rfl) ?_
    simp only [nz1, nz2, nz3]
    refine lvb 37 ((((parts_m s).1).getD x25 []) = [46]) rfl rfl (t_eql (((parts_m s).1).getD x25 []) ([46]) rfl rfl rfl) (fun hs46 => ?_) (fun hs46 => ?_)
    · simp only [nz1, nz2, nz3]
      refine lvw 38 (.bool true) rfl rfl (run_pickf rfl rfl rfl) ?_
      simp only [nz1, nz2, nz3]
      refine lvw 39 (.bool true) rfl rfl (run_mv rfl rfl) ?_
      simp only [nz1, nz2, nz3]
      refine lst_skip 40 rfl rfl ?_
      simp only [nz1, nz2, nz3]
      refine lst_skip 41 rfl rfl ?_
      simp only [nz1, nz2, nz3]
      refine lst_skip 42 rfl rfl ?_
      simp only [nz1, nz2, nz3]
      refine lst_skip 43 rfl rfl ?_
      simp only [nz1, nz2, nz3]
      refine lst_skip 44 rfl rfl ?_
      simp only [nz1, nz2, nz3]
      refine lvw 45 (.bool true) rfl rfl (run_pick rfl rfl rfl) ?_
      simp only [nz1, nz2, nz3]
      refine lvw 46 (.bool true) rfl rfl (run_mv rfl rfl) ?_
      simp only [nz1, nz2, nz3]
      refine lst_skip 47 rfl rfl ?_
      simp only [nz1, nz2, nz3]
      refine lst_skip 48 rfl rfl ?_
      simp only [nz1, nz2, nz3]
      refine lst_skip 49 rfl rfl ?_
      simp only [nz1, nz2, nz3]
      refine lst_skip 50 rfl rfl ?_
      simp only [nz1, nz2, nz3]
      refine lst_skip 51 rfl rfl ?_
      simp only [nz1, nz2, nz3]
      refine lst_skip 52 rfl rfl ?_
      simp only [nz1, nz2, nz3]
      refine lvw 53 (.bool true) rfl rfl (run_pick rfl rfl rfl) ?_
      simp only [nz1, nz2, nz3]
      refine wpList_nil ?_
      refine then_n (hK41 _ _ ?_)
      refine cond_t rfl ?_
      refine wp_seq_k (fun K47 hK47 => ?_)
      refine wp_region_lit ?_
      refine lvw 2 (.bool false) rfl rfl (run_as rfl rfl) ?_
      simp only [nz1, nz2, nz3]
      refine wpList_nil ?_
      refine then_n (hK47 _ _ ?_)
      refine wp_ret ?_
      refine then_r ?_
      refine blk_r ?_
      refine then_r ?_
      refine then_r ?_
      refine blk_r ?_
      refine then_r ?_
      refine then_r ?_
      have he48 : safe_m_l0 s ((((parts_m s).1).length - 0) + 1) 0 = .inr false := (hi28.trans (show safe_m_b0 s (safe_m_l0 s k27) x25 = .inr false from by unfold safe_m_b0; rw [if_pos hc38, if_neg hs42, if_pos hs46] <;> rfl))
      have he49 : safe_m s = false := (show safe_m s = false from by unfold safe_m; rw [if_neg hc16, he48] <;> rfl)
      exact ⟨rfl, .bool false, res_t rfl rfl, ⟨by rw [he49], hm32.below⟩⟩
    simp only [nz1, nz2, nz3]
    refine lvw 38 (.bool false) rfl rfl (run_pickf rfl rfl rfl) ?_
    simp only [nz1, nz2, nz3]
    refine lvw 39 (.bool false) rfl rfl (run_mv rfl rfl) ?_
    simp only [nz1, nz2, nz3]
    refine lvw 40 (v5) rfl rfl (run_mv rfl rfl) ?_
    simp only [nz1, nz2, nz3]
    refine lvw 41 (.int .i64 ((x25 : Nat) : Int)) rfl rfl (run_mv rfl rfl) ?_
    simp only [nz1, nz2, nz3]
    refine lvw 42 (.pointer (some ⟨(bk v5), (po v5 + x25 * 1), none⟩)) rfl rfl (r_ixv ((hm32.see 0 rfl)) x25 (by omega) Tryd.underlying22 sz_9 rfl rfl rfl) ?_
    simp only [nz1, nz2, nz3]
    refine lvw 43 (.string (tx (((parts_m s).1).getD x25 []))) rfl rfl (r_cellw (Rs.cell ((hm32.see 0 rfl)) eS_len [] x25 (by omega) 0 _ rfl) Tryd.underlying9 rfl rfl rfl) ?_
    simp only [nz1, nz2, nz3]
    refine lvb 44 ((((parts_m s).1).getD x25 []) = [46, 46]) rfl rfl (t_eql (((parts_m s).1).getD x25 []) ([46, 46]) rfl rfl rfl) (fun hs50 => ?_) (fun hs50 => ?_)
    · simp only [nz1, nz2, nz3]
      refine lvw 45 (.bool true) rfl rfl (run_pickf rfl rfl rfl) ?_
      simp only [nz1, nz2, nz3]
      refine lvw 46 (.bool true) rfl rfl (run_mv rfl rfl) ?_
      simp only [nz1, nz2, nz3]
      refine lst_skip 47 rfl rfl ?_
      simp only [nz1, nz2, nz3]
      refine lst_skip 48 rfl rfl ?_
      simp only [nz1, nz2, nz3]
      refine lst_skip 49 rfl rfl ?_
      simp only [nz1, nz2, nz3]
      refine lst_skip 50 rfl rfl ?_
      simp only [nz1, nz2, nz3]
      refine lst_skip 51 rfl rfl ?_
      simp only [nz1, nz2, nz3]
      refine lst_skip 52 rfl rfl ?_
      simp only [nz1, nz2, nz3]
      refine lvw 53 (.bool true) rfl rfl (run_pick rfl rfl rfl) ?_
      simp only [nz1, nz2, nz3]
      refine wpList_nil ?_
      refine then_n (hK41 _ _ ?_)
      refine cond_t rfl ?_
      refine wp_seq_k (fun K51 hK51 => ?_)
      refine wp_region_lit ?_
      refine lvw 2 (.bool false) rfl rfl (run_as rfl rfl) ?_
      simp only [nz1, nz2, nz3]
      refine wpList_nil ?_
      refine then_n (hK51 _ _ ?_)
      refine wp_ret ?_
      refine then_r ?_
      refine blk_r ?_
      refine then_r ?_
      refine then_r ?_
      refine blk_r ?_
      refine then_r ?_
      refine then_r ?_
      have he52 : safe_m_l0 s ((((parts_m s).1).length - 0) + 1) 0 = .inr false := (hi28.trans (show safe_m_b0 s (safe_m_l0 s k27) x25 = .inr false from by unfold safe_m_b0; rw [if_pos hc38, if_neg hs42, if_neg hs46, if_pos hs50] <;> rfl))
      have he53 : safe_m s = false := (show safe_m s = false from by unfold safe_m; rw [if_neg hc16, he52] <;> rfl)
      exact ⟨rfl, .bool false, res_t rfl rfl, ⟨by rw [he53], hm32.below⟩⟩
    simp only [nz1, nz2, nz3]
    refine lvw 45 (.bool false) rfl rfl (run_pickf rfl rfl rfl) ?_
    simp only [nz1, nz2, nz3]
    refine lvw 46 (.bool false) rfl rfl (run_mv rfl rfl) ?_
    simp only [nz1, nz2, nz3]
    refine lvw 47 (v5) rfl rfl (run_mv rfl rfl) ?_
    simp only [nz1, nz2, nz3]
    refine lvw 48 (.int .i64 ((x25 : Nat) : Int)) rfl rfl (run_mv rfl rfl) ?_
    simp only [nz1, nz2, nz3]
    refine lvw 49 (.pointer (some ⟨(bk v5), (po v5 + x25 * 1), none⟩)) rfl rfl (r_ixv ((hm32.see 0 rfl)) x25 (by omega) Tryd.underlying22 sz_9 rfl rfl rfl) ?_
    simp only [nz1, nz2, nz3]
    refine lvw 50 (.string (tx (((parts_m s).1).getD x25 []))) rfl rfl (r_cellw (Rs.cell ((hm32.see 0 rfl)) eS_len [] x25 (by omega) 0 _ rfl) Tryd.underlying9 rfl rfl rfl) ?_
    simp only [nz1, nz2, nz3]
    refine lvw 51 (.int .i64 (((((parts_m s).1).getD x25 []).length : Nat) : Int)) rfl rfl (t_len rfl Tryd.underlying9 rfl) ?_
    simp only [nz1, nz2, nz3]
    refine lvw 52 (.bool (decide (64 < (((parts_m s).1).getD x25 []).length))) rfl rfl (r_gtr ((((parts_m s).1).getD x25 []).length) 64 rfl rfl rfl) ?_
    simp only [nz1, nz2, nz3]
    refine lvw 53 (.bool (decide (64 < (((parts_m s).1).getD x25 []).length))) rfl rfl (run_pickf rfl rfl rfl) ?_
    simp only [nz1, nz2, nz3]
    refine wpList_nil ?_
    refine then_n (hK41 _ _ ?_)
    refine cond_d (64 < (((parts_m s).1).getD x25 []).length) rfl (fun hc54 => ?_) (fun hc54 => ?_)
    · refine wp_seq_k (fun K55 hK55 => ?_)
      refine wp_region_lit ?_
      refine lvw 2 (.bool false) rfl rfl (run_as rfl rfl) ?_
      simp only [nz1, nz2, nz3]
      refine wpList_nil ?_
      refine then_n (hK55 _ _ ?_)
      refine wp_ret ?_
      refine then_r ?_
      refine blk_r ?_
      refine then_r ?_
      refine then_r ?_
      refine blk_r ?_
      refine then_r ?_
      refine then_r ?_
      have he56 : safe_m_l0 s ((((parts_m s).1).length - 0) + 1) 0 = .inr false := (hi28.trans (show safe_m_b0 s (safe_m_l0 s k27) x25 = .inr false from by unfold safe_m_b0; rw [if_pos hc38, if_neg hs42, if_neg hs46, if_neg hs50, if_pos hc54] <;> rfl))
      have he57 : safe_m s = false := (show safe_m s = false from by unfold safe_m; rw [if_neg hc16, he56] <;> rfl)
      exact ⟨rfl, .bool false, res_t rfl rfl, ⟨by rw [he57], hm32.below⟩⟩
    refine wp_skip ?_
    refine then_n (hK40 _ _ ?_)
    refine wp_seq_k (fun K58 hK58 => ?_)
    refine wp_region_lit ?_
    refine lvw 6 (.int .i64 0) rfl rfl (run_as rfl rfl) ?_
    simp only [nz1, nz2, nz3]
    refine wpList_nil ?_
    refine then_n (hK58 _ _ ?_)
    refine wp_cutK (fun a' w' => ∃ (y63 : Nat) (yu1 : Nat → Value), safe_m_l1 s x25 (((((parts_m s).1).getD x25 []).length - 0) + 1) 0 = .inl y63 ∧ a' = ⟨#[.string (tx s), undef, yu1 0, v5, .int .i64 ((parts_m s).2), .int .i64 ((x25 : Nat) : Int), .int .i64 ((y63 : Nat) : Int), yu1 1, .tuple #[v5, .int .i64 ((parts_m s).2)], .string (tx s), .tuple #[v5, .int .i64 ((parts_m s).2)], v5, .int .i64 ((parts_m s).2), .int .i64 ((parts_m s).2), .bool (decide (¬ (parts_m s).2 = 0)), undef, undef, undef, undef, undef, undef, .int .i64 ((x25 : Nat) : Int), v5, .int .i64 ((((parts_m s).1).length : Nat) : Int), .bool (decide (x25 < ((parts_m s).1).length)), u0 7, u0 8, v5, .int .i64 ((x25 : Nat) : Int), .pointer (some ⟨(bk v5), (po v5 + x25 * 1), none⟩), .string (tx (((parts_m s).1).getD x25 [])), .bool false, .bool false, v5, .int .i64 ((x25 : Nat) : Int), .pointer (some ⟨(bk v5), (po v5 + x25 * 1), none⟩), .string (tx (((parts_m s).1).getD x25 [])), .bool false, .bool false, .bool false, v5, .int .i64 ((x25 : Nat) : Int), .pointer (some ⟨(bk v5), (po v5 + x25 * 1), none⟩), .string (tx (((parts_m s).1).getD x25 [])), .bool false, .bool false, .bool false, v5, .int .i64 ((x25 : Nat) : Int), .pointer (some ⟨(bk v5), (po v5 + x25 * 1), none⟩), .string (tx (((parts_m s).1).getD x25 [])), .int .i64 (((((parts_m s).1).getD x25 []).length : Nat) : Int), .bool (decide (64 < (((parts_m s).1).getD x25 []).length)), .bool (decide (64 < (((parts_m s).1).getD x25 []).length)), yu1 2, yu1 3, yu1 4, yu1 5, yu1 6, yu1 7, yu1 8, yu1 9, yu1 10, yu1 11, yu1 12, yu1 13, yu1 14, yu1 15, yu1 16, yu1 17, yu1 18, yu1 19, yu1 20, yu1 21, yu1 22, yu1 23, yu1 24, yu1 25, yu1 26, yu1 27, yu1 28, yu1 29, yu1 30, yu1 31, yu1 32, yu1 33, yu1 34, yu1 35, yu1 36, yu1 37, yu1 38, undef, undef, undef, undef, undef, undef, undef, undef, undef, undef, undef, undef, undef, undef, undef, undef, undef, undef, undef], []⟩ ∧ Mm none (fun _ => True) w w' [.see (Rs eS 1 ((parts_m s).1) v5) F7]) ?_ ?_
    · refine wp_block ?_
      refine wp_loop_n (fun n' a' w' => ∃ (n60 : Nat) (x59 : Nat) (u1 : Nat → Value), n' = n60 ∧ ((((parts_m s).1).getD x25 []).length - x59) < n60 ∧ safe_m_l1 s x25 (((((parts_m s).1).getD x25 []).length - 0) + 1) 0 = safe_m_l1 s x25 n60 x59 ∧ a' = ⟨#[.string (tx s), undef, u1 0, v5, .int .i64 ((parts_m s).2), .int .i64 ((x25 : Nat) : Int), .int .i64 ((x59 : Nat) : Int), u1 1, .tuple #[v5, .int .i64 ((parts_m s).2)], .string (tx s), .tuple #[v5, .int .i64 ((parts_m s).2)], v5, .int .i64 ((parts_m s).2), .int .i64 ((parts_m s).2), .bool (decide (¬ (parts_m s).2 = 0)), undef, undef, undef, undef, undef, undef, .int .i64 ((x25 : Nat) : Int), v5, .int .i64 ((((parts_m s).1).length : Nat) : Int), .bool (decide (x25 < ((parts_m s).1).length)), u0 7, u0 8, v5, .int .i64 ((x25 : Nat) : Int), .pointer (some ⟨(bk v5), (po v5 + x25 * 1), none⟩), .string (tx (((parts_m s).1).getD x25 [])), .bool false, .bool false, v5, .int .i64 ((x25 : Nat) : Int), .pointer (some ⟨(bk v5), (po v5 + x25 * 1), none⟩), .string (tx (((parts_m s).1).getD x25 [])), .bool false, .bool false, .bool false, v5, .int .i64 ((x25 : Nat) : Int), .pointer (some ⟨(bk v5), (po v5 + x25 * 1), none⟩), .string (tx (((parts_m s).1).getD x25 [])), .bool false, .bool false, .bool false, v5, .int .i64 ((x25 : Nat) : Int), .pointer (some ⟨(bk v5), (po v5 + x25 * 1), none⟩), .string (tx (((parts_m s).1).getD x25 [])), .int .i64 (((((parts_m s).1).getD x25 []).length : Nat) : Int), .bool (decide (64 < (((parts_m s).1).getD x25 []).length)), .bool (decide (64 < (((parts_m s).1).getD x25 []).length)), u1 2, u1 3, u1 4, u1 5, u1 6, u1 7, u1 8, u1 9, u1 10, u1 11, u1 12, u1 13, u1 14, u1 15, u1 16, u1 17, u1 18, u1 19, u1 20, u1 21, u1 22, u1 23, u1 24, u1 25, u1 26, u1 27, u1 28, u1 29, u1 30, u1 31, u1 32, u1 33, u1 34, u1 35, u1 36, u1 37, u1 38, undef, undef, undef, undef, undef, undef, undef, undef, undef, undef, undef, undef, undef, undef, undef, undef, undef, undef, undef], []⟩ ∧ Mm none (fun _ => True) w w' [.see (Rs eS 1 ((parts_m s).1) v5) F7]) ⟨(((((parts_m s).1).getD x25 []).length - 0) + 1), 0, (fun qq => bif Nat.blt qq 24 then List.getD [u0 0, u0 2, u0 36, u0 37, u0 38, u0 39, u0 40, u0 41, u0 42, u0 43, u0 44, u0 45, u0 46, u0 47, u0 48, u0 49, u0 50, u0 51, u0 52, u0 53, u0 54, u0 55, u0 56, u0 57] qq undef else List.getD [u0 58, u0 59, u0 60, u0 61, u0 62, u0 63, u0 64, u0 65, u0 66, u0 67, u0 68, u0 69, u0 70, u0 71, u0 72] (qq - 24) undef), rfl, Nat.lt_succ_self _, rfl, rfl, hm32⟩ ?_
      rintro n60 _ w65 ⟨_, x59, u1, rfl, hl69, hi62, rfl, hm66⟩ R67 hR67
      obtain ⟨k61, rfl⟩ : ∃ k, n60 = k + 1 := ⟨n60 - 1, by omega⟩
      refine wp_seq_k (fun K70 hK70 => ?_)
      refine wp_seq_k (fun K71 hK71 => ?_)
      refine wp_region_lit ?_
      refine lvw 54 (.int .i64 ((x59 : Nat) : Int)) rfl rfl (run_mv rfl rfl) ?_
      simp only [nz1, nz2, nz3]
      refine lvw 55 (v5) rfl rfl (run_mv rfl rfl) ?_
      simp only [nz1, nz2, nz3]
      refine lvw 56 (.int .i64 ((x25 : Nat) : Int)) rfl rfl (run_mv rfl rfl) ?_
      simp only [nz1, nz2, nz3]
      refine lvw 57 (.pointer (some ⟨(bk v5), (po v5 + x25 * 1), none⟩)) rfl rfl (r_ixv ((hm66.see 0 rfl)) x25 (by omega) Tryd.underlying22 sz_9 rfl rfl rfl) ?_
      simp only [nz1, nz2, nz3]
      refine lvw 58 (.string (tx (((parts_m s).1).getD x25 []))) rfl rfl (r_cellw (Rs.cell ((hm66.see 0 rfl)) eS_len [] x25 (by omega) 0 _ rfl) Tryd.underlying9 rfl rfl rfl) ?_
      simp only [nz1, nz2, nz3]
      refine lvw 59 (.int .i64 (((((parts_m s).1).getD x25 []).length : Nat) : Int)) rfl rfl (t_len rfl Tryd.underlying9 rfl) ?_
      simp only [nz1, nz2, nz3]
      refine lvw 60 (.bool (decide (x59 < (((parts_m s).1).getD x25 []).length))) rfl rfl (r_lss x59 ((((parts_m s).1).getD x25 []).length) rfl rfl rfl) ?_
      simp only [nz1, nz2, nz3]
      refine wpList_nil ?_
      refine then_n (hK71 _ _ ?_)
      refine cond_d (x59 < (((parts_m s).1).getD x25 []).length) rfl (fun hc72 => ?_) (fun hc72 => ?_)
      rotate_left
      · refine wp_exit ?_
        refine then_x ?_
        refine then_x ?_
        refine blk_x ?_
        refine then_n ?_
        exact ⟨x59, (fun qq => bif Nat.blt qq 24 then List.getD [u1 0, u1 1, .int .i64 ((x59 : Nat) : Int), v5, .int .i64 ((x25 : Nat) : Int), .pointer (some ⟨(bk v5), (po v5 + x25 * 1), none⟩), .string (tx (((parts_m s).1).getD x25 [])), .int .i64 (((((parts_m s).1).getD x25 []).length : Nat) : Int), .bool (decide (x59 < (((parts_m s).1).getD x25 []).length)), u1 9, u1 10, u1 11, u1 12, u1 13, u1 14, u1 15, u1 16, u1 17, u1 18, u1 19, u1 20, u1 21, u1 22, u1 23] qq undef else List.getD [u1 24, u1 25, u1 26, u1 27, u1 28, u1 29, u1 30, u1 31, u1 32, u1 33, u1 34, u1 35, u1 36, u1 37, u1 38] (qq - 24) undef), (hi62.trans (show safe_m_b1 s x25 (safe_m_l1 s x25 k61) x59 = .inl x59 from by unfold safe_m_b1; rw [if_neg hc72] <;> rfl)), rfl, hm66⟩
      refine wp_skip ?_
      refine then_n (hK70 _ _ ?_)
      refine wp_seq_k (fun K73 hK73 => ?_)
      refine wp_block ?_
      refine wp_seq_k (fun K74 hK74 => ?_)
      refine wp_region_lit ?_
      refine lvw 63 (v5) rfl rfl (run_mv rfl rfl) ?_
      simp only [nz1, nz2, nz3]
      refine lvw 64 (.int .i64 ((x25 : Nat) : Int)) rfl rfl (run_mv rfl rfl) ?_
      simp only [nz1, nz2, nz3]
      refine lvw 65 (.pointer (some ⟨(bk v5), (po v5 + x25 * 1), none⟩)) rfl rfl (r_ixv ((hm66.see 0 rfl)) x25 (by omega) Tryd.underlying22 sz_9 rfl rfl rfl) ?_
      simp only [nz1, nz2, nz3]
      refine lvw 66 (.string (tx (((parts_m s).1).getD x25 []))) rfl rfl (r_cellw (Rs.cell ((hm66.see 0 rfl)) eS_len [] x25 (by omega) 0 _ rfl) Tryd.underlying9 rfl rfl rfl) ?_
      simp only [nz1, nz2, nz3]
      refine lvw 67 (.int .i64 ((x59 : Nat) : Int)) rfl rfl (run_mv rfl rfl) ?_
      simp only [nz1, nz2, nz3]
      refine lvw 68 (.int .u8 ((by' (((parts_m s).1).getD x25 []) x59 : Nat) : Int)) rfl rfl (t_char (((parts_m s).1).getD x25 []) x59 (by omega) Tryd.underlying9 rfl rfl rfl) ?_
      simp only [nz1, nz2, nz3]
      refine lvw 7 (.int .u8 ((by' (((parts_m s).1).getD x25 []) x59 : Nat) : Int)) rfl rfl (run_as rfl rfl) ?_
      simp only [nz1, nz2, nz3]
      refine wpList_nil ?_
      refine then_n (hK74 _ _ ?_)
      refine wp_seq_k (fun K75 hK75 => ?_)
      refine wp_region_lit ?_
      refine lvw 69 (.int .u8 ((by' (((parts_m s).1).getD x25 []) x59 : Nat) : Int)) rfl rfl (run_mv rfl rfl) ?_
      simp only [nz1, nz2, nz3]
      refine lvb 70 (by' (((parts_m s).1).getD x25 []) x59 ≤ 32) rfl rfl (r_leq (by' (((parts_m s).1).getD x25 []) x59) 32 rfl rfl rfl) (fun hs76 => ?_) (fun hs76 => ?_)
      · simp only [nz1, nz2, nz3]
        refine lvw 71 (.bool true) rfl rfl (run_mv rfl rfl) ?_
        simp only [nz1, nz2, nz3]
        refine lst_skip 72 rfl rfl ?_
        simp only [nz1, nz2, nz3]
        refine lst_skip 73 rfl rfl ?_
        simp only [nz1, nz2, nz3]
        refine lvw 74 (.bool true) rfl rfl (run_pick rfl rfl rfl) ?_
        simp only [nz1, nz2, nz3]
        refine lvw 75 (.bool true) rfl rfl (run_mv rfl rfl) ?_
        simp only [nz1, nz2, nz3]
        refine lst_skip 76 rfl rfl ?_
        simp only [nz1, nz2, nz3]
        refine lst_skip 77 rfl rfl ?_
        simp only [nz1, nz2, nz3]
        refine lvw 78 (.bool true) rfl rfl (run_pick rfl rfl rfl) ?_
        simp only [nz1, nz2, nz3]
        refine lvw 79 (.bool true) rfl rfl (run_mv rfl rfl) ?_
        simp only [nz1, nz2, nz3]
        refine lst_skip 80 rfl rfl ?_
        simp only [nz1, nz2, nz3]
        refine lst_skip 81 rfl rfl ?_
        simp only [nz1, nz2, nz3]
        refine lvw 82 (.bool true) rfl rfl (run_pick rfl rfl rfl) ?_
        simp only [nz1, nz2, nz3]
        refine lvw 83 (.bool true) rfl rfl (run_mv rfl rfl) ?_
        simp only [nz1, nz2, nz3]
        refine lst_skip 84 rfl rfl ?_
        simp only [nz1, nz2, nz3]
        refine lst_skip 85 rfl rfl ?_
        simp only [nz1, nz2, nz3]
        refine lvw 86 (.bool true) rfl rfl (run_pick rfl rfl rfl) ?_
        simp only [nz1, nz2, nz3]
        refine lvw 87 (.bool true) rfl rfl (run_mv rfl rfl) ?_
        simp only [nz1, nz2, nz3]
        refine lst_skip 88 rfl rfl ?_
        simp only [nz1, nz2, nz3]
        refine lst_skip 89 rfl rfl ?_
        simp only [nz1, nz2, nz3]
        refine lvw 90 (.bool true) rfl rfl (run_pick rfl rfl rfl) ?_
        simp only [nz1, nz2, nz3]
        refine wpList_nil ?_
        refine then_n (hK75 _ _ ?_)
        refine cond_t rfl ?_
        refine wp_seq_k (fun K77 hK77 => ?_)
        refine wp_region_lit ?_
        refine lvw 2 (.bool false) rfl rfl (run_as rfl rfl) ?_
        simp only [nz1, nz2, nz3]
        refine wpList_nil ?_
        refine then_n (hK77 _ _ ?_)
        refine wp_ret ?_
        refine blk_r ?_
        refine then_r ?_
        refine then_r ?_
        refine blk_r ?_
        refine then_r ?_
        refine blk_r ?_
        refine then_r ?_
        refine then_r ?_
        refine blk_r ?_
        refine then_r ?_
        refine then_r ?_
        have he78 : safe_m_l1 s x25 (((((parts_m s).1).getD x25 []).length - 0) + 1) 0 = .inr false := (hi62.trans (show safe_m_b1 s x25 (safe_m_l1 s x25 k61) x59 = .inr false from by unfold safe_m_b1; rw [if_pos hc72, if_pos hs76] <;> rfl))
        have he79 : safe_m_l0 s ((((parts_m s).1).length - 0) + 1) 0 = .inr false := (hi28.trans (show safe_m_b0 s (safe_m_l0 s k27) x25 = .inr false from by unfold safe_m_b0; rw [if_pos hc38, if_neg hs42, if_neg hs46, if_neg hs50, if_neg hc54, he78] <;> rfl))
        have he80 : safe_m s = false := (show safe_m s = false from by unfold safe_m; rw [if_neg hc16, he79] <;> rfl)
        exact ⟨rfl, .bool false, res_t rfl rfl, ⟨by rw [he80], hm66.below⟩⟩
      simp only [nz1, nz2, nz3]
      refine lvw 71 (.bool false) rfl rfl (run_mv rfl rfl) ?_
      simp only [nz1, nz2, nz3]
      refine lvw 72 (.int .u8 ((by' (((parts_m s).1).getD x25 []) x59 : Nat) : Int)) rfl rfl (run_mv rfl rfl) ?_
      simp only [nz1, nz2, nz3]
      refine lvb 73 (by' (((parts_m s).1).getD x25 []) x59 = 127) rfl rfl (r_eql (by' (((parts_m s).1).getD x25 []) x59) 127 rfl rfl rfl) (fun hs81 => ?_) (fun hs81 => ?_)
      · simp only [nz1, nz2, nz3]
        refine lvw 74 (.bool true) rfl rfl (run_pickf rfl rfl rfl) ?_
        simp only [nz1, nz2, nz3]
        refine lvw 75 (.bool true) rfl rfl (run_mv rfl rfl) ?_
        simp only [nz1, nz2, nz3]
        refine lst_skip 76 rfl rfl ?_
        simp only [nz1, nz2, nz3]
        refine lst_skip 77 rfl rfl ?_
        simp only [nz1, nz2, nz3]
        refine lvw 78 (.bool true) rfl rfl (run_pick rfl rfl rfl) ?_
        simp only [nz1, nz2, nz3]
        refine lvw 79 (.bool true) rfl rfl (run_mv rfl rfl) ?_
        simp only [nz1, nz2, nz3]
        refine lst_skip 80 rfl rfl ?_
        simp only [nz1, nz2, nz3]
        refine lst_skip 81 rfl rfl ?_
        simp only [nz1, nz2, nz3]
        refine lvw 82 (.bool true) rfl rfl (run_pick rfl rfl rfl) ?_
        simp only [nz1, nz2, nz3]
        refine lvw 83 (.bool true) rfl rfl (run_mv rfl rfl) ?_
        simp only [nz1, nz2, nz3]
        refine lst_skip 84 rfl rfl ?_
        simp only [nz1, nz2, nz3]
        refine lst_skip 85 rfl rfl ?_
        simp only [nz1, nz2, nz3]
        refine lvw 86 (.bool true) rfl rfl (run_pick rfl rfl rfl) ?_
        simp only [nz1, nz2, nz3]
        refine lvw 87 (.bool true) rfl rfl (run_mv rfl rfl) ?_
        simp only [nz1, nz2, nz3]
        refine lst_skip 88 rfl rfl ?_
        simp only [nz1, nz2, nz3]
        refine lst_skip 89 rfl rfl ?_
        simp only [nz1, nz2, nz3]
        refine lvw 90 (.bool true) rfl rfl (run_pick rfl rfl rfl) ?_
        simp only [nz1, nz2, nz3]
        refine wpList_nil ?_
        refine then_n (hK75 _ _ ?_)
        refine cond_t rfl ?_
        refine wp_seq_k (fun K82 hK82 => ?_)
        refine wp_region_lit ?_
        refine lvw 2 (.bool false) rfl rfl (run_as rfl rfl) ?_
        simp only [nz1, nz2, nz3]
        refine wpList_nil ?_
        refine then_n (hK82 _ _ ?_)
        refine wp_ret ?_
        refine blk_r ?_
        refine then_r ?_
        refine then_r ?_
        refine blk_r ?_
        refine then_r ?_
        refine blk_r ?_
        refine then_r ?_
        refine then_r ?_
        refine blk_r ?_
        refine then_r ?_
        refine then_r ?_
        have he83 : safe_m_l1 s x25 (((((parts_m s).1).getD x25 []).length - 0) + 1) 0 = .inr false := (hi62.trans (show safe_m_b1 s x25 (safe_m_l1 s x25 k61) x59 = .inr false from by unfold safe_m_b1; rw [if_pos hc72, if_neg hs76, if_pos hs81] <;> rfl))
        have he84 : safe_m_l0 s ((((parts_m s).1).length - 0) + 1) 0 = .inr false := (hi28.trans (show safe_m_b0 s (safe_m_l0 s k27) x25 = .inr false from by unfold safe_m_b0; rw [if_pos hc38, if_neg hs42, if_neg hs46, if_neg hs50, if_neg hc54, he83] <;> rfl))
        have he85 : safe_m s = false := (show safe_m s = false from by unfold safe_m; rw [if_neg hc16, he84] <;> rfl)
        exact ⟨rfl, .bool false, res_t rfl rfl, ⟨by rw [he85], hm66.below⟩⟩
      simp only [nz1, nz2, nz3]
      refine lvw 74 (.bool false) rfl rfl (run_pickf rfl rfl rfl) ?_
      simp only [nz1, nz2, nz3]
      refine lvw 75 (.bool false) rfl rfl (run_mv rfl rfl) ?_
      simp only [nz1, nz2, nz3]
      refine lvw 76 (.int .u8 ((by' (((parts_m s).1).getD x25 []) x59 : Nat) : Int)) rfl rfl (run_mv rfl rfl) ?_
      simp only [nz1, nz2, nz3]
      refine lvb 77 (by' (((parts_m s).1).getD x25 []) x59 = 47) rfl rfl (r_eql (by' (((parts_m s).1).getD x25 []) x59) 47 rfl rfl rfl) (fun hs86 => ?_) (fun hs86 => ?_)
      · simp only [nz1, nz2, nz3]
        refine lvw 78 (.bool true) rfl rfl (run_pickf rfl rfl rfl) ?_
        simp only [nz1, nz2, nz3]
        refine lvw 79 (.bool true) rfl rfl (run_mv rfl rfl) ?_
        simp only [nz1, nz2, nz3]
        refine lst_skip 80 rfl rfl ?_
        simp only [nz1, nz2, nz3]
        refine lst_skip 81 rfl rfl ?_
        simp only [nz1, nz2, nz3]
        refine lvw 82 (.bool true) rfl rfl (run_pick rfl rfl rfl) ?_
        simp only [nz1, nz2, nz3]
        refine lvw 83 (.bool true) rfl rfl (run_mv rfl rfl) ?_
        simp only [nz1, nz2, nz3]
        refine lst_skip 84 rfl rfl ?_
        simp only [nz1, nz2, nz3]
        refine lst_skip 85 rfl rfl ?_
        simp only [nz1, nz2, nz3]
        refine lvw 86 (.bool true) rfl rfl (run_pick rfl rfl rfl) ?_
        simp only [nz1, nz2, nz3]
        refine lvw 87 (.bool true) rfl rfl (run_mv rfl rfl) ?_
        simp only [nz1, nz2, nz3]
        refine lst_skip 88 rfl rfl ?_
        simp only [nz1, nz2, nz3]
        refine lst_skip 89 rfl rfl ?_
        simp only [nz1, nz2, nz3]
        refine lvw 90 (.bool true) rfl rfl (run_pick rfl rfl rfl) ?_
        simp only [nz1, nz2, nz3]
        refine wpList_nil ?_
        refine then_n (hK75 _ _ ?_)
        refine cond_t rfl ?_
        refine wp_seq_k (fun K87 hK87 => ?_)
        refine wp_region_lit ?_
        refine lvw 2 (.bool false) rfl rfl (run_as rfl rfl) ?_
        simp only [nz1, nz2, nz3]
        refine wpList_nil ?_
        refine then_n (hK87 _ _ ?_)
        refine wp_ret ?_
        refine blk_r ?_
        refine then_r ?_
        refine then_r ?_
        refine blk_r ?_
        refine then_r ?_
        refine blk_r ?_
        refine then_r ?_
        refine then_r ?_
        refine blk_r ?_
        refine then_r ?_
        refine then_r ?_
        have he88 : safe_m_l1 s x25 (((((parts_m s).1).getD x25 []).length - 0) + 1) 0 = .inr false := (hi62.trans (show safe_m_b1 s x25 (safe_m_l1 s x25 k61) x59 = .inr false from by unfold safe_m_b1; rw [if_pos hc72, if_neg hs76, if_neg hs81, if_pos hs86] <;> rfl))
        have he89 : safe_m_l0 s ((((parts_m s).1).length - 0) + 1) 0 = .inr false := (hi28.trans (show safe_m_b0 s (safe_m_l0 s k27) x25 = .inr false from by unfold safe_m_b0; rw [if_pos hc38, if_neg hs42, if_neg hs46, if_neg hs50, if_neg hc54, he88] <;> rfl))
        have he90 : safe_m s = false := (show safe_m s = false from by unfold safe_m; rw [if_neg hc16, he89] <;> rfl)
        exact ⟨rfl, .bool false, res_t rfl rfl, ⟨by rw [he90], hm66.below⟩⟩
      simp only [nz1, nz2, nz3]
      refine lvw 78 (.bool false) rfl rfl (run_pickf rfl rfl rfl) ?_
      simp only [nz1, nz2, nz3]
      refine lvw 79 (.bool false) rfl rfl (run_mv rfl rfl) ?_
      simp only [nz1, nz2, nz3]
      refine lvw 80 (.int .u8 ((by' (((parts_m s).1).getD x25 []) x59 : Nat) : Int)) rfl rfl (run_mv rfl rfl) ?_
      simp only [nz1, nz2, nz3]
      refine lvb 81 (248 ≤ by' (((parts_m s).1).getD x25 []) x59) rfl rfl (r_geq (by' (((parts_m s).1).getD x25 []) x59) 248 rfl rfl rfl) (fun hs91 => ?_) (fun hs91 => ?_)
      · simp only [nz1, nz2, nz3]
        refine lvw 82 (.bool true) rfl rfl (run_pickf rfl rfl rfl) ?_
        simp only [nz1, nz2, nz3]
        refine lvw 83 (.bool true) rfl rfl (run_mv rfl rfl) ?_
        simp only [nz1, nz2, nz3]
        refine lst_skip 84 rfl rfl ?_
        simp only [nz1, nz2, nz3]
        refine lst_skip 85 rfl rfl ?_
        simp only [nz1, nz2, nz3]
        refine lvw 86 (.bool true) rfl rfl (run_pick rfl rfl rfl) ?_
        simp only [nz1, nz2, nz3]
        refine lvw 87 (.bool true) rfl rfl (run_mv rfl rfl) ?_
        simp only [nz1, nz2, nz3]
        refine lst_skip 88 rfl rfl ?_
        simp only [nz1, nz2, nz3]
        refine lst_skip 89 rfl rfl ?_
        simp only [nz1, nz2, nz3]
        refine lvw 90 (.bool true) rfl rfl (run_pick rfl rfl rfl) ?_
        simp only [nz1, nz2, nz3]
        refine wpList_nil ?_
        refine then_n (hK75 _ _ ?_)
        refine cond_t rfl ?_
        refine wp_seq_k (fun K92 hK92 => ?_)
        refine wp_region_lit ?_
        refine lvw 2 (.bool false) rfl rfl (run_as rfl rfl) ?_
        simp only [nz1, nz2, nz3]
        refine wpList_nil ?_
        refine then_n (hK92 _ _ ?_)
        refine wp_ret ?_
        refine blk_r ?_
        refine then_r ?_
        refine then_r ?_
        refine blk_r ?_
        refine then_r ?_
        refine blk_r ?_
        refine then_r ?_
        refine then_r ?_
        refine blk_r ?_
        refine then_r ?_
        refine then_r ?_
        have he93 : safe_m_l1 s x25 (((((parts_m s).1).getD x25 []).length - 0) + 1) 0 = .inr false := (hi62.trans (show safe_m_b1 s x25 (safe_m_l1 s x25 k61) x59 = .inr false from by unfold safe_m_b1; rw [if_pos hc72, if_neg hs76, if_neg hs81, if_neg hs86, if_pos hs91] <;> rfl))
        have he94 : safe_m_l0 s ((((parts_m s).1).length - 0) + 1) 0 = .inr false := (hi28.trans (show safe_m_b0 s (safe_m_l0 s k27) x25 = .inr false from by unfold safe_m_b0; rw [if_pos hc38, if_neg hs42, if_neg hs46, if_neg hs50, if_neg hc54, he93] <;> rfl))
        have he95 : safe_m s = false := (show safe_m s = false from by unfold safe_m; rw [if_neg hc16, he94] <;> rfl)
        exact ⟨rfl, .bool false, res_t rfl rfl, ⟨by rw [he95], hm66.below⟩⟩
      simp only [nz1, nz2, nz3]
      refine lvw 82 (.bool false) rfl rfl (run_pickf rfl rfl rfl) ?_
      simp only [nz1, nz2, nz3]
      refine lvw 83 (.bool false) rfl rfl (run_mv rfl rfl) ?_
      simp only [nz1, nz2, nz3]
      refine lvw 84 (.int .u8 ((by' (((parts_m s).1).getD x25 []) x59 : Nat) : Int)) rfl rfl (run_mv rfl rfl) ?_
      simp only [nz1, nz2, nz3]
      refine lvb 85 (by' (((parts_m s).1).getD x25 []) x59 = 192) rfl rfl (r_eql (by' (((parts_m s).1).getD x25 []) x59) 192 rfl rfl rfl) (fun hs96 => ?_) (fun hs96 => ?_)
      · simp only [nz1, nz2, nz3]
        refine lvw 86 (.bool true) rfl rfl (run_pickf rfl rfl rfl) ?_
        simp only [nz1, nz2, nz3]
        refine lvw 87 (.bool true) rfl rfl (run_mv rfl rfl) ?_
        simp only [nz1, nz2, nz3]
        refine lst_skip 88 rfl rfl ?_
        simp only [nz1, nz2, nz3]
        refine lst_skip 89 rfl rfl ?_
        simp only [nz1, nz2, nz3]
        refine lvw 90 (.bool true) rfl rfl (run_pick rfl rfl rfl) ?_
        simp only [nz1, nz2, nz3]
        refine wpList_nil ?_
        refine then_n (hK75 _ _ ?_)
        refine cond_t rfl ?_
        refine wp_seq_k (fun K97 hK97 => ?_)
        refine wp_region_lit ?_
        refine lvw 2 (.bool false) rfl rfl (run_as rfl rfl) ?_
        simp only [nz1, nz2, nz3]
        refine wpList_nil ?_
        refine then_n (hK97 _ _ ?_)
        refine wp_ret ?_
        refine blk_r ?_
        refine then_r ?_
        refine then_r ?_
        refine blk_r ?_
        refine then_r ?_
        refine blk_r ?_
        refine then_r ?_
        refine then_r ?_
        refine blk_r ?_
        refine then_r ?_
        refine then_r ?_
        have he98 : safe_m_l1 s x25 (((((parts_m s).1).getD x25 []).length - 0) + 1) 0 = .inr false := (hi62.trans (show safe_m_b1 s x25 (safe_m_l1 s x25 k61) x59 = .inr false from by unfold safe_m_b1; rw [if_pos hc72, if_neg hs76, if_neg hs81, if_neg hs86, if_neg hs91, if_pos hs96] <;> rfl))
        have he99 : safe_m_l0 s ((((parts_m s).1).length - 0) + 1) 0 = .inr false := (hi28.trans (show safe_m_b0 s (safe_m_l0 s k27) x25 = .inr false from by unfold safe_m_b0; rw [if_pos hc38, if_neg hs42, if_neg hs46, if_neg hs50, if_neg hc54, he98] <;> rfl))
        have he100 : safe_m s = false := (show safe_m s = false from by unfold safe_m; rw [if_neg hc16, he99] <;> rfl)
        exact ⟨rfl, .bool false, res_t rfl rfl, ⟨by rw [he100], hm66.below⟩⟩
      simp only [nz1, nz2, nz3]
      refine lvw 86 (.bool false) rfl rfl (run_pickf rfl rfl rfl) ?_
      simp only [nz1, nz2, nz3]
      refine lvw 87 (.bool false) rfl rfl (run_mv rfl rfl) ?_
      simp only [nz1, nz2, nz3]
      refine lvw 88 (.int .u8 ((by' (((parts_m s).1).getD x25 []) x59 : Nat) : Int)) rfl rfl (run_mv rfl rfl) ?_
      simp only [nz1, nz2, nz3]
      refine lvw 89 (.bool (decide (by' (((parts_m s).1).getD x25 []) x59 = 193))) rfl rfl (r_eql (by' (((parts_m s).1).getD x25 []) x59) 193 rfl rfl rfl) ?_
      simp only [nz1, nz2, nz3]
      refine lvw 90 (.bool (decide (by' (((parts_m s).1).getD x25 []) x59 = 193))) rfl rfl (run_pickf rfl rfl rfl) ?_
      simp only [nz1, nz2, nz3]
      refine wpList_nil ?_
      refine then_n (hK75 _ _ ?_)
      refine cond_d (by' (((parts_m s).1).getD x25 []) x59 = 193) rfl (fun hc101 => ?_) (fun hc101 => ?_)
      rotate_left
      · refine wp_skip ?_
        refine blk_n ?_
        refine then_n (hK73 _ _ ?_)
        refine wp_region_lit ?_
        refine lvw 61 (.int .i64 ((x59 : Nat) : Int)) rfl rfl (run_mv rfl rfl) ?_
        simp only [nz1, nz2, nz3]
        refine lvw 62 (.int .i64 (((x59 + 1) : Nat) : Int)) rfl rfl (r_add x59 1 (show (x59 + 1) < 9223372036854775808 from by omega) rfl rfl rfl) ?_
        simp only [nz1, nz2, nz3]
        refine lvw 6 (.int .i64 (((x59 + 1) : Nat) : Int)) rfl rfl (run_as rfl rfl) ?_
        simp only [nz1, nz2, nz3]
        refine wpList_nil ?_
        refine then_n (hR67 _ _ _ ⟨k61, (x59 + 1), (fun qq => bif Nat.blt qq 24 then List.getD [u1 0, .int .u8 ((by' (((parts_m s).1).getD x25 []) x59 : Nat) : Int), .int .i64 ((x59 : Nat) : Int), v5, .int .i64 ((x25 : Nat) : Int), .pointer (some ⟨(bk v5), (po v5 + x25 * 1), none⟩), .string (tx (((parts_m s).1).getD x25 [])), .int .i64 (((((parts_m s).1).getD x25 []).length : Nat) : Int), .bool (decide (x59 < (((parts_m s).1).getD x25 []).length)), .int .i64 ((x59 : Nat) : Int), .int .i64 (((x59 + 1) : Nat) : Int), v5, .int .i64 ((x25 : Nat) : Int), .pointer (some ⟨(bk v5), (po v5 + x25 * 1), none⟩), .string (tx (((parts_m s).1).getD x25 [])), .int .i64 ((x59 : Nat) : Int), .int .u8 ((by' (((parts_m s).1).getD x25 []) x59 : Nat) : Int), .int .u8 ((by' (((parts_m s).1).getD x25 []) x59 : Nat) : Int), .bool false, .bool false, .int .u8 ((by' (((parts_m s).1).getD x25 []) x59 : Nat) : Int), .bool false, .bool false, .bool false] qq undef else List.getD [.int .u8 ((by' (((parts_m s).1).getD x25 []) x59 : Nat) : Int), .bool false, .bool false, .bool false, .int .u8 ((by' (((parts_m s).1).getD x25 []) x59 : Nat) : Int), .bool false, .bool false, .bool false, .int .u8 ((by' (((parts_m s).1).getD x25 []) x59 : Nat) : Int), .bool false, .bool false, .bool false, .int .u8 ((by' (((parts_m s).1).getD x25 []) x59 : Nat) : Int), .bool (decide (by' (((parts_m s).1).getD x25 []) x59 = 193)), .bool (decide (by' (((parts_m s).1).getD x25 []) x59 = 193))] (qq - 24) undef), rfl, (by first | omega | (simp; omega) | (simp at *; omega)), (hi62.trans (show safe_m_b1 s x25 (safe_m_l1 s x25 k61) x59 = safe_m_l1 s x25 k61 (x59 + 1) from by unfold safe_m_b1; rw [if_pos hc72, if_neg hs76, if_neg hs81, if_neg hs86, if_neg hs91, if_neg hs96, if_neg hc101] <;> rfl)), rfl, hm66⟩ ?_)
        omega
      refine wp_seq_k (fun K102 hK102 => ?_)
      refine wp_region_lit ?_
      refine lvw 2 (.bool false) rfl rfl (run_as rfl rfl) ?_
      simp only [nz1, nz2, nz3]
      refine wpList_nil ?_
      refine then_n (hK102 _ _ ?_)
      refine wp_ret ?_
      refine blk_r ?_
      refine then_r ?_
      refine then_r ?_
      refine blk_r ?_
      refine then_r ?_
      refine blk_r ?_
      refine then_r ?_
      refine then_r ?_
      refine blk_r ?_
      refine then_r ?_
      refine then_r ?_
      have he103 : safe_m_l1 s x25 (((((parts_m s).1).getD x25 []).length - 0) + 1) 0 = .inr false := (hi62.trans (show safe_m_b1 s x25 (safe_m_l1 s x25 k61) x59 = .inr false from by unfold safe_m_b1; rw [if_pos hc72, if_neg hs76, if_neg hs81, if_neg hs86, if_neg hs91, if_neg hs96, if_pos hc101] <;> rfl))
      have he104 : safe_m_l0 s ((((parts_m s).1).length - 0) + 1) 0 = .inr false := (hi28.trans (show safe_m_b0 s (safe_m_l0 s k27) x25 = .inr false from by unfold safe_m_b0; rw [if_pos hc38, if_neg hs42, if_neg hs46, if_neg hs50, if_neg hc54, he103] <;> rfl))
      have he105 : safe_m s = false := (show safe_m s = false from by unfold safe_m; rw [if_neg hc16, he104] <;> rfl)
      exact ⟨rfl, .bool false, res_t rfl rfl, ⟨by rw [he105], hm66.below⟩⟩
    rintro _ w106 ⟨y63, yu1, hx64, rfl, hm107⟩
    have hq108 : safe_m_l0 s ((((parts_m s).1).length - 0) + 1) 0 = safe_m_k1 s x25 (safe_m_l0 s k27) y63 := (hi28.trans (show safe_m_b0 s (safe_m_l0 s k27) x25 = safe_m_k1 s x25 (safe_m_l0 s k27) y63 from by unfold safe_m_b0; rw [if_pos hc38, if_neg hs42, if_neg hs46, if_neg hs50, if_neg hc54, hx64] <;> rfl))
    refine blk_n ?_
    refine then_n (hK39 _ _ ?_)
    refine wp_region_lit ?_
    refine lvw 25 (.int .i64 ((x25 : Nat) : Int)) rfl rfl (run_mv rfl rfl) ?_
    simp only [nz1, nz2, nz3]
    refine lvw 26 (.int .i64 (((x25 + 1) : Nat) : Int)) rfl rfl (r_add x25 1 (show (x25 + 1) < 9223372036854775808 from by omega) rfl rfl rfl) ?_
    simp only [nz1, nz2, nz3]
    refine lvw 5 (.int .i64 (((x25 + 1) : Nat) : Int)) rfl rfl (run_as rfl rfl) ?_
    simp only [nz1, nz2, nz3]
    refine wpList_nil ?_
    refine then_n (hR33 _ _ _ ⟨k27, (x25 + 1), (fun qq => bif Nat.blt qq 24 then List.getD [yu1 0, .int .i64 ((y63 : Nat) : Int), yu1 1, .int .i64 ((x25 : Nat) : Int), v5, .int .i64 ((((parts_m s).1).length : Nat) : Int), .bool (decide (x25 < ((parts_m s).1).length)), .int .i64 ((x25 : Nat) : Int), .int .i64 (((x25 + 1) : Nat) : Int), v5, .int .i64 ((x25 : Nat) : Int), .pointer (some ⟨(bk v5), (po v5 + x25 * 1), none⟩), .string (tx (((parts_m s).1).getD x25 [])), .bool false, .bool false, v5, .int .i64 ((x25 : Nat) : Int), .pointer (some ⟨(bk v5), (po v5 + x25 * 1), none⟩), .string (tx (((parts_m s).1).getD x25 [])), .bool false, .bool false, .bool false, v5, .int .i64 ((x25 : Nat) : Int)] qq undef else bif Nat.blt qq 48 then List.getD [.pointer (some ⟨(bk v5), (po v5 + x25 * 1), none⟩), .string (tx (((parts_m s).1).getD x25 [])), .bool false, .bool false, .bool false, v5, .int .i64 ((x25 : Nat) : Int), .pointer (some ⟨(bk v5), (po v5 + x25 * 1), none⟩), .string (tx (((parts_m s).1).getD x25 [])), .int .i64 (((((parts_m s).1).getD x25 []).length : Nat) : Int), .bool (decide (64 < (((parts_m s).1).getD x25 []).length)), .bool (decide (64 < (((parts_m s).1).getD x25 []).length)), yu1 2, yu1 3, yu1 4, yu1 5, yu1 6, yu1 7, yu1 8, yu1 9, yu1 10, yu1 11, yu1 12, yu1 13] (qq - 24) undef else bif Nat.blt qq 72 then List.getD [yu1 14, yu1 15, yu1 16, yu1 17, yu1 18, yu1 19, yu1 20, yu1 21, yu1 22, yu1 23, yu1 24, yu1 25, yu1 26, yu1 27, yu1 28, yu1 29, yu1 30, yu1 31, yu1 32, yu1 33, yu1 34, yu1 35, yu1 36, yu1 37] (qq - 48) undef else List.getD [yu1 38] (qq - 72) undef), rfl, (by first | omega | (simp; omega) | (simp at *; omega)), (hq108.trans (show safe_m_k1 s x25 (safe_m_l0 s k27) y63 = safe_m_l0 s k27 (x25 + 1) from by unfold safe_m_k1; rfl)), rfl, hm107⟩ ?_)
    omega
  rintro _ w109 ⟨y29, yu0, hx30, rfl, hm110⟩
  have hq111 : safe_m s = safe_m_k0 s y29 := (show safe_m s = safe_m_k0 s y29 from by unfold safe_m; rw [if_neg hc16, hx30] <;> rfl)
  refine then_n (hK23 _ _ ?_)
  refine wp_seq_k (fun K112 hK112 => ?_)
  refine wp_region_lit ?_
  refine lst rfl (m_call hm110 91 (.bool (awake_m)) rfl (run_awake rfl) (awake_any   _  (Laid.below hT hm110.below) ) (fun w113 (hm114 : Mm none (fun _ => True) w w113 [.see (Rs eS 1 ((parts_m s).1) v5) F7]) => ?_))
  simp only [nz1, nz2, nz3]
  by_cases hs115 : awake_m = true
  rotate_left
  · rw [(Bool.eq_false_iff.2 hs115 : awake_m = false)]
    refine lvw 92 (.bool false) rfl rfl (run_mv rfl rfl) ?_
    simp only [nz1, nz2, nz3]
    refine lst_skip 93 rfl rfl ?_
    simp only [nz1, nz2, nz3]
    refine lst_skip 94 rfl rfl ?_
    simp only [nz1, nz2, nz3]
    refine lst_skip 95 rfl rfl ?_
    simp only [nz1, nz2, nz3]
    refine lvw 96 (.bool false) rfl rfl (run_pickf rfl rfl rfl) ?_
    simp only [nz1, nz2, nz3]
    refine lvw 97 (.bool false) rfl rfl (run_mv rfl rfl) ?_
    simp only [nz1, nz2, nz3]
    refine lst_skip 98 rfl rfl ?_
    simp only [nz1, nz2, nz3]
    refine lst_skip 99 rfl rfl ?_
    simp only [nz1, nz2, nz3]
    refine lst_skip 100 rfl rfl ?_
    simp only [nz1, nz2, nz3]
    refine lvw 101 (.bool false) rfl rfl (run_pickf rfl rfl rfl) ?_
    simp only [nz1, nz2, nz3]
    refine lvw 102 (.bool false) rfl rfl (run_mv rfl rfl) ?_
    simp only [nz1, nz2, nz3]
    refine lst_skip 103 rfl rfl ?_
    simp only [nz1, nz2, nz3]
    refine lst_skip 104 rfl rfl ?_
    simp only [nz1, nz2, nz3]
    refine lst_skip 105 rfl rfl ?_
    simp only [nz1, nz2, nz3]
    refine lst_skip 106 rfl rfl ?_
    simp only [nz1, nz2, nz3]
    refine lst_skip 107 rfl rfl ?_
    simp only [nz1, nz2, nz3]
    refine lst_skip 108 rfl rfl ?_
    simp only [nz1, nz2, nz3]
    refine lvw 109 (.bool false) rfl rfl (run_pickf rfl rfl rfl) ?_
    simp only [nz1, nz2, nz3]
    refine lvw 2 (.bool false) rfl rfl (run_as rfl rfl) ?_
    simp only [nz1, nz2, nz3]
    refine wpList_nil ?_
    refine then_n (hK112 _ _ ?_)
    refine wp_ret ?_
    have he121 : safe_m s = false := (hq111.trans (show safe_m_k0 s y29 = false from by unfold safe_m_k0; rw [if_neg hs115] <;> rfl))
    exact ⟨rfl, .bool false, res_t rfl rfl, ⟨by rw [he121], hm114.below⟩⟩
  rw [(hs115 : awake_m = true)]
  refine lvw 92 (.bool true) rfl rfl (run_mv rfl rfl) ?_
  simp only [nz1, nz2, nz3]
  refine lvw 93 (v5) rfl rfl (run_mv rfl rfl) ?_
  simp only [nz1, nz2, nz3]
  refine lvw 94 (.int .i64 ((((parts_m s).1).length : Nat) : Int)) rfl rfl (s_len ((hm114.see 0 rfl)) rfl Tryd.underlying22 rfl) ?_
  simp only [nz1, nz2, nz3]
  refine lvb 95 (((parts_m s).1).length ≤ 16) rfl rfl (r_leq (((parts_m s).1).length) 16 rfl rfl rfl) (fun hs116 => ?_) (fun hs116 => ?_)
  rotate_left
  · simp only [nz1, nz2, nz3]
    refine lvw 96 (.bool false) rfl rfl (run_pick rfl rfl rfl) ?_
    simp only [nz1, nz2, nz3]
    refine lvw 97 (.bool false) rfl rfl (run_mv rfl rfl) ?_
    simp only [nz1, nz2, nz3]
    refine lst_skip 98 rfl rfl ?_
    simp only [nz1, nz2, nz3]
    refine lst_skip 99 rfl rfl ?_
    simp only [nz1, nz2, nz3]
    refine lst_skip 100 rfl rfl ?_
    simp only [nz1, nz2, nz3]
    refine lvw 101 (.bool false) rfl rfl (run_pickf rfl rfl rfl) ?_
    simp only [nz1, nz2, nz3]
    refine lvw 102 (.bool false) rfl rfl (run_mv rfl rfl) ?_
    simp only [nz1, nz2, nz3]
    refine lst_skip 103 rfl rfl ?_
    simp only [nz1, nz2, nz3]
    refine lst_skip 104 rfl rfl ?_
    simp only [nz1, nz2, nz3]
    refine lst_skip 105 rfl rfl ?_
    simp only [nz1, nz2, nz3]
    refine lst_skip 106 rfl rfl ?_
    simp only [nz1, nz2, nz3]
    refine lst_skip 107 rfl rfl ?_
    simp only [nz1, nz2, nz3]
    refine lst_skip 108 rfl rfl ?_
    simp only [nz1, nz2, nz3]
    refine lvw 109 (.bool false) rfl rfl (run_pickf rfl rfl rfl) ?_
    simp only [nz1, nz2, nz3]
    refine lvw 2 (.bool false) rfl rfl (run_as rfl rfl) ?_
    simp only [nz1, nz2, nz3]
    refine wpList_nil ?_
    refine then_n (hK112 _ _ ?_)
    refine wp_ret ?_
    have he120 : safe_m s = false := (hq111.trans (show safe_m_k0 s y29 = false from by unfold safe_m_k0; rw [if_pos hs115, if_neg hs116] <;> rfl))
    exact ⟨rfl, .bool false, res_t rfl rfl, ⟨by rw [he120], hm114.below⟩⟩
  simp only [nz1, nz2, nz3]
  refine lvw 96 (.bool true) rfl rfl (run_pick rfl rfl rfl) ?_
  simp only [nz1, nz2, nz3]
  refine lvw 97 (.bool true) rfl rfl (run_mv rfl rfl) ?_
  simp only [nz1, nz2, nz3]
  refine lvw 98 (.string (tx s)) rfl rfl (run_mv rfl rfl) ?_
  simp only [nz1, nz2, nz3]
  refine lvw 99 (.int .u8 ((by' s 0 : Nat) : Int)) rfl rfl (t_char s 0 (by omega) Tryd.underlying9 rfl rfl rfl) ?_
  simp only [nz1, nz2, nz3]
  refine lvb 100 (¬ by' s 0 = 47) rfl rfl (r_neq (by' s 0) 47 rfl rfl rfl) (fun hs117 => ?_) (fun hs117 => ?_)
  · simp only [nz1, nz2, nz3]
    refine lvw 101 (.bool true) rfl rfl (run_pick rfl rfl rfl) ?_
    simp only [nz1, nz2, nz3]
    refine lvw 102 (.bool true) rfl rfl (run_mv rfl rfl) ?_
    simp only [nz1, nz2, nz3]
    refine lvw 103 (.string (tx s)) rfl rfl (run_mv rfl rfl) ?_
    simp only [nz1, nz2, nz3]
    refine lvw 104 (.string (tx s)) rfl rfl (run_mv rfl rfl) ?_
    simp only [nz1, nz2, nz3]
    refine lvw 105 (.int .i64 ((s.length : Nat) : Int)) rfl rfl (t_len rfl Tryd.underlying9 rfl) ?_
    simp only [nz1, nz2, nz3]
    refine lvw 106 (.int .i64 ((((s.length : Nat) : Int) - (1 : Int)))) rfl rfl (z_sub ((s.length : Nat) : Int) (1 : Int) _ (by rw [IntKind.wrap_i64]; omega) rfl rfl rfl) ?_
    simp only [nz1, nz2, nz3]
    refine lvw 107 (.int .u8 ((by' s ((((s.length : Nat) : Int) - (1 : Int)).toNat) : Nat) : Int)) rfl rfl (t_char s ((((s.length : Nat) : Int) - (1 : Int)).toNat) (by omega) Tryd.underlying9 rfl rfl (show (Value.int .i64 (((s.length : Nat) : Int) - (1 : Int))) = .int .i64 ((((((s.length : Nat) : Int) - (1 : Int)).toNat) : Nat) : Int) from by congr 1; omega)) ?_
    simp only [nz1, nz2, nz3]
    refine lvw 108 (.bool (decide (¬ by' s ((((s.length : Nat) : Int) - (1 : Int)).toNat) = 47))) rfl rfl (r_neq (by' s ((((s.length : Nat) : Int) - (1 : Int)).toNat)) 47 rfl rfl rfl) ?_
    simp only [nz1, nz2, nz3]
    refine lvw 109 (.bool (decide (¬ by' s ((((s.length : Nat) : Int) - (1 : Int)).toNat) = 47))) rfl rfl (run_pick rfl rfl rfl) ?_
    simp only [nz1, nz2, nz3]
    refine lvw 2 (.bool (decide (¬ by' s ((((s.length : Nat) : Int) - (1 : Int)).toNat) = 47))) rfl rfl (run_as rfl rfl) ?_
    simp only [nz1, nz2, nz3]
    refine wpList_nil ?_
    refine then_n (hK112 _ _ ?_)
    refine wp_ret ?_
    have he118 : safe_m s = (decide (¬ by' s ((((s.length : Nat) : Int) - (1 : Int)).toNat) = 47)) := (hq111.trans (show safe_m_k0 s y29 = (decide (¬ by' s ((((s.length : Nat) : Int) - (1 : Int)).toNat) = 47)) from by unfold safe_m_k0; rw [if_pos hs115, if_pos hs116, if_pos hs117] <;> rfl))
    exact ⟨rfl, .bool (decide (¬ by' s ((((s.length : Nat) : Int) - (1 : Int)).toNat) = 47)), res_t rfl rfl, ⟨by rw [he118], hm114.below⟩⟩
  simp only [nz1, nz2, nz3]
  refine lvw 101 (.bool false) rfl rfl (run_pick rfl rfl rfl) ?_
  simp only [nz1, nz2, nz3]
  refine lvw 102 (.bool false) rfl rfl (run_mv rfl rfl) ?_
  simp only [nz1, nz2, nz3]
  refine lst_skip 103 rfl rfl ?_
  simp only [nz1, nz2, nz3]
  refine lst_skip 104 rfl rfl ?_
  simp only [nz1, nz2, nz3]
  refine lst_skip 105 rfl rfl ?_
  simp only [nz1, nz2, nz3]
  refine lst_skip 106 rfl rfl ?_
  simp only [nz1, nz2, nz3]
  refine lst_skip 107 rfl rfl ?_
  simp only [nz1, nz2, nz3]
  refine lst_skip 108 rfl rfl ?_
  simp only [nz1, nz2, nz3]
  refine lvw 109 (.bool false) rfl rfl (run_pickf rfl rfl rfl) ?_
  simp only [nz1, nz2, nz3]
  refine lvw 2 (.bool false) rfl rfl (run_as rfl rfl) ?_
  simp only [nz1, nz2, nz3]
  refine wpList_nil ?_
  refine then_n (hK112 _ _ ?_)
  refine wp_ret ?_
  have he119 : safe_m s = false := (hq111.trans (show safe_m_k0 s y29 = false from by unfold safe_m_k0; rw [if_pos hs115, if_pos hs116, if_neg hs117] <;> rfl))
  exact ⟨rfl, .bool false, res_t rfl rfl, ⟨by rw [he119], hm114.below⟩⟩
theorem run_safe {o : Oper} {a : Act} {w : World} {x0 : Operand} {v0 : Value} (ho : o.op = .call { callee := .value (.func 6), args := #[x0], argTypes := #[9] }) (h0 : a.eval x0 = v0) :
    (execOp a.eval o).run Tryd.prog w = .ok (.enter 6 #[v0]) w := by
  unfold execOp
  simp only [ho]
  have hf : a.eval (.func 6) = .func (.func 6) #[] #[] := rfl
  generalize a.eval = f at *
  go_simp
end Go.Proofs.YtdohmmdfenafnaaDoor.Pa
