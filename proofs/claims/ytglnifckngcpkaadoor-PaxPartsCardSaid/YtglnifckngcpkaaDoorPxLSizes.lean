/- Layer 10: PaxSizes. -/
import Derived.Test.YtglnifckngcpkaaDoorPxP
namespace Go.Proofs.YtglnifckngcpkaaDoor.Px
open Go.RowKit
open Go.Proofs.YtglnifckngcpkaaDoor.Sym Go.Proofs.YtglnifckngcpkaaDoor.Mem
open Go.Proofs.YtglnifckngcpkaaDoor.Sx hiding Mm m_alloc m_store m_put m_call m_callx m_make m_append r_string r_ixS
set_option linter.unusedVariables false
attribute [local irreducible] plen_m itoa_m atoi_v atoi_ok cut_m key_m pdig_m ib_m record_m first_m
attribute [local irreducible] encode_m decode_m last_m rencode_m rdecode_m rlast_m same_m great_m rkey_m
attribute [local irreducible] wpList Oper.wp

def lsizes_m_b0 (p : Par) (rec : Nat × Nat → Sum (Nat × Nat) (Bool)) (x39 : Nat) (x40 : Nat) : Sum (Nat × Nat) (Bool) :=
  if x40 < ((encode_m ([p] : List Par)).1).length then
    if 48 ≤ by' ((encode_m ([p] : List Par)).1) x40 then
      if by' ((encode_m ([p] : List Par)).1) x40 ≤ 57 then
        if x40 < 7 then
          rec (((10 * x39) + ((by' ((encode_m ([p] : List Par)).1) x40) - 48)), (x40 + 1))
        else
          .inl (x39, x40)
      else
        .inl (x39, x40)
    else
      .inl (x39, x40)
  else
    .inl (x39, x40)
def lsizes_m_l0 (p : Par) : Nat → Nat × Nat → Sum (Nat × Nat) (Bool)
  | 0, zz => .inl zz
  | nq + 1, zz => lsizes_m_b0 p (lsizes_m_l0 p nq) zz.1 zz.2

def lsizes_m_k0 (p : Par) (y44 : Nat) (y45 : Nat) : Bool :=
  if pawake_m = true then
    if y44 = ((encode_m ([p] : List Par)).1).length then
      (decide ((((encode_m ([p] : List Par)).1).drop y45) = (((([32] ++ p.key) ++ [61]) ++ p.value) ++ [10])))
    else
      false
  else
    false

def lsizes_m (p : Par) : Bool :=
  if 20000 < p.key.length then
    pawake_m
  else
    if 20000 < p.value.length then
      pawake_m
    else
      if ¬ (encode_m ([p] : List Par)).2 = 0 then
        if pawake_m = true then
          if (encode_m ([p] : List Par)).1 = [] then
            (!(key_m p.key))
          else
            false
        else
          false
      else
        fin (lsizes_m_l0 p ((((encode_m ([p] : List Par)).1).length - 0) + 1) (0, 0)) (fun r => r) (fun zz => lsizes_m_k0 p zz.1 zz.2)

set_option maxHeartbeats 4000000 in
set_option maxRecDepth 100000 in
theorem lsizes_any (p : Par) (w : World)  (hT : Laid w)  : Calls Tryd.prog 13 #[.agg #[.string (tx p.key), .string (tx p.value)]] w (fun e w' => e = .returned (.bool ((lsizes_m p))) ∧ Below w.heap.size w w') := by
  go_enter Tryd.func13, Tryd.ntmps13
  have hm00 := Mm.nil none (fun _ => True) w
  have hm0 := hm00
  refine wp_seq_k (fun K1 hK1 => ?_)
  refine wp_region_lit ?_
  refine lst rfl (m_alloc (c := #[.string (tx p.key), .string (tx p.value)]) (T := 47) hm0 1 rfl (run_box rfl rfl) (fun g4 w2 (hm3 : Mm none (fun _ => True) w w2 [.blk g4 #[.string (tx p.key), .string (tx p.value)] 47]) => ?_))
  simp only [nz1, nz2, nz3]
  refine lvw 2 (.bool false) rfl rfl (run_as rfl rfl) ?_
  simp only [nz1, nz2, nz3]
  refine wpList_nil ?_
  refine then_n (hK1 _ _ ?_)
  refine wp_seq_k (fun K5 hK5 => ?_)
  refine wp_seq_k (fun K6 hK6 => ?_)
  refine wp_region_lit ?_
  refine lvw 7 (.pointer (some ⟨g4, 0, none⟩)) rfl rfl (r_fa47_0 g4 0 rfl rfl) ?_
  simp only [nz1, nz2, nz3]
  refine lvw 8 (.string (tx p.key)) rfl rfl (r_load (hm3.at 0 rfl) rfl Tryd.underlying9 rfl rfl rfl) ?_
  simp only [nz1, nz2, nz3]
  refine lvw 9 (.int .i64 ((p.key.length : Nat) : Int)) rfl rfl (t_len rfl Tryd.underlying9 rfl) ?_
  simp only [nz1, nz2, nz3]
  refine lvb 10 (20000 < p.key.length) rfl rfl (r_gtr p.key.length 20000 rfl rfl rfl) (fun hs7 => ?_) (fun hs7 => ?_)
  · simp only [nz1, nz2, nz3]
    refine lvw 11 (.bool true) rfl rfl (run_mv rfl rfl) ?_
    simp only [nz1, nz2, nz3]
    refine lst_skip 12 rfl rfl ?_
    simp only [nz1, nz2, nz3]
    refine lst_skip 13 rfl rfl ?_
    simp only [nz1, nz2, nz3]
    refine lst_skip 14 rfl rfl ?_
    simp only [nz1, nz2, nz3]
    refine lst_skip 15 rfl rfl ?_
    simp only [nz1, nz2, nz3]
    refine lvw 16 (.bool true) rfl rfl (run_pick rfl rfl rfl) ?_
    simp only [nz1, nz2, nz3]
    refine wpList_nil ?_
    refine then_n (hK6 _ _ ?_)
    refine cond_t rfl ?_
    refine wp_seq_k (fun K8 hK8 => ?_)
    refine wp_region_lit ?_
    refine lst rfl (m_call hm3 17 (.bool (pawake_m)) rfl (run_pawake rfl) (pawake_any   _  (Laid.below hT hm3.below) ) (fun w9 (hm10 : Mm none (fun _ => True) w w9 [.blk g4 #[.string (tx p.key), .string (tx p.value)] 47]) => ?_))
    simp only [nz1, nz2, nz3]
    refine lvw 2 (.bool (pawake_m)) rfl rfl (run_as rfl rfl) ?_
    simp only [nz1, nz2, nz3]
    refine wpList_nil ?_
    refine then_n (hK8 _ _ ?_)
    refine wp_ret ?_
    refine then_r ?_
    have he11 : lsizes_m p = pawake_m := (show lsizes_m p = pawake_m from by unfold lsizes_m; rw [if_pos hs7] <;> rfl)
    exact ⟨rfl, .bool (pawake_m), res_t rfl rfl, ⟨by rw [he11], hm10.below⟩⟩
  simp only [nz1, nz2, nz3]
  refine lvw 11 (.bool false) rfl rfl (run_mv rfl rfl) ?_
  simp only [nz1, nz2, nz3]
  refine lvw 12 (.pointer (some ⟨g4, 1, none⟩)) rfl rfl (r_fa47_1 g4 0 rfl rfl) ?_
  simp only [nz1, nz2, nz3]
  refine lvw 13 (.string (tx p.value)) rfl rfl (r_load (hm3.at 0 rfl) rfl Tryd.underlying9 rfl rfl rfl) ?_
  simp only [nz1, nz2, nz3]
  refine lvw 14 (.int .i64 ((p.value.length : Nat) : Int)) rfl rfl (t_len rfl Tryd.underlying9 rfl) ?_
  simp only [nz1, nz2, nz3]
  refine lvw 15 (.bool (decide (20000 < p.value.length))) rfl rfl (r_gtr p.value.length 20000 rfl rfl rfl) ?_
  simp only [nz1, nz2, nz3]
  refine lvw 16 (.bool (decide (20000 < p.value.length))) rfl rfl (run_pickf rfl rfl rfl) ?_
  simp only [nz1, nz2, nz3]
  refine wpList_nil ?_
  refine then_n (hK6 _ _ ?_)
  refine cond_d (20000 < p.value.length) rfl (fun hc12 => ?_) (fun hc12 => ?_)
  · refine wp_seq_k (fun K13 hK13 => ?_)
    refine wp_region_lit ?_
    refine lst rfl (m_call hm3 17 (.bool (pawake_m)) rfl (run_pawake rfl) (pawake_any   _  (Laid.below hT hm3.below) ) (fun w14 (hm15 : Mm none (fun _ => True) w w14 [.blk g4 #[.string (tx p.key), .string (tx p.value)] 47]) => ?_))
    simp only [nz1, nz2, nz3]
    refine lvw 2 (.bool (pawake_m)) rfl rfl (run_as rfl rfl) ?_
    simp only [nz1, nz2, nz3]
    refine wpList_nil ?_
    refine then_n (hK13 _ _ ?_)
    refine wp_ret ?_
    refine then_r ?_
    have he16 : lsizes_m p = pawake_m := (show lsizes_m p = pawake_m from by unfold lsizes_m; rw [if_neg hs7, if_pos hc12] <;> rfl)
    exact ⟨rfl, .bool (pawake_m), res_t rfl rfl, ⟨by rw [he16], hm15.below⟩⟩
  refine wp_skip ?_
  refine then_n (hK5 _ _ ?_)
  refine wp_seq_k (fun K17 hK17 => ?_)
  refine wp_region_lit ?_
  refine lvw 19 (.agg #[.string (tx p.key), .string (tx p.value)]) rfl rfl (r_whole (hm3.at 0 rfl) Tryd.underlying47 rfl (by exact sz_47) rfl rfl) ?_
  simp only [nz1, nz2, nz3]
  refine lst rfl (m_make (c := #[.string (tx p.key), .string (tx p.value)]) (T := 47) (fun g => .slice (some ⟨g, 0, none⟩) 1 1) hm3 20 rfl (by unfold execOp; go_simp; try rfl) (fun g20 w18 (hm19 : Mm none (fun _ => True) w w18 [.blk g4 #[.string (tx p.key), .string (tx p.value)] 47, .blk g20 #[.string (tx p.key), .string (tx p.value)] 47]) => ?_))
  simp only [nz1, nz2, nz3]
  refine lst rfl (m_call hm19 21 (.tuple #[.string (tx ((encode_m ([p] : List Par)).1)), .int .i64 ((encode_m ([p] : List Par)).2)]) rfl (run_encode rfl rfl) (encode_any ([p] : List Par) (.slice (some ⟨g20, 0, none⟩) 1 1) _ (Rs.blk (l := [p]) (hm19.at 1 rfl) rfl rfl ePar_len (Nat.le_refl _)) (Laid.below hT hm19.below) (by first | omega | assumption | (simp; done) | (simp; omega) | (simp only [List.length_append, List.length_cons, List.length_nil]; omega) | (simp only [List.length_append, List.length_cons, List.length_nil] at *; omega) | decide)) (fun w21 (hm22 : Mm none (fun _ => True) w w21 [.blk g4 #[.string (tx p.key), .string (tx p.value)] 47, .blk g20 #[.string (tx p.key), .string (tx p.value)] 47]) => ?_))
  have hf23 : (encode_m ([p] : List Par)).1.length ≤ 1048576 := encode_len ([p] : List Par)
  simp only [nz1, nz2, nz3]
  refine lvw 18 (.tuple #[.string (tx ((encode_m ([p] : List Par)).1)), .int .i64 ((encode_m ([p] : List Par)).2)]) rfl rfl (run_mv rfl rfl) ?_
  simp only [nz1, nz2, nz3]
  refine lvw 22 (.string (tx ((encode_m ([p] : List Par)).1))) rfl rfl (run_ex rfl rfl rfl) ?_
  simp only [nz1, nz2, nz3]
  refine lvw 23 (.int .i64 ((encode_m ([p] : List Par)).2)) rfl rfl (run_ex rfl rfl rfl) ?_
  simp only [nz1, nz2, nz3]
  refine lvw 3 (.string (tx ((encode_m ([p] : List Par)).1))) rfl rfl (run_as rfl rfl) ?_
  simp only [nz1, nz2, nz3]
  refine lvw 4 (.int .i64 ((encode_m ([p] : List Par)).2)) rfl rfl (run_as rfl rfl) ?_
  simp only [nz1, nz2, nz3]
  refine wpList_nil ?_
  refine then_n (hK17 _ _ ?_)
  refine wp_seq_k (fun K24 hK24 => ?_)
  refine wp_seq_k (fun K25 hK25 => ?_)
  refine wp_region_lit ?_
  refine lvw 24 (.int .i64 ((encode_m ([p] : List Par)).2)) rfl rfl (run_mv rfl rfl) ?_
  simp only [nz1, nz2, nz3]
  refine lvw 25 (.bool (decide (¬ (encode_m ([p] : List Par)).2 = 0))) rfl rfl (z_neq ((encode_m ([p] : List Par)).2) 0 rfl rfl rfl) ?_
  simp only [nz1, nz2, nz3]
  refine wpList_nil ?_
  refine then_n (hK25 _ _ ?_)
  refine cond_d (¬ (encode_m ([p] : List Par)).2 = 0) rfl (fun hc26 => ?_) (fun hc26 => ?_)
  · refine wp_seq_k (fun K27 hK27 => ?_)
    refine wp_region_lit ?_
    refine lst rfl (m_call hm22 26 (.bool (pawake_m)) rfl (run_pawake rfl) (pawake_any   _  (Laid.below hT hm22.below) ) (fun w28 (hm29 : Mm none (fun _ => True) w w28 [.blk g4 #[.string (tx p.key), .string (tx p.value)] 47, .blk g20 #[.string (tx p.key), .string (tx p.value)] 47]) => ?_))
    simp only [nz1, nz2, nz3]
    by_cases hs30 : pawake_m = true
    rotate_left
    · rw [(Bool.eq_false_iff.2 hs30 : pawake_m = false)]
      refine lvw 27 (.bool false) rfl rfl (run_mv rfl rfl) ?_
      simp only [nz1, nz2, nz3]
      refine lst_skip 28 rfl rfl ?_
      simp only [nz1, nz2, nz3]
      refine lst_skip 29 rfl rfl ?_
      simp only [nz1, nz2, nz3]
      refine lvw 30 (.bool false) rfl rfl (run_pickf rfl rfl rfl) ?_
      simp only [nz1, nz2, nz3]
      refine lvw 31 (.bool false) rfl rfl (run_mv rfl rfl) ?_
      simp only [nz1, nz2, nz3]
      refine lst_skip 32 rfl rfl ?_
      simp only [nz1, nz2, nz3]
      refine lst_skip 33 rfl rfl ?_
      simp only [nz1, nz2, nz3]
      refine lst_skip 34 rfl rfl ?_
      simp only [nz1, nz2, nz3]
      refine lst_skip 35 rfl rfl ?_
      simp only [nz1, nz2, nz3]
      refine lvw 36 (.bool false) rfl rfl (run_pickf rfl rfl rfl) ?_
      simp only [nz1, nz2, nz3]
      refine lvw 2 (.bool false) rfl rfl (run_as rfl rfl) ?_
      simp only [nz1, nz2, nz3]
      refine wpList_nil ?_
      refine then_n (hK27 _ _ ?_)
      refine wp_ret ?_
      refine then_r ?_
      have he36 : lsizes_m p = false := (show lsizes_m p = false from by unfold lsizes_m; rw [if_neg hs7, if_neg hc12, if_pos hc26, if_neg hs30] <;> rfl)
      exact ⟨rfl, .bool false, res_t rfl rfl, ⟨by rw [he36], hm29.below⟩⟩
    rw [(hs30 : pawake_m = true)]
    refine lvw 27 (.bool true) rfl rfl (run_mv rfl rfl) ?_
    simp only [nz1, nz2, nz3]
    refine lvw 28 (.string (tx ((encode_m ([p] : List Par)).1))) rfl rfl (run_mv rfl rfl) ?_
    simp only [nz1, nz2, nz3]
    refine lvb 29 ((encode_m ([p] : List Par)).1 = []) rfl rfl (t_eql ((encode_m ([p] : List Par)).1) ([]) rfl rfl rfl) (fun hs31 => ?_) (fun hs31 => ?_)
    · simp only [nz1, nz2, nz3]
      refine lvw 30 (.bool true) rfl rfl (run_pick rfl rfl rfl) ?_
      simp only [nz1, nz2, nz3]
      refine lvw 31 (.bool true) rfl rfl (run_mv rfl rfl) ?_
      simp only [nz1, nz2, nz3]
      refine lvw 32 (.pointer (some ⟨g4, 0, none⟩)) rfl rfl (r_fa47_0 g4 0 rfl rfl) ?_
      simp only [nz1, nz2, nz3]
      refine lvw 33 (.string (tx p.key)) rfl rfl (r_load (hm29.at 0 rfl) rfl Tryd.underlying9 rfl rfl rfl) ?_
      simp only [nz1, nz2, nz3]
      refine lst rfl (m_call hm29 34 (.bool ((key_m p.key))) rfl (run_key rfl rfl) (key_any p.key  _  ) (fun w32 (hm33 : Mm none (fun _ => True) w w32 [.blk g4 #[.string (tx p.key), .string (tx p.value)] 47, .blk g20 #[.string (tx p.key), .string (tx p.value)] 47]) => ?_))
      simp only [nz1, nz2, nz3]
      refine lvw 35 (.bool (!(key_m p.key))) rfl rfl (r_not (key_m p.key) rfl rfl) ?_
      simp only [nz1, nz2, nz3]
      refine lvw 36 (.bool (!(key_m p.key))) rfl rfl (run_pick rfl rfl rfl) ?_
      simp only [nz1, nz2, nz3]
      refine lvw 2 (.bool (!(key_m p.key))) rfl rfl (run_as rfl rfl) ?_
      simp only [nz1, nz2, nz3]
      refine wpList_nil ?_
      refine then_n (hK27 _ _ ?_)
      refine wp_ret ?_
      refine then_r ?_
      have he34 : lsizes_m p = (!(key_m p.key)) := (show lsizes_m p = (!(key_m p.key)) from by unfold lsizes_m; rw [if_neg hs7, if_neg hc12, if_pos hc26, if_pos hs30, if_pos hs31] <;> rfl)
      exact ⟨rfl, .bool (!(key_m p.key)), res_t rfl rfl, ⟨by rw [he34], hm33.below⟩⟩
    simp only [nz1, nz2, nz3]
    refine lvw 30 (.bool false) rfl rfl (run_pick rfl rfl rfl) ?_
    simp only [nz1, nz2, nz3]
    refine lvw 31 (.bool false) rfl rfl (run_mv rfl rfl) ?_
    simp only [nz1, nz2, nz3]
    refine lst_skip 32 rfl rfl ?_
    simp only [nz1, nz2, nz3]
    refine lst_skip 33 rfl rfl ?_
    simp only [nz1, nz2, nz3]
    refine lst_skip 34 rfl rfl ?_
    simp only [nz1, nz2, nz3]
    refine lst_skip 35 rfl rfl ?_
    simp only [nz1, nz2, nz3]
    refine lvw 36 (.bool false) rfl rfl (run_pickf rfl rfl rfl) ?_
    simp only [nz1, nz2, nz3]
    refine lvw 2 (.bool false) rfl rfl (run_as rfl rfl) ?_
    simp only [nz1, nz2, nz3]
    refine wpList_nil ?_
    refine then_n (hK27 _ _ ?_)
    refine wp_ret ?_
    refine then_r ?_
    have he35 : lsizes_m p = false := (show lsizes_m p = false from by unfold lsizes_m; rw [if_neg hs7, if_neg hc12, if_pos hc26, if_pos hs30, if_neg hs31] <;> rfl)
    exact ⟨rfl, .bool false, res_t rfl rfl, ⟨by rw [he35], hm29.below⟩⟩
  refine wp_skip ?_
  refine then_n (hK24 _ _ ?_)
  refine wp_seq_k (fun K37 hK37 => ?_)
  refine wp_region_lit ?_
  refine lvw 5 (.int .i64 0) rfl rfl (run_as rfl rfl) ?_
  simp only [nz1, nz2, nz3]
  refine lvw 6 (.int .i64 0) rfl rfl (run_as rfl rfl) ?_
  simp only [nz1, nz2, nz3]
  refine wpList_nil ?_
  refine then_n (hK37 _ _ ?_)
  refine wp_seq_k (fun K38 hK38 => ?_)
  refine wp_cutK (fun a' w' => ∃ (y44 : Nat) (y45 : Nat) (yu0 : Nat → Value), lsizes_m_l0 p ((((encode_m ([p] : List Par)).1).length - 0) + 1) (0, 0) = .inl (y44, y45) ∧ (y44 + 1 ≤ 10 ^ y45 ∧ 10 ^ y45 ≤ 10000000 ∧ y45 ≤ 7 ∧ y45 ≤ (encode_m ([p] : List Par)).1.length) ∧ a' = ⟨#[.agg #[.string (tx p.key), .string (tx p.value)], .pointer (some ⟨g4, 0, none⟩), .bool false, .string (tx ((encode_m ([p] : List Par)).1)), .int .i64 ((encode_m ([p] : List Par)).2), .int .i64 ((y44 : Nat) : Int), .int .i64 ((y45 : Nat) : Int), .pointer (some ⟨g4, 0, none⟩), .string (tx p.key), .int .i64 ((p.key.length : Nat) : Int), .bool false, .bool false, .pointer (some ⟨g4, 1, none⟩), .string (tx p.value), .int .i64 ((p.value.length : Nat) : Int), .bool (decide (20000 < p.value.length)), .bool (decide (20000 < p.value.length)), undef, .tuple #[.string (tx ((encode_m ([p] : List Par)).1)), .int .i64 ((encode_m ([p] : List Par)).2)], .agg #[.string (tx p.key), .string (tx p.value)], .slice (some ⟨g20, 0, none⟩) 1 1, .tuple #[.string (tx ((encode_m ([p] : List Par)).1)), .int .i64 ((encode_m ([p] : List Par)).2)], .string (tx ((encode_m ([p] : List Par)).1)), .int .i64 ((encode_m ([p] : List Par)).2), .int .i64 ((encode_m ([p] : List Par)).2), .bool (decide (¬ (encode_m ([p] : List Par)).2 = 0)), undef, undef, undef, undef, undef, undef, undef, undef, undef, undef, undef, yu0 0, yu0 1, yu0 2, yu0 3, yu0 4, yu0 5, yu0 6, yu0 7, yu0 8, yu0 9, yu0 10, yu0 11, yu0 12, yu0 13, yu0 14, yu0 15, yu0 16, yu0 17, yu0 18, yu0 19, yu0 20, yu0 21, yu0 22, yu0 23, yu0 24, yu0 25, yu0 26, yu0 27, yu0 28, yu0 29, undef, undef, undef, undef, undef, undef, undef, undef, undef, undef, undef, undef, undef, undef, undef, undef, undef, undef, undef, undef, undef], []⟩ ∧ Mm none (fun _ => True) w w' [.blk g4 #[.string (tx p.key), .string (tx p.value)] 47, .blk g20 #[.string (tx p.key), .string (tx p.value)] 47]) ?_ ?_
  · refine wp_block ?_
    refine wp_loop_n (fun n' a' w' => ∃ (n41 : Nat) (x39 : Nat) (x40 : Nat) (u0 : Nat → Value), n' = n41 ∧ (((encode_m ([p] : List Par)).1).length - x40) < n41 ∧ lsizes_m_l0 p ((((encode_m ([p] : List Par)).1).length - 0) + 1) (0, 0) = lsizes_m_l0 p n41 (x39, x40) ∧ (x39 + 1 ≤ 10 ^ x40 ∧ 10 ^ x40 ≤ 10000000 ∧ x40 ≤ 7 ∧ x40 ≤ (encode_m ([p] : List Par)).1.length) ∧ a' = ⟨#[.agg #[.string (tx p.key), .string (tx p.value)], .pointer (some ⟨g4, 0, none⟩), .bool false, .string (tx ((encode_m ([p] : List Par)).1)), .int .i64 ((encode_m ([p] : List Par)).2), .int .i64 ((x39 : Nat) : Int), .int .i64 ((x40 : Nat) : Int), .pointer (some ⟨g4, 0, none⟩), .string (tx p.key), .int .i64 ((p.key.length : Nat) : Int), .bool false, .bool false, .pointer (some ⟨g4, 1, none⟩), .string (tx p.value), .int .i64 ((p.value.length : Nat) : Int), .bool (decide (20000 < p.value.length)), .bool (decide (20000 < p.value.length)), undef, .tuple #[.string (tx ((encode_m ([p] : List Par)).1)), .int .i64 ((encode_m ([p] : List Par)).2)], .agg #[.string (tx p.key), .string (tx p.value)], .slice (some ⟨g20, 0, none⟩) 1 1, .tuple #[.string (tx ((encode_m ([p] : List Par)).1)), .int .i64 ((encode_m ([p] : List Par)).2)], .string (tx ((encode_m ([p] : List Par)).1)), .int .i64 ((encode_m ([p] : List Par)).2), .int .i64 ((encode_m ([p] : List Par)).2), .bool (decide (¬ (encode_m ([p] : List Par)).2 = 0)), undef, undef, undef, undef, undef, undef, undef, undef, undef, undef, undef, u0 0, u0 1, u0 2, u0 3, u0 4, u0 5, u0 6, u0 7, u0 8, u0 9, u0 10, u0 11, u0 12, u0 13, u0 14, u0 15, u0 16, u0 17, u0 18, u0 19, u0 20, u0 21, u0 22, u0 23, u0 24, u0 25, u0 26, u0 27, u0 28, u0 29, undef, undef, undef, undef, undef, undef, undef, undef, undef, undef, undef, undef, undef, undef, undef, undef, undef, undef, undef, undef, undef], []⟩ ∧ Mm none (fun _ => True) w w' [.blk g4 #[.string (tx p.key), .string (tx p.value)] 47, .blk g20 #[.string (tx p.key), .string (tx p.value)] 47]) ⟨((((encode_m ([p] : List Par)).1).length - 0) + 1), 0, 0, (fun qq => bif Nat.blt qq 24 then List.getD [undef, undef, undef, undef, undef, undef, undef, undef, undef, undef, undef, undef, undef, undef, undef, undef, undef, undef, undef, undef, undef, undef, undef, undef] qq undef else List.getD [undef, undef, undef, undef, undef, undef] (qq - 24) undef), rfl, Nat.lt_succ_self _, rfl, ⟨by decide, by decide, by decide, Nat.zero_le _⟩, rfl, hm22⟩ ?_
    rintro n41 _ w47 ⟨_, x39, x40, u0, rfl, hl51, hi43, hps, rfl, hm48⟩ R49 hR49
    obtain ⟨k42, rfl⟩ : ∃ k, n41 = k + 1 := ⟨n41 - 1, by omega⟩
    refine wp_seq_k (fun K52 hK52 => ?_)
    refine wp_seq_k (fun K53 hK53 => ?_)
    refine wp_region_lit ?_
    refine lvw 37 (.int .i64 ((x40 : Nat) : Int)) rfl rfl (run_mv rfl rfl) ?_
    simp only [nz1, nz2, nz3]
    refine lvw 38 (.string (tx ((encode_m ([p] : List Par)).1))) rfl rfl (run_mv rfl rfl) ?_
    simp only [nz1, nz2, nz3]
    refine lvw 39 (.int .i64 ((((encode_m ([p] : List Par)).1).length : Nat) : Int)) rfl rfl (t_len rfl Tryd.underlying9 rfl) ?_
    simp only [nz1, nz2, nz3]
    refine lvb 40 (x40 < ((encode_m ([p] : List Par)).1).length) rfl rfl (r_lss x40 (((encode_m ([p] : List Par)).1).length) rfl rfl rfl) (fun hs54 => ?_) (fun hs54 => ?_)
    rotate_left
    · simp only [nz1, nz2, nz3]
      refine lvw 41 (.bool false) rfl rfl (run_mv rfl rfl) ?_
      simp only [nz1, nz2, nz3]
      refine lst_skip 42 rfl rfl ?_
      simp only [nz1, nz2, nz3]
      refine lst_skip 43 rfl rfl ?_
      simp only [nz1, nz2, nz3]
      refine lst_skip 44 rfl rfl ?_
      simp only [nz1, nz2, nz3]
      refine lst_skip 45 rfl rfl ?_
      simp only [nz1, nz2, nz3]
      refine lvw 46 (.bool false) rfl rfl (run_pickf rfl rfl rfl) ?_
      simp only [nz1, nz2, nz3]
      refine lvw 47 (.bool false) rfl rfl (run_mv rfl rfl) ?_
      simp only [nz1, nz2, nz3]
      refine lst_skip 48 rfl rfl ?_
      simp only [nz1, nz2, nz3]
      refine lst_skip 49 rfl rfl ?_
      simp only [nz1, nz2, nz3]
      refine lst_skip 50 rfl rfl ?_
      simp only [nz1, nz2, nz3]
      refine lst_skip 51 rfl rfl ?_
      simp only [nz1, nz2, nz3]
      refine lvw 52 (.bool false) rfl rfl (run_pickf rfl rfl rfl) ?_
      simp only [nz1, nz2, nz3]
      refine lvw 53 (.bool false) rfl rfl (run_mv rfl rfl) ?_
      simp only [nz1, nz2, nz3]
      refine lst_skip 54 rfl rfl ?_
      simp only [nz1, nz2, nz3]
      refine lst_skip 55 rfl rfl ?_
      simp only [nz1, nz2, nz3]
      refine lvw 56 (.bool false) rfl rfl (run_pickf rfl rfl rfl) ?_
      simp only [nz1, nz2, nz3]
      refine wpList_nil ?_
      refine then_n (hK53 _ _ ?_)
      refine cond_f rfl ?_
      refine wp_exit ?_
      refine then_x ?_
      refine then_x ?_
      refine blk_x ?_
      refine then_n ?_
      exact ⟨x39, x40, (fun qq => bif Nat.blt qq 24 then List.getD [.int .i64 ((x40 : Nat) : Int), .string (tx ((encode_m ([p] : List Par)).1)), .int .i64 ((((encode_m ([p] : List Par)).1).length : Nat) : Int), .bool false, .bool false, undef, undef, undef, undef, .bool false, .bool false, undef, undef, undef, undef, .bool false, .bool false, undef, undef, .bool false, u0 20, u0 21, u0 22, u0 23] qq undef else List.getD [u0 24, u0 25, u0 26, u0 27, u0 28, u0 29] (qq - 24) undef), (hi43.trans (show lsizes_m_b0 p (lsizes_m_l0 p k42) x39 x40 = .inl (x39, x40) from by unfold lsizes_m_b0; rw [if_neg hs54] <;> rfl)), (by first | omega | (simp; done) | (simp; omega) | (simp at *; omega)), rfl, hm48⟩
    simp only [nz1, nz2, nz3]
    refine lvw 41 (.bool true) rfl rfl (run_mv rfl rfl) ?_
    simp only [nz1, nz2, nz3]
    refine lvw 42 (.string (tx ((encode_m ([p] : List Par)).1))) rfl rfl (run_mv rfl rfl) ?_
    simp only [nz1, nz2, nz3]
    refine lvw 43 (.int .i64 ((x40 : Nat) : Int)) rfl rfl (run_mv rfl rfl) ?_
    simp only [nz1, nz2, nz3]
    refine lvw 44 (.int .u8 ((by' ((encode_m ([p] : List Par)).1) x40 : Nat) : Int)) rfl rfl (t_char ((encode_m ([p] : List Par)).1) x40 (by omega) Tryd.underlying9 rfl rfl rfl) ?_
    simp only [nz1, nz2, nz3]
    refine lvb 45 (48 ≤ by' ((encode_m ([p] : List Par)).1) x40) rfl rfl (r_geq (by' ((encode_m ([p] : List Par)).1) x40) 48 rfl rfl rfl) (fun hs55 => ?_) (fun hs55 => ?_)
    rotate_left
    · simp only [nz1, nz2, nz3]
      refine lvw 46 (.bool false) rfl rfl (run_pick rfl rfl rfl) ?_
      simp only [nz1, nz2, nz3]
      refine lvw 47 (.bool false) rfl rfl (run_mv rfl rfl) ?_
      simp only [nz1, nz2, nz3]
      refine lst_skip 48 rfl rfl ?_
      simp only [nz1, nz2, nz3]
      refine lst_skip 49 rfl rfl ?_
      simp only [nz1, nz2, nz3]
      refine lst_skip 50 rfl rfl ?_
      simp only [nz1, nz2, nz3]
      refine lst_skip 51 rfl rfl ?_
      simp only [nz1, nz2, nz3]
      refine lvw 52 (.bool false) rfl rfl (run_pickf rfl rfl rfl) ?_
      simp only [nz1, nz2, nz3]
      refine lvw 53 (.bool false) rfl rfl (run_mv rfl rfl) ?_
      simp only [nz1, nz2, nz3]
      refine lst_skip 54 rfl rfl ?_
      simp only [nz1, nz2, nz3]
      refine lst_skip 55 rfl rfl ?_
      simp only [nz1, nz2, nz3]
      refine lvw 56 (.bool false) rfl rfl (run_pickf rfl rfl rfl) ?_
      simp only [nz1, nz2, nz3]
      refine wpList_nil ?_
      refine then_n (hK53 _ _ ?_)
      refine cond_f rfl ?_
      refine wp_exit ?_
      refine then_x ?_
      refine then_x ?_
      refine blk_x ?_
      refine then_n ?_
      exact ⟨x39, x40, (fun qq => bif Nat.blt qq 24 then List.getD [.int .i64 ((x40 : Nat) : Int), .string (tx ((encode_m ([p] : List Par)).1)), .int .i64 ((((encode_m ([p] : List Par)).1).length : Nat) : Int), .bool true, .bool true, .string (tx ((encode_m ([p] : List Par)).1)), .int .i64 ((x40 : Nat) : Int), .int .u8 ((by' ((encode_m ([p] : List Par)).1) x40 : Nat) : Int), .bool false, .bool false, .bool false, undef, undef, undef, undef, .bool false, .bool false, undef, undef, .bool false, u0 20, u0 21, u0 22, u0 23] qq undef else List.getD [u0 24, u0 25, u0 26, u0 27, u0 28, u0 29] (qq - 24) undef), (hi43.trans (show lsizes_m_b0 p (lsizes_m_l0 p k42) x39 x40 = .inl (x39, x40) from by unfold lsizes_m_b0; rw [if_pos hs54, if_neg hs55] <;> rfl)), (by first | omega | (simp; done) | (simp; omega) | (simp at *; omega)), rfl, hm48⟩
    simp only [nz1, nz2, nz3]
    refine lvw 46 (.bool true) rfl rfl (run_pick rfl rfl rfl) ?_
    simp only [nz1, nz2, nz3]
    refine lvw 47 (.bool true) rfl rfl (run_mv rfl rfl) ?_
    simp only [nz1, nz2, nz3]
    refine lvw 48 (.string (tx ((encode_m ([p] : List Par)).1))) rfl rfl (run_mv rfl rfl) ?_
    simp only [nz1, nz2, nz3]
    refine lvw 49 (.int .i64 ((x40 : Nat) : Int)) rfl rfl (run_mv rfl rfl) ?_
    simp only [nz1, nz2, nz3]
    refine lvw 50 (.int .u8 ((by' ((encode_m ([p] : List Par)).1) x40 : Nat) : Int)) rfl rfl (t_char ((encode_m ([p] : List Par)).1) x40 (by omega) Tryd.underlying9 rfl rfl rfl) ?_
    simp only [nz1, nz2, nz3]
    refine lvb 51 (by' ((encode_m ([p] : List Par)).1) x40 ≤ 57) rfl rfl (r_leq (by' ((encode_m ([p] : List Par)).1) x40) 57 rfl rfl rfl) (fun hs56 => ?_) (fun hs56 => ?_)
    rotate_left
    · simp only [nz1, nz2, nz3]
      refine lvw 52 (.bool false) rfl rfl (run_pick rfl rfl rfl) ?_
      simp only [nz1, nz2, nz3]
      refine lvw 53 (.bool false) rfl rfl (run_mv rfl rfl) ?_
      simp only [nz1, nz2, nz3]
      refine lst_skip 54 rfl rfl ?_
      simp only [nz1, nz2, nz3]
      refine lst_skip 55 rfl rfl ?_
      simp only [nz1, nz2, nz3]
      refine lvw 56 (.bool false) rfl rfl (run_pickf rfl rfl rfl) ?_
      simp only [nz1, nz2, nz3]
      refine wpList_nil ?_
      refine then_n (hK53 _ _ ?_)
      refine cond_f rfl ?_
      refine wp_exit ?_
      refine then_x ?_
      refine then_x ?_
      refine blk_x ?_
      refine then_n ?_
      exact ⟨x39, x40, (fun qq => bif Nat.blt qq 24 then List.getD [.int .i64 ((x40 : Nat) : Int), .string (tx ((encode_m ([p] : List Par)).1)), .int .i64 ((((encode_m ([p] : List Par)).1).length : Nat) : Int), .bool true, .bool true, .string (tx ((encode_m ([p] : List Par)).1)), .int .i64 ((x40 : Nat) : Int), .int .u8 ((by' ((encode_m ([p] : List Par)).1) x40 : Nat) : Int), .bool true, .bool true, .bool true, .string (tx ((encode_m ([p] : List Par)).1)), .int .i64 ((x40 : Nat) : Int), .int .u8 ((by' ((encode_m ([p] : List Par)).1) x40 : Nat) : Int), .bool false, .bool false, .bool false, undef, undef, .bool false, u0 20, u0 21, u0 22, u0 23] qq undef else List.getD [u0 24, u0 25, u0 26, u0 27, u0 28, u0 29] (qq - 24) undef), (hi43.trans (show lsizes_m_b0 p (lsizes_m_l0 p k42) x39 x40 = .inl (x39, x40) from by unfold lsizes_m_b0; rw [if_pos hs54, if_pos hs55, if_neg hs56] <;> rfl)), (by first | omega | (simp; done) | (simp; omega) | (simp at *; omega)), rfl, hm48⟩
    simp only [nz1, nz2, nz3]
    refine lvw 52 (.bool true) rfl rfl (run_pick rfl rfl rfl) ?_
    simp only [nz1, nz2, nz3]
    refine lvw 53 (.bool true) rfl rfl (run_mv rfl rfl) ?_
    simp only [nz1, nz2, nz3]
    refine lvw 54 (.int .i64 ((x40 : Nat) : Int)) rfl rfl (run_mv rfl rfl) ?_
    simp only [nz1, nz2, nz3]
    refine lvw 55 (.bool (decide (x40 < 7))) rfl rfl (r_lss x40 7 rfl rfl rfl) ?_
    simp only [nz1, nz2, nz3]
    refine lvw 56 (.bool (decide (x40 < 7))) rfl rfl (run_pick rfl rfl rfl) ?_
    simp only [nz1, nz2, nz3]
    refine wpList_nil ?_
    refine then_n (hK53 _ _ ?_)
    refine cond_d (x40 < 7) rfl (fun hc57 => ?_) (fun hc57 => ?_)
    rotate_left
    · refine wp_exit ?_
      refine then_x ?_
      refine then_x ?_
      refine blk_x ?_
      refine then_n ?_
      exact ⟨x39, x40, (fun qq => bif Nat.blt qq 24 then List.getD [.int .i64 ((x40 : Nat) : Int), .string (tx ((encode_m ([p] : List Par)).1)), .int .i64 ((((encode_m ([p] : List Par)).1).length : Nat) : Int), .bool true, .bool true, .string (tx ((encode_m ([p] : List Par)).1)), .int .i64 ((x40 : Nat) : Int), .int .u8 ((by' ((encode_m ([p] : List Par)).1) x40 : Nat) : Int), .bool true, .bool true, .bool true, .string (tx ((encode_m ([p] : List Par)).1)), .int .i64 ((x40 : Nat) : Int), .int .u8 ((by' ((encode_m ([p] : List Par)).1) x40 : Nat) : Int), .bool true, .bool true, .bool true, .int .i64 ((x40 : Nat) : Int), .bool (decide (x40 < 7)), .bool (decide (x40 < 7)), u0 20, u0 21, u0 22, u0 23] qq undef else List.getD [u0 24, u0 25, u0 26, u0 27, u0 28, u0 29] (qq - 24) undef), (hi43.trans (show lsizes_m_b0 p (lsizes_m_l0 p k42) x39 x40 = .inl (x39, x40) from by unfold lsizes_m_b0; rw [if_pos hs54, if_pos hs55, if_pos hs56, if_neg hc57] <;> rfl)), (by first | omega | (simp; done) | (simp; omega) | (simp at *; omega)), rfl, hm48⟩
    refine wp_skip ?_
    refine then_n (hK52 _ _ ?_)
    refine wp_block ?_
    refine wp_seq_k (fun K58 hK58 => ?_)
    refine wp_region_lit ?_
    refine lvw 57 (.int .i64 ((x39 : Nat) : Int)) rfl rfl (run_mv rfl rfl) ?_
    simp only [nz1, nz2, nz3]
    refine lvw 58 (.int .i64 (((10 * x39) : Nat) : Int)) rfl rfl (r_mul 10 x39 (show (10 * x39) < 9223372036854775808 from by omega) rfl rfl rfl) ?_
    simp only [nz1, nz2, nz3]
    refine lvw 59 (.string (tx ((encode_m ([p] : List Par)).1))) rfl rfl (run_mv rfl rfl) ?_
    simp only [nz1, nz2, nz3]
    refine lvw 60 (.int .i64 ((x40 : Nat) : Int)) rfl rfl (run_mv rfl rfl) ?_
    simp only [nz1, nz2, nz3]
    refine lvw 61 (.int .u8 ((by' ((encode_m ([p] : List Par)).1) x40 : Nat) : Int)) rfl rfl (t_char ((encode_m ([p] : List Par)).1) x40 (by omega) Tryd.underlying9 rfl rfl rfl) ?_
    simp only [nz1, nz2, nz3]
    refine lvw 62 (.int .u8 ((((by' ((encode_m ([p] : List Par)).1) x40) - 48) : Nat) : Int)) rfl rfl (r_sub (by' ((encode_m ([p] : List Par)).1) x40) 48 (show (by' ((encode_m ([p] : List Par)).1) x40) < 256 from by omega) (by omega) rfl rfl rfl) ?_
    simp only [nz1, nz2, nz3]
    refine lvw 63 (.int .i64 ((((by' ((encode_m ([p] : List Par)).1) x40) - 48) : Nat) : Int)) rfl rfl (r_conv (k' := .i64) ((by' ((encode_m ([p] : List Par)).1) x40) - 48) ((by' ((encode_m ([p] : List Par)).1) x40) - 48) some_5 Tryd.underlying3 (wrap_nat (show _ < 9223372036854775808 from by omega)) rfl rfl) ?_
    simp only [nz1, nz2, nz3]
    refine lvw 64 (.int .i64 ((((10 * x39) + ((by' ((encode_m ([p] : List Par)).1) x40) - 48)) : Nat) : Int)) rfl rfl (r_add (10 * x39) ((by' ((encode_m ([p] : List Par)).1) x40) - 48) (show ((10 * x39) + ((by' ((encode_m ([p] : List Par)).1) x40) - 48)) < 9223372036854775808 from by omega) rfl rfl rfl) ?_
    simp only [nz1, nz2, nz3]
    refine lvw 5 (.int .i64 ((((10 * x39) + ((by' ((encode_m ([p] : List Par)).1) x40) - 48)) : Nat) : Int)) rfl rfl (run_as rfl rfl) ?_
    simp only [nz1, nz2, nz3]
    refine wpList_nil ?_
    refine then_n (hK58 _ _ ?_)
    refine wp_region_lit ?_
    refine lvw 65 (.int .i64 ((x40 : Nat) : Int)) rfl rfl (run_mv rfl rfl) ?_
    simp only [nz1, nz2, nz3]
    refine lvw 66 (.int .i64 (((x40 + 1) : Nat) : Int)) rfl rfl (r_add x40 1 (show (x40 + 1) < 9223372036854775808 from by omega) rfl rfl rfl) ?_
    simp only [nz1, nz2, nz3]
    refine lvw 6 (.int .i64 (((x40 + 1) : Nat) : Int)) rfl rfl (run_as rfl rfl) ?_
    simp only [nz1, nz2, nz3]
    refine wpList_nil ?_
    refine blk_n ?_
    refine then_n (hR49 _ _ _ ⟨k42, ((10 * x39) + ((by' ((encode_m ([p] : List Par)).1) x40) - 48)), (x40 + 1), (fun qq => bif Nat.blt qq 24 then List.getD [.int .i64 ((x40 : Nat) : Int), .string (tx ((encode_m ([p] : List Par)).1)), .int .i64 ((((encode_m ([p] : List Par)).1).length : Nat) : Int), .bool true, .bool true, .string (tx ((encode_m ([p] : List Par)).1)), .int .i64 ((x40 : Nat) : Int), .int .u8 ((by' ((encode_m ([p] : List Par)).1) x40 : Nat) : Int), .bool true, .bool true, .bool true, .string (tx ((encode_m ([p] : List Par)).1)), .int .i64 ((x40 : Nat) : Int), .int .u8 ((by' ((encode_m ([p] : List Par)).1) x40 : Nat) : Int), .bool true, .bool true, .bool true, .int .i64 ((x40 : Nat) : Int), .bool (decide (x40 < 7)), .bool (decide (x40 < 7)), .int .i64 ((x39 : Nat) : Int), .int .i64 (((10 * x39) : Nat) : Int), .string (tx ((encode_m ([p] : List Par)).1)), .int .i64 ((x40 : Nat) : Int)] qq undef else List.getD [.int .u8 ((by' ((encode_m ([p] : List Par)).1) x40 : Nat) : Int), .int .u8 ((((by' ((encode_m ([p] : List Par)).1) x40) - 48) : Nat) : Int), .int .i64 ((((by' ((encode_m ([p] : List Par)).1) x40) - 48) : Nat) : Int), .int .i64 ((((10 * x39) + ((by' ((encode_m ([p] : List Par)).1) x40) - 48)) : Nat) : Int), .int .i64 ((x40 : Nat) : Int), .int .i64 (((x40 + 1) : Nat) : Int)] (qq - 24) undef), rfl, (by first | omega | (simp; omega) | (simp at *; omega)), (hi43.trans (show lsizes_m_b0 p (lsizes_m_l0 p k42) x39 x40 = lsizes_m_l0 p k42 (((10 * x39) + ((by' ((encode_m ([p] : List Par)).1) x40) - 48)), (x40 + 1)) from by unfold lsizes_m_b0; rw [if_pos hs54, if_pos hs55, if_pos hs56, if_pos hc57] <;> rfl)), (by have hq := Nat.pow_le_pow_right (n := 10) (by decide) (show x40 + 1 ≤ 7 from by omega); rw [Nat.pow_succ] at *; omega), rfl, hm48⟩ ?_)
    omega
  rintro _ w59 ⟨y44, y45, yu0, hx46, hps, rfl, hm60⟩
  have hq61 : lsizes_m p = lsizes_m_k0 p y44 y45 := (show lsizes_m p = lsizes_m_k0 p y44 y45 from by unfold lsizes_m; rw [if_neg hs7, if_neg hc12, if_neg hc26, hx46] <;> rfl)
  refine then_n (hK38 _ _ ?_)
  refine wp_seq_k (fun K62 hK62 => ?_)
  have hm63 := hm60.drew
  refine wp_region_held_drew (S := fun w' => Mem.Blk w' g4 (#[.string (tx p.key), .string (tx p.value)]) 47) (by kernel_rfl) (hm63.at 0 rfl) (fun _ => ?_)
  generalize w59.drew = w64 at *
  refine one_ready 0 (by kernel_rfl) ?_
  refine opd rfl (wanted_none rfl) (m_call hm63 67 (.bool (pawake_m)) rfl (run_pawake rfl) (pawake_any   _  (Laid.below hT hm63.below) ) (fun w65 (hm66 : Mm none (fun _ => True) w w65 [.blk g4 #[.string (tx p.key), .string (tx p.value)] 47, .blk g20 #[.string (tx p.key), .string (tx p.value)] 47]) => ?_))
  refine ⟨hm66.at 0 rfl, ?_⟩
  simp only [nz1, nz2, nz3]
  by_cases hs67 : pawake_m = true
  rotate_left
  · rw [(Bool.eq_false_iff.2 hs67 : pawake_m = false)]
    refine tk 1 68 (.bool false) rfl rfl (fun _ hw => run_mv rfl rfl) (hm66.at 0 rfl) ?_
    simp only [nz1, nz2, nz3]
    refine skx 2 69 rfl rfl rfl (hm66.at 0 rfl) ?_
    simp only [nz1, nz2, nz3]
    refine skx 3 70 rfl rfl rfl (hm66.at 0 rfl) ?_
    simp only [nz1, nz2, nz3]
    refine skx 4 71 rfl rfl rfl (hm66.at 0 rfl) ?_
    simp only [nz1, nz2, nz3]
    refine skx 5 72 rfl rfl rfl (hm66.at 0 rfl) ?_
    simp only [nz1, nz2, nz3]
    refine tk 6 73 (.bool false) rfl rfl (fun _ hw => run_pickf rfl rfl rfl) (hm66.at 0 rfl) ?_
    simp only [nz1, nz2, nz3]
    refine tk 7 74 (.bool false) rfl rfl (fun _ hw => run_mv rfl rfl) (hm66.at 0 rfl) ?_
    simp only [nz1, nz2, nz3]
    refine skx 8 75 rfl rfl rfl (hm66.at 0 rfl) ?_
    simp only [nz1, nz2, nz3]
    refine skx 9 76 rfl rfl rfl (hm66.at 0 rfl) ?_
    simp only [nz1, nz2, nz3]
    refine skx 10 77 rfl rfl rfl (hm66.at 0 rfl) ?_
    simp only [nz1, nz2, nz3]
    refine skx 11 78 rfl rfl rfl (hm66.at 0 rfl) ?_
    simp only [nz1, nz2, nz3]
    refine skx 12 79 rfl rfl rfl (hm66.at 0 rfl) ?_
    simp only [nz1, nz2, nz3]
    refine skx 13 80 rfl rfl rfl (hm66.at 0 rfl) ?_
    simp only [nz1, nz2, nz3]
    refine skx 14 81 rfl rfl rfl (hm66.at 0 rfl) ?_
    simp only [nz1, nz2, nz3]
    refine skx 15 82 rfl rfl rfl (hm66.at 0 rfl) ?_
    simp only [nz1, nz2, nz3]
    refine skx 16 83 rfl rfl rfl (hm66.at 0 rfl) ?_
    simp only [nz1, nz2, nz3]
    refine skx 17 84 rfl rfl rfl (hm66.at 0 rfl) ?_
    simp only [nz1, nz2, nz3]
    refine skx 18 85 rfl rfl rfl (hm66.at 0 rfl) ?_
    simp only [nz1, nz2, nz3]
    refine skx 19 86 rfl rfl rfl (hm66.at 0 rfl) ?_
    simp only [nz1, nz2, nz3]
    refine tk 20 87 (.bool false) rfl rfl (fun _ hw => run_pickf rfl rfl rfl) (hm66.at 0 rfl) ?_
    simp only [nz1, nz2, nz3]
    refine one_ready 21 (by kernel_rfl) ?_
    refine opd rfl (wanted_none rfl) (w_value 2 (.bool false) rfl (run_as rfl rfl) ⟨hm66.at 0 rfl, ?_⟩)
    simp only [nz1, nz2, nz3]
    refine wpAnyH_done (by kernel_rfl) ?_ _
    refine then_n (hK62 _ _ ?_)
    refine wp_ret ?_
    have he71 : lsizes_m p = false := (hq61.trans (show lsizes_m_k0 p y44 y45 = false from by unfold lsizes_m_k0; rw [if_neg hs67] <;> rfl))
    exact ⟨rfl, .bool false, res_t rfl rfl, ⟨by rw [he71], hm66.below⟩⟩
  rw [(hs67 : pawake_m = true)]
  refine tk 1 68 (.bool true) rfl rfl (fun _ hw => run_mv rfl rfl) (hm66.at 0 rfl) ?_
  simp only [nz1, nz2, nz3]
  refine Sym.take_at 2 69 (.int .i64 ((y44 : Nat) : Int)) rfl rfl (by kernel_rfl) (by kernel_rfl) (by kernel_rfl) (fun _ _ _ h => h) rfl (fun _ hw => run_mv rfl rfl) (hm66.at 0 rfl) ?_
  simp only [nz1, nz2, nz3]
  refine Sym.take_at 3 70 (.string (tx ((encode_m ([p] : List Par)).1))) rfl rfl (by kernel_rfl) (by kernel_rfl) (by kernel_rfl) (fun _ _ _ h => h) rfl (fun _ hw => run_mv rfl rfl) (hm66.at 0 rfl) ?_
  simp only [nz1, nz2, nz3]
  refine Sym.take_at 4 71 (.int .i64 ((((encode_m ([p] : List Par)).1).length : Nat) : Int)) rfl rfl (by kernel_rfl) (by kernel_rfl) (by kernel_rfl) (fun _ _ _ h => h) rfl (fun _ hw => t_len rfl Tryd.underlying9 rfl) (hm66.at 0 rfl) ?_
  simp only [nz1, nz2, nz3]
  refine tkb 5 72 (y44 = ((encode_m ([p] : List Par)).1).length) rfl rfl rfl (fun _ hw => r_eql y44 (((encode_m ([p] : List Par)).1).length) rfl rfl rfl) (hm66.at 0 rfl) (fun hs68 => ?_) (fun hs68 => ?_)
  · simp only [nz1, nz2, nz3]
    refine tk 6 73 (.bool true) rfl rfl (fun _ hw => run_pick rfl rfl rfl) (hm66.at 0 rfl) ?_
    simp only [nz1, nz2, nz3]
    refine tk 7 74 (.bool true) rfl rfl (fun _ hw => run_mv rfl rfl) (hm66.at 0 rfl) ?_
    simp only [nz1, nz2, nz3]
    refine Sym.take_at 8 75 (.string (tx ((encode_m ([p] : List Par)).1))) rfl rfl (by kernel_rfl) (by kernel_rfl) (by kernel_rfl) (fun _ _ _ h => h) rfl (fun _ hw => run_mv rfl rfl) (hm66.at 0 rfl) ?_
    simp only [nz1, nz2, nz3]
    refine Sym.take_at 9 76 (.int .i64 ((y45 : Nat) : Int)) rfl rfl (by kernel_rfl) (by kernel_rfl) (by kernel_rfl) (fun _ _ _ h => h) rfl (fun _ hw => run_mv rfl rfl) (hm66.at 0 rfl) ?_
    simp only [nz1, nz2, nz3]
    refine Sym.take_at 10 77 (.string (tx (((encode_m ([p] : List Par)).1).drop y45))) rfl rfl (by kernel_rfl) (by kernel_rfl) (by kernel_rfl) (fun _ _ _ h => h) rfl (fun _ hw => t_from ((encode_m ([p] : List Par)).1) y45 (by omega) Tryd.underlying9 rfl rfl rfl) (hm66.at 0 rfl) ?_
    simp only [nz1, nz2, nz3]
    refine Sym.take_at 11 78 (.pointer (some ⟨g4, 0, none⟩)) rfl rfl (by kernel_rfl) (by kernel_rfl) (by kernel_rfl) (fun _ _ _ h => h) rfl (fun _ hw => r_fa47_0 g4 0 rfl rfl) (hm66.at 0 rfl) ?_
    simp only [nz1, nz2, nz3]
    refine Sym.take_at 12 79 (.string (tx p.key)) rfl rfl (by kernel_rfl) (by kernel_rfl) (by kernel_rfl) (fun _ _ _ h => h) rfl (fun _ hw => r_load hw rfl Tryd.underlying9 rfl rfl rfl) (hm66.at 0 rfl) ?_
    simp only [nz1, nz2, nz3]
    refine Sym.take_at 13 80 (.string (tx ([32] ++ p.key))) rfl rfl (by kernel_rfl) (by kernel_rfl) (by kernel_rfl) (fun _ _ _ h => h) rfl (fun _ hw => t_cat ([32]) p.key (by first | omega | (simp; omega)) rfl rfl rfl) (hm66.at 0 rfl) ?_
    simp only [nz1, nz2, nz3]
    refine Sym.take_at 14 81 (.string (tx (([32] ++ p.key) ++ [61]))) rfl rfl (by kernel_rfl) (by kernel_rfl) (by kernel_rfl) (fun _ _ _ h => h) rfl (fun _ hw => t_cat ([32] ++ p.key) ([61]) (by first | omega | (simp; omega)) rfl rfl rfl) (hm66.at 0 rfl) ?_
    simp only [nz1, nz2, nz3]
    refine Sym.take_at 15 82 (.pointer (some ⟨g4, 1, none⟩)) rfl rfl (by kernel_rfl) (by kernel_rfl) (by kernel_rfl) (fun _ _ _ h => h) rfl (fun _ hw => r_fa47_1 g4 0 rfl rfl) (hm66.at 0 rfl) ?_
    simp only [nz1, nz2, nz3]
    refine Sym.take_at 16 83 (.string (tx p.value)) rfl rfl (by kernel_rfl) (by kernel_rfl) (by kernel_rfl) (fun _ _ _ h => h) rfl (fun _ hw => r_load hw rfl Tryd.underlying9 rfl rfl rfl) (hm66.at 0 rfl) ?_
    simp only [nz1, nz2, nz3]
    refine Sym.take_at 17 84 (.string (tx ((([32] ++ p.key) ++ [61]) ++ p.value))) rfl rfl (by kernel_rfl) (by kernel_rfl) (by kernel_rfl) (fun _ _ _ h => h) rfl (fun _ hw => t_cat (([32] ++ p.key) ++ [61]) p.value (by first | omega | (simp; omega)) rfl rfl rfl) (hm66.at 0 rfl) ?_
    simp only [nz1, nz2, nz3]
    refine Sym.take_at 18 85 (.string (tx (((([32] ++ p.key) ++ [61]) ++ p.value) ++ [10]))) rfl rfl (by kernel_rfl) (by kernel_rfl) (by kernel_rfl) (fun _ _ _ h => h) rfl (fun _ hw => t_cat ((([32] ++ p.key) ++ [61]) ++ p.value) ([10]) (by first | omega | (simp; omega)) rfl rfl rfl) (hm66.at 0 rfl) ?_
    simp only [nz1, nz2, nz3]
    refine Sym.take_at 19 86 (.bool (decide ((((encode_m ([p] : List Par)).1).drop y45) = (((([32] ++ p.key) ++ [61]) ++ p.value) ++ [10])))) rfl rfl (by kernel_rfl) (by kernel_rfl) (by kernel_rfl) (fun _ _ _ h => h) rfl (fun _ hw => t_eql (((encode_m ([p] : List Par)).1).drop y45) (((([32] ++ p.key) ++ [61]) ++ p.value) ++ [10]) rfl rfl rfl) (hm66.at 0 rfl) ?_
    simp only [nz1, nz2, nz3]
    refine tk 20 87 (.bool (decide ((((encode_m ([p] : List Par)).1).drop y45) = (((([32] ++ p.key) ++ [61]) ++ p.value) ++ [10])))) rfl rfl (fun _ hw => run_pick rfl rfl rfl) (hm66.at 0 rfl) ?_
    simp only [nz1, nz2, nz3]
    refine one_ready 21 (by kernel_rfl) ?_
    refine opd rfl (wanted_none rfl) (w_value 2 (.bool (decide ((((encode_m ([p] : List Par)).1).drop y45) = (((([32] ++ p.key) ++ [61]) ++ p.value) ++ [10])))) rfl (run_as rfl rfl) ⟨hm66.at 0 rfl, ?_⟩)
    simp only [nz1, nz2, nz3]
    refine wpAnyH_done (by kernel_rfl) ?_ _
    refine then_n (hK62 _ _ ?_)
    refine wp_ret ?_
    have he69 : lsizes_m p = (decide ((((encode_m ([p] : List Par)).1).drop y45) = (((([32] ++ p.key) ++ [61]) ++ p.value) ++ [10]))) := (hq61.trans (show lsizes_m_k0 p y44 y45 = (decide ((((encode_m ([p] : List Par)).1).drop y45) = (((([32] ++ p.key) ++ [61]) ++ p.value) ++ [10]))) from by unfold lsizes_m_k0; rw [if_pos hs67, if_pos hs68] <;> rfl))
    exact ⟨rfl, .bool (decide ((((encode_m ([p] : List Par)).1).drop y45) = (((([32] ++ p.key) ++ [61]) ++ p.value) ++ [10]))), res_t rfl rfl, ⟨by rw [he69], hm66.below⟩⟩
  simp only [nz1, nz2, nz3]
  refine tk 6 73 (.bool false) rfl rfl (fun _ hw => run_pick rfl rfl rfl) (hm66.at 0 rfl) ?_
  simp only [nz1, nz2, nz3]
  refine tk 7 74 (.bool false) rfl rfl (fun _ hw => run_mv rfl rfl) (hm66.at 0 rfl) ?_
  simp only [nz1, nz2, nz3]
  refine skx 8 75 rfl rfl rfl (hm66.at 0 rfl) ?_
  simp only [nz1, nz2, nz3]
  refine skx 9 76 rfl rfl rfl (hm66.at 0 rfl) ?_
  simp only [nz1, nz2, nz3]
  refine skx 10 77 rfl rfl rfl (hm66.at 0 rfl) ?_
  simp only [nz1, nz2, nz3]
  refine skx 11 78 rfl rfl rfl (hm66.at 0 rfl) ?_
  simp only [nz1, nz2, nz3]
  refine skx 12 79 rfl rfl rfl (hm66.at 0 rfl) ?_
  simp only [nz1, nz2, nz3]
  refine skx 13 80 rfl rfl rfl (hm66.at 0 rfl) ?_
  simp only [nz1, nz2, nz3]
  refine skx 14 81 rfl rfl rfl (hm66.at 0 rfl) ?_
  simp only [nz1, nz2, nz3]
  refine skx 15 82 rfl rfl rfl (hm66.at 0 rfl) ?_
  simp only [nz1, nz2, nz3]
  refine skx 16 83 rfl rfl rfl (hm66.at 0 rfl) ?_
  simp only [nz1, nz2, nz3]
  refine skx 17 84 rfl rfl rfl (hm66.at 0 rfl) ?_
  simp only [nz1, nz2, nz3]
  refine skx 18 85 rfl rfl rfl (hm66.at 0 rfl) ?_
  simp only [nz1, nz2, nz3]
  refine skx 19 86 rfl rfl rfl (hm66.at 0 rfl) ?_
  simp only [nz1, nz2, nz3]
  refine tk 20 87 (.bool false) rfl rfl (fun _ hw => run_pickf rfl rfl rfl) (hm66.at 0 rfl) ?_
  simp only [nz1, nz2, nz3]
  refine one_ready 21 (by kernel_rfl) ?_
  refine opd rfl (wanted_none rfl) (w_value 2 (.bool false) rfl (run_as rfl rfl) ⟨hm66.at 0 rfl, ?_⟩)
  simp only [nz1, nz2, nz3]
  refine wpAnyH_done (by kernel_rfl) ?_ _
  refine then_n (hK62 _ _ ?_)
  refine wp_ret ?_
  have he70 : lsizes_m p = false := (hq61.trans (show lsizes_m_k0 p y44 y45 = false from by unfold lsizes_m_k0; rw [if_pos hs67, if_neg hs68] <;> rfl))
  exact ⟨rfl, .bool false, res_t rfl rfl, ⟨by rw [he70], hm66.below⟩⟩
theorem run_lsizes {o : Oper} {a : Act} {w : World} {x0 : Operand} {v0 : Value} (ho : o.op = .call { callee := .value (.func 13), args := #[x0], argTypes := #[47] }) (h0 : a.eval x0 = v0) :
    (execOp a.eval o).run Tryd.prog w = .ok (.enter 13 #[v0]) w := by
  unfold execOp
  simp only [ho]
  have hf : a.eval (.func 13) = .func (.func 13) #[] #[] := rfl
  generalize a.eval = f at *
  go_simp
end Go.Proofs.YtglnifckngcpkaaDoor.Px
