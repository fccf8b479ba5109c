/- Layer 8: numbers put and got. -/
import Derived.Test.YtglnifckngcpkaaDoorHdM
namespace Go.Proofs.YtglnifckngcpkaaDoor.Hd
open Go.RowKit
open Go.Proofs.YtglnifckngcpkaaDoor.Sym Go.Proofs.YtglnifckngcpkaaDoor.Mem
open Go.Proofs.YtglnifckngcpkaaDoor.Sx hiding Mm m_alloc m_store m_put m_call m_callx m_make m_append r_string r_ixS
set_option linter.unusedVariables false
attribute [local irreducible] octal_m
attribute [local irreducible] wpList Oper.wp

def put_m_b0 (n : Int) (width : Int) (rec : Int × Int × (List UInt8) → Sum (Int × Int × (List UInt8)) ((List UInt8) × Int)) (x29 : Int) (x30 : Int) (l31 : List UInt8) : Sum (Int × Int × (List UInt8)) ((List UInt8) × Int) :=
  if 0 < x30 then
    rec ((x29 / 256), (x30 - (1 : Int)), (l31.set x30.toNat (UInt8.ofNat x29.toNat)))
  else
    .inl (x29, x30, l31)
def put_m_l0 (n : Int) (width : Int) : Nat → Int × Int × (List UInt8) → Sum (Int × Int × (List UInt8)) ((List UInt8) × Int)
  | 0, zz => .inl zz
  | nq + 1, zz => put_m_b0 n width (put_m_l0 n width nq) zz.1 zz.2.1 zz.2.2

def put_m_k0 (n : Int) (width : Int) (y35 : Int) (y36 : Int) (y37 : List UInt8) : (List UInt8) × Int :=
  if ¬ y35 = 0 then
    (([]), 3)
  else
    (y37, 0)

def put_m (n : Int) (width : Int) : (List UInt8) × Int :=
  if n < 0 then
    (([]), 1)
  else
    if ¬ width = 8 then
      if ¬ width = 12 then
        (([]), 1)
      else
        if ((octal_m n (width - (1 : Int))).2) = true then
          (((octal_m n (width - (1 : Int))).1 ++ [0]), 0)
        else
          fin (put_m_l0 n width (((width - (1 : Int))).toNat + 1) (n, (width - (1 : Int)), ((List.replicate width.toNat (0 : UInt8)).set 0 (UInt8.ofNat 128)))) (fun r => r) (fun zz => put_m_k0 n width zz.1 zz.2.1 zz.2.2)
    else
      if ((octal_m n (width - (1 : Int))).2) = true then
        (((octal_m n (width - (1 : Int))).1 ++ [0]), 0)
      else
        fin (put_m_l0 n width (((width - (1 : Int))).toNat + 1) (n, (width - (1 : Int)), ((List.replicate width.toNat (0 : UInt8)).set 0 (UInt8.ofNat 128)))) (fun r => r) (fun zz => put_m_k0 n width zz.1 zz.2.1 zz.2.2)

set_option maxHeartbeats 4000000 in
set_option maxRecDepth 100000 in
theorem put_any (n : Int) (width : Int) (w : World)  (hp0 : n ≤ 9223372036854775807) : Calls Tryd.prog 36 #[.int .i64 (n), .int .i64 (width)] w (fun e w' => e = .returned (.tuple #[.string (tx ((put_m n width).1)), .int .i64 ((put_m n width).2)]) ∧ Below w.heap.size w w') := by
  go_enter Tryd.func36, Tryd.ntmps36
  have hm00 := Mm.nil none (fun _ => True) w
  have hm0 := hm00
  refine wp_seq_k (fun K1 hK1 => ?_)
  refine wp_region_lit ?_
  refine lvw 4 (.string (tx ([]))) rfl rfl (run_as rfl rfl) ?_
  simp only [nz1, nz2, nz3]
  refine lvw 5 (.int .i64 0) rfl rfl (run_as rfl rfl) ?_
  simp only [nz1, nz2, nz3]
  refine wpList_nil ?_
  refine then_n (hK1 _ _ ?_)
  refine wp_seq_k (fun K2 hK2 => ?_)
  refine wp_seq_k (fun K3 hK3 => ?_)
  refine wp_region_lit ?_
  refine lvw 10 (.int .i64 (n)) rfl rfl (run_mv rfl rfl) ?_
  simp only [nz1, nz2, nz3]
  refine lvb 11 (n < 0) rfl rfl (z_lss n 0 rfl rfl rfl) (fun hs4 => ?_) (fun hs4 => ?_)
  · simp only [nz1, nz2, nz3]
    refine lvw 12 (.bool true) rfl rfl (run_mv rfl rfl) ?_
    simp only [nz1, nz2, nz3]
    refine lst_skip 13 rfl rfl ?_
    simp only [nz1, nz2, nz3]
    refine lst_skip 14 rfl rfl ?_
    simp only [nz1, nz2, nz3]
    refine lst_skip 15 rfl rfl ?_
    simp only [nz1, nz2, nz3]
    refine lst_skip 16 rfl rfl ?_
    simp only [nz1, nz2, nz3]
    refine lst_skip 17 rfl rfl ?_
    simp only [nz1, nz2, nz3]
    refine lst_skip 18 rfl rfl ?_
    simp only [nz1, nz2, nz3]
    refine lvw 19 (.bool true) rfl rfl (run_pick rfl rfl rfl) ?_
    simp only [nz1, nz2, nz3]
    refine wpList_nil ?_
    refine then_n (hK3 _ _ ?_)
    refine cond_t rfl ?_
    refine wp_seq_k (fun K5 hK5 => ?_)
    refine wp_region_lit ?_
    refine lvw 4 (.string (tx ([]))) rfl rfl (run_as rfl rfl) ?_
    simp only [nz1, nz2, nz3]
    refine lvw 5 (.int .i64 1) rfl rfl (run_as rfl rfl) ?_
    simp only [nz1, nz2, nz3]
    refine wpList_nil ?_
    refine then_n (hK5 _ _ ?_)
    refine wp_ret ?_
    refine then_r ?_
    have he6 : put_m n width = (([]), 1) := (show put_m n width = (([]), 1) from by unfold put_m; rw [if_pos hs4] <;> rfl)
    exact ⟨rfl, .tuple #[.string (tx ([])), .int .i64 1], res_tt rfl rfl rfl, ⟨by (rw [he6]; try rfl), hm0.below⟩⟩
  simp only [nz1, nz2, nz3]
  refine lvw 12 (.bool false) rfl rfl (run_mv rfl rfl) ?_
  simp only [nz1, nz2, nz3]
  refine lvw 13 (.int .i64 (width)) rfl rfl (run_mv rfl rfl) ?_
  simp only [nz1, nz2, nz3]
  refine lvb 14 (¬ width = 8) rfl rfl (z_neq width 8 rfl rfl rfl) (fun hs7 => ?_) (fun hs7 => ?_)
  rotate_left
  · simp only [nz1, nz2, nz3]
    refine lvw 15 (.bool false) rfl rfl (run_mv rfl rfl) ?_
    simp only [nz1, nz2, nz3]
    refine lst_skip 16 rfl rfl ?_
    simp only [nz1, nz2, nz3]
    refine lst_skip 17 rfl rfl ?_
    simp only [nz1, nz2, nz3]
    refine lvw 18 (.bool false) rfl rfl (run_pickf rfl rfl rfl) ?_
    simp only [nz1, nz2, nz3]
    refine lvw 19 (.bool false) rfl rfl (run_pickf rfl rfl rfl) ?_
    simp only [nz1, nz2, nz3]
    refine wpList_nil ?_
    refine then_n (hK3 _ _ ?_)
    refine cond_f rfl ?_
    refine wp_skip ?_
    refine then_n (hK2 _ _ ?_)
    refine wp_seq_k (fun K61 hK61 => ?_)
    refine wp_region_lit ?_
    refine lvw 21 (.int .i64 (n)) rfl rfl (run_mv rfl rfl) ?_
    simp only [nz1, nz2, nz3]
    refine lvw 22 (.int .i64 (width)) rfl rfl (run_mv rfl rfl) ?_
    simp only [nz1, nz2, nz3]
    refine lvw 23 (.int .i64 ((width - (1 : Int)))) rfl rfl (z_sub width (1 : Int) _ (by rw [IntKind.wrap_i64]; omega) rfl rfl rfl) ?_
    simp only [nz1, nz2, nz3]
    refine lst rfl (m_call hm0 24 (.tuple #[.string (tx ((octal_m n (width - (1 : Int))).1)), .bool ((octal_m n (width - (1 : Int))).2)]) rfl (run_octal rfl rfl rfl) (octal_any n (width - (1 : Int))  _  (by first | omega | assumption | (simp; done) | (simp; omega) | (simp only [List.length_append, List.length_cons, List.length_nil]; omega) | (simp only [List.length_append, List.length_cons, List.length_nil] at *; omega) | decide)) (fun w62 (hm63 : Mm none (fun _ => True) w w62 []) => ?_))
    have hf64 : (((octal_m n (width - (1 : Int))).1.length : Nat) : Int) = (width - (1 : Int)) := octal_len n (width - (1 : Int)) (by omega) (by omega) (by omega)
    simp only [nz1, nz2, nz3]
    refine lvw 20 (.tuple #[.string (tx ((octal_m n (width - (1 : Int))).1)), .bool ((octal_m n (width - (1 : Int))).2)]) rfl rfl (run_mv rfl rfl) ?_
    simp only [nz1, nz2, nz3]
    refine lvw 25 (.string (tx ((octal_m n (width - (1 : Int))).1))) rfl rfl (run_ex rfl rfl rfl) ?_
    simp only [nz1, nz2, nz3]
    refine lvw 26 (.bool ((octal_m n (width - (1 : Int))).2)) rfl rfl (run_ex rfl rfl rfl) ?_
    simp only [nz1, nz2, nz3]
    refine lvw 6 (.string (tx ((octal_m n (width - (1 : Int))).1))) rfl rfl (run_as rfl rfl) ?_
    simp only [nz1, nz2, nz3]
    refine lvw 7 (.bool ((octal_m n (width - (1 : Int))).2)) rfl rfl (run_as rfl rfl) ?_
    simp only [nz1, nz2, nz3]
    refine wpList_nil ?_
    refine then_n (hK61 _ _ ?_)
    refine wp_seq_k (fun K65 hK65 => ?_)
    refine wp_seq_k (fun K66 hK66 => ?_)
    refine wp_region_lit ?_
    refine lvw 27 (.bool ((octal_m n (width - (1 : Int))).2)) rfl rfl (run_mv rfl rfl) ?_
    simp only [nz1, nz2, nz3]
    refine wpList_nil ?_
    refine then_n (hK66 _ _ ?_)
    refine cond_B ((octal_m n (width - (1 : Int))).2) rfl (fun hc67 => ?_) (fun hc67 => ?_)
    · refine wp_seq_k (fun K68 hK68 => ?_)
      refine wp_region_lit ?_
      refine lvw 28 (.string (tx ((octal_m n (width - (1 : Int))).1))) rfl rfl (run_mv rfl rfl) ?_
      simp only [nz1, nz2, nz3]
      refine lvw 29 (.string (tx ((octal_m n (width - (1 : Int))).1 ++ [0]))) rfl rfl (t_cat ((octal_m n (width - (1 : Int))).1) ([0]) (by first | omega | (simp; omega)) rfl rfl rfl) ?_
      simp only [nz1, nz2, nz3]
      refine lvw 4 (.string (tx ((octal_m n (width - (1 : Int))).1 ++ [0]))) rfl rfl (run_as rfl rfl) ?_
      simp only [nz1, nz2, nz3]
      refine lvw 5 (.int .i64 0) rfl rfl (run_as rfl rfl) ?_
      simp only [nz1, nz2, nz3]
      refine wpList_nil ?_
      refine then_n (hK68 _ _ ?_)
      refine wp_ret ?_
      refine then_r ?_
      have he69 : put_m n width = (((octal_m n (width - (1 : Int))).1 ++ [0]), 0) := (show put_m n width = (((octal_m n (width - (1 : Int))).1 ++ [0]), 0) from by unfold put_m; rw [if_neg hs4, if_neg hs7, if_pos hc67] <;> rfl)
      exact ⟨rfl, .tuple #[.string (tx ((octal_m n (width - (1 : Int))).1 ++ [0])), .int .i64 0], res_tt rfl rfl rfl, ⟨by (rw [he69]; try rfl), hm63.below⟩⟩
    refine wp_skip ?_
    refine then_n (hK65 _ _ ?_)
    refine wp_seq_k (fun K70 hK70 => ?_)
    refine wp_region_lit ?_
    refine lvw 30 (.int .i64 (width)) rfl rfl (run_mv rfl rfl) ?_
    simp only [nz1, nz2, nz3]
    obtain ⟨iq, hiq, hz1, hz2, hz3⟩ := inf_5
    refine lst rfl (m_makeR (enc := eB) (size := 1) width.toNat (0 : UInt8) iq _ hm63 31 rfl rfl Tryd.underlying34 hiq hz1 hz2 hz3 eB_len rfl (show (Value.int .i64 width) = .int .i64 ((width.toNat : Nat) : Int) from by congr 1; omega) (show (Value.int .i64 width) = .int .i64 ((width.toNat : Nat) : Int) from by congr 1; omega) (by first | omega | (simp; omega)) (by first | omega | (simp; omega)) (fun v73 w71 (hm72 : Mm none (fun _ => True) w w71 [.row v73 (List.replicate width.toNat (0 : UInt8)).length ((List.replicate width.toNat (0 : UInt8)).flatMap eB) 5 1]) => ?_))
    simp only [nz1, nz2, nz3]
    refine lvw 8 (v73) rfl rfl (run_as rfl rfl) ?_
    simp only [nz1, nz2, nz3]
    refine wpList_nil ?_
    refine then_n (hK70 _ _ ?_)
    refine wp_seq_k (fun K74 hK74 => ?_)
    refine wp_region_lit ?_
    refine lvw 32 (v73) rfl rfl (run_mv rfl rfl) ?_
    simp only [nz1, nz2, nz3]
    refine lvw 33 (.pointer (some ⟨(bk v73), (po v73 + 0 * 1), none⟩)) rfl rfl (r_ixv (Rs.row (hm72.row 0 rfl)) 0 (by first | omega | (rw [List.length_replicate]; omega)) Tryd.underlying34 sz_5 rfl rfl rfl) ?_
    simp only [nz1, nz2, nz3]
    refine lst rfl (m_setR 0 (l := (List.replicate width.toNat (0 : UInt8))) 0 (UInt8.ofNat 128) (.int .u8 128) hm72 rfl rfl rfl (by first | omega | (rw [List.length_replicate]; omega)) rfl rfl sz_5 eB_len rfl rfl (fun w75 (hm76 : Mm none (fun _ => True) w w75 [.row v73 ((List.replicate width.toNat (0 : UInt8)).set 0 (UInt8.ofNat 128)).length (((List.replicate width.toNat (0 : UInt8)).set 0 (UInt8.ofNat 128)).flatMap eB) 5 1]) => ?_))
    refine wpList_nil ?_
    refine then_n (hK74 _ _ ?_)
    refine wp_seq_k (fun K77 hK77 => ?_)
    refine wp_seq_k (fun K78 hK78 => ?_)
    refine wp_region_lit ?_
    refine lvw 34 (.int .i64 (width)) rfl rfl (run_mv rfl rfl) ?_
    simp only [nz1, nz2, nz3]
    refine lvw 35 (.int .i64 ((width - (1 : Int)))) rfl rfl (z_sub width (1 : Int) _ (by rw [IntKind.wrap_i64]; omega) rfl rfl rfl) ?_
    simp only [nz1, nz2, nz3]
    refine lvw 9 (.int .i64 ((width - (1 : Int)))) rfl rfl (run_as rfl rfl) ?_
    simp only [nz1, nz2, nz3]
    refine wpList_nil ?_
    refine then_n (hK78 _ _ ?_)
    refine wp_cutK (fun a' w' => ∃ (y85 : Int) (y86 : Int) (y87 : List UInt8) (yu0 : Nat → Value), put_m_l0 n width (((width - (1 : Int))).toNat + 1) (n, (width - (1 : Int)), ((List.replicate width.toNat (0 : UInt8)).set 0 (UInt8.ofNat 128))) = .inl (y85, y86, y87) ∧ (y87.length = width.toNat ∧ 0 ≤ y86 ∧ y86 < width ∧ 0 ≤ y85 ∧ y85 ≤ 9223372036854775807 ∧ (width = 8 ∨ width = 12)) ∧ a' = ⟨#[.int .i64 (y85), .int .i64 (width), undef, undef, .string (tx ([])), .int .i64 0, .string (tx ((octal_m n (width - (1 : Int))).1)), .bool ((octal_m n (width - (1 : Int))).2), v73, .int .i64 (y86), .int .i64 (n), .bool false, .bool false, .int .i64 (width), .bool false, .bool false, undef, undef, .bool false, .bool false, .tuple #[.string (tx ((octal_m n (width - (1 : Int))).1)), .bool ((octal_m n (width - (1 : Int))).2)], .int .i64 (n), .int .i64 (width), .int .i64 ((width - (1 : Int))), .tuple #[.string (tx ((octal_m n (width - (1 : Int))).1)), .bool ((octal_m n (width - (1 : Int))).2)], .string (tx ((octal_m n (width - (1 : Int))).1)), .bool ((octal_m n (width - (1 : Int))).2), .bool ((octal_m n (width - (1 : Int))).2), undef, undef, .int .i64 (width), v73, v73, .pointer (some ⟨(bk v73), (po v73 + 0 * 1), none⟩), .int .i64 (width), .int .i64 ((width - (1 : Int))), yu0 0, yu0 1, yu0 2, yu0 3, yu0 4, yu0 5, yu0 6, yu0 7, yu0 8, yu0 9, yu0 10, undef, undef, undef, undef], []⟩ ∧ Mm none (fun _ => True) w w' [.row v73 y87.length (y87.flatMap eB) 5 1]) ?_ ?_
    · refine wp_block ?_
      refine wp_loop_n (fun n' a' w' => ∃ (n82 : Nat) (x79 : Int) (x80 : Int) (l81 : List UInt8) (u0 : Nat → Value), n' = n82 ∧ (x80).toNat < n82 ∧ put_m_l0 n width (((width - (1 : Int))).toNat + 1) (n, (width - (1 : Int)), ((List.replicate width.toNat (0 : UInt8)).set 0 (UInt8.ofNat 128))) = put_m_l0 n width n82 (x79, x80, l81) ∧ (l81.length = width.toNat ∧ 0 ≤ x80 ∧ x80 < width ∧ 0 ≤ x79 ∧ x79 ≤ 9223372036854775807 ∧ (width = 8 ∨ width = 12)) ∧ a' = ⟨#[.int .i64 (x79), .int .i64 (width), undef, undef, .string (tx ([])), .int .i64 0, .string (tx ((octal_m n (width - (1 : Int))).1)), .bool ((octal_m n (width - (1 : Int))).2), v73, .int .i64 (x80), .int .i64 (n), .bool false, .bool false, .int .i64 (width), .bool false, .bool false, undef, undef, .bool false, .bool false, .tuple #[.string (tx ((octal_m n (width - (1 : Int))).1)), .bool ((octal_m n (width - (1 : Int))).2)], .int .i64 (n), .int .i64 (width), .int .i64 ((width - (1 : Int))), .tuple #[.string (tx ((octal_m n (width - (1 : Int))).1)), .bool ((octal_m n (width - (1 : Int))).2)], .string (tx ((octal_m n (width - (1 : Int))).1)), .bool ((octal_m n (width - (1 : Int))).2), .bool ((octal_m n (width - (1 : Int))).2), undef, undef, .int .i64 (width), v73, v73, .pointer (some ⟨(bk v73), (po v73 + 0 * 1), none⟩), .int .i64 (width), .int .i64 ((width - (1 : Int))), u0 0, u0 1, u0 2, u0 3, u0 4, u0 5, u0 6, u0 7, u0 8, u0 9, u0 10, undef, undef, undef, undef], []⟩ ∧ Mm none (fun _ => True) w w' [.row v73 l81.length (l81.flatMap eB) 5 1]) ⟨(((width - (1 : Int))).toNat + 1), n, (width - (1 : Int)), ((List.replicate width.toNat (0 : UInt8)).set 0 (UInt8.ofNat 128)), (fun qq => List.getD [undef, undef, undef, undef, undef, undef, undef, undef, undef, undef, undef] qq undef), rfl, Nat.lt_succ_self _, rfl, ⟨by rw [List.length_set, List.length_replicate], by omega, by omega, by omega, by omega, by omega⟩, rfl, hm76⟩ ?_
      rintro n82 _ w89 ⟨_, x79, x80, l81, u0, rfl, hl93, hi84, hpu, rfl, hm90⟩ R91 hR91
      obtain ⟨k83, rfl⟩ : ∃ k, n82 = k + 1 := ⟨n82 - 1, by omega⟩
      refine wp_seq_k (fun K94 hK94 => ?_)
      refine wp_seq_k (fun K95 hK95 => ?_)
      refine wp_region_lit ?_
      refine lvw 36 (.int .i64 (x80)) rfl rfl (run_mv rfl rfl) ?_
      simp only [nz1, nz2, nz3]
      refine lvw 37 (.bool (decide (0 < x80))) rfl rfl (z_gtr x80 0 rfl rfl rfl) ?_
      simp only [nz1, nz2, nz3]
      refine wpList_nil ?_
      refine then_n (hK95 _ _ ?_)
      refine cond_d (0 < x80) rfl (fun hc96 => ?_) (fun hc96 => ?_)
      rotate_left
      · refine wp_exit ?_
        refine then_x ?_
        refine then_x ?_
        refine blk_x ?_
        refine then_n ?_
        exact ⟨x79, x80, l81, (fun qq => List.getD [.int .i64 (x80), .bool (decide (0 < x80)), u0 2, u0 3, u0 4, u0 5, u0 6, u0 7, u0 8, u0 9, u0 10] qq undef), (hi84.trans (show put_m_b0 n width (put_m_l0 n width k83) x79 x80 l81 = .inl (x79, x80, l81) from by unfold put_m_b0; rw [if_neg hc96] <;> rfl)), (by first | omega | (simp; done) | (simp; omega) | (simp at *; omega)), rfl, hm90⟩
      refine wp_skip ?_
      refine then_n (hK94 _ _ ?_)
      refine wp_seq_k (fun K97 hK97 => ?_)
      refine wp_block ?_
      refine wp_seq_k (fun K98 hK98 => ?_)
      refine wp_region_lit ?_
      refine lvw 40 (v73) rfl rfl (run_mv rfl rfl) ?_
      simp only [nz1, nz2, nz3]
      refine lvw 41 (.int .i64 (x80)) rfl rfl (run_mv rfl rfl) ?_
      simp only [nz1, nz2, nz3]
      refine lvw 42 (.int .i64 (x79)) rfl rfl (run_mv rfl rfl) ?_
      simp only [nz1, nz2, nz3]
      refine lvw 43 (.int .u8 (((UInt8.ofNat x79.toNat).toNat : Nat) : Int)) rfl rfl (z_conv (k' := .u8) x79 (((UInt8.ofNat x79.toNat).toNat : Nat) : Int) some_3 Tryd.underlying5 (u8_wrap _ (by omega)) rfl rfl) ?_
      simp only [nz1, nz2, nz3]
      refine lvw 44 (.pointer (some ⟨(bk v73), (po v73 + x80.toNat * 1), none⟩)) rfl rfl (r_ixvZ (Rs.row (hm90.row 0 rfl)) x80 (by omega) (by omega) Tryd.underlying34 sz_5 rfl rfl rfl) ?_
      simp only [nz1, nz2, nz3]
      refine lst rfl (m_setR 0 (l := l81) x80.toNat (UInt8.ofNat x79.toNat) (.int .u8 (((UInt8.ofNat x79.toNat).toNat : Nat) : Int)) hm90 rfl rfl rfl (by first | omega | (rw [List.length_replicate]; omega)) rfl rfl sz_5 eB_len rfl rfl (fun w99 (hm100 : Mm none (fun _ => True) w w99 [.row v73 (l81.set x80.toNat (UInt8.ofNat x79.toNat)).length ((l81.set x80.toNat (UInt8.ofNat x79.toNat)).flatMap eB) 5 1]) => ?_))
      refine wpList_nil ?_
      refine then_n (hK98 _ _ ?_)
      refine wp_region_lit ?_
      refine lvw 45 (.int .i64 (x79)) rfl rfl (run_mv rfl rfl) ?_
      simp only [nz1, nz2, nz3]
      refine lvw 46 (.int .i64 ((x79 / 256))) rfl rfl (z_shrN x79 8 _ (by omega) (by decide) (by omega) rfl rfl rfl) ?_
      simp only [nz1, nz2, nz3]
      refine lvw 0 (.int .i64 ((x79 / 256))) rfl rfl (run_as rfl rfl) ?_
      simp only [nz1, nz2]
      refine wpList_nil ?_
      refine blk_n ?_
      refine then_n (hK97 _ _ ?_)
      refine wp_region_lit ?_
      refine lvw 38 (.int .i64 (x80)) rfl rfl (run_mv rfl rfl) ?_
      simp only [nz1, nz2, nz3]
      refine lvw 39 (.int .i64 ((x80 - (1 : Int)))) rfl rfl (z_sub x80 (1 : Int) _ (by rw [IntKind.wrap_i64]; omega) rfl rfl rfl) ?_
      simp only [nz1, nz2, nz3]
      refine lvw 9 (.int .i64 ((x80 - (1 : Int)))) rfl rfl (run_as rfl rfl) ?_
      simp only [nz1, nz2, nz3]
      refine wpList_nil ?_
      refine then_n (hR91 _ _ _ ⟨k83, (x79 / 256), (x80 - (1 : Int)), (l81.set x80.toNat (UInt8.ofNat x79.toNat)), (fun qq => List.getD [.int .i64 (x80), .bool (decide (0 < x80)), .int .i64 (x80), .int .i64 ((x80 - (1 : Int))), v73, .int .i64 (x80), .int .i64 (x79), .int .u8 (((UInt8.ofNat x79.toNat).toNat : Nat) : Int), .pointer (some ⟨(bk v73), (po v73 + x80.toNat * 1), none⟩), .int .i64 (x79), .int .i64 ((x79 / 256))] qq undef), rfl, (by first | omega | (simp; omega) | (simp at *; omega)), (hi84.trans (show put_m_b0 n width (put_m_l0 n width k83) x79 x80 l81 = put_m_l0 n width k83 ((x79 / 256), (x80 - (1 : Int)), (l81.set x80.toNat (UInt8.ofNat x79.toNat))) from by unfold put_m_b0; rw [if_pos hc96] <;> rfl)), (by (try rw [List.length_set]); omega), rfl, hm100⟩ ?_)
      omega
    rintro _ w101 ⟨y85, y86, y87, yu0, hx88, hpu, rfl, hm102⟩
    have hq103 : put_m n width = put_m_k0 n width y85 y86 y87 := (show put_m n width = put_m_k0 n width y85 y86 y87 from by unfold put_m; rw [if_neg hs4, if_neg hs7, if_neg hc67, hx88] <;> rfl)
    refine then_n (hK77 _ _ ?_)
    refine wp_seq_k (fun K104 hK104 => ?_)
    refine wp_seq_k (fun K105 hK105 => ?_)
    refine wp_region_lit ?_
    refine lvw 47 (.int .i64 (y85)) rfl rfl (run_mv rfl rfl) ?_
    simp only [nz1, nz2, nz3]
    refine lvw 48 (.bool (decide (¬ y85 = 0))) rfl rfl (z_neq y85 0 rfl rfl rfl) ?_
    simp only [nz1, nz2, nz3]
    refine wpList_nil ?_
    refine then_n (hK105 _ _ ?_)
    refine cond_d (¬ y85 = 0) rfl (fun hc106 => ?_) (fun hc106 => ?_)
    · refine wp_seq_k (fun K107 hK107 => ?_)
      refine wp_region_lit ?_
      refine lvw 4 (.string (tx ([]))) rfl rfl (run_as rfl rfl) ?_
      simp only [nz1, nz2, nz3]
      refine lvw 5 (.int .i64 3) rfl rfl (run_as rfl rfl) ?_
      simp only [nz1, nz2, nz3]
      refine wpList_nil ?_
      refine then_n (hK107 _ _ ?_)
      refine wp_ret ?_
      refine then_r ?_
      have he108 : put_m n width = (([]), 3) := (hq103.trans (show put_m_k0 n width y85 y86 y87 = (([]), 3) from by unfold put_m_k0; rw [if_pos hc106] <;> rfl))
      exact ⟨rfl, .tuple #[.string (tx ([])), .int .i64 3], res_tt rfl rfl rfl, ⟨by (rw [he108]; try rfl), hm102.below⟩⟩
    refine wp_skip ?_
    refine then_n (hK104 _ _ ?_)
    refine wp_seq_k (fun K109 hK109 => ?_)
    refine wp_region_lit ?_
    refine lvw 49 (v73) rfl rfl (run_mv rfl rfl) ?_
    simp only [nz1, nz2, nz3]
    refine lvw 50 (.string (tx y87)) rfl rfl (r_stringR y87 (by have h := (Rs.row (hm102.row 0 rfl)); unfold Rs at h; rw [eB_map] at h; exact h) Tryd.underlying34 Tryd.underlying5 Tryd.underlying9 rfl rfl) ?_
    simp only [nz1, nz2, nz3]
    refine lvw 4 (.string (tx y87)) rfl rfl (run_as rfl rfl) ?_
    simp only [nz1, nz2, nz3]
    refine lvw 5 (.int .i64 0) rfl rfl (run_as rfl rfl) ?_
    simp only [nz1, nz2, nz3]
    refine wpList_nil ?_
    refine then_n (hK109 _ _ ?_)
    refine wp_ret ?_
    have he110 : put_m n width = (y87, 0) := (hq103.trans (show put_m_k0 n width y85 y86 y87 = (y87, 0) from by unfold put_m_k0; rw [if_neg hc106] <;> rfl))
    exact ⟨rfl, .tuple #[.string (tx y87), .int .i64 0], res_tt rfl rfl rfl, ⟨by (rw [he110]; try rfl), hm102.below⟩⟩
  simp only [nz1, nz2, nz3]
  refine lvw 15 (.bool true) rfl rfl (run_mv rfl rfl) ?_
  simp only [nz1, nz2, nz3]
  refine lvw 16 (.int .i64 (width)) rfl rfl (run_mv rfl rfl) ?_
  simp only [nz1, nz2, nz3]
  refine lvw 17 (.bool (decide (¬ width = 12))) rfl rfl (z_neq width 12 rfl rfl rfl) ?_
  simp only [nz1, nz2, nz3]
  refine lvw 18 (.bool (decide (¬ width = 12))) rfl rfl (run_pick rfl rfl rfl) ?_
  simp only [nz1, nz2, nz3]
  refine lvw 19 (.bool (decide (¬ width = 12))) rfl rfl (run_pickf rfl rfl rfl) ?_
  simp only [nz1, nz2, nz3]
  refine wpList_nil ?_
  refine then_n (hK3 _ _ ?_)
  refine cond_d (¬ width = 12) rfl (fun hc8 => ?_) (fun hc8 => ?_)
  · refine wp_seq_k (fun K9 hK9 => ?_)
    refine wp_region_lit ?_
    refine lvw 4 (.string (tx ([]))) rfl rfl (run_as rfl rfl) ?_
    simp only [nz1, nz2, nz3]
    refine lvw 5 (.int .i64 1) rfl rfl (run_as rfl rfl) ?_
    simp only [nz1, nz2, nz3]
    refine wpList_nil ?_
    refine then_n (hK9 _ _ ?_)
    refine wp_ret ?_
    refine then_r ?_
    have he10 : put_m n width = (([]), 1) := (show put_m n width = (([]), 1) from by unfold put_m; rw [if_neg hs4, if_pos hs7, if_pos hc8] <;> rfl)
    exact ⟨rfl, .tuple #[.string (tx ([])), .int .i64 1], res_tt rfl rfl rfl, ⟨by (rw [he10]; try rfl), hm0.below⟩⟩
  refine wp_skip ?_
  refine then_n (hK2 _ _ ?_)
  refine wp_seq_k (fun K11 hK11 => ?_)
  refine wp_region_lit ?_
  refine lvw 21 (.int .i64 (n)) rfl rfl (run_mv rfl rfl) ?_
  simp only [nz1, nz2, nz3]
  refine lvw 22 (.int .i64 (width)) rfl rfl (run_mv rfl rfl) ?_
  simp only [nz1, nz2, nz3]
  refine lvw 23 (.int .i64 ((width - (1 : Int)))) rfl rfl (z_sub width (1 : Int) _ (by rw [IntKind.wrap_i64]; omega) rfl rfl rfl) ?_
  simp only [nz1, nz2, nz3]
  refine lst rfl (m_call hm0 24 (.tuple #[.string (tx ((octal_m n (width - (1 : Int))).1)), .bool ((octal_m n (width - (1 : Int))).2)]) rfl (run_octal rfl rfl rfl) (octal_any n (width - (1 : Int))  _  (by first | omega | assumption | (simp; done) | (simp; omega) | (simp only [List.length_append, List.length_cons, List.length_nil]; omega) | (simp only [List.length_append, List.length_cons, List.length_nil] at *; omega) | decide)) (fun w12 (hm13 : Mm none (fun _ => True) w w12 []) => ?_))
  have hf14 : (((octal_m n (width - (1 : Int))).1.length : Nat) : Int) = (width - (1 : Int)) := octal_len n (width - (1 : Int)) (by omega) (by omega) (by omega)
  simp only [nz1, nz2, nz3]
  refine lvw 20 (.tuple #[.string (tx ((octal_m n (width - (1 : Int))).1)), .bool ((octal_m n (width - (1 : Int))).2)]) rfl rfl (run_mv rfl rfl) ?_
  simp only [nz1, nz2, nz3]
  refine lvw 25 (.string (tx ((octal_m n (width - (1 : Int))).1))) rfl rfl (run_ex rfl rfl rfl) ?_
  simp only [nz1, nz2, nz3]
  refine lvw 26 (.bool ((octal_m n (width - (1 : Int))).2)) rfl rfl (run_ex rfl rfl rfl) ?_
  simp only [nz1, nz2, nz3]
  refine lvw 6 (.string (tx ((octal_m n (width - (1 : Int))).1))) rfl rfl (run_as rfl rfl) ?_
  simp only [nz1, nz2, nz3]
  refine lvw 7 (.bool ((octal_m n (width - (1 : Int))).2)) rfl rfl (run_as rfl rfl) ?_
  simp only [nz1, nz2, nz3]
  refine wpList_nil ?_
  refine then_n (hK11 _ _ ?_)
  refine wp_seq_k (fun K15 hK15 => ?_)
  refine wp_seq_k (fun K16 hK16 => ?_)
  refine wp_region_lit ?_
  refine lvw 27 (.bool ((octal_m n (width - (1 : Int))).2)) rfl rfl (run_mv rfl rfl) ?_
  simp only [nz1, nz2, nz3]
  refine wpList_nil ?_
  refine then_n (hK16 _ _ ?_)
  refine cond_B ((octal_m n (width - (1 : Int))).2) rfl (fun hc17 => ?_) (fun hc17 => ?_)
  · refine wp_seq_k (fun K18 hK18 => ?_)
    refine wp_region_lit ?_
    refine lvw 28 (.string (tx ((octal_m n (width - (1 : Int))).1))) rfl rfl (run_mv rfl rfl) ?_
    simp only [nz1, nz2, nz3]
    refine lvw 29 (.string (tx ((octal_m n (width - (1 : Int))).1 ++ [0]))) rfl rfl (t_cat ((octal_m n (width - (1 : Int))).1) ([0]) (by first | omega | (simp; omega)) rfl rfl rfl) ?_
    simp only [nz1, nz2, nz3]
    refine lvw 4 (.string (tx ((octal_m n (width - (1 : Int))).1 ++ [0]))) rfl rfl (run_as rfl rfl) ?_
    simp only [nz1, nz2, nz3]
    refine lvw 5 (.int .i64 0) rfl rfl (run_as rfl rfl) ?_
    simp only [nz1, nz2, nz3]
    refine wpList_nil ?_
    refine then_n (hK18 _ _ ?_)
    refine wp_ret ?_
    refine then_r ?_
    have he19 : put_m n width = (((octal_m n (width - (1 : Int))).1 ++ [0]), 0) := (show put_m n width = (((octal_m n (width - (1 : Int))).1 ++ [0]), 0) from by unfold put_m; rw [if_neg hs4, if_pos hs7, if_neg hc8, if_pos hc17] <;> rfl)
    exact ⟨rfl, .tuple #[.string (tx ((octal_m n (width - (1 : Int))).1 ++ [0])), .int .i64 0], res_tt rfl rfl rfl, ⟨by (rw [he19]; try rfl), hm13.below⟩⟩
  refine wp_skip ?_
  refine then_n (hK15 _ _ ?_)
  refine wp_seq_k (fun K20 hK20 => ?_)
  refine wp_region_lit ?_
  refine lvw 30 (.int .i64 (width)) rfl rfl (run_mv rfl rfl) ?_
  simp only [nz1, nz2, nz3]
  obtain ⟨iq, hiq, hz1, hz2, hz3⟩ := inf_5
  refine lst rfl (m_makeR (enc := eB) (size := 1) width.toNat (0 : UInt8) iq _ hm13 31 rfl rfl Tryd.underlying34 hiq hz1 hz2 hz3 eB_len rfl (show (Value.int .i64 width) = .int .i64 ((width.toNat : Nat) : Int) from by congr 1; omega) (show (Value.int .i64 width) = .int .i64 ((width.toNat : Nat) : Int) from by congr 1; omega) (by first | omega | (simp; omega)) (by first | omega | (simp; omega)) (fun v23 w21 (hm22 : Mm none (fun _ => True) w w21 [.row v23 (List.replicate width.toNat (0 : UInt8)).length ((List.replicate width.toNat (0 : UInt8)).flatMap eB) 5 1]) => ?_))
  simp only [nz1, nz2, nz3]
  refine lvw 8 (v23) rfl rfl (run_as rfl rfl) ?_
  simp only [nz1, nz2, nz3]
  refine wpList_nil ?_
  refine then_n (hK20 _ _ ?_)
  refine wp_seq_k (fun K24 hK24 => ?_)
  refine wp_region_lit ?_
  refine lvw 32 (v23) rfl rfl (run_mv rfl rfl) ?_
  simp only [nz1, nz2, nz3]
  refine lvw 33 (.pointer (some ⟨(bk v23), (po v23 + 0 * 1), none⟩)) rfl rfl (r_ixv (Rs.row (hm22.row 0 rfl)) 0 (by first | omega | (rw [List.length_replicate]; omega)) Tryd.underlying34 sz_5 rfl rfl rfl) ?_
  simp only [nz1, nz2, nz3]
  refine lst rfl (m_setR 0 (l := (List.replicate width.toNat (0 : UInt8))) 0 (UInt8.ofNat 128) (.int .u8 128) hm22 rfl rfl rfl (by first | omega | (rw [List.length_replicate]; omega)) rfl rfl sz_5 eB_len rfl rfl (fun w25 (hm26 : Mm none (fun _ => True) w w25 [.row v23 ((List.replicate width.toNat (0 : UInt8)).set 0 (UInt8.ofNat 128)).length (((List.replicate width.toNat (0 : UInt8)).set 0 (UInt8.ofNat 128)).flatMap eB) 5 1]) => ?_))
  refine wpList_nil ?_
  refine then_n (hK24 _ _ ?_)
  refine wp_seq_k (fun K27 hK27 => ?_)
  refine wp_seq_k (fun K28 hK28 => ?_)
  refine wp_region_lit ?_
  refine lvw 34 (.int .i64 (width)) rfl rfl (run_mv rfl rfl) ?_
  simp only [nz1, nz2, nz3]
  refine lvw 35 (.int .i64 ((width - (1 : Int)))) rfl rfl (z_sub width (1 : Int) _ (by rw [IntKind.wrap_i64]; omega) rfl rfl rfl) ?_
  simp only [nz1, nz2, nz3]
  refine lvw 9 (.int .i64 ((width - (1 : Int)))) rfl rfl (run_as rfl rfl) ?_
  simp only [nz1, nz2, nz3]
  refine wpList_nil ?_
  refine then_n (hK28 _ _ ?_)
  refine wp_cutK (fun a' w' => ∃ (y35 : Int) (y36 : Int) (y37 : List UInt8) (yu0 : Nat → Value), put_m_l0 n width (((width - (1 : Int))).toNat + 1) (n, (width - (1 : Int)), ((List.replicate width.toNat (0 : UInt8)).set 0 (UInt8.ofNat 128))) = .inl (y35, y36, y37) ∧ (y37.length = width.toNat ∧ 0 ≤ y36 ∧ y36 < width ∧ 0 ≤ y35 ∧ y35 ≤ 9223372036854775807 ∧ (width = 8 ∨ width = 12)) ∧ a' = ⟨#[.int .i64 (y35), .int .i64 (width), undef, undef, .string (tx ([])), .int .i64 0, .string (tx ((octal_m n (width - (1 : Int))).1)), .bool ((octal_m n (width - (1 : Int))).2), v23, .int .i64 (y36), .int .i64 (n), .bool false, .bool false, .int .i64 (width), .bool true, .bool true, .int .i64 (width), .bool (decide (¬ width = 12)), .bool (decide (¬ width = 12)), .bool (decide (¬ width = 12)), .tuple #[.string (tx ((octal_m n (width - (1 : Int))).1)), .bool ((octal_m n (width - (1 : Int))).2)], .int .i64 (n), .int .i64 (width), .int .i64 ((width - (1 : Int))), .tuple #[.string (tx ((octal_m n (width - (1 : Int))).1)), .bool ((octal_m n (width - (1 : Int))).2)], .string (tx ((octal_m n (width - (1 : Int))).1)), .bool ((octal_m n (width - (1 : Int))).2), .bool ((octal_m n (width - (1 : Int))).2), undef, undef, .int .i64 (width), v23, v23, .pointer (some ⟨(bk v23), (po v23 + 0 * 1), none⟩), .int .i64 (width), .int .i64 ((width - (1 : Int))), yu0 0, yu0 1, yu0 2, yu0 3, yu0 4, yu0 5, yu0 6, yu0 7, yu0 8, yu0 9, yu0 10, undef, undef, undef, undef], []⟩ ∧ Mm none (fun _ => True) w w' [.row v23 y37.length (y37.flatMap eB) 5 1]) ?_ ?_
  · refine wp_block ?_
    refine wp_loop_n (fun n' a' w' => ∃ (n32 : Nat) (x29 : Int) (x30 : Int) (l31 : List UInt8) (u0 : Nat → Value), n' = n32 ∧ (x30).toNat < n32 ∧ put_m_l0 n width (((width - (1 : Int))).toNat + 1) (n, (width - (1 : Int)), ((List.replicate width.toNat (0 : UInt8)).set 0 (UInt8.ofNat 128))) = put_m_l0 n width n32 (x29, x30, l31) ∧ (l31.length = width.toNat ∧ 0 ≤ x30 ∧ x30 < width ∧ 0 ≤ x29 ∧ x29 ≤ 9223372036854775807 ∧ (width = 8 ∨ width = 12)) ∧ a' = ⟨#[.int .i64 (x29), .int .i64 (width), undef, undef, .string (tx ([])), .int .i64 0, .string (tx ((octal_m n (width - (1 : Int))).1)), .bool ((octal_m n (width - (1 : Int))).2), v23, .int .i64 (x30), .int .i64 (n), .bool false, .bool false, .int .i64 (width), .bool true, .bool true, .int .i64 (width), .bool (decide (¬ width = 12)), .bool (decide (¬ width = 12)), .bool (decide (¬ width = 12)), .tuple #[.string (tx ((octal_m n (width - (1 : Int))).1)), .bool ((octal_m n (width - (1 : Int))).2)], .int .i64 (n), .int .i64 (width), .int .i64 ((width - (1 : Int))), .tuple #[.string (tx ((octal_m n (width - (1 : Int))).1)), .bool ((octal_m n (width - (1 : Int))).2)], .string (tx ((octal_m n (width - (1 : Int))).1)), .bool ((octal_m n (width - (1 : Int))).2), .bool ((octal_m n (width - (1 : Int))).2), undef, undef, .int .i64 (width), v23, v23, .pointer (some ⟨(bk v23), (po v23 + 0 * 1), none⟩), .int .i64 (width), .int .i64 ((width - (1 : Int))), u0 0, u0 1, u0 2, u0 3, u0 4, u0 5, u0 6, u0 7, u0 8, u0 9, u0 10, undef, undef, undef, undef], []⟩ ∧ Mm none (fun _ => True) w w' [.row v23 l31.length (l31.flatMap eB) 5 1]) ⟨(((width - (1 : Int))).toNat + 1), n, (width - (1 : Int)), ((List.replicate width.toNat (0 : UInt8)).set 0 (UInt8.ofNat 128)), (fun qq => List.getD [undef, undef, undef, undef, undef, undef, undef, undef, undef, undef, undef] qq undef), rfl, Nat.lt_succ_self _, rfl, ⟨by rw [List.length_set, List.length_replicate], by omega, by omega, by omega, by omega, by omega⟩, rfl, hm26⟩ ?_
    rintro n32 _ w39 ⟨_, x29, x30, l31, u0, rfl, hl43, hi34, hpu, rfl, hm40⟩ R41 hR41
    obtain ⟨k33, rfl⟩ : ∃ k, n32 = k + 1 := ⟨n32 - 1, by omega⟩
    refine wp_seq_k (fun K44 hK44 => ?_)
    refine wp_seq_k (fun K45 hK45 => ?_)
    refine wp_region_lit ?_
    refine lvw 36 (.int .i64 (x30)) rfl rfl (run_mv rfl rfl) ?_
    simp only [nz1, nz2, nz3]
    refine lvw 37 (.bool (decide (0 < x30))) rfl rfl (z_gtr x30 0 rfl rfl rfl) ?_
    simp only [nz1, nz2, nz3]
    refine wpList_nil ?_
    refine then_n (hK45 _ _ ?_)
    refine cond_d (0 < x30) rfl (fun hc46 => ?_) (fun hc46 => ?_)
    rotate_left
    · refine wp_exit ?_
      refine then_x ?_
      refine then_x ?_
      refine blk_x ?_
      refine then_n ?_
      exact ⟨x29, x30, l31, (fun qq => List.getD [.int .i64 (x30), .bool (decide (0 < x30)), u0 2, u0 3, u0 4, u0 5, u0 6, u0 7, u0 8, u0 9, u0 10] qq undef), (hi34.trans (show put_m_b0 n width (put_m_l0 n width k33) x29 x30 l31 = .inl (x29, x30, l31) from by unfold put_m_b0; rw [if_neg hc46] <;> rfl)), (by first | omega | (simp; done) | (simp; omega) | (simp at *; omega)), rfl, hm40⟩
    refine wp_skip ?_
    refine then_n (hK44 _ _ ?_)
    refine wp_seq_k (fun K47 hK47 => ?_)
    refine wp_block ?_
    refine wp_seq_k (fun K48 hK48 => ?_)
    refine wp_region_lit ?_
    refine lvw 40 (v23) rfl rfl (run_mv rfl rfl) ?_
    simp only [nz1, nz2, nz3]
    refine lvw 41 (.int .i64 (x30)) rfl rfl (run_mv rfl rfl) ?_
    simp only [nz1, nz2, nz3]
    refine lvw 42 (.int .i64 (x29)) rfl rfl (run_mv rfl rfl) ?_
    simp only [nz1, nz2, nz3]
    refine lvw 43 (.int .u8 (((UInt8.ofNat x29.toNat).toNat : Nat) : Int)) rfl rfl (z_conv (k' := .u8) x29 (((UInt8.ofNat x29.toNat).toNat : Nat) : Int) some_3 Tryd.underlying5 (u8_wrap _ (by omega)) rfl rfl) ?_
    simp only [nz1, nz2, nz3]
    refine lvw 44 (.pointer (some ⟨(bk v23), (po v23 + x30.toNat * 1), none⟩)) rfl rfl (r_ixvZ (Rs.row (hm40.row 0 rfl)) x30 (by omega) (by omega) Tryd.underlying34 sz_5 rfl rfl rfl) ?_
    simp only [nz1, nz2, nz3]
    refine lst rfl (m_setR 0 (l := l31) x30.toNat (UInt8.ofNat x29.toNat) (.int .u8 (((UInt8.ofNat x29.toNat).toNat : Nat) : Int)) hm40 rfl rfl rfl (by first | omega | (rw [List.length_replicate]; omega)) rfl rfl sz_5 eB_len rfl rfl (fun w49 (hm50 : Mm none (fun _ => True) w w49 [.row v23 (l31.set x30.toNat (UInt8.ofNat x29.toNat)).length ((l31.set x30.toNat (UInt8.ofNat x29.toNat)).flatMap eB) 5 1]) => ?_))
    refine wpList_nil ?_
    refine then_n (hK48 _ _ ?_)
    refine wp_region_lit ?_
    refine lvw 45 (.int .i64 (x29)) rfl rfl (run_mv rfl rfl) ?_
    simp only [nz1, nz2, nz3]
    refine lvw 46 (.int .i64 ((x29 / 256))) rfl rfl (z_shrN x29 8 _ (by omega) (by decide) (by omega) rfl rfl rfl) ?_
    simp only [nz1, nz2, nz3]
    refine lvw 0 (.int .i64 ((x29 / 256))) rfl rfl (run_as rfl rfl) ?_
    simp only [nz1, nz2]
    refine wpList_nil ?_
    refine blk_n ?_
    refine then_n (hK47 _ _ ?_)
    refine wp_region_lit ?_
    refine lvw 38 (.int .i64 (x30)) rfl rfl (run_mv rfl rfl) ?_
    simp only [nz1, nz2, nz3]
    refine lvw 39 (.int .i64 ((x30 - (1 : Int)))) rfl rfl (z_sub x30 (1 : Int) _ (by rw [IntKind.wrap_i64]; omega) rfl rfl rfl) ?_
    simp only [nz1, nz2, nz3]
    refine lvw 9 (.int .i64 ((x30 - (1 : Int)))) rfl rfl (run_as rfl rfl) ?_
    simp only [nz1, nz2, nz3]
    refine wpList_nil ?_
    refine then_n (hR41 _ _ _ ⟨k33, (x29 / 256), (x30 - (1 : Int)), (l31.set x30.toNat (UInt8.ofNat x29.toNat)), (fun qq => List.getD [.int .i64 (x30), .bool (decide (0 < x30)), .int .i64 (x30), .int .i64 ((x30 - (1 : Int))), v23, .int .i64 (x30), .int .i64 (x29), .int .u8 (((UInt8.ofNat x29.toNat).toNat : Nat) : Int), .pointer (some ⟨(bk v23), (po v23 + x30.toNat * 1), none⟩), .int .i64 (x29), .int .i64 ((x29 / 256))] qq undef), rfl, (by first | omega | (simp; omega) | (simp at *; omega)), (hi34.trans (show put_m_b0 n width (put_m_l0 n width k33) x29 x30 l31 = put_m_l0 n width k33 ((x29 / 256), (x30 - (1 : Int)), (l31.set x30.toNat (UInt8.ofNat x29.toNat))) from by unfold put_m_b0; rw [if_pos hc46] <;> rfl)), (by (try rw [List.length_set]); omega), rfl, hm50⟩ ?_)
    omega
  rintro _ w51 ⟨y35, y36, y37, yu0, hx38, hpu, rfl, hm52⟩
  have hq53 : put_m n width = put_m_k0 n width y35 y36 y37 := (show put_m n width = put_m_k0 n width y35 y36 y37 from by unfold put_m; rw [if_neg hs4, if_pos hs7, if_neg hc8, if_neg hc17, hx38] <;> rfl)
  refine then_n (hK27 _ _ ?_)
  refine wp_seq_k (fun K54 hK54 => ?_)
  refine wp_seq_k (fun K55 hK55 => ?_)
  refine wp_region_lit ?_
  refine lvw 47 (.int .i64 (y35)) rfl rfl (run_mv rfl rfl) ?_
  simp only [nz1, nz2, nz3]
  refine lvw 48 (.bool (decide (¬ y35 = 0))) rfl rfl (z_neq y35 0 rfl rfl rfl) ?_
  simp only [nz1, nz2, nz3]
  refine wpList_nil ?_
  refine then_n (hK55 _ _ ?_)
  refine cond_d (¬ y35 = 0) rfl (fun hc56 => ?_) (fun hc56 => ?_)
  · refine wp_seq_k (fun K57 hK57 => ?_)
    refine wp_region_lit ?_
    refine lvw 4 (.string (tx ([]))) rfl rfl (run_as rfl rfl) ?_
    simp only [nz1, nz2, nz3]
    refine lvw 5 (.int .i64 3) rfl rfl (run_as rfl rfl) ?_
    simp only [nz1, nz2, nz3]
    refine wpList_nil ?_
    refine then_n (hK57 _ _ ?_)
    refine wp_ret ?_
    refine then_r ?_
    have he58 : put_m n width = (([]), 3) := (hq53.trans (show put_m_k0 n width y35 y36 y37 = (([]), 3) from by unfold put_m_k0; rw [if_pos hc56] <;> rfl))
    exact ⟨rfl, .tuple #[.string (tx ([])), .int .i64 3], res_tt rfl rfl rfl, ⟨by (rw [he58]; try rfl), hm52.below⟩⟩
  refine wp_skip ?_
  refine then_n (hK54 _ _ ?_)
  refine wp_seq_k (fun K59 hK59 => ?_)
  refine wp_region_lit ?_
  refine lvw 49 (v23) rfl rfl (run_mv rfl rfl) ?_
  simp only [nz1, nz2, nz3]
  refine lvw 50 (.string (tx y37)) rfl rfl (r_stringR y37 (by have h := (Rs.row (hm52.row 0 rfl)); unfold Rs at h; rw [eB_map] at h; exact h) Tryd.underlying34 Tryd.underlying5 Tryd.underlying9 rfl rfl) ?_
  simp only [nz1, nz2, nz3]
  refine lvw 4 (.string (tx y37)) rfl rfl (run_as rfl rfl) ?_
  simp only [nz1, nz2, nz3]
  refine lvw 5 (.int .i64 0) rfl rfl (run_as rfl rfl) ?_
  simp only [nz1, nz2, nz3]
  refine wpList_nil ?_
  refine then_n (hK59 _ _ ?_)
  refine wp_ret ?_
  have he60 : put_m n width = (y37, 0) := (hq53.trans (show put_m_k0 n width y35 y36 y37 = (y37, 0) from by unfold put_m_k0; rw [if_neg hc56] <;> rfl))
  exact ⟨rfl, .tuple #[.string (tx y37), .int .i64 0], res_tt rfl rfl rfl, ⟨by (rw [he60]; try rfl), hm52.below⟩⟩
theorem run_put {o : Oper} {a : Act} {w : World} {x0 x1 : Operand} {v0 v1 : Value} (ho : o.op = .call { callee := .value (.func 36), args := #[x0, x1], argTypes := #[3, 3] }) (h0 : a.eval x0 = v0) (h1 : a.eval x1 = v1) :
    (execOp a.eval o).run Tryd.prog w = .ok (.enter 36 #[v0, v1]) w := by
  unfold execOp
  simp only [ho]
  have hf : a.eval (.func 36) = .func (.func 36) #[] #[] := rfl
  generalize a.eval = f at *
  go_simp
def nA_m_b0 (s : List UInt8) (rec : Nat × Nat → Sum (Nat × Nat) (Int × Int)) (x5 : Nat) (x6 : Nat) : Sum (Nat × Nat) (Int × Int) :=
  if x6 < s.length then
    if (((9223372036854775807 : Int) - (((UInt8.ofNat (by' s x6 + 256 - 0)).toNat : Nat) : Int)) / (256 : Int)) < ((x5 : Nat) : Int) then
      .inr (0, 3)
    else
      rec (((x5 * 256) + ((UInt8.ofNat (by' s x6 + 256 - 0)).toNat)), (x6 + 1))
  else
    .inl (x5, x6)
def nA_m_l0 (s : List UInt8) : Nat → Nat × Nat → Sum (Nat × Nat) (Int × Int)
  | 0, zz => .inl zz
  | nq + 1, zz => nA_m_b0 s (nA_m_l0 s nq) zz.1 zz.2

def nA_m_k0 (s : List UInt8) (y10 : Nat) (y11 : Nat) : Int × Int :=
  (((y10 : Nat) : Int), 0)

def nA_m (s : List UInt8) : Int × Int :=
  fin (nA_m_l0 s ((s.length - 0) + 1) (0, 0)) (fun r => r) (fun zz => nA_m_k0 s zz.1 zz.2)

set_option maxHeartbeats 4000000 in
set_option maxRecDepth 100000 in
theorem nA_any (s : List UInt8) (w : World)  (hp0 : s.length ≤ 1048576) : Calls Tryd.prog 53 #[.string (tx s), .int .i64 256, .int .u8 0] w (fun e w' => e = .returned (.tuple #[.int .i64 ((nA_m s).1), .int .i64 ((nA_m s).2)]) ∧ Below w.heap.size w w') := by
  go_enter Tryd.func53, Tryd.ntmps53
  have hm00 := Mm.nil none (fun _ => True) w
  have hm0 := hm00
  refine wp_seq_k (fun K1 hK1 => ?_)
  refine wp_region_lit ?_
  refine lvw 6 (.int .i64 0) rfl rfl (run_as rfl rfl) ?_
  simp only [nz1, nz2, nz3]
  refine lvw 7 (.int .i64 0) rfl rfl (run_as rfl rfl) ?_
  simp only [nz1, nz2, nz3]
  refine wpList_nil ?_
  refine then_n (hK1 _ _ ?_)
  refine wp_seq_k (fun K2 hK2 => ?_)
  refine wp_region_lit ?_
  refine lvw 8 (.int .i64 0) rfl rfl (run_as rfl rfl) ?_
  simp only [nz1, nz2, nz3]
  refine wpList_nil ?_
  refine then_n (hK2 _ _ ?_)
  refine wp_seq_k (fun K3 hK3 => ?_)
  refine wp_seq_k (fun K4 hK4 => ?_)
  refine wp_region_lit ?_
  refine lvw 9 (.int .i64 0) rfl rfl (run_as rfl rfl) ?_
  simp only [nz1, nz2, nz3]
  refine wpList_nil ?_
  refine then_n (hK4 _ _ ?_)
  refine wp_cutK (fun a' w' => ∃ (y10 : Nat) (y11 : Nat) (yu0 : Nat → Value), nA_m_l0 s ((s.length - 0) + 1) (0, 0) = .inl (y10, y11) ∧ (0 ≤ y10 ∧ y10 ≤ 9223372036854775807) ∧ a' = ⟨#[.string (tx s), .int .i64 256, .int .u8 0, undef, undef, undef, yu0 0, yu0 1, .int .i64 ((y10 : Nat) : Int), .int .i64 ((y11 : Nat) : Int), yu0 2, yu0 3, yu0 4, yu0 5, yu0 6, yu0 7, yu0 8, yu0 9, yu0 10, yu0 11, yu0 12, yu0 13, yu0 14, yu0 15, yu0 16, yu0 17, yu0 18, yu0 19, yu0 20, yu0 21, yu0 22, yu0 23, yu0 24, yu0 25, undef], []⟩ ∧ Mm none (fun _ => True) w w' []) ?_ ?_
  · refine wp_block ?_
    refine wp_loop_n (fun n' a' w' => ∃ (n7 : Nat) (x5 : Nat) (x6 : Nat) (u0 : Nat → Value), n' = n7 ∧ (s.length - x6) < n7 ∧ nA_m_l0 s ((s.length - 0) + 1) (0, 0) = nA_m_l0 s n7 (x5, x6) ∧ (0 ≤ x5 ∧ x5 ≤ 9223372036854775807) ∧ a' = ⟨#[.string (tx s), .int .i64 256, .int .u8 0, undef, undef, undef, u0 0, u0 1, .int .i64 ((x5 : Nat) : Int), .int .i64 ((x6 : Nat) : Int), u0 2, u0 3, u0 4, u0 5, u0 6, u0 7, u0 8, u0 9, u0 10, u0 11, u0 12, u0 13, u0 14, u0 15, u0 16, u0 17, u0 18, u0 19, u0 20, u0 21, u0 22, u0 23, u0 24, u0 25, undef], []⟩ ∧ Mm none (fun _ => True) w w' []) ⟨((s.length - 0) + 1), 0, 0, (fun qq => bif Nat.blt qq 24 then List.getD [.int .i64 0, .int .i64 0, undef, undef, undef, undef, undef, undef, undef, undef, undef, undef, undef, undef, undef, undef, undef, undef, undef, undef, undef, undef, undef, undef] qq undef else List.getD [undef, undef] (qq - 24) undef), rfl, Nat.lt_succ_self _, rfl, (by first | omega | (simp; done) | (simp; omega) | (simp at *; omega)), rfl, hm0⟩ ?_
    rintro n7 _ w13 ⟨_, x5, x6, u0, rfl, hl17, hi9, hnu, rfl, hm14⟩ R15 hR15
    obtain ⟨k8, rfl⟩ : ∃ k, n7 = k + 1 := ⟨n7 - 1, by omega⟩
    refine wp_seq_k (fun K18 hK18 => ?_)
    refine wp_seq_k (fun K19 hK19 => ?_)
    refine wp_region_lit ?_
    refine lvw 11 (.int .i64 ((x6 : Nat) : Int)) rfl rfl (run_mv rfl rfl) ?_
    simp only [nz1, nz2, nz3]
    refine lvw 12 (.string (tx s)) rfl rfl (run_mv rfl rfl) ?_
    simp only [nz1, nz2, nz3]
    refine lvw 13 (.int .i64 ((s.length : Nat) : Int)) rfl rfl (t_len rfl Tryd.underlying9 rfl) ?_
    simp only [nz1, nz2, nz3]
    refine lvw 14 (.bool (decide (x6 < s.length))) rfl rfl (r_lss x6 s.length rfl rfl rfl) ?_
    simp only [nz1, nz2, nz3]
    refine wpList_nil ?_
    refine then_n (hK19 _ _ ?_)
    refine cond_d (x6 < s.length) rfl (fun hc20 => ?_) (fun hc20 => ?_)
    rotate_left
    · refine wp_exit ?_
      refine then_x ?_
      refine then_x ?_
      refine blk_x ?_
      refine then_n ?_
      exact ⟨x5, x6, (fun qq => bif Nat.blt qq 24 then List.getD [u0 0, u0 1, u0 2, .int .i64 ((x6 : Nat) : Int), .string (tx s), .int .i64 ((s.length : Nat) : Int), .bool (decide (x6 < s.length)), u0 7, u0 8, u0 9, u0 10, u0 11, u0 12, u0 13, u0 14, u0 15, u0 16, u0 17, u0 18, u0 19, u0 20, u0 21, u0 22, u0 23] qq undef else List.getD [u0 24, u0 25] (qq - 24) undef), (hi9.trans (show nA_m_b0 s (nA_m_l0 s k8) x5 x6 = .inl (x5, x6) from by unfold nA_m_b0; rw [if_neg hc20] <;> rfl)), (by first | omega | (simp; done) | (simp; omega) | (simp at *; omega)), rfl, hm14⟩
    refine wp_skip ?_
    refine then_n (hK18 _ _ ?_)
    refine wp_seq_k (fun K21 hK21 => ?_)
    refine wp_block ?_
    refine wp_seq_k (fun K22 hK22 => ?_)
    refine wp_region_lit ?_
    refine lvw 17 (.string (tx s)) rfl rfl (run_mv rfl rfl) ?_
    simp only [nz1, nz2, nz3]
    refine lvw 18 (.int .i64 ((x6 : Nat) : Int)) rfl rfl (run_mv rfl rfl) ?_
    simp only [nz1, nz2, nz3]
    refine lvw 19 (.int .u8 ((by' s x6 : Nat) : Int)) rfl rfl (t_char s x6 (by omega) Tryd.underlying9 rfl rfl rfl) ?_
    simp only [nz1, nz2, nz3]
    refine lvw 20 (.int .u8 0) rfl rfl (run_mv rfl rfl) ?_
    simp only [nz1, nz2, nz3]
    refine lvw 21 (.int .u8 (((UInt8.ofNat (by' s x6 + 256 - 0)).toNat : Nat) : Int)) rfl rfl (u_sub (by' s x6) 0 (by have := by_lt; omega) rfl rfl rfl) ?_
    simp only [nz1, nz2, nz3]
    refine lvw 22 (.int .i64 (((UInt8.ofNat (by' s x6 + 256 - 0)).toNat : Nat) : Int)) rfl rfl (r_conv (k' := .i64) ((UInt8.ofNat (by' s x6 + 256 - 0)).toNat) ((UInt8.ofNat (by' s x6 + 256 - 0)).toNat) some_5 Tryd.underlying3 (wrap_nat (by have := (UInt8.ofNat (by' s x6 + 256 - 0)).toNat_lt; show _ < 9223372036854775808; omega)) rfl rfl) ?_
    simp only [nz1, nz2, nz3]
    refine lvw 10 (.int .i64 (((UInt8.ofNat (by' s x6 + 256 - 0)).toNat : Nat) : Int)) rfl rfl (run_as rfl rfl) ?_
    simp only [nz1, nz2, nz3]
    refine wpList_nil ?_
    refine then_n (hK22 _ _ ?_)
    refine wp_seq_k (fun K23 hK23 => ?_)
    refine wp_seq_k (fun K24 hK24 => ?_)
    refine wp_region_lit ?_
    refine lvw 23 (.int .i64 ((x5 : Nat) : Int)) rfl rfl (run_mv rfl rfl) ?_
    simp only [nz1, nz2, nz3]
    refine lvw 24 (.int .i64 (((UInt8.ofNat (by' s x6 + 256 - 0)).toNat : Nat) : Int)) rfl rfl (run_mv rfl rfl) ?_
    simp only [nz1, nz2, nz3]
    refine lvw 25 (.int .i64 (((9223372036854775807 : Int) - (((UInt8.ofNat (by' s x6 + 256 - 0)).toNat : Nat) : Int)))) rfl rfl (z_sub (9223372036854775807 : Int) (((UInt8.ofNat (by' s x6 + 256 - 0)).toNat : Nat) : Int) _ (by have hq := ((UInt8.ofNat (by' s x6 + 256 - 0))).toNat_lt; rw [IntKind.wrap_i64]; omega) rfl rfl rfl) ?_
    simp only [nz1, nz2, nz3]
    refine lvw 26 (.int .i64 256) rfl rfl (run_mv rfl rfl) ?_
    simp only [nz1, nz2, nz3]
    refine lvw 27 (.int .i64 ((((9223372036854775807 : Int) - (((UInt8.ofNat (by' s x6 + 256 - 0)).toNat : Nat) : Int)) / (256 : Int)))) rfl rfl (z_quo ((9223372036854775807 : Int) - (((UInt8.ofNat (by' s x6 + 256 - 0)).toNat : Nat) : Int)) (256 : Int) (((9223372036854775807 : Int) - (((UInt8.ofNat (by' s x6 + 256 - 0)).toNat : Nat) : Int)) / (256 : Int)) (by omega) (by have hq := ((UInt8.ofNat (by' s x6 + 256 - 0))).toNat_lt; rw [IntKind.wrap_i64, Int.tdiv_eq_ediv_of_nonneg (by omega)]; omega) rfl rfl rfl) ?_
    simp only [nz1, nz2, nz3]
    refine lvw 28 (.bool (decide ((((9223372036854775807 : Int) - (((UInt8.ofNat (by' s x6 + 256 - 0)).toNat : Nat) : Int)) / (256 : Int)) < ((x5 : Nat) : Int)))) rfl rfl (z_gtr ((x5 : Nat) : Int) (((9223372036854775807 : Int) - (((UInt8.ofNat (by' s x6 + 256 - 0)).toNat : Nat) : Int)) / (256 : Int)) rfl rfl rfl) ?_
    simp only [nz1, nz2, nz3]
    refine wpList_nil ?_
    refine then_n (hK24 _ _ ?_)
    refine cond_d ((((9223372036854775807 : Int) - (((UInt8.ofNat (by' s x6 + 256 - 0)).toNat : Nat) : Int)) / (256 : Int)) < ((x5 : Nat) : Int)) rfl (fun hc25 => ?_) (fun hc25 => ?_)
    · refine wp_seq_k (fun K26 hK26 => ?_)
      refine wp_region_lit ?_
      refine lvw 6 (.int .i64 0) rfl rfl (run_as rfl rfl) ?_
      simp only [nz1, nz2, nz3]
      refine lvw 7 (.int .i64 3) rfl rfl (run_as rfl rfl) ?_
      simp only [nz1, nz2, nz3]
      refine wpList_nil ?_
      refine then_n (hK26 _ _ ?_)
      refine wp_ret ?_
      refine then_r ?_
      refine blk_r ?_
      refine then_r ?_
      refine then_r ?_
      refine blk_r ?_
      refine then_r ?_
      refine then_r ?_
      have he27 : nA_m_l0 s ((s.length - 0) + 1) (0, 0) = .inr (0, 3) := (hi9.trans (show nA_m_b0 s (nA_m_l0 s k8) x5 x6 = .inr (0, 3) from by unfold nA_m_b0; rw [if_pos hc20, if_pos hc25] <;> rfl))
      have he28 : nA_m s = (0, 3) := (show nA_m s = (0, 3) from by unfold nA_m; rw [he27] <;> rfl)
      exact ⟨rfl, .tuple #[.int .i64 0, .int .i64 3], res_tt rfl rfl rfl, ⟨by (rw [he28]; try rfl), hm14.below⟩⟩
    refine wp_skip ?_
    refine then_n (hK23 _ _ ?_)
    refine wp_region_lit ?_
    refine lvw 29 (.int .i64 ((x5 : Nat) : Int)) rfl rfl (run_mv rfl rfl) ?_
    simp only [nz1, nz2, nz3]
    refine lvw 30 (.int .i64 256) rfl rfl (run_mv rfl rfl) ?_
    simp only [nz1, nz2, nz3]
    refine lvw 31 (.int .i64 (((x5 * 256) : Nat) : Int)) rfl rfl (r_mul x5 256 (by have hq := ((UInt8.ofNat (by' s x6 + 256 - 0))).toNat_lt; show _ < 9223372036854775808; omega) rfl rfl rfl) ?_
    simp only [nz1, nz2, nz3]
    refine lvw 32 (.int .i64 (((UInt8.ofNat (by' s x6 + 256 - 0)).toNat : Nat) : Int)) rfl rfl (run_mv rfl rfl) ?_
    simp only [nz1, nz2, nz3]
    refine lvw 33 (.int .i64 ((((x5 * 256) + ((UInt8.ofNat (by' s x6 + 256 - 0)).toNat)) : Nat) : Int)) rfl rfl (r_add (x5 * 256) ((UInt8.ofNat (by' s x6 + 256 - 0)).toNat) (by have hq := ((UInt8.ofNat (by' s x6 + 256 - 0))).toNat_lt; show _ < 9223372036854775808; omega) rfl rfl rfl) ?_
    simp only [nz1, nz2, nz3]
    refine lvw 8 (.int .i64 ((((x5 * 256) + ((UInt8.ofNat (by' s x6 + 256 - 0)).toNat)) : Nat) : Int)) rfl rfl (run_as rfl rfl) ?_
    simp only [nz1, nz2, nz3]
    refine wpList_nil ?_
    refine blk_n ?_
    refine then_n (hK21 _ _ ?_)
    refine wp_region_lit ?_
    refine lvw 15 (.int .i64 ((x6 : Nat) : Int)) rfl rfl (run_mv rfl rfl) ?_
    simp only [nz1, nz2, nz3]
    refine lvw 16 (.int .i64 (((x6 + 1) : Nat) : Int)) rfl rfl (r_add x6 1 (show (x6 + 1) < 9223372036854775808 from by omega) rfl rfl rfl) ?_
    simp only [nz1, nz2, nz3]
    refine lvw 9 (.int .i64 (((x6 + 1) : Nat) : Int)) rfl rfl (run_as rfl rfl) ?_
    simp only [nz1, nz2, nz3]
    refine wpList_nil ?_
    refine then_n (hR15 _ _ _ ⟨k8, ((x5 * 256) + ((UInt8.ofNat (by' s x6 + 256 - 0)).toNat)), (x6 + 1), (fun qq => bif Nat.blt qq 24 then List.getD [u0 0, u0 1, .int .i64 (((UInt8.ofNat (by' s x6 + 256 - 0)).toNat : Nat) : Int), .int .i64 ((x6 : Nat) : Int), .string (tx s), .int .i64 ((s.length : Nat) : Int), .bool (decide (x6 < s.length)), .int .i64 ((x6 : Nat) : Int), .int .i64 (((x6 + 1) : Nat) : Int), .string (tx s), .int .i64 ((x6 : Nat) : Int), .int .u8 ((by' s x6 : Nat) : Int), .int .u8 0, .int .u8 (((UInt8.ofNat (by' s x6 + 256 - 0)).toNat : Nat) : Int), .int .i64 (((UInt8.ofNat (by' s x6 + 256 - 0)).toNat : Nat) : Int), .int .i64 ((x5 : Nat) : Int), .int .i64 (((UInt8.ofNat (by' s x6 + 256 - 0)).toNat : Nat) : Int), .int .i64 (((9223372036854775807 : Int) - (((UInt8.ofNat (by' s x6 + 256 - 0)).toNat : Nat) : Int))), .int .i64 256, .int .i64 ((((9223372036854775807 : Int) - (((UInt8.ofNat (by' s x6 + 256 - 0)).toNat : Nat) : Int)) / (256 : Int))), .bool (decide ((((9223372036854775807 : Int) - (((UInt8.ofNat (by' s x6 + 256 - 0)).toNat : Nat) : Int)) / (256 : Int)) < ((x5 : Nat) : Int))), .int .i64 ((x5 : Nat) : Int), .int .i64 256, .int .i64 (((x5 * 256) : Nat) : Int)] qq undef else List.getD [.int .i64 (((UInt8.ofNat (by' s x6 + 256 - 0)).toNat : Nat) : Int), .int .i64 ((((x5 * 256) + ((UInt8.ofNat (by' s x6 + 256 - 0)).toNat)) : Nat) : Int)] (qq - 24) undef), rfl, (by first | omega | (simp; omega) | (simp at *; omega)), (hi9.trans (show nA_m_b0 s (nA_m_l0 s k8) x5 x6 = nA_m_l0 s k8 (((x5 * 256) + ((UInt8.ofNat (by' s x6 + 256 - 0)).toNat)), (x6 + 1)) from by unfold nA_m_b0; rw [if_pos hc20, if_neg hc25] <;> rfl)), (by have hq := ((UInt8.ofNat (by' s x6 + 256 - 0))).toNat_lt; omega), rfl, hm14⟩ ?_)
    omega
  rintro _ w29 ⟨y10, y11, yu0, hx12, hnu, rfl, hm30⟩
  have hq31 : nA_m s = nA_m_k0 s y10 y11 := (show nA_m s = nA_m_k0 s y10 y11 from by unfold nA_m; rw [hx12] <;> rfl)
  refine then_n (hK3 _ _ ?_)
  refine wp_seq_k (fun K32 hK32 => ?_)
  refine wp_region_lit ?_
  refine lvw 34 (.int .i64 ((y10 : Nat) : Int)) rfl rfl (run_mv rfl rfl) ?_
  simp only [nz1, nz2, nz3]
  refine lvw 6 (.int .i64 ((y10 : Nat) : Int)) rfl rfl (run_as rfl rfl) ?_
  simp only [nz1, nz2, nz3]
  refine lvw 7 (.int .i64 0) rfl rfl (run_as rfl rfl) ?_
  simp only [nz1, nz2, nz3]
  refine wpList_nil ?_
  refine then_n (hK32 _ _ ?_)
  refine wp_ret ?_
  have he33 : nA_m s = (((y10 : Nat) : Int), 0) := (hq31.trans (show nA_m_k0 s y10 y11 = (((y10 : Nat) : Int), 0) from by unfold nA_m_k0; rfl))
  exact ⟨rfl, .tuple #[.int .i64 ((y10 : Nat) : Int), .int .i64 0], res_tt rfl rfl rfl, ⟨by (rw [he33]; try rfl), hm30.below⟩⟩
def nB_m_b0 (s : List UInt8) (rec : Nat × Nat → Sum (Nat × Nat) (Int × Int)) (x5 : Nat) (x6 : Nat) : Sum (Nat × Nat) (Int × Int) :=
  if x6 < s.length then
    if (((9223372036854775807 : Int) - (((UInt8.ofNat (by' s x6 + 256 - 48)).toNat : Nat) : Int)) / (8 : Int)) < ((x5 : Nat) : Int) then
      .inr (0, 3)
    else
      rec (((x5 * 8) + ((UInt8.ofNat (by' s x6 + 256 - 48)).toNat)), (x6 + 1))
  else
    .inl (x5, x6)
def nB_m_l0 (s : List UInt8) : Nat → Nat × Nat → Sum (Nat × Nat) (Int × Int)
  | 0, zz => .inl zz
  | nq + 1, zz => nB_m_b0 s (nB_m_l0 s nq) zz.1 zz.2

def nB_m_k0 (s : List UInt8) (y10 : Nat) (y11 : Nat) : Int × Int :=
  (((y10 : Nat) : Int), 0)

def nB_m (s : List UInt8) : Int × Int :=
  fin (nB_m_l0 s ((s.length - 0) + 1) (0, 0)) (fun r => r) (fun zz => nB_m_k0 s zz.1 zz.2)

set_option maxHeartbeats 4000000 in
set_option maxRecDepth 100000 in
theorem nB_any (s : List UInt8) (w : World)  (hp0 : s.length ≤ 1048576) : Calls Tryd.prog 53 #[.string (tx s), .int .i64 8, .int .u8 48] w (fun e w' => e = .returned (.tuple #[.int .i64 ((nB_m s).1), .int .i64 ((nB_m s).2)]) ∧ Below w.heap.size w w') := by
  go_enter Tryd.func53, Tryd.ntmps53
  have hm00 := Mm.nil none (fun _ => True) w
  have hm0 := hm00
  refine wp_seq_k (fun K1 hK1 => ?_)
  refine wp_region_lit ?_
  refine lvw 6 (.int .i64 0) rfl rfl (run_as rfl rfl) ?_
  simp only [nz1, nz2, nz3]
  refine lvw 7 (.int .i64 0) rfl rfl (run_as rfl rfl) ?_
  simp only [nz1, nz2, nz3]
  refine wpList_nil ?_
  refine then_n (hK1 _ _ ?_)
  refine wp_seq_k (fun K2 hK2 => ?_)
  refine wp_region_lit ?_
  refine lvw 8 (.int .i64 0) rfl rfl (run_as rfl rfl) ?_
  simp only [nz1, nz2, nz3]
  refine wpList_nil ?_
  refine then_n (hK2 _ _ ?_)
  refine wp_seq_k (fun K3 hK3 => ?_)
  refine wp_seq_k (fun K4 hK4 => ?_)
  refine wp_region_lit ?_
  refine lvw 9 (.int .i64 0) rfl rfl (run_as rfl rfl) ?_
  simp only [nz1, nz2, nz3]
  refine wpList_nil ?_
  refine then_n (hK4 _ _ ?_)
  refine wp_cutK (fun a' w' => ∃ (y10 : Nat) (y11 : Nat) (yu0 : Nat → Value), nB_m_l0 s ((s.length - 0) + 1) (0, 0) = .inl (y10, y11) ∧ (0 ≤ y10 ∧ y10 ≤ 9223372036854775807) ∧ a' = ⟨#[.string (tx s), .int .i64 8, .int .u8 48, undef, undef, undef, yu0 0, yu0 1, .int .i64 ((y10 : Nat) : Int), .int .i64 ((y11 : Nat) : Int), yu0 2, yu0 3, yu0 4, yu0 5, yu0 6, yu0 7, yu0 8, yu0 9, yu0 10, yu0 11, yu0 12, yu0 13, yu0 14, yu0 15, yu0 16, yu0 17, yu0 18, yu0 19, yu0 20, yu0 21, yu0 22, yu0 23, yu0 24, yu0 25, undef], []⟩ ∧ Mm none (fun _ => True) w w' []) ?_ ?_
  · refine wp_block ?_
    refine wp_loop_n (fun n' a' w' => ∃ (n7 : Nat) (x5 : Nat) (x6 : Nat) (u0 : Nat → Value), n' = n7 ∧ (s.length - x6) < n7 ∧ nB_m_l0 s ((s.length - 0) + 1) (0, 0) = nB_m_l0 s n7 (x5, x6) ∧ (0 ≤ x5 ∧ x5 ≤ 9223372036854775807) ∧ a' = ⟨#[.string (tx s), .int .i64 8, .int .u8 48, undef, undef, undef, u0 0, u0 1, .int .i64 ((x5 : Nat) : Int), .int .i64 ((x6 : Nat) : Int), u0 2, u0 3, u0 4, u0 5, u0 6, u0 7, u0 8, u0 9, u0 10, u0 11, u0 12, u0 13, u0 14, u0 15, u0 16, u0 17, u0 18, u0 19, u0 20, u0 21, u0 22, u0 23, u0 24, u0 25, undef], []⟩ ∧ Mm none (fun _ => True) w w' []) ⟨((s.length - 0) + 1), 0, 0, (fun qq => bif Nat.blt qq 24 then List.getD [.int .i64 0, .int .i64 0, undef, undef, undef, undef, undef, undef, undef, undef, undef, undef, undef, undef, undef, undef, undef, undef, undef, undef, undef, undef, undef, undef] qq undef else List.getD [undef, undef] (qq - 24) undef), rfl, Nat.lt_succ_self _, rfl, (by first | omega | (simp; done) | (simp; omega) | (simp at *; omega)), rfl, hm0⟩ ?_
    rintro n7 _ w13 ⟨_, x5, x6, u0, rfl, hl17, hi9, hnu, rfl, hm14⟩ R15 hR15
    obtain ⟨k8, rfl⟩ : ∃ k, n7 = k + 1 := ⟨n7 - 1, by omega⟩
    refine wp_seq_k (fun K18 hK18 => ?_)
    refine wp_seq_k (fun K19 hK19 => ?_)
    refine wp_region_lit ?_
    refine lvw 11 (.int .i64 ((x6 : Nat) : Int)) rfl rfl (run_mv rfl rfl) ?_
    simp only [nz1, nz2, nz3]
    refine lvw 12 (.string (tx s)) rfl rfl (run_mv rfl rfl) ?_
    simp only [nz1, nz2, nz3]
    refine lvw 13 (.int .i64 ((s.length : Nat) : Int)) rfl rfl (t_len rfl Tryd.underlying9 rfl) ?_
    simp only [nz1, nz2, nz3]
    refine lvw 14 (.bool (decide (x6 < s.length))) rfl rfl (r_lss x6 s.length rfl rfl rfl) ?_
    simp only [nz1, nz2, nz3]
    refine wpList_nil ?_
    refine then_n (hK19 _ _ ?_)
    refine cond_d (x6 < s.length) rfl (fun hc20 => ?_) (fun hc20 => ?_)
    rotate_left
    · refine wp_exit ?_
      refine then_x ?_
      refine then_x ?_
      refine blk_x ?_
      refine then_n ?_
      exact ⟨x5, x6, (fun qq => bif Nat.blt qq 24 then List.getD [u0 0, u0 1, u0 2, .int .i64 ((x6 : Nat) : Int), .string (tx s), .int .i64 ((s.length : Nat) : Int), .bool (decide (x6 < s.length)), u0 7, u0 8, u0 9, u0 10, u0 11, u0 12, u0 13, u0 14, u0 15, u0 16, u0 17, u0 18, u0 19, u0 20, u0 21, u0 22, u0 23] qq undef else List.getD [u0 24, u0 25] (qq - 24) undef), (hi9.trans (show nB_m_b0 s (nB_m_l0 s k8) x5 x6 = .inl (x5, x6) from by unfold nB_m_b0; rw [if_neg hc20] <;> rfl)), (by first | omega | (simp; done) | (simp; omega) | (simp at *; omega)), rfl, hm14⟩
    refine wp_skip ?_
    refine then_n (hK18 _ _ ?_)
    refine wp_seq_k (fun K21 hK21 => ?_)
    refine wp_block ?_
    refine wp_seq_k (fun K22 hK22 => ?_)
    refine wp_region_lit ?_
    refine lvw 17 (.string (tx s)) rfl rfl (run_mv rfl rfl) ?_
    simp only [nz1, nz2, nz3]
    refine lvw 18 (.int .i64 ((x6 : Nat) : Int)) rfl rfl (run_mv rfl rfl) ?_
    simp only [nz1, nz2, nz3]
    refine lvw 19 (.int .u8 ((by' s x6 : Nat) : Int)) rfl rfl (t_char s x6 (by omega) Tryd.underlying9 rfl rfl rfl) ?_
    simp only [nz1, nz2, nz3]
    refine lvw 20 (.int .u8 48) rfl rfl (run_mv rfl rfl) ?_
    simp only [nz1, nz2, nz3]
    refine lvw 21 (.int .u8 (((UInt8.ofNat (by' s x6 + 256 - 48)).toNat : Nat) : Int)) rfl rfl (u_sub (by' s x6) 48 (by have := by_lt; omega) rfl rfl rfl) ?_
    simp only [nz1, nz2, nz3]
    refine lvw 22 (.int .i64 (((UInt8.ofNat (by' s x6 + 256 - 48)).toNat : Nat) : Int)) rfl rfl (r_conv (k' := .i64) ((UInt8.ofNat (by' s x6 + 256 - 48)).toNat) ((UInt8.ofNat (by' s x6 + 256 - 48)).toNat) some_5 Tryd.underlying3 (wrap_nat (by have := (UInt8.ofNat (by' s x6 + 256 - 48)).toNat_lt; show _ < 9223372036854775808; omega)) rfl rfl) ?_
    simp only [nz1, nz2, nz3]
    refine lvw 10 (.int .i64 (((UInt8.ofNat (by' s x6 + 256 - 48)).toNat : Nat) : Int)) rfl rfl (run_as rfl rfl) ?_
    simp only [nz1, nz2, nz3]
    refine wpList_nil ?_
    refine then_n (hK22 _ _ ?_)
    refine wp_seq_k (fun K23 hK23 => ?_)
    refine wp_seq_k (fun K24 hK24 => ?_)
    refine wp_region_lit ?_
    refine lvw 23 (.int .i64 ((x5 : Nat) : Int)) rfl rfl (run_mv rfl rfl) ?_
    simp only [nz1, nz2, nz3]
    refine lvw 24 (.int .i64 (((UInt8.ofNat (by' s x6 + 256 - 48)).toNat : Nat) : Int)) rfl rfl (run_mv rfl rfl) ?_
    simp only [nz1, nz2, nz3]
    refine lvw 25 (.int .i64 (((9223372036854775807 : Int) - (((UInt8.ofNat (by' s x6 + 256 - 48)).toNat : Nat) : Int)))) rfl rfl (z_sub (9223372036854775807 : Int) (((UInt8.ofNat (by' s x6 + 256 - 48)).toNat : Nat) : Int) _ (by have hq := ((UInt8.ofNat (by' s x6 + 256 - 48))).toNat_lt; rw [IntKind.wrap_i64]; omega) rfl rfl rfl) ?_
    simp only [nz1, nz2, nz3]
    refine lvw 26 (.int .i64 8) rfl rfl (run_mv rfl rfl) ?_
    simp only [nz1, nz2, nz3]
    refine lvw 27 (.int .i64 ((((9223372036854775807 : Int) - (((UInt8.ofNat (by' s x6 + 256 - 48)).toNat : Nat) : Int)) / (8 : Int)))) rfl rfl (z_quo ((9223372036854775807 : Int) - (((UInt8.ofNat (by' s x6 + 256 - 48)).toNat : Nat) : Int)) (8 : Int) (((9223372036854775807 : Int) - (((UInt8.ofNat (by' s x6 + 256 - 48)).toNat : Nat) : Int)) / (8 : Int)) (by omega) (by have hq := ((UInt8.ofNat (by' s x6 + 256 - 48))).toNat_lt; rw [IntKind.wrap_i64, Int.tdiv_eq_ediv_of_nonneg (by omega)]; omega) rfl rfl rfl) ?_
    simp only [nz1, nz2, nz3]
    refine lvw 28 (.bool (decide ((((9223372036854775807 : Int) - (((UInt8.ofNat (by' s x6 + 256 - 48)).toNat : Nat) : Int)) / (8 : Int)) < ((x5 : Nat) : Int)))) rfl rfl (z_gtr ((x5 : Nat) : Int) (((9223372036854775807 : Int) - (((UInt8.ofNat (by' s x6 + 256 - 48)).toNat : Nat) : Int)) / (8 : Int)) rfl rfl rfl) ?_
    simp only [nz1, nz2, nz3]
    refine wpList_nil ?_
    refine then_n (hK24 _ _ ?_)
    refine cond_d ((((9223372036854775807 : Int) - (((UInt8.ofNat (by' s x6 + 256 - 48)).toNat : Nat) : Int)) / (8 : Int)) < ((x5 : Nat) : Int)) rfl (fun hc25 => ?_) (fun hc25 => ?_)
    · refine wp_seq_k (fun K26 hK26 => ?_)
      refine wp_region_lit ?_
      refine lvw 6 (.int .i64 0) rfl rfl (run_as rfl rfl) ?_
      simp only [nz1, nz2, nz3]
      refine lvw 7 (.int .i64 3) rfl rfl (run_as rfl rfl) ?_
      simp only [nz1, nz2, nz3]
      refine wpList_nil ?_
      refine then_n (hK26 _ _ ?_)
      refine wp_ret ?_
      refine then_r ?_
      refine blk_r ?_
      refine then_r ?_
      refine then_r ?_
      refine blk_r ?_
      refine then_r ?_
      refine then_r ?_
      have he27 : nB_m_l0 s ((s.length - 0) + 1) (0, 0) = .inr (0, 3) := (hi9.trans (show nB_m_b0 s (nB_m_l0 s k8) x5 x6 = .inr (0, 3) from by unfold nB_m_b0; rw [if_pos hc20, if_pos hc25] <;> rfl))
      have he28 : nB_m s = (0, 3) := (show nB_m s = (0, 3) from by unfold nB_m; rw [he27] <;> rfl)
      exact ⟨rfl, .tuple #[.int .i64 0, .int .i64 3], res_tt rfl rfl rfl, ⟨by (rw [he28]; try rfl), hm14.below⟩⟩
    refine wp_skip ?_
    refine then_n (hK23 _ _ ?_)
    refine wp_region_lit ?_
    refine lvw 29 (.int .i64 ((x5 : Nat) : Int)) rfl rfl (run_mv rfl rfl) ?_
    simp only [nz1, nz2, nz3]
    refine lvw 30 (.int .i64 8) rfl rfl (run_mv rfl rfl) ?_
    simp only [nz1, nz2, nz3]
    refine lvw 31 (.int .i64 (((x5 * 8) : Nat) : Int)) rfl rfl (r_mul x5 8 (by have hq := ((UInt8.ofNat (by' s x6 + 256 - 48))).toNat_lt; show _ < 9223372036854775808; omega) rfl rfl rfl) ?_
    simp only [nz1, nz2, nz3]
    refine lvw 32 (.int .i64 (((UInt8.ofNat (by' s x6 + 256 - 48)).toNat : Nat) : Int)) rfl rfl (run_mv rfl rfl) ?_
    simp only [nz1, nz2, nz3]
    refine lvw 33 (.int .i64 ((((x5 * 8) + ((UInt8.ofNat (by' s x6 + 256 - 48)).toNat)) : Nat) : Int)) rfl rfl (r_add (x5 * 8) ((UInt8.ofNat (by' s x6 + 256 - 48)).toNat) (by have hq := ((UInt8.ofNat (by' s x6 + 256 - 48))).toNat_lt; show _ < 9223372036854775808; omega) rfl rfl rfl) ?_
    simp only [nz1, nz2, nz3]
    refine lvw 8 (.int .i64 ((((x5 * 8) + ((UInt8.ofNat (by' s x6 + 256 - 48)).toNat)) : Nat) : Int)) rfl rfl (run_as rfl rfl) ?_
    simp only [nz1, nz2, nz3]
    refine wpList_nil ?_
    refine blk_n ?_
    refine then_n (hK21 _ _ ?_)
    refine wp_region_lit ?_
    refine lvw 15 (.int .i64 ((x6 : Nat) : Int)) rfl rfl (run_mv rfl rfl) ?_
    simp only [nz1, nz2, nz3]
    refine lvw 16 (.int .i64 (((x6 + 1) : Nat) : Int)) rfl rfl (r_add x6 1 (show (x6 + 1) < 9223372036854775808 from by omega) rfl rfl rfl) ?_
    simp only [nz1, nz2, nz3]
    refine lvw 9 (.int .i64 (((x6 + 1) : Nat) : Int)) rfl rfl (run_as rfl rfl) ?_
    simp only [nz1, nz2, nz3]
    refine wpList_nil ?_
    refine then_n (hR15 _ _ _ ⟨k8, ((x5 * 8) + ((UInt8.ofNat (by' s x6 + 256 - 48)).toNat)), (x6 + 1), (fun qq => bif Nat.blt qq 24 then List.getD [u0 0, u0 1, .int .i64 (((UInt8.ofNat (by' s x6 + 256 - 48)).toNat : Nat) : Int), .int .i64 ((x6 : Nat) : Int), .string (tx s), .int .i64 ((s.length : Nat) : Int), .bool (decide (x6 < s.length)), .int .i64 ((x6 : Nat) : Int), .int .i64 (((x6 + 1) : Nat) : Int), .string (tx s), .int .i64 ((x6 : Nat) : Int), .int .u8 ((by' s x6 : Nat) : Int), .int .u8 48, .int .u8 (((UInt8.ofNat (by' s x6 + 256 - 48)).toNat : Nat) : Int), .int .i64 (((UInt8.ofNat (by' s x6 + 256 - 48)).toNat : Nat) : Int), .int .i64 ((x5 : Nat) : Int), .int .i64 (((UInt8.ofNat (by' s x6 + 256 - 48)).toNat : Nat) : Int), .int .i64 (((9223372036854775807 : Int) - (((UInt8.ofNat (by' s x6 + 256 - 48)).toNat : Nat) : Int))), .int .i64 8, .int .i64 ((((9223372036854775807 : Int) - (((UInt8.ofNat (by' s x6 + 256 - 48)).toNat : Nat) : Int)) / (8 : Int))), .bool (decide ((((9223372036854775807 : Int) - (((UInt8.ofNat (by' s x6 + 256 - 48)).toNat : Nat) : Int)) / (8 : Int)) < ((x5 : Nat) : Int))), .int .i64 ((x5 : Nat) : Int), .int .i64 8, .int .i64 (((x5 * 8) : Nat) : Int)] qq undef else List.getD [.int .i64 (((UInt8.ofNat (by' s x6 + 256 - 48)).toNat : Nat) : Int), .int .i64 ((((x5 * 8) + ((UInt8.ofNat (by' s x6 + 256 - 48)).toNat)) : Nat) : Int)] (qq - 24) undef), rfl, (by first | omega | (simp; omega) | (simp at *; omega)), (hi9.trans (show nB_m_b0 s (nB_m_l0 s k8) x5 x6 = nB_m_l0 s k8 (((x5 * 8) + ((UInt8.ofNat (by' s x6 + 256 - 48)).toNat)), (x6 + 1)) from by unfold nB_m_b0; rw [if_pos hc20, if_neg hc25] <;> rfl)), (by have hq := ((UInt8.ofNat (by' s x6 + 256 - 48))).toNat_lt; omega), rfl, hm14⟩ ?_)
    omega
  rintro _ w29 ⟨y10, y11, yu0, hx12, hnu, rfl, hm30⟩
  have hq31 : nB_m s = nB_m_k0 s y10 y11 := (show nB_m s = nB_m_k0 s y10 y11 from by unfold nB_m; rw [hx12] <;> rfl)
  refine then_n (hK3 _ _ ?_)
  refine wp_seq_k (fun K32 hK32 => ?_)
  refine wp_region_lit ?_
  refine lvw 34 (.int .i64 ((y10 : Nat) : Int)) rfl rfl (run_mv rfl rfl) ?_
  simp only [nz1, nz2, nz3]
  refine lvw 6 (.int .i64 ((y10 : Nat) : Int)) rfl rfl (run_as rfl rfl) ?_
  simp only [nz1, nz2, nz3]
  refine lvw 7 (.int .i64 0) rfl rfl (run_as rfl rfl) ?_
  simp only [nz1, nz2, nz3]
  refine wpList_nil ?_
  refine then_n (hK32 _ _ ?_)
  refine wp_ret ?_
  have he33 : nB_m s = (((y10 : Nat) : Int), 0) := (hq31.trans (show nB_m_k0 s y10 y11 = (((y10 : Nat) : Int), 0) from by unfold nB_m_k0; rfl))
  exact ⟨rfl, .tuple #[.int .i64 ((y10 : Nat) : Int), .int .i64 0], res_tt rfl rfl rfl, ⟨by (rw [he33]; try rfl), hm30.below⟩⟩
theorem run_num {o : Oper} {a : Act} {w : World} {x0 x1 x2 : Operand} {v0 v1 v2 : Value} (ho : o.op = .call { callee := .value (.func 53), args := #[x0, x1, x2], argTypes := #[9, 3, 5] }) (h0 : a.eval x0 = v0) (h1 : a.eval x1 = v1) (h2 : a.eval x2 = v2) :
    (execOp a.eval o).run Tryd.prog w = .ok (.enter 53 #[v0, v1, v2]) w := by
  unfold execOp
  simp only [ho]
  have hf : a.eval (.func 53) = .func (.func 53) #[] #[] := rfl
  generalize a.eval = f at *
  go_simp
def nothing_m_b0 (s : List UInt8) (rec : Nat → Sum (Nat) (Bool)) (x4 : Nat) : Sum (Nat) (Bool) :=
  if x4 < s.length then
    if ¬ by' s x4 = 32 then
      if ¬ by' s x4 = 0 then
        .inr false
      else
        rec (x4 + 1)
    else
      rec (x4 + 1)
  else
    .inl x4
def nothing_m_l0 (s : List UInt8) : Nat → Nat → Sum (Nat) (Bool)
  | 0, zz => .inl zz
  | nq + 1, zz => nothing_m_b0 s (nothing_m_l0 s nq) zz

def nothing_m_k0 (s : List UInt8) (y8 : Nat) : Bool :=
  true

def nothing_m (s : List UInt8) : Bool :=
  fin (nothing_m_l0 s ((s.length - 0) + 1) 0) (fun r => r) (fun zz => nothing_m_k0 s zz)

set_option maxHeartbeats 4000000 in
set_option maxRecDepth 100000 in
theorem nothing_any (s : List UInt8) (w : World)  (hp0 : s.length ≤ 1048576) : Calls Tryd.prog 54 #[.string (tx s)] w (fun e w' => e = .returned (.bool ((nothing_m s))) ∧ Below w.heap.size w w') := by
  go_enter Tryd.func54, Tryd.ntmps54
  have hm00 := Mm.nil none (fun _ => True) w
  have hm0 := hm00
  refine wp_seq_k (fun K1 hK1 => ?_)
  refine wp_region_lit ?_
  refine lvw 2 (.bool false) rfl rfl (run_as rfl rfl) ?_
  simp only [nz1, nz2, nz3]
  refine wpList_nil ?_
  refine then_n (hK1 _ _ ?_)
  refine wp_seq_k (fun K2 hK2 => ?_)
  refine wp_seq_k (fun K3 hK3 => ?_)
  refine wp_region_lit ?_
  refine lvw 3 (.int .i64 0) rfl rfl (run_as rfl rfl) ?_
  simp only [nz1, nz2, nz3]
  refine wpList_nil ?_
  refine then_n (hK3 _ _ ?_)
  refine wp_cutK (fun a' w' => ∃ (y8 : Nat) (yu0 : Nat → Value), nothing_m_l0 s ((s.length - 0) + 1) 0 = .inl y8 ∧ a' = ⟨#[.string (tx s), undef, yu0 0, .int .i64 ((y8 : Nat) : Int), yu0 1, yu0 2, yu0 3, yu0 4, yu0 5, yu0 6, yu0 7, yu0 8, yu0 9, yu0 10, yu0 11, yu0 12, yu0 13, yu0 14, yu0 15, yu0 16], []⟩ ∧ Mm none (fun _ => True) w w' []) ?_ ?_
  · refine wp_block ?_
    refine wp_loop_n (fun n' a' w' => ∃ (n5 : Nat) (x4 : Nat) (u0 : Nat → Value), n' = n5 ∧ (s.length - x4) < n5 ∧ nothing_m_l0 s ((s.length - 0) + 1) 0 = nothing_m_l0 s n5 x4 ∧ a' = ⟨#[.string (tx s), undef, u0 0, .int .i64 ((x4 : Nat) : Int), u0 1, u0 2, u0 3, u0 4, u0 5, u0 6, u0 7, u0 8, u0 9, u0 10, u0 11, u0 12, u0 13, u0 14, u0 15, u0 16], []⟩ ∧ Mm none (fun _ => True) w w' []) ⟨((s.length - 0) + 1), 0, (fun qq => List.getD [.bool false, undef, undef, undef, undef, undef, undef, undef, undef, undef, undef, undef, undef, undef, undef, undef, undef] qq undef), rfl, Nat.lt_succ_self _, rfl, rfl, hm0⟩ ?_
    rintro n5 _ w10 ⟨_, x4, u0, rfl, hl14, hi7, rfl, hm11⟩ R12 hR12
    obtain ⟨k6, rfl⟩ : ∃ k, n5 = k + 1 := ⟨n5 - 1, by omega⟩
    refine wp_seq_k (fun K15 hK15 => ?_)
    refine wp_seq_k (fun K16 hK16 => ?_)
    refine wp_region_lit ?_
    refine lvw 4 (.int .i64 ((x4 : Nat) : Int)) rfl rfl (run_mv rfl rfl) ?_
    simp only [nz1, nz2, nz3]
    refine lvw 5 (.string (tx s)) rfl rfl (run_mv rfl rfl) ?_
    simp only [nz1, nz2, nz3]
    refine lvw 6 (.int .i64 ((s.length : Nat) : Int)) rfl rfl (t_len rfl Tryd.underlying9 rfl) ?_
    simp only [nz1, nz2, nz3]
    refine lvw 7 (.bool (decide (x4 < s.length))) rfl rfl (r_lss x4 s.length rfl rfl rfl) ?_
    simp only [nz1, nz2, nz3]
    refine wpList_nil ?_
    refine then_n (hK16 _ _ ?_)
    refine cond_d (x4 < s.length) rfl (fun hc17 => ?_) (fun hc17 => ?_)
    rotate_left
    · refine wp_exit ?_
      refine then_x ?_
      refine then_x ?_
      refine blk_x ?_
      refine then_n ?_
      exact ⟨x4, (fun qq => List.getD [u0 0, .int .i64 ((x4 : Nat) : Int), .string (tx s), .int .i64 ((s.length : Nat) : Int), .bool (decide (x4 < s.length)), u0 5, u0 6, u0 7, u0 8, u0 9, u0 10, u0 11, u0 12, u0 13, u0 14, u0 15, u0 16] qq undef), (hi7.trans (show nothing_m_b0 s (nothing_m_l0 s k6) x4 = .inl x4 from by unfold nothing_m_b0; rw [if_neg hc17] <;> rfl)), rfl, hm11⟩
    refine wp_skip ?_
    refine then_n (hK15 _ _ ?_)
    refine wp_seq_k (fun K18 hK18 => ?_)
    refine wp_block ?_
    refine wp_seq_k (fun K19 hK19 => ?_)
    refine wp_region_lit ?_
    refine lvw 10 (.string (tx s)) rfl rfl (run_mv rfl rfl) ?_
    simp only [nz1, nz2, nz3]
    refine lvw 11 (.int .i64 ((x4 : Nat) : Int)) rfl rfl (run_mv rfl rfl) ?_
    simp only [nz1, nz2, nz3]
    refine lvw 12 (.int .u8 ((by' s x4 : Nat) : Int)) rfl rfl (t_char s x4 (by omega) Tryd.underlying9 rfl rfl rfl) ?_
    simp only [nz1, nz2, nz3]
    refine lvb 13 (¬ by' s x4 = 32) rfl rfl (r_neq (by' s x4) 32 rfl rfl rfl) (fun hs20 => ?_) (fun hs20 => ?_)
    rotate_left
    · simp only [nz1, nz2, nz3]
      refine lvw 14 (.bool false) rfl rfl (run_mv rfl rfl) ?_
      simp only [nz1, nz2, nz3]
      refine lst_skip 15 rfl rfl ?_
      simp only [nz1, nz2, nz3]
      refine lst_skip 16 rfl rfl ?_
      simp only [nz1, nz2, nz3]
      refine lst_skip 17 rfl rfl ?_
      simp only [nz1, nz2, nz3]
      refine lst_skip 18 rfl rfl ?_
      simp only [nz1, nz2, nz3]
      refine lvw 19 (.bool false) rfl rfl (run_pickf rfl rfl rfl) ?_
      simp only [nz1, nz2, nz3]
      refine wpList_nil ?_
      refine then_n (hK19 _ _ ?_)
      refine cond_f rfl ?_
      refine wp_skip ?_
      refine blk_n ?_
      refine then_n (hK18 _ _ ?_)
      refine wp_region_lit ?_
      refine lvw 8 (.int .i64 ((x4 : Nat) : Int)) rfl rfl (run_mv rfl rfl) ?_
      simp only [nz1, nz2, nz3]
      refine lvw 9 (.int .i64 (((x4 + 1) : Nat) : Int)) rfl rfl (r_add x4 1 (show (x4 + 1) < 9223372036854775808 from by omega) rfl rfl rfl) ?_
      simp only [nz1, nz2, nz3]
      refine lvw 3 (.int .i64 (((x4 + 1) : Nat) : Int)) rfl rfl (run_as rfl rfl) ?_
      simp only [nz1, nz2, nz3]
      refine wpList_nil ?_
      refine then_n (hR12 _ _ _ ⟨k6, (x4 + 1), (fun qq => List.getD [u0 0, .int .i64 ((x4 : Nat) : Int), .string (tx s), .int .i64 ((s.length : Nat) : Int), .bool (decide (x4 < s.length)), .int .i64 ((x4 : Nat) : Int), .int .i64 (((x4 + 1) : Nat) : Int), .string (tx s), .int .i64 ((x4 : Nat) : Int), .int .u8 ((by' s x4 : Nat) : Int), .bool false, .bool false, undef, undef, undef, undef, .bool false] qq undef), rfl, (by first | omega | (simp; omega) | (simp at *; omega)), (hi7.trans (show nothing_m_b0 s (nothing_m_l0 s k6) x4 = nothing_m_l0 s k6 (x4 + 1) from by unfold nothing_m_b0; rw [if_pos hc17, if_neg hs20] <;> rfl)), rfl, hm11⟩ ?_)
      omega
    simp only [nz1, nz2, nz3]
    refine lvw 14 (.bool true) rfl rfl (run_mv rfl rfl) ?_
    simp only [nz1, nz2, nz3]
    refine lvw 15 (.string (tx s)) rfl rfl (run_mv rfl rfl) ?_
    simp only [nz1, nz2, nz3]
    refine lvw 16 (.int .i64 ((x4 : Nat) : Int)) rfl rfl (run_mv rfl rfl) ?_
    simp only [nz1, nz2, nz3]
    refine lvw 17 (.int .u8 ((by' s x4 : Nat) : Int)) rfl rfl (t_char s x4 (by omega) Tryd.underlying9 rfl rfl rfl) ?_
    simp only [nz1, nz2, nz3]
    refine lvw 18 (.bool (decide (¬ by' s x4 = 0))) rfl rfl (r_neq (by' s x4) 0 rfl rfl rfl) ?_
    simp only [nz1, nz2, nz3]
    refine lvw 19 (.bool (decide (¬ by' s x4 = 0))) rfl rfl (run_pick rfl rfl rfl) ?_
    simp only [nz1, nz2, nz3]
    refine wpList_nil ?_
    refine then_n (hK19 _ _ ?_)
    refine cond_d (¬ by' s x4 = 0) rfl (fun hc21 => ?_) (fun hc21 => ?_)
    rotate_left
    · refine wp_skip ?_
      refine blk_n ?_
      refine then_n (hK18 _ _ ?_)
      refine wp_region_lit ?_
      refine lvw 8 (.int .i64 ((x4 : Nat) : Int)) rfl rfl (run_mv rfl rfl) ?_
      simp only [nz1, nz2, nz3]
      refine lvw 9 (.int .i64 (((x4 + 1) : Nat) : Int)) rfl rfl (r_add x4 1 (show (x4 + 1) < 9223372036854775808 from by omega) rfl rfl rfl) ?_
      simp only [nz1, nz2, nz3]
      refine lvw 3 (.int .i64 (((x4 + 1) : Nat) : Int)) rfl rfl (run_as rfl rfl) ?_
      simp only [nz1, nz2, nz3]
      refine wpList_nil ?_
      refine then_n (hR12 _ _ _ ⟨k6, (x4 + 1), (fun qq => List.getD [u0 0, .int .i64 ((x4 : Nat) : Int), .string (tx s), .int .i64 ((s.length : Nat) : Int), .bool (decide (x4 < s.length)), .int .i64 ((x4 : Nat) : Int), .int .i64 (((x4 + 1) : Nat) : Int), .string (tx s), .int .i64 ((x4 : Nat) : Int), .int .u8 ((by' s x4 : Nat) : Int), .bool true, .bool true, .string (tx s), .int .i64 ((x4 : Nat) : Int), .int .u8 ((by' s x4 : Nat) : Int), .bool (decide (¬ by' s x4 = 0)), .bool (decide (¬ by' s x4 = 0))] qq undef), rfl, (by first | omega | (simp; omega) | (simp at *; omega)), (hi7.trans (show nothing_m_b0 s (nothing_m_l0 s k6) x4 = nothing_m_l0 s k6 (x4 + 1) from by unfold nothing_m_b0; rw [if_pos hc17, if_pos hs20, if_neg hc21] <;> rfl)), rfl, hm11⟩ ?_)
      omega
    refine wp_seq_k (fun K22 hK22 => ?_)
    refine wp_region_lit ?_
    refine lvw 2 (.bool false) rfl rfl (run_as rfl rfl) ?_
    simp only [nz1, nz2, nz3]
    refine wpList_nil ?_
    refine then_n (hK22 _ _ ?_)
    refine wp_ret ?_
    refine blk_r ?_
    refine then_r ?_
    refine then_r ?_
    refine blk_r ?_
    refine then_r ?_
    refine then_r ?_
    have he23 : nothing_m_l0 s ((s.length - 0) + 1) 0 = .inr false := (hi7.trans (show nothing_m_b0 s (nothing_m_l0 s k6) x4 = .inr false from by unfold nothing_m_b0; rw [if_pos hc17, if_pos hs20, if_pos hc21] <;> rfl))
    have he24 : nothing_m s = false := (show nothing_m s = false from by unfold nothing_m; rw [he23] <;> rfl)
    exact ⟨rfl, .bool false, res_t rfl rfl, ⟨by (rw [he24]; try rfl), hm11.below⟩⟩
  rintro _ w25 ⟨y8, yu0, hx9, rfl, hm26⟩
  have hq27 : nothing_m s = nothing_m_k0 s y8 := (show nothing_m s = nothing_m_k0 s y8 from by unfold nothing_m; rw [hx9] <;> rfl)
  refine then_n (hK2 _ _ ?_)
  refine wp_seq_k (fun K28 hK28 => ?_)
  refine wp_region_lit ?_
  refine lvw 2 (.bool true) rfl rfl (run_as rfl rfl) ?_
  simp only [nz1, nz2, nz3]
  refine wpList_nil ?_
  refine then_n (hK28 _ _ ?_)
  refine wp_ret ?_
  have he29 : nothing_m s = true := (hq27.trans (show nothing_m_k0 s y8 = true from by unfold nothing_m_k0; rfl))
  exact ⟨rfl, .bool true, res_t rfl rfl, ⟨by (rw [he29]; try rfl), hm26.below⟩⟩
theorem run_nothing {o : Oper} {a : Act} {w : World} {x0 : Operand} {v0 : Value} (ho : o.op = .call { callee := .value (.func 54), args := #[x0], argTypes := #[9] }) (h0 : a.eval x0 = v0) :
    (execOp a.eval o).run Tryd.prog w = .ok (.enter 54 #[v0]) w := by
  unfold execOp
  simp only [ho]
  have hf : a.eval (.func 54) = .func (.func 54) #[] #[] := rfl
  generalize a.eval = f at *
  go_simp
def get_m_b0 (s : List UInt8) (rec : Nat → Sum (Nat) (Int × Int)) (x12 : Nat) : Sum (Nat) (Int × Int) :=
  if x12 < s.length then
    if by' s x12 = 32 then
      rec (x12 + 1)
    else
      .inl x12
  else
    .inl x12
def get_m_l0 (s : List UInt8) : Nat → Nat → Sum (Nat) (Int × Int)
  | 0, zz => .inl zz
  | nq + 1, zz => get_m_b0 s (get_m_l0 s nq) zz

def get_m_b1 (s : List UInt8) (y16 : Nat) (rec : Nat → Sum (Nat) (Int × Int)) (x32 : Nat) : Sum (Nat) (Int × Int) :=
  if x32 < s.length then
    if 48 ≤ by' s x32 then
      if by' s x32 ≤ 55 then
        rec (x32 + 1)
      else
        .inl x32
    else
      .inl x32
  else
    .inl x32
def get_m_l1 (s : List UInt8) (y16 : Nat) : Nat → Nat → Sum (Nat) (Int × Int)
  | 0, zz => .inl zz
  | nq + 1, zz => get_m_b1 s y16 (get_m_l1 s y16 nq) zz

def get_m_k1 (s : List UInt8) (y16 : Nat) (y36 : Nat) : Int × Int :=
  if ¬ (nB_m ((s.take y36).drop y16)).2 = 0 then
    (0, (nB_m ((s.take y36).drop y16)).2)
  else
    if y36 = y16 then
      (0, 2)
    else
      if (!(nothing_m (s.drop y36))) = true then
        (0, 2)
      else
        ((nB_m ((s.take y36).drop y16)).1, 0)

def get_m_k0 (s : List UInt8) (y16 : Nat) : Int × Int :=
  fin (get_m_l1 s y16 ((s.length - y16) + 1) y16) (fun r => r) (fun zz => get_m_k1 s y16 zz)

def get_m (s : List UInt8) : Int × Int :=
  if 0 < s.length then
    if by' s 0 = 128 then
      ((nA_m (s.drop 1)).1, (nA_m (s.drop 1)).2)
    else
      fin (get_m_l0 s ((s.length - 0) + 1) 0) (fun r => r) (fun zz => get_m_k0 s zz)
  else
    fin (get_m_l0 s ((s.length - 0) + 1) 0) (fun r => r) (fun zz => get_m_k0 s zz)

set_option maxHeartbeats 4000000 in
set_option maxRecDepth 100000 in
theorem get_any (s : List UInt8) (w : World)  (hp0 : s.length ≤ 1048576) : Calls Tryd.prog 41 #[.string (tx s)] w (fun e w' => e = .returned (.tuple #[.int .i64 ((get_m s).1), .int .i64 ((get_m s).2)]) ∧ Below w.heap.size w w') := by
  go_enter Tryd.func41, Tryd.ntmps41
  have hm00 := Mm.nil none (fun _ => True) w
  have hm0 := hm00
  refine wp_seq_k (fun K1 hK1 => ?_)
  refine wp_region_lit ?_
  refine lvw 2 (.int .i64 0) rfl rfl (run_as rfl rfl) ?_
  simp only [nz1, nz2, nz3]
  refine lvw 3 (.int .i64 0) rfl rfl (run_as rfl rfl) ?_
  simp only [nz1, nz2, nz3]
  refine wpList_nil ?_
  refine then_n (hK1 _ _ ?_)
  refine wp_seq_k (fun K2 hK2 => ?_)
  refine wp_seq_k (fun K3 hK3 => ?_)
  refine wp_region_lit ?_
  refine lvw 8 (.string (tx s)) rfl rfl (run_mv rfl rfl) ?_
  simp only [nz1, nz2, nz3]
  refine lvw 9 (.int .i64 ((s.length : Nat) : Int)) rfl rfl (t_len rfl Tryd.underlying9 rfl) ?_
  simp only [nz1, nz2, nz3]
  refine lvb 10 (0 < s.length) rfl rfl (r_gtr s.length 0 rfl rfl rfl) (fun hs4 => ?_) (fun hs4 => ?_)
  rotate_left
  · simp only [nz1, nz2, nz3]
    refine lvw 11 (.bool false) rfl rfl (run_mv rfl rfl) ?_
    simp only [nz1, nz2, nz3]
    refine lst_skip 12 rfl rfl ?_
    simp only [nz1, nz2, nz3]
    refine lst_skip 13 rfl rfl ?_
    simp only [nz1, nz2, nz3]
    refine lst_skip 14 rfl rfl ?_
    simp only [nz1, nz2, nz3]
    refine lvw 15 (.bool false) rfl rfl (run_pickf rfl rfl rfl) ?_
    simp only [nz1, nz2, nz3]
    refine wpList_nil ?_
    refine then_n (hK3 _ _ ?_)
    refine cond_f rfl ?_
    refine wp_skip ?_
    refine then_n (hK2 _ _ ?_)
    refine wp_seq_k (fun K71 hK71 => ?_)
    refine wp_region_lit ?_
    refine lvw 4 (.int .i64 0) rfl rfl (run_as rfl rfl) ?_
    simp only [nz1, nz2, nz3]
    refine wpList_nil ?_
    refine then_n (hK71 _ _ ?_)
    refine wp_seq_k (fun K72 hK72 => ?_)
    refine wp_cutK (fun a' w' => ∃ (y77 : Nat) (yu0 : Nat → Value), get_m_l0 s ((s.length - 0) + 1) 0 = .inl y77 ∧ (y77 ≤ s.length) ∧ a' = ⟨#[.string (tx s), undef, .int .i64 0, .int .i64 0, .int .i64 ((y77 : Nat) : Int), undef, undef, undef, .string (tx s), .int .i64 ((s.length : Nat) : Int), .bool false, .bool false, undef, undef, undef, .bool false, undef, undef, undef, undef, undef, yu0 0, yu0 1, yu0 2, yu0 3, yu0 4, yu0 5, yu0 6, yu0 7, yu0 8, yu0 9, yu0 10, yu0 11, undef, undef, undef, undef, undef, undef, undef, undef, undef, undef, undef, undef, undef, undef, undef, undef, undef, undef, undef, undef, undef, undef, undef, undef, undef, undef, undef, undef, undef, undef, undef, undef, undef, undef, undef, undef, undef, undef, undef, undef, undef], []⟩ ∧ Mm none (fun _ => True) w w' []) ?_ ?_
    · refine wp_block ?_
      refine wp_loop_n (fun n' a' w' => ∃ (n74 : Nat) (x73 : Nat) (u0 : Nat → Value), n' = n74 ∧ (s.length - x73) < n74 ∧ get_m_l0 s ((s.length - 0) + 1) 0 = get_m_l0 s n74 x73 ∧ (x73 ≤ s.length) ∧ a' = ⟨#[.string (tx s), undef, .int .i64 0, .int .i64 0, .int .i64 ((x73 : Nat) : Int), undef, undef, undef, .string (tx s), .int .i64 ((s.length : Nat) : Int), .bool false, .bool false, undef, undef, undef, .bool false, undef, undef, undef, undef, undef, u0 0, u0 1, u0 2, u0 3, u0 4, u0 5, u0 6, u0 7, u0 8, u0 9, u0 10, u0 11, undef, undef, undef, undef, undef, undef, undef, undef, undef, undef, undef, undef, undef, undef, undef, undef, undef, undef, undef, undef, undef, undef, undef, undef, undef, undef, undef, undef, undef, undef, undef, undef, undef, undef, undef, undef, undef, undef, undef, undef, undef], []⟩ ∧ Mm none (fun _ => True) w w' []) ⟨((s.length - 0) + 1), 0, (fun qq => List.getD [undef, undef, undef, undef, undef, undef, undef, undef, undef, undef, undef, undef] qq undef), rfl, Nat.lt_succ_self _, rfl, (by first | omega | (simp; done) | (simp; omega) | (simp at *; omega)), rfl, hm0⟩ ?_
      rintro n74 _ w79 ⟨_, x73, u0, rfl, hl83, hi76, hga, rfl, hm80⟩ R81 hR81
      obtain ⟨k75, rfl⟩ : ∃ k, n74 = k + 1 := ⟨n74 - 1, by omega⟩
      refine wp_seq_k (fun K84 hK84 => ?_)
      refine wp_seq_k (fun K85 hK85 => ?_)
      refine wp_region_lit ?_
      refine lvw 21 (.int .i64 ((x73 : Nat) : Int)) rfl rfl (run_mv rfl rfl) ?_
      simp only [nz1, nz2, nz3]
      refine lvw 22 (.string (tx s)) rfl rfl (run_mv rfl rfl) ?_
      simp only [nz1, nz2, nz3]
      refine lvw 23 (.int .i64 ((s.length : Nat) : Int)) rfl rfl (t_len rfl Tryd.underlying9 rfl) ?_
      simp only [nz1, nz2, nz3]
      refine lvb 24 (x73 < s.length) rfl rfl (r_lss x73 s.length rfl rfl rfl) (fun hs86 => ?_) (fun hs86 => ?_)
      rotate_left
      · simp only [nz1, nz2, nz3]
        refine lvw 25 (.bool false) rfl rfl (run_mv rfl rfl) ?_
        simp only [nz1, nz2, nz3]
        refine lst_skip 26 rfl rfl ?_
        simp only [nz1, nz2, nz3]
        refine lst_skip 27 rfl rfl ?_
        simp only [nz1, nz2, nz3]
        refine lst_skip 28 rfl rfl ?_
        simp only [nz1, nz2, nz3]
        refine lst_skip 29 rfl rfl ?_
        simp only [nz1, nz2, nz3]
        refine lvw 30 (.bool false) rfl rfl (run_pickf rfl rfl rfl) ?_
        simp only [nz1, nz2, nz3]
        refine wpList_nil ?_
        refine then_n (hK85 _ _ ?_)
        refine cond_f rfl ?_
        refine wp_exit ?_
        refine then_x ?_
        refine then_x ?_
        refine blk_x ?_
        refine then_n ?_
        exact ⟨x73, (fun qq => List.getD [.int .i64 ((x73 : Nat) : Int), .string (tx s), .int .i64 ((s.length : Nat) : Int), .bool false, .bool false, undef, undef, undef, undef, .bool false, u0 10, u0 11] qq undef), (hi76.trans (show get_m_b0 s (get_m_l0 s k75) x73 = .inl x73 from by unfold get_m_b0; rw [if_neg hs86] <;> rfl)), (by first | omega | (simp; done) | (simp; omega) | (simp at *; omega)), rfl, hm80⟩
      simp only [nz1, nz2, nz3]
      refine lvw 25 (.bool true) rfl rfl (run_mv rfl rfl) ?_
      simp only [nz1, nz2, nz3]
      refine lvw 26 (.string (tx s)) rfl rfl (run_mv rfl rfl) ?_
      simp only [nz1, nz2, nz3]
      refine lvw 27 (.int .i64 ((x73 : Nat) : Int)) rfl rfl (run_mv rfl rfl) ?_
      simp only [nz1, nz2, nz3]
      refine lvw 28 (.int .u8 ((by' s x73 : Nat) : Int)) rfl rfl (t_char s x73 (by omega) Tryd.underlying9 rfl rfl rfl) ?_
      simp only [nz1, nz2, nz3]
      refine lvw 29 (.bool (decide (by' s x73 = 32))) rfl rfl (r_eql (by' s x73) 32 rfl rfl rfl) ?_
      simp only [nz1, nz2, nz3]
      refine lvw 30 (.bool (decide (by' s x73 = 32))) rfl rfl (run_pick rfl rfl rfl) ?_
      simp only [nz1, nz2, nz3]
      refine wpList_nil ?_
      refine then_n (hK85 _ _ ?_)
      refine cond_d (by' s x73 = 32) rfl (fun hc87 => ?_) (fun hc87 => ?_)
      rotate_left
      · refine wp_exit ?_
        refine then_x ?_
        refine then_x ?_
        refine blk_x ?_
        refine then_n ?_
        exact ⟨x73, (fun qq => List.getD [.int .i64 ((x73 : Nat) : Int), .string (tx s), .int .i64 ((s.length : Nat) : Int), .bool true, .bool true, .string (tx s), .int .i64 ((x73 : Nat) : Int), .int .u8 ((by' s x73 : Nat) : Int), .bool (decide (by' s x73 = 32)), .bool (decide (by' s x73 = 32)), u0 10, u0 11] qq undef), (hi76.trans (show get_m_b0 s (get_m_l0 s k75) x73 = .inl x73 from by unfold get_m_b0; rw [if_pos hs86, if_neg hc87] <;> rfl)), (by first | omega | (simp; done) | (simp; omega) | (simp at *; omega)), rfl, hm80⟩
      refine wp_skip ?_
      refine then_n (hK84 _ _ ?_)
      refine wp_block ?_
      refine wp_region_lit ?_
      refine lvw 31 (.int .i64 ((x73 : Nat) : Int)) rfl rfl (run_mv rfl rfl) ?_
      simp only [nz1, nz2, nz3]
      refine lvw 32 (.int .i64 (((x73 + 1) : Nat) : Int)) rfl rfl (r_add x73 1 (show (x73 + 1) < 9223372036854775808 from by omega) rfl rfl rfl) ?_
      simp only [nz1, nz2, nz3]
      refine lvw 4 (.int .i64 (((x73 + 1) : Nat) : Int)) rfl rfl (run_as rfl rfl) ?_
      simp only [nz1, nz2, nz3]
      refine wpList_nil ?_
      refine blk_n ?_
      refine then_n (hR81 _ _ _ ⟨k75, (x73 + 1), (fun qq => List.getD [.int .i64 ((x73 : Nat) : Int), .string (tx s), .int .i64 ((s.length : Nat) : Int), .bool true, .bool true, .string (tx s), .int .i64 ((x73 : Nat) : Int), .int .u8 ((by' s x73 : Nat) : Int), .bool (decide (by' s x73 = 32)), .bool (decide (by' s x73 = 32)), .int .i64 ((x73 : Nat) : Int), .int .i64 (((x73 + 1) : Nat) : Int)] qq undef), rfl, (by first | omega | (simp; omega) | (simp at *; omega)), (hi76.trans (show get_m_b0 s (get_m_l0 s k75) x73 = get_m_l0 s k75 (x73 + 1) from by unfold get_m_b0; rw [if_pos hs86, if_pos hc87] <;> rfl)), (by first | omega | (simp; done) | (simp; omega) | (simp at *; omega)), rfl, hm80⟩ ?_)
      omega
    rintro _ w88 ⟨y77, yu0, hx78, hga, rfl, hm89⟩
    have hq90 : get_m s = get_m_k0 s y77 := (show get_m s = get_m_k0 s y77 from by unfold get_m; rw [if_neg hs4, hx78] <;> rfl)
    refine then_n (hK72 _ _ ?_)
    refine wp_seq_k (fun K91 hK91 => ?_)
    refine wp_region_lit ?_
    refine lvw 33 (.int .i64 ((y77 : Nat) : Int)) rfl rfl (run_mv rfl rfl) ?_
    simp only [nz1, nz2, nz3]
    refine lvw 5 (.int .i64 ((y77 : Nat) : Int)) rfl rfl (run_as rfl rfl) ?_
    simp only [nz1, nz2, nz3]
    refine wpList_nil ?_
    refine then_n (hK91 _ _ ?_)
    refine wp_seq_k (fun K92 hK92 => ?_)
    refine wp_cutK (fun a' w' => ∃ (y97 : Nat) (yu1 : Nat → Value), get_m_l1 s y77 ((s.length - y77) + 1) y77 = .inl y97 ∧ (y97 ≤ s.length ∧ y77 ≤ y97) ∧ a' = ⟨#[.string (tx s), undef, .int .i64 0, .int .i64 0, .int .i64 ((y77 : Nat) : Int), .int .i64 ((y97 : Nat) : Int), undef, undef, .string (tx s), .int .i64 ((s.length : Nat) : Int), .bool false, .bool false, undef, undef, undef, .bool false, undef, undef, undef, undef, undef, yu0 0, yu0 1, yu0 2, yu0 3, yu0 4, yu0 5, yu0 6, yu0 7, yu0 8, yu0 9, yu0 10, yu0 11, .int .i64 ((y77 : Nat) : Int), yu1 0, yu1 1, yu1 2, yu1 3, yu1 4, yu1 5, yu1 6, yu1 7, yu1 8, yu1 9, yu1 10, yu1 11, yu1 12, yu1 13, yu1 14, yu1 15, yu1 16, yu1 17, undef, undef, undef, undef, undef, undef, undef, undef, undef, undef, undef, undef, undef, undef, undef, undef, undef, undef, undef, undef, undef, undef], []⟩ ∧ Mm none (fun _ => True) w w' []) ?_ ?_
    · refine wp_block ?_
      refine wp_loop_n (fun n' a' w' => ∃ (n94 : Nat) (x93 : Nat) (u1 : Nat → Value), n' = n94 ∧ (s.length - x93) < n94 ∧ get_m_l1 s y77 ((s.length - y77) + 1) y77 = get_m_l1 s y77 n94 x93 ∧ (x93 ≤ s.length ∧ y77 ≤ x93) ∧ a' = ⟨#[.string (tx s), undef, .int .i64 0, .int .i64 0, .int .i64 ((y77 : Nat) : Int), .int .i64 ((x93 : Nat) : Int), undef, undef, .string (tx s), .int .i64 ((s.length : Nat) : Int), .bool false, .bool false, undef, undef, undef, .bool false, undef, undef, undef, undef, undef, yu0 0, yu0 1, yu0 2, yu0 3, yu0 4, yu0 5, yu0 6, yu0 7, yu0 8, yu0 9, yu0 10, yu0 11, .int .i64 ((y77 : Nat) : Int), u1 0, u1 1, u1 2, u1 3, u1 4, u1 5, u1 6, u1 7, u1 8, u1 9, u1 10, u1 11, u1 12, u1 13, u1 14, u1 15, u1 16, u1 17, undef, undef, undef, undef, undef, undef, undef, undef, undef, undef, undef, undef, undef, undef, undef, undef, undef, undef, undef, undef, undef, undef], []⟩ ∧ Mm none (fun _ => True) w w' []) ⟨((s.length - y77) + 1), y77, (fun qq => List.getD [undef, undef, undef, undef, undef, undef, undef, undef, undef, undef, undef, undef, undef, undef, undef, undef, undef, undef] qq undef), rfl, Nat.lt_succ_self _, rfl, (by first | omega | (simp; done) | (simp; omega) | (simp at *; omega)), rfl, hm89⟩ ?_
      rintro n94 _ w99 ⟨_, x93, u1, rfl, hl103, hi96, hgb, rfl, hm100⟩ R101 hR101
      obtain ⟨k95, rfl⟩ : ∃ k, n94 = k + 1 := ⟨n94 - 1, by omega⟩
      refine wp_seq_k (fun K104 hK104 => ?_)
      refine wp_seq_k (fun K105 hK105 => ?_)
      refine wp_region_lit ?_
      refine lvw 34 (.int .i64 ((x93 : Nat) : Int)) rfl rfl (run_mv rfl rfl) ?_
      simp only [nz1, nz2, nz3]
      refine lvw 35 (.string (tx s)) rfl rfl (run_mv rfl rfl) ?_
      simp only [nz1, nz2, nz3]
      refine lvw 36 (.int .i64 ((s.length : Nat) : Int)) rfl rfl (t_len rfl Tryd.underlying9 rfl) ?_
      simp only [nz1, nz2, nz3]
      refine lvb 37 (x93 < s.length) rfl rfl (r_lss x93 s.length rfl rfl rfl) (fun hs106 => ?_) (fun hs106 => ?_)
      rotate_left
      · simp only [nz1, nz2, nz3]
        refine lvw 38 (.bool false) rfl rfl (run_mv rfl rfl) ?_
        simp only [nz1, nz2, nz3]
        refine lst_skip 39 rfl rfl ?_
        simp only [nz1, nz2, nz3]
        refine lst_skip 40 rfl rfl ?_
        simp only [nz1, nz2, nz3]
        refine lst_skip 41 rfl rfl ?_
        simp only [nz1, nz2, nz3]
        refine lst_skip 42 rfl rfl ?_
        simp only [nz1, nz2, nz3]
        refine lvw 43 (.bool false) rfl rfl (run_pickf rfl rfl rfl) ?_
        simp only [nz1, nz2, nz3]
        refine lvw 44 (.bool false) rfl rfl (run_mv rfl rfl) ?_
        simp only [nz1, nz2, nz3]
        refine lst_skip 45 rfl rfl ?_
        simp only [nz1, nz2, nz3]
        refine lst_skip 46 rfl rfl ?_
        simp only [nz1, nz2, nz3]
        refine lst_skip 47 rfl rfl ?_
        simp only [nz1, nz2, nz3]
        refine lst_skip 48 rfl rfl ?_
        simp only [nz1, nz2, nz3]
        refine lvw 49 (.bool false) rfl rfl (run_pickf rfl rfl rfl) ?_
        simp only [nz1, nz2, nz3]
        refine wpList_nil ?_
        refine then_n (hK105 _ _ ?_)
        refine cond_f rfl ?_
        refine wp_exit ?_
        refine then_x ?_
        refine then_x ?_
        refine blk_x ?_
        refine then_n ?_
        exact ⟨x93, (fun qq => List.getD [.int .i64 ((x93 : Nat) : Int), .string (tx s), .int .i64 ((s.length : Nat) : Int), .bool false, .bool false, undef, undef, undef, undef, .bool false, .bool false, undef, undef, undef, undef, .bool false, u1 16, u1 17] qq undef), (hi96.trans (show get_m_b1 s y77 (get_m_l1 s y77 k95) x93 = .inl x93 from by unfold get_m_b1; rw [if_neg hs106] <;> rfl)), (by first | omega | (simp; done) | (simp; omega) | (simp at *; omega)), rfl, hm100⟩
      simp only [nz1, nz2, nz3]
      refine lvw 38 (.bool true) rfl rfl (run_mv rfl rfl) ?_
      simp only [nz1, nz2, nz3]
      refine lvw 39 (.string (tx s)) rfl rfl (run_mv rfl rfl) ?_
      simp only [nz1, nz2, nz3]
      refine lvw 40 (.int .i64 ((x93 : Nat) : Int)) rfl rfl (run_mv rfl rfl) ?_
      simp only [nz1, nz2, nz3]
      refine lvw 41 (.int .u8 ((by' s x93 : Nat) : Int)) rfl rfl (t_char s x93 (by omega) Tryd.underlying9 rfl rfl rfl) ?_
      simp only [nz1, nz2, nz3]
      refine lvb 42 (48 ≤ by' s x93) rfl rfl (r_geq (by' s x93) 48 rfl rfl rfl) (fun hs107 => ?_) (fun hs107 => ?_)
      rotate_left
      · simp only [nz1, nz2, nz3]
        refine lvw 43 (.bool false) rfl rfl (run_pick rfl rfl rfl) ?_
        simp only [nz1, nz2, nz3]
        refine lvw 44 (.bool false) rfl rfl (run_mv rfl rfl) ?_
        simp only [nz1, nz2, nz3]
        refine lst_skip 45 rfl rfl ?_
        simp only [nz1, nz2, nz3]
        refine lst_skip 46 rfl rfl ?_
        simp only [nz1, nz2, nz3]
        refine lst_skip 47 rfl rfl ?_
        simp only [nz1, nz2, nz3]
        refine lst_skip 48 rfl rfl ?_
        simp only [nz1, nz2, nz3]
        refine lvw 49 (.bool false) rfl rfl (run_pickf rfl rfl rfl) ?_
        simp only [nz1, nz2, nz3]
        refine wpList_nil ?_
        refine then_n (hK105 _ _ ?_)
        refine cond_f rfl ?_
        refine wp_exit ?_
        refine then_x ?_
        refine then_x ?_
        refine blk_x ?_
        refine then_n ?_
        exact ⟨x93, (fun qq => List.getD [.int .i64 ((x93 : Nat) : Int), .string (tx s), .int .i64 ((s.length : Nat) : Int), .bool true, .bool true, .string (tx s), .int .i64 ((x93 : Nat) : Int), .int .u8 ((by' s x93 : Nat) : Int), .bool false, .bool false, .bool false, undef, undef, undef, undef, .bool false, u1 16, u1 17] qq undef), (hi96.trans (show get_m_b1 s y77 (get_m_l1 s y77 k95) x93 = .inl x93 from by unfold get_m_b1; rw [if_pos hs106, if_neg hs107] <;> rfl)), (by first | omega | (simp; done) | (simp; omega) | (simp at *; omega)), rfl, hm100⟩
      simp only [nz1, nz2, nz3]
      refine lvw 43 (.bool true) rfl rfl (run_pick rfl rfl rfl) ?_
      simp only [nz1, nz2, nz3]
      refine lvw 44 (.bool true) rfl rfl (run_mv rfl rfl) ?_
      simp only [nz1, nz2, nz3]
      refine lvw 45 (.string (tx s)) rfl rfl (run_mv rfl rfl) ?_
      simp only [nz1, nz2, nz3]
      refine lvw 46 (.int .i64 ((x93 : Nat) : Int)) rfl rfl (run_mv rfl rfl) ?_
      simp only [nz1, nz2, nz3]
      refine lvw 47 (.int .u8 ((by' s x93 : Nat) : Int)) rfl rfl (t_char s x93 (by omega) Tryd.underlying9 rfl rfl rfl) ?_
      simp only [nz1, nz2, nz3]
      refine lvw 48 (.bool (decide (by' s x93 ≤ 55))) rfl rfl (r_leq (by' s x93) 55 rfl rfl rfl) ?_
      simp only [nz1, nz2, nz3]
      refine lvw 49 (.bool (decide (by' s x93 ≤ 55))) rfl rfl (run_pick rfl rfl rfl) ?_
      simp only [nz1, nz2, nz3]
      refine wpList_nil ?_
      refine then_n (hK105 _ _ ?_)
      refine cond_d (by' s x93 ≤ 55) rfl (fun hc108 => ?_) (fun hc108 => ?_)
      rotate_left
      · refine wp_exit ?_
        refine then_x ?_
        refine then_x ?_
        refine blk_x ?_
        refine then_n ?_
        exact ⟨x93, (fun qq => List.getD [.int .i64 ((x93 : Nat) : Int), .string (tx s), .int .i64 ((s.length : Nat) : Int), .bool true, .bool true, .string (tx s), .int .i64 ((x93 : Nat) : Int), .int .u8 ((by' s x93 : Nat) : Int), .bool true, .bool true, .bool true, .string (tx s), .int .i64 ((x93 : Nat) : Int), .int .u8 ((by' s x93 : Nat) : Int), .bool (decide (by' s x93 ≤ 55)), .bool (decide (by' s x93 ≤ 55)), u1 16, u1 17] qq undef), (hi96.trans (show get_m_b1 s y77 (get_m_l1 s y77 k95) x93 = .inl x93 from by unfold get_m_b1; rw [if_pos hs106, if_pos hs107, if_neg hc108] <;> rfl)), (by first | omega | (simp; done) | (simp; omega) | (simp at *; omega)), rfl, hm100⟩
      refine wp_skip ?_
      refine then_n (hK104 _ _ ?_)
      refine wp_block ?_
      refine wp_region_lit ?_
      refine lvw 50 (.int .i64 ((x93 : Nat) : Int)) rfl rfl (run_mv rfl rfl) ?_
      simp only [nz1, nz2, nz3]
      refine lvw 51 (.int .i64 (((x93 + 1) : Nat) : Int)) rfl rfl (r_add x93 1 (show (x93 + 1) < 9223372036854775808 from by omega) rfl rfl rfl) ?_
      simp only [nz1, nz2, nz3]
      refine lvw 5 (.int .i64 (((x93 + 1) : Nat) : Int)) rfl rfl (run_as rfl rfl) ?_
      simp only [nz1, nz2, nz3]
      refine wpList_nil ?_
      refine blk_n ?_
      refine then_n (hR101 _ _ _ ⟨k95, (x93 + 1), (fun qq => List.getD [.int .i64 ((x93 : Nat) : Int), .string (tx s), .int .i64 ((s.length : Nat) : Int), .bool true, .bool true, .string (tx s), .int .i64 ((x93 : Nat) : Int), .int .u8 ((by' s x93 : Nat) : Int), .bool true, .bool true, .bool true, .string (tx s), .int .i64 ((x93 : Nat) : Int), .int .u8 ((by' s x93 : Nat) : Int), .bool (decide (by' s x93 ≤ 55)), .bool (decide (by' s x93 ≤ 55)), .int .i64 ((x93 : Nat) : Int), .int .i64 (((x93 + 1) : Nat) : Int)] qq undef), rfl, (by first | omega | (simp; omega) | (simp at *; omega)), (hi96.trans (show get_m_b1 s y77 (get_m_l1 s y77 k95) x93 = get_m_l1 s y77 k95 (x93 + 1) from by unfold get_m_b1; rw [if_pos hs106, if_pos hs107, if_pos hc108] <;> rfl)), (by first | omega | (simp; done) | (simp; omega) | (simp at *; omega)), rfl, hm100⟩ ?_)
      omega
    rintro _ w109 ⟨y97, yu1, hx98, hgb, rfl, hm110⟩
    have hq111 : get_m s = get_m_k1 s y77 y97 := (hq90.trans (show get_m_k0 s y77 = get_m_k1 s y77 y97 from by unfold get_m_k0; rw [hx98] <;> rfl))
    refine then_n (hK92 _ _ ?_)
    refine wp_seq_k (fun K112 hK112 => ?_)
    refine wp_region_lit ?_
    refine lvw 53 (.string (tx s)) rfl rfl (run_mv rfl rfl) ?_
    simp only [nz1, nz2, nz3]
    refine lvw 54 (.int .i64 ((y77 : Nat) : Int)) rfl rfl (run_mv rfl rfl) ?_
    simp only [nz1, nz2, nz3]
    refine lvw 55 (.int .i64 ((y97 : Nat) : Int)) rfl rfl (run_mv rfl rfl) ?_
    simp only [nz1, nz2, nz3]
    refine lvw 56 (.string (tx ((s.take y97).drop y77))) rfl rfl (t_cut s y77 y97 (by omega) (by omega) Tryd.underlying9 rfl rfl rfl rfl) ?_
    simp only [nz1, nz2, nz3]
    refine lst rfl (m_call hm110 57 (.tuple #[.int .i64 ((nB_m ((s.take y97).drop y77)).1), .int .i64 ((nB_m ((s.take y97).drop y77)).2)]) rfl (run_num rfl rfl rfl rfl) (nB_any ((s.take y97).drop y77)  _  (by first | omega | assumption | (rw [List.length_drop]; omega) | (rw [List.length_take]; omega) | (rw [List.length_drop, List.length_take]; omega) | (simp; done) | (simp; omega) | (simp only [List.length_append, List.length_cons, List.length_nil]; omega) | (simp only [List.length_append, List.length_cons, List.length_nil] at *; omega) | decide)) (fun w113 (hm114 : Mm none (fun _ => True) w w113 []) => ?_))
    simp only [nz1, nz2, nz3]
    refine lvw 52 (.tuple #[.int .i64 ((nB_m ((s.take y97).drop y77)).1), .int .i64 ((nB_m ((s.take y97).drop y77)).2)]) rfl rfl (run_mv rfl rfl) ?_
    simp only [nz1, nz2, nz3]
    refine lvw 58 (.int .i64 ((nB_m ((s.take y97).drop y77)).1)) rfl rfl (run_ex rfl rfl rfl) ?_
    simp only [nz1, nz2, nz3]
    refine lvw 59 (.int .i64 ((nB_m ((s.take y97).drop y77)).2)) rfl rfl (run_ex rfl rfl rfl) ?_
    simp only [nz1, nz2, nz3]
    refine lvw 6 (.int .i64 ((nB_m ((s.take y97).drop y77)).1)) rfl rfl (run_as rfl rfl) ?_
    simp only [nz1, nz2, nz3]
    refine lvw 7 (.int .i64 ((nB_m ((s.take y97).drop y77)).2)) rfl rfl (run_as rfl rfl) ?_
    simp only [nz1, nz2, nz3]
    refine wpList_nil ?_
    refine then_n (hK112 _ _ ?_)
    refine wp_seq_k (fun K115 hK115 => ?_)
    refine wp_seq_k (fun K116 hK116 => ?_)
    refine wp_region_lit ?_
    refine lvw 60 (.int .i64 ((nB_m ((s.take y97).drop y77)).2)) rfl rfl (run_mv rfl rfl) ?_
    simp only [nz1, nz2, nz3]
    refine lvw 61 (.bool (decide (¬ (nB_m ((s.take y97).drop y77)).2 = 0))) rfl rfl (z_neq ((nB_m ((s.take y97).drop y77)).2) 0 rfl rfl rfl) ?_
    simp only [nz1, nz2, nz3]
    refine wpList_nil ?_
    refine then_n (hK116 _ _ ?_)
    refine cond_d (¬ (nB_m ((s.take y97).drop y77)).2 = 0) rfl (fun hc117 => ?_) (fun hc117 => ?_)
    · refine wp_seq_k (fun K118 hK118 => ?_)
      refine wp_region_lit ?_
      refine lvw 62 (.int .i64 ((nB_m ((s.take y97).drop y77)).2)) rfl rfl (run_mv rfl rfl) ?_
      simp only [nz1, nz2, nz3]
      refine lvw 2 (.int .i64 0) rfl rfl (run_as rfl rfl) ?_
      simp only [nz1, nz2, nz3]
      refine lvw 3 (.int .i64 ((nB_m ((s.take y97).drop y77)).2)) rfl rfl (run_as rfl rfl) ?_
      simp only [nz1, nz2, nz3]
      refine wpList_nil ?_
      refine then_n (hK118 _ _ ?_)
      refine wp_ret ?_
      refine then_r ?_
      have he119 : get_m s = (0, (nB_m ((s.take y97).drop y77)).2) := (hq111.trans (show get_m_k1 s y77 y97 = (0, (nB_m ((s.take y97).drop y77)).2) from by unfold get_m_k1; rw [if_pos hc117] <;> rfl))
      exact ⟨rfl, .tuple #[.int .i64 0, .int .i64 ((nB_m ((s.take y97).drop y77)).2)], res_tt rfl rfl rfl, ⟨by (rw [he119]; try rfl), hm114.below⟩⟩
    refine wp_skip ?_
    refine then_n (hK115 _ _ ?_)
    refine wp_seq_k (fun K120 hK120 => ?_)
    refine wp_seq_k (fun K121 hK121 => ?_)
    refine wp_region_lit ?_
    refine lvw 63 (.int .i64 ((y97 : Nat) : Int)) rfl rfl (run_mv rfl rfl) ?_
    simp only [nz1, nz2, nz3]
    refine lvw 64 (.int .i64 ((y77 : Nat) : Int)) rfl rfl (run_mv rfl rfl) ?_
    simp only [nz1, nz2, nz3]
    refine lvb 65 (y97 = y77) rfl rfl (r_eql y97 y77 rfl rfl rfl) (fun hs122 => ?_) (fun hs122 => ?_)
    · simp only [nz1, nz2, nz3]
      refine lvw 66 (.bool true) rfl rfl (run_mv rfl rfl) ?_
      simp only [nz1, nz2, nz3]
      refine lst_skip 67 rfl rfl ?_
      simp only [nz1, nz2, nz3]
      refine lst_skip 68 rfl rfl ?_
      simp only [nz1, nz2, nz3]
      refine lst_skip 69 rfl rfl ?_
      simp only [nz1, nz2, nz3]
      refine lst_skip 70 rfl rfl ?_
      simp only [nz1, nz2, nz3]
      refine lst_skip 71 rfl rfl ?_
      simp only [nz1, nz2, nz3]
      refine lvw 72 (.bool true) rfl rfl (run_pick rfl rfl rfl) ?_
      simp only [nz1, nz2, nz3]
      refine wpList_nil ?_
      refine then_n (hK121 _ _ ?_)
      refine cond_t rfl ?_
      refine wp_seq_k (fun K123 hK123 => ?_)
      refine wp_region_lit ?_
      refine lvw 2 (.int .i64 0) rfl rfl (run_as rfl rfl) ?_
      simp only [nz1, nz2, nz3]
      refine lvw 3 (.int .i64 2) rfl rfl (run_as rfl rfl) ?_
      simp only [nz1, nz2, nz3]
      refine wpList_nil ?_
      refine then_n (hK123 _ _ ?_)
      refine wp_ret ?_
      refine then_r ?_
      have he124 : get_m s = (0, 2) := (hq111.trans (show get_m_k1 s y77 y97 = (0, 2) from by unfold get_m_k1; rw [if_neg hc117, if_pos hs122] <;> rfl))
      exact ⟨rfl, .tuple #[.int .i64 0, .int .i64 2], res_tt rfl rfl rfl, ⟨by (rw [he124]; try rfl), hm114.below⟩⟩
    simp only [nz1, nz2, nz3]
    refine lvw 66 (.bool false) rfl rfl (run_mv rfl rfl) ?_
    simp only [nz1, nz2, nz3]
    refine lvw 67 (.string (tx s)) rfl rfl (run_mv rfl rfl) ?_
    simp only [nz1, nz2, nz3]
    refine lvw 68 (.int .i64 ((y97 : Nat) : Int)) rfl rfl (run_mv rfl rfl) ?_
    simp only [nz1, nz2, nz3]
    refine lvw 69 (.string (tx (s.drop y97))) rfl rfl (t_from s y97 (by omega) Tryd.underlying9 rfl rfl rfl) ?_
    simp only [nz1, nz2, nz3]
    refine lst rfl (m_call hm114 70 (.bool ((nothing_m (s.drop y97)))) rfl (run_nothing rfl rfl) (nothing_any (s.drop y97)  _  (by first | omega | assumption | (rw [List.length_drop]; omega) | (rw [List.length_take]; omega) | (rw [List.length_drop, List.length_take]; omega) | (simp; done) | (simp; omega) | (simp only [List.length_append, List.length_cons, List.length_nil]; omega) | (simp only [List.length_append, List.length_cons, List.length_nil] at *; omega) | decide)) (fun w125 (hm126 : Mm none (fun _ => True) w w125 []) => ?_))
    simp only [nz1, nz2, nz3]
    refine lvw 71 (.bool (!(nothing_m (s.drop y97)))) rfl rfl (r_not (nothing_m (s.drop y97)) rfl rfl) ?_
    simp only [nz1, nz2, nz3]
    refine lvw 72 (.bool (!(nothing_m (s.drop y97)))) rfl rfl (run_pickf rfl rfl rfl) ?_
    simp only [nz1, nz2, nz3]
    refine wpList_nil ?_
    refine then_n (hK121 _ _ ?_)
    refine cond_B (!(nothing_m (s.drop y97))) rfl (fun hc127 => ?_) (fun hc127 => ?_)
    · refine wp_seq_k (fun K128 hK128 => ?_)
      refine wp_region_lit ?_
      refine lvw 2 (.int .i64 0) rfl rfl (run_as rfl rfl) ?_
      simp only [nz1, nz2, nz3]
      refine lvw 3 (.int .i64 2) rfl rfl (run_as rfl rfl) ?_
      simp only [nz1, nz2, nz3]
      refine wpList_nil ?_
      refine then_n (hK128 _ _ ?_)
      refine wp_ret ?_
      refine then_r ?_
      have he129 : get_m s = (0, 2) := (hq111.trans (show get_m_k1 s y77 y97 = (0, 2) from by unfold get_m_k1; rw [if_neg hc117, if_neg hs122, if_pos hc127] <;> rfl))
      exact ⟨rfl, .tuple #[.int .i64 0, .int .i64 2], res_tt rfl rfl rfl, ⟨by (rw [he129]; try rfl), hm126.below⟩⟩
    refine wp_skip ?_
    refine then_n (hK120 _ _ ?_)
    refine wp_seq_k (fun K130 hK130 => ?_)
    refine wp_region_lit ?_
    refine lvw 73 (.int .i64 ((nB_m ((s.take y97).drop y77)).1)) rfl rfl (run_mv rfl rfl) ?_
    simp only [nz1, nz2, nz3]
    refine lvw 2 (.int .i64 ((nB_m ((s.take y97).drop y77)).1)) rfl rfl (run_as rfl rfl) ?_
    simp only [nz1, nz2, nz3]
    refine lvw 3 (.int .i64 0) rfl rfl (run_as rfl rfl) ?_
    simp only [nz1, nz2, nz3]
    refine wpList_nil ?_
    refine then_n (hK130 _ _ ?_)
    refine wp_ret ?_
    have he131 : get_m s = ((nB_m ((s.take y97).drop y77)).1, 0) := (hq111.trans (show get_m_k1 s y77 y97 = ((nB_m ((s.take y97).drop y77)).1, 0) from by unfold get_m_k1; rw [if_neg hc117, if_neg hs122, if_neg hc127] <;> rfl))
    exact ⟨rfl, .tuple #[.int .i64 ((nB_m ((s.take y97).drop y77)).1), .int .i64 0], res_tt rfl rfl rfl, ⟨by (rw [he131]; try rfl), hm126.below⟩⟩
  simp only [nz1, nz2, nz3]
  refine lvw 11 (.bool true) rfl rfl (run_mv rfl rfl) ?_
  simp only [nz1, nz2, nz3]
  refine lvw 12 (.string (tx s)) rfl rfl (run_mv rfl rfl) ?_
  simp only [nz1, nz2, nz3]
  refine lvw 13 (.int .u8 ((by' s 0 : Nat) : Int)) rfl rfl (t_char s 0 (by omega) Tryd.underlying9 rfl rfl rfl) ?_
  simp only [nz1, nz2, nz3]
  refine lvw 14 (.bool (decide (by' s 0 = 128))) rfl rfl (r_eql (by' s 0) 128 rfl rfl rfl) ?_
  simp only [nz1, nz2, nz3]
  refine lvw 15 (.bool (decide (by' s 0 = 128))) rfl rfl (run_pick rfl rfl rfl) ?_
  simp only [nz1, nz2, nz3]
  refine wpList_nil ?_
  refine then_n (hK3 _ _ ?_)
  refine cond_d (by' s 0 = 128) rfl (fun hc5 => ?_) (fun hc5 => ?_)
  · refine wp_seq_k (fun K6 hK6 => ?_)
    refine wp_region_lit ?_
    refine lvw 16 (.string (tx s)) rfl rfl (run_mv rfl rfl) ?_
    simp only [nz1, nz2, nz3]
    refine lvw 17 (.string (tx (s.drop 1))) rfl rfl (t_from s 1 (by omega) Tryd.underlying9 rfl rfl rfl) ?_
    simp only [nz1, nz2, nz3]
    refine lst rfl (m_call hm0 18 (.tuple #[.int .i64 ((nA_m (s.drop 1)).1), .int .i64 ((nA_m (s.drop 1)).2)]) rfl (run_num rfl rfl rfl rfl) (nA_any (s.drop 1)  _  (by first | omega | assumption | (rw [List.length_drop]; omega) | (rw [List.length_take]; omega) | (rw [List.length_drop, List.length_take]; omega) | (simp; done) | (simp; omega) | (simp only [List.length_append, List.length_cons, List.length_nil]; omega) | (simp only [List.length_append, List.length_cons, List.length_nil] at *; omega) | decide)) (fun w7 (hm8 : Mm none (fun _ => True) w w7 []) => ?_))
    simp only [nz1, nz2, nz3]
    refine lvw 19 (.int .i64 ((nA_m (s.drop 1)).1)) rfl rfl (run_ex rfl rfl rfl) ?_
    simp only [nz1, nz2, nz3]
    refine lvw 20 (.int .i64 ((nA_m (s.drop 1)).2)) rfl rfl (run_ex rfl rfl rfl) ?_
    simp only [nz1, nz2, nz3]
    refine lvw 2 (.int .i64 ((nA_m (s.drop 1)).1)) rfl rfl (run_as rfl rfl) ?_
    simp only [nz1, nz2, nz3]
    refine lvw 3 (.int .i64 ((nA_m (s.drop 1)).2)) rfl rfl (run_as rfl rfl) ?_
    simp only [nz1, nz2, nz3]
    refine wpList_nil ?_
    refine then_n (hK6 _ _ ?_)
    refine wp_ret ?_
    refine then_r ?_
    have he9 : get_m s = ((nA_m (s.drop 1)).1, (nA_m (s.drop 1)).2) := (show get_m s = ((nA_m (s.drop 1)).1, (nA_m (s.drop 1)).2) from by unfold get_m; rw [if_pos hs4, if_pos hc5] <;> rfl)
    exact ⟨rfl, .tuple #[.int .i64 ((nA_m (s.drop 1)).1), .int .i64 ((nA_m (s.drop 1)).2)], res_tt rfl rfl rfl, ⟨by (rw [he9]; try rfl), hm8.below⟩⟩
  refine wp_skip ?_
  refine then_n (hK2 _ _ ?_)
  refine wp_seq_k (fun K10 hK10 => ?_)
  refine wp_region_lit ?_
  refine lvw 4 (.int .i64 0) rfl rfl (run_as rfl rfl) ?_
  simp only [nz1, nz2, nz3]
  refine wpList_nil ?_
  refine then_n (hK10 _ _ ?_)
  refine wp_seq_k (fun K11 hK11 => ?_)
  refine wp_cutK (fun a' w' => ∃ (y16 : Nat) (yu0 : Nat → Value), get_m_l0 s ((s.length - 0) + 1) 0 = .inl y16 ∧ (y16 ≤ s.length) ∧ a' = ⟨#[.string (tx s), undef, .int .i64 0, .int .i64 0, .int .i64 ((y16 : Nat) : Int), undef, undef, undef, .string (tx s), .int .i64 ((s.length : Nat) : Int), .bool true, .bool true, .string (tx s), .int .u8 ((by' s 0 : Nat) : Int), .bool (decide (by' s 0 = 128)), .bool (decide (by' s 0 = 128)), undef, undef, undef, undef, undef, yu0 0, yu0 1, yu0 2, yu0 3, yu0 4, yu0 5, yu0 6, yu0 7, yu0 8, yu0 9, yu0 10, yu0 11, undef, undef, undef, undef, undef, undef, undef, undef, undef, undef, undef, undef, undef, undef, undef, undef, undef, undef, undef, undef, undef, undef, undef, undef, undef, undef, undef, undef, undef, undef, undef, undef, undef, undef, undef, undef, undef, undef, undef, undef, undef], []⟩ ∧ Mm none (fun _ => True) w w' []) ?_ ?_
  · refine wp_block ?_
    refine wp_loop_n (fun n' a' w' => ∃ (n13 : Nat) (x12 : Nat) (u0 : Nat → Value), n' = n13 ∧ (s.length - x12) < n13 ∧ get_m_l0 s ((s.length - 0) + 1) 0 = get_m_l0 s n13 x12 ∧ (x12 ≤ s.length) ∧ a' = ⟨#[.string (tx s), undef, .int .i64 0, .int .i64 0, .int .i64 ((x12 : Nat) : Int), undef, undef, undef, .string (tx s), .int .i64 ((s.length : Nat) : Int), .bool true, .bool true, .string (tx s), .int .u8 ((by' s 0 : Nat) : Int), .bool (decide (by' s 0 = 128)), .bool (decide (by' s 0 = 128)), undef, undef, undef, undef, undef, u0 0, u0 1, u0 2, u0 3, u0 4, u0 5, u0 6, u0 7, u0 8, u0 9, u0 10, u0 11, undef, undef, undef, undef, undef, undef, undef, undef, undef, undef, undef, undef, undef, undef, undef, undef, undef, undef, undef, undef, undef, undef, undef, undef, undef, undef, undef, undef, undef, undef, undef, undef, undef, undef, undef, undef, undef, undef, undef, undef, undef], []⟩ ∧ Mm none (fun _ => True) w w' []) ⟨((s.length - 0) + 1), 0, (fun qq => List.getD [undef, undef, undef, undef, undef, undef, undef, undef, undef, undef, undef, undef] qq undef), rfl, Nat.lt_succ_self _, rfl, (by first | omega | (simp; done) | (simp; omega) | (simp at *; omega)), rfl, hm0⟩ ?_
    rintro n13 _ w18 ⟨_, x12, u0, rfl, hl22, hi15, hga, rfl, hm19⟩ R20 hR20
    obtain ⟨k14, rfl⟩ : ∃ k, n13 = k + 1 := ⟨n13 - 1, by omega⟩
    refine wp_seq_k (fun K23 hK23 => ?_)
    refine wp_seq_k (fun K24 hK24 => ?_)
    refine wp_region_lit ?_
    refine lvw 21 (.int .i64 ((x12 : Nat) : Int)) rfl rfl (run_mv rfl rfl) ?_
    simp only [nz1, nz2, nz3]
    refine lvw 22 (.string (tx s)) rfl rfl (run_mv rfl rfl) ?_
    simp only [nz1, nz2, nz3]
    refine lvw 23 (.int .i64 ((s.length : Nat) : Int)) rfl rfl (t_len rfl Tryd.underlying9 rfl) ?_
    simp only [nz1, nz2, nz3]
    refine lvb 24 (x12 < s.length) rfl rfl (r_lss x12 s.length rfl rfl rfl) (fun hs25 => ?_) (fun hs25 => ?_)
    rotate_left
    · simp only [nz1, nz2, nz3]
      refine lvw 25 (.bool false) rfl rfl (run_mv rfl rfl) ?_
      simp only [nz1, nz2, nz3]
      refine lst_skip 26 rfl rfl ?_
      simp only [nz1, nz2, nz3]
      refine lst_skip 27 rfl rfl ?_
      simp only [nz1, nz2, nz3]
      refine lst_skip 28 rfl rfl ?_
      simp only [nz1, nz2, nz3]
      refine lst_skip 29 rfl rfl ?_
      simp only [nz1, nz2, nz3]
      refine lvw 30 (.bool false) rfl rfl (run_pickf rfl rfl rfl) ?_
      simp only [nz1, nz2, nz3]
      refine wpList_nil ?_
      refine then_n (hK24 _ _ ?_)
      refine cond_f rfl ?_
      refine wp_exit ?_
      refine then_x ?_
      refine then_x ?_
      refine blk_x ?_
      refine then_n ?_
      exact ⟨x12, (fun qq => List.getD [.int .i64 ((x12 : Nat) : Int), .string (tx s), .int .i64 ((s.length : Nat) : Int), .bool false, .bool false, undef, undef, undef, undef, .bool false, u0 10, u0 11] qq undef), (hi15.trans (show get_m_b0 s (get_m_l0 s k14) x12 = .inl x12 from by unfold get_m_b0; rw [if_neg hs25] <;> rfl)), (by first | omega | (simp; done) | (simp; omega) | (simp at *; omega)), rfl, hm19⟩
    simp only [nz1, nz2, nz3]
    refine lvw 25 (.bool true) rfl rfl (run_mv rfl rfl) ?_
    simp only [nz1, nz2, nz3]
    refine lvw 26 (.string (tx s)) rfl rfl (run_mv rfl rfl) ?_
    simp only [nz1, nz2, nz3]
    refine lvw 27 (.int .i64 ((x12 : Nat) : Int)) rfl rfl (run_mv rfl rfl) ?_
    simp only [nz1, nz2, nz3]
    refine lvw 28 (.int .u8 ((by' s x12 : Nat) : Int)) rfl rfl (t_char s x12 (by omega) Tryd.underlying9 rfl rfl rfl) ?_
    simp only [nz1, nz2, nz3]
    refine lvw 29 (.bool (decide (by' s x12 = 32))) rfl rfl (r_eql (by' s x12) 32 rfl rfl rfl) ?_
    simp only [nz1, nz2, nz3]
    refine lvw 30 (.bool (decide (by' s x12 = 32))) rfl rfl (run_pick rfl rfl rfl) ?_
    simp only [nz1, nz2, nz3]
    refine wpList_nil ?_
    refine then_n (hK24 _ _ ?_)
    refine cond_d (by' s x12 = 32) rfl (fun hc26 => ?_) (fun hc26 => ?_)
    rotate_left
    · refine wp_exit ?_
      refine then_x ?_
      refine then_x ?_
      refine blk_x ?_
      refine then_n ?_
      exact ⟨x12, (fun qq => List.getD [.int .i64 ((x12 : Nat) : Int), .string (tx s), .int .i64 ((s.length : Nat) : Int), .bool true, .bool true, .string (tx s), .int .i64 ((x12 : Nat) : Int), .int .u8 ((by' s x12 : Nat) : Int), .bool (decide (by' s x12 = 32)), .bool (decide (by' s x12 = 32)), u0 10, u0 11] qq undef), (hi15.trans (show get_m_b0 s (get_m_l0 s k14) x12 = .inl x12 from by unfold get_m_b0; rw [if_pos hs25, if_neg hc26] <;> rfl)), (by first | omega | (simp; done) | (simp; omega) | (simp at *; omega)), rfl, hm19⟩
    refine wp_skip ?_
    refine then_n (hK23 _ _ ?_)
    refine wp_block ?_
    refine wp_region_lit ?_
    refine lvw 31 (.int .i64 ((x12 : Nat) : Int)) rfl rfl (run_mv rfl rfl) ?_
    simp only [nz1, nz2, nz3]
    refine lvw 32 (.int .i64 (((x12 + 1) : Nat) : Int)) rfl rfl (r_add x12 1 (show (x12 + 1) < 9223372036854775808 from by omega) rfl rfl rfl) ?_
    simp only [nz1, nz2, nz3]
    refine lvw 4 (.int .i64 (((x12 + 1) : Nat) : Int)) rfl rfl (run_as rfl rfl) ?_
    simp only [nz1, nz2, nz3]
    refine wpList_nil ?_
    refine blk_n ?_
    refine then_n (hR20 _ _ _ ⟨k14, (x12 + 1), (fun qq => List.getD [.int .i64 ((x12 : Nat) : Int), .string (tx s), .int .i64 ((s.length : Nat) : Int), .bool true, .bool true, .string (tx s), .int .i64 ((x12 : Nat) : Int), .int .u8 ((by' s x12 : Nat) : Int), .bool (decide (by' s x12 = 32)), .bool (decide (by' s x12 = 32)), .int .i64 ((x12 : Nat) : Int), .int .i64 (((x12 + 1) : Nat) : Int)] qq undef), rfl, (by first | omega | (simp; omega) | (simp at *; omega)), (hi15.trans (show get_m_b0 s (get_m_l0 s k14) x12 = get_m_l0 s k14 (x12 + 1) from by unfold get_m_b0; rw [if_pos hs25, if_pos hc26] <;> rfl)), (by first | omega | (simp; done) | (simp; omega) | (simp at *; omega)), rfl, hm19⟩ ?_)
    omega
  rintro _ w27 ⟨y16, yu0, hx17, hga, rfl, hm28⟩
  have hq29 : get_m s = get_m_k0 s y16 := (show get_m s = get_m_k0 s y16 from by unfold get_m; rw [if_pos hs4, if_neg hc5, hx17] <;> rfl)
  refine then_n (hK11 _ _ ?_)
  refine wp_seq_k (fun K30 hK30 => ?_)
  refine wp_region_lit ?_
  refine lvw 33 (.int .i64 ((y16 : Nat) : Int)) rfl rfl (run_mv rfl rfl) ?_
  simp only [nz1, nz2, nz3]
  refine lvw 5 (.int .i64 ((y16 : Nat) : Int)) rfl rfl (run_as rfl rfl) ?_
  simp only [nz1, nz2, nz3]
  refine wpList_nil ?_
  refine then_n (hK30 _ _ ?_)
  refine wp_seq_k (fun K31 hK31 => ?_)
  refine wp_cutK (fun a' w' => ∃ (y36 : Nat) (yu1 : Nat → Value), get_m_l1 s y16 ((s.length - y16) + 1) y16 = .inl y36 ∧ (y36 ≤ s.length ∧ y16 ≤ y36) ∧ a' = ⟨#[.string (tx s), undef, .int .i64 0, .int .i64 0, .int .i64 ((y16 : Nat) : Int), .int .i64 ((y36 : Nat) : Int), undef, undef, .string (tx s), .int .i64 ((s.length : Nat) : Int), .bool true, .bool true, .string (tx s), .int .u8 ((by' s 0 : Nat) : Int), .bool (decide (by' s 0 = 128)), .bool (decide (by' s 0 = 128)), undef, undef, undef, undef, undef, yu0 0, yu0 1, yu0 2, yu0 3, yu0 4, yu0 5, yu0 6, yu0 7, yu0 8, yu0 9, yu0 10, yu0 11, .int .i64 ((y16 : Nat) : Int), yu1 0, yu1 1, yu1 2, yu1 3, yu1 4, yu1 5, yu1 6, yu1 7, yu1 8, yu1 9, yu1 10, yu1 11, yu1 12, yu1 13, yu1 14, yu1 15, yu1 16, yu1 17, undef, undef, undef, undef, undef, undef, undef, undef, undef, undef, undef, undef, undef, undef, undef, undef, undef, undef, undef, undef, undef, undef], []⟩ ∧ Mm none (fun _ => True) w w' []) ?_ ?_
  · refine wp_block ?_
    refine wp_loop_n (fun n' a' w' => ∃ (n33 : Nat) (x32 : Nat) (u1 : Nat → Value), n' = n33 ∧ (s.length - x32) < n33 ∧ get_m_l1 s y16 ((s.length - y16) + 1) y16 = get_m_l1 s y16 n33 x32 ∧ (x32 ≤ s.length ∧ y16 ≤ x32) ∧ a' = ⟨#[.string (tx s), undef, .int .i64 0, .int .i64 0, .int .i64 ((y16 : Nat) : Int), .int .i64 ((x32 : Nat) : Int), undef, undef, .string (tx s), .int .i64 ((s.length : Nat) : Int), .bool true, .bool true, .string (tx s), .int .u8 ((by' s 0 : Nat) : Int), .bool (decide (by' s 0 = 128)), .bool (decide (by' s 0 = 128)), undef, undef, undef, undef, undef, yu0 0, yu0 1, yu0 2, yu0 3, yu0 4, yu0 5, yu0 6, yu0 7, yu0 8, yu0 9, yu0 10, yu0 11, .int .i64 ((y16 : Nat) : Int), u1 0, u1 1, u1 2, u1 3, u1 4, u1 5, u1 6, u1 7, u1 8, u1 9, u1 10, u1 11, u1 12, u1 13, u1 14, u1 15, u1 16, u1 17, undef, undef, undef, undef, undef, undef, undef, undef, undef, undef, undef, undef, undef, undef, undef, undef, undef, undef, undef, undef, undef, undef], []⟩ ∧ Mm none (fun _ => True) w w' []) ⟨((s.length - y16) + 1), y16, (fun qq => List.getD [undef, undef, undef, undef, undef, undef, undef, undef, undef, undef, undef, undef, undef, undef, undef, undef, undef, undef] qq undef), rfl, Nat.lt_succ_self _, rfl, (by first | omega | (simp; done) | (simp; omega) | (simp at *; omega)), rfl, hm28⟩ ?_
    rintro n33 _ w38 ⟨_, x32, u1, rfl, hl42, hi35, hgb, rfl, hm39⟩ R40 hR40
    obtain ⟨k34, rfl⟩ : ∃ k, n33 = k + 1 := ⟨n33 - 1, by omega⟩
    refine wp_seq_k (fun K43 hK43 => ?_)
    refine wp_seq_k (fun K44 hK44 => ?_)
    refine wp_region_lit ?_
    refine lvw 34 (.int .i64 ((x32 : Nat) : Int)) rfl rfl (run_mv rfl rfl) ?_
    simp only [nz1, nz2, nz3]
    refine lvw 35 (.string (tx s)) rfl rfl (run_mv rfl rfl) ?_
    simp only [nz1, nz2, nz3]
    refine lvw 36 (.int .i64 ((s.length : Nat) : Int)) rfl rfl (t_len rfl Tryd.underlying9 rfl) ?_
    simp only [nz1, nz2, nz3]
    refine lvb 37 (x32 < s.length) rfl rfl (r_lss x32 s.length rfl rfl rfl) (fun hs45 => ?_) (fun hs45 => ?_)
    rotate_left
    · simp only [nz1, nz2, nz3]
      refine lvw 38 (.bool false) rfl rfl (run_mv rfl rfl) ?_
      simp only [nz1, nz2, nz3]
      refine lst_skip 39 rfl rfl ?_
      simp only [nz1, nz2, nz3]
      refine lst_skip 40 rfl rfl ?_
      simp only [nz1, nz2, nz3]
      refine lst_skip 41 rfl rfl ?_
      simp only [nz1, nz2, nz3]
      refine lst_skip 42 rfl rfl ?_
      simp only [nz1, nz2, nz3]
      refine lvw 43 (.bool false) rfl rfl (run_pickf rfl rfl rfl) ?_
      simp only [nz1, nz2, nz3]
      refine lvw 44 (.bool false) rfl rfl (run_mv rfl rfl) ?_
      simp only [nz1, nz2, nz3]
      refine lst_skip 45 rfl rfl ?_
      simp only [nz1, nz2, nz3]
      refine lst_skip 46 rfl rfl ?_
      simp only [nz1, nz2, nz3]
      refine lst_skip 47 rfl rfl ?_
      simp only [nz1, nz2, nz3]
      refine lst_skip 48 rfl rfl ?_
      simp only [nz1, nz2, nz3]
      refine lvw 49 (.bool false) rfl rfl (run_pickf rfl rfl rfl) ?_
      simp only [nz1, nz2, nz3]
      refine wpList_nil ?_
      refine then_n (hK44 _ _ ?_)
      refine cond_f rfl ?_
      refine wp_exit ?_
      refine then_x ?_
      refine then_x ?_
      refine blk_x ?_
      refine then_n ?_
      exact ⟨x32, (fun qq => List.getD [.int .i64 ((x32 : Nat) : Int), .string (tx s), .int .i64 ((s.length : Nat) : Int), .bool false, .bool false, undef, undef, undef, undef, .bool false, .bool false, undef, undef, undef, undef, .bool false, u1 16, u1 17] qq undef), (hi35.trans (show get_m_b1 s y16 (get_m_l1 s y16 k34) x32 = .inl x32 from by unfold get_m_b1; rw [if_neg hs45] <;> rfl)), (by first | omega | (simp; done) | (simp; omega) | (simp at *; omega)), rfl, hm39⟩
    simp only [nz1, nz2, nz3]
    refine lvw 38 (.bool true) rfl rfl (run_mv rfl rfl) ?_
    simp only [nz1, nz2, nz3]
    refine lvw 39 (.string (tx s)) rfl rfl (run_mv rfl rfl) ?_
    simp only [nz1, nz2, nz3]
    refine lvw 40 (.int .i64 ((x32 : Nat) : Int)) rfl rfl (run_mv rfl rfl) ?_
    simp only [nz1, nz2, nz3]
    refine lvw 41 (.int .u8 ((by' s x32 : Nat) : Int)) rfl rfl (t_char s x32 (by omega) Tryd.underlying9 rfl rfl rfl) ?_
    simp only [nz1, nz2, nz3]
    refine lvb 42 (48 ≤ by' s x32) rfl rfl (r_geq (by' s x32) 48 rfl rfl rfl) (fun hs46 => ?_) (fun hs46 => ?_)
    rotate_left
    · simp only [nz1, nz2, nz3]
      refine lvw 43 (.bool false) rfl rfl (run_pick rfl rfl rfl) ?_
      simp only [nz1, nz2, nz3]
      refine lvw 44 (.bool false) rfl rfl (run_mv rfl rfl) ?_
      simp only [nz1, nz2, nz3]
      refine lst_skip 45 rfl rfl ?_
      simp only [nz1, nz2, nz3]
      refine lst_skip 46 rfl rfl ?_
      simp only [nz1, nz2, nz3]
      refine lst_skip 47 rfl rfl ?_
      simp only [nz1, nz2, nz3]
      refine lst_skip 48 rfl rfl ?_
      simp only [nz1, nz2, nz3]
      refine lvw 49 (.bool false) rfl rfl (run_pickf rfl rfl rfl) ?_
      simp only [nz1, nz2, nz3]
      refine wpList_nil ?_
      refine then_n (hK44 _ _ ?_)
      refine cond_f rfl ?_
      refine wp_exit ?_
      refine then_x ?_
      refine then_x ?_
      refine blk_x ?_
      refine then_n ?_
      exact ⟨x32, (fun qq => List.getD [.int .i64 ((x32 : Nat) : Int), .string (tx s), .int .i64 ((s.length : Nat) : Int), .bool true, .bool true, .string (tx s), .int .i64 ((x32 : Nat) : Int), .int .u8 ((by' s x32 : Nat) : Int), .bool false, .bool false, .bool false, undef, undef, undef, undef, .bool false, u1 16, u1 17] qq undef), (hi35.trans (show get_m_b1 s y16 (get_m_l1 s y16 k34) x32 = .inl x32 from by unfold get_m_b1; rw [if_pos hs45, if_neg hs46] <;> rfl)), (by first | omega | (simp; done) | (simp; omega) | (simp at *; omega)), rfl, hm39⟩
    simp only [nz1, nz2, nz3]
    refine lvw 43 (.bool true) rfl rfl (run_pick rfl rfl rfl) ?_
    simp only [nz1, nz2, nz3]
    refine lvw 44 (.bool true) rfl rfl (run_mv rfl rfl) ?_
    simp only [nz1, nz2, nz3]
    refine lvw 45 (.string (tx s)) rfl rfl (run_mv rfl rfl) ?_
    simp only [nz1, nz2, nz3]
    refine lvw 46 (.int .i64 ((x32 : Nat) : Int)) rfl rfl (run_mv rfl rfl) ?_
    simp only [nz1, nz2, nz3]
    refine lvw 47 (.int .u8 ((by' s x32 : Nat) : Int)) rfl rfl (t_char s x32 (by omega) Tryd.underlying9 rfl rfl rfl) ?_
    simp only [nz1, nz2, nz3]
    refine lvw 48 (.bool (decide (by' s x32 ≤ 55))) rfl rfl (r_leq (by' s x32) 55 rfl rfl rfl) ?_
    simp only [nz1, nz2, nz3]
    refine lvw 49 (.bool (decide (by' s x32 ≤ 55))) rfl rfl (run_pick rfl rfl rfl) ?_
    simp only [nz1, nz2, nz3]
    refine wpList_nil ?_
    refine then_n (hK44 _ _ ?_)
    refine cond_d (by' s x32 ≤ 55) rfl (fun hc47 => ?_) (fun hc47 => ?_)
    rotate_left
    · refine wp_exit ?_
      refine then_x ?_
      refine then_x ?_
      refine blk_x ?_
      refine then_n ?_
      exact ⟨x32, (fun qq => List.getD [.int .i64 ((x32 : Nat) : Int), .string (tx s), .int .i64 ((s.length : Nat) : Int), .bool true, .bool true, .string (tx s), .int .i64 ((x32 : Nat) : Int), .int .u8 ((by' s x32 : Nat) : Int), .bool true, .bool true, .bool true, .string (tx s), .int .i64 ((x32 : Nat) : Int), .int .u8 ((by' s x32 : Nat) : Int), .bool (decide (by' s x32 ≤ 55)), .bool (decide (by' s x32 ≤ 55)), u1 16, u1 17] qq undef), (hi35.trans (show get_m_b1 s y16 (get_m_l1 s y16 k34) x32 = .inl x32 from by unfold get_m_b1; rw [if_pos hs45, if_pos hs46, if_neg hc47] <;> rfl)), (by first | omega | (simp; done) | (simp; omega) | (simp at *; omega)), rfl, hm39⟩
    refine wp_skip ?_
    refine then_n (hK43 _ _ ?_)
    refine wp_block ?_
    refine wp_region_lit ?_
    refine lvw 50 (.int .i64 ((x32 : Nat) : Int)) rfl rfl (run_mv rfl rfl) ?_
    simp only [nz1, nz2, nz3]
    refine lvw 51 (.int .i64 (((x32 + 1) : Nat) : Int)) rfl rfl (r_add x32 1 (show (x32 + 1) < 9223372036854775808 from by omega) rfl rfl rfl) ?_
    simp only [nz1, nz2, nz3]
    refine lvw 5 (.int .i64 (((x32 + 1) : Nat) : Int)) rfl rfl (run_as rfl rfl) ?_
    simp only [nz1, nz2, nz3]
    refine wpList_nil ?_
    refine blk_n ?_
    refine then_n (hR40 _ _ _ ⟨k34, (x32 + 1), (fun qq => List.getD [.int .i64 ((x32 : Nat) : Int), .string (tx s), .int .i64 ((s.length : Nat) : Int), .bool true, .bool true, .string (tx s), .int .i64 ((x32 : Nat) : Int), .int .u8 ((by' s x32 : Nat) : Int), .bool true, .bool true, .bool true, .string (tx s), .int .i64 ((x32 : Nat) : Int), .int .u8 ((by' s x32 : Nat) : Int), .bool (decide (by' s x32 ≤ 55)), .bool (decide (by' s x32 ≤ 55)), .int .i64 ((x32 : Nat) : Int), .int .i64 (((x32 + 1) : Nat) : Int)] qq undef), rfl, (by first | omega | (simp; omega) | (simp at *; omega)), (hi35.trans (show get_m_b1 s y16 (get_m_l1 s y16 k34) x32 = get_m_l1 s y16 k34 (x32 + 1) from by unfold get_m_b1; rw [if_pos hs45, if_pos hs46, if_pos hc47] <;> rfl)), (by first | omega | (simp; done) | (simp; omega) | (simp at *; omega)), rfl, hm39⟩ ?_)
    omega
  rintro _ w48 ⟨y36, yu1, hx37, hgb, rfl, hm49⟩
  have hq50 : get_m s = get_m_k1 s y16 y36 := (hq29.trans (show get_m_k0 s y16 = get_m_k1 s y16 y36 from by unfold get_m_k0; rw [hx37] <;> rfl))
  refine then_n (hK31 _ _ ?_)
  refine wp_seq_k (fun K51 hK51 => ?_)
  refine wp_region_lit ?_
  refine lvw 53 (.string (tx s)) rfl rfl (run_mv rfl rfl) ?_
  simp only [nz1, nz2, nz3]
  refine lvw 54 (.int .i64 ((y16 : Nat) : Int)) rfl rfl (run_mv rfl rfl) ?_
  simp only [nz1, nz2, nz3]
  refine lvw 55 (.int .i64 ((y36 : Nat) : Int)) rfl rfl (run_mv rfl rfl) ?_
  simp only [nz1, nz2, nz3]
  refine lvw 56 (.string (tx ((s.take y36).drop y16))) rfl rfl (t_cut s y16 y36 (by omega) (by omega) Tryd.underlying9 rfl rfl rfl rfl) ?_
  simp only [nz1, nz2, nz3]
  refine lst rfl (m_call hm49 57 (.tuple #[.int .i64 ((nB_m ((s.take y36).drop y16)).1), .int .i64 ((nB_m ((s.take y36).drop y16)).2)]) rfl (run_num rfl rfl rfl rfl) (nB_any ((s.take y36).drop y16)  _  (by first | omega | assumption | (rw [List.length_drop]; omega) | (rw [List.length_take]; omega) | (rw [List.length_drop, List.length_take]; omega) | (simp; done) | (simp; omega) | (simp only [List.length_append, List.length_cons, List.length_nil]; omega) | (simp only [List.length_append, List.length_cons, List.length_nil] at *; omega) | decide)) (fun w52 (hm53 : Mm none (fun _ => True) w w52 []) => ?_))
  simp only [nz1, nz2, nz3]
  refine lvw 52 (.tuple #[.int .i64 ((nB_m ((s.take y36).drop y16)).1), .int .i64 ((nB_m ((s.take y36).drop y16)).2)]) rfl rfl (run_mv rfl rfl) ?_
  simp only [nz1, nz2, nz3]
  refine lvw 58 (.int .i64 ((nB_m ((s.take y36).drop y16)).1)) rfl rfl (run_ex rfl rfl rfl) ?_
  simp only [nz1, nz2, nz3]
  refine lvw 59 (.int .i64 ((nB_m ((s.take y36).drop y16)).2)) rfl rfl (run_ex rfl rfl rfl) ?_
  simp only [nz1, nz2, nz3]
  refine lvw 6 (.int .i64 ((nB_m ((s.take y36).drop y16)).1)) rfl rfl (run_as rfl rfl) ?_
  simp only [nz1, nz2, nz3]
  refine lvw 7 (.int .i64 ((nB_m ((s.take y36).drop y16)).2)) rfl rfl (run_as rfl rfl) ?_
  simp only [nz1, nz2, nz3]
  refine wpList_nil ?_
  refine then_n (hK51 _ _ ?_)
  refine wp_seq_k (fun K54 hK54 => ?_)
  refine wp_seq_k (fun K55 hK55 => ?_)
  refine wp_region_lit ?_
  refine lvw 60 (.int .i64 ((nB_m ((s.take y36).drop y16)).2)) rfl rfl (run_mv rfl rfl) ?_
  simp only [nz1, nz2, nz3]
  refine lvw 61 (.bool (decide (¬ (nB_m ((s.take y36).drop y16)).2 = 0))) rfl rfl (z_neq ((nB_m ((s.take y36).drop y16)).2) 0 rfl rfl rfl) ?_
  simp only [nz1, nz2, nz3]
  refine wpList_nil ?_
  refine then_n (hK55 _ _ ?_)
  refine cond_d (¬ (nB_m ((s.take y36).drop y16)).2 = 0) rfl (fun hc56 => ?_) (fun hc56 => ?_)
  · refine wp_seq_k (fun K57 hK57 => ?_)
    refine wp_region_lit ?_
    refine lvw 62 (.int .i64 ((nB_m ((s.take y36).drop y16)).2)) rfl rfl (run_mv rfl rfl) ?_
    simp only [nz1, nz2, nz3]
    refine lvw 2 (.int .i64 0) rfl rfl (run_as rfl rfl) ?_
    simp only [nz1, nz2, nz3]
    refine lvw 3 (.int .i64 ((nB_m ((s.take y36).drop y16)).2)) rfl rfl (run_as rfl rfl) ?_
    simp only [nz1, nz2, nz3]
    refine wpList_nil ?_
    refine then_n (hK57 _ _ ?_)
    refine wp_ret ?_
    refine then_r ?_
    have he58 : get_m s = (0, (nB_m ((s.take y36).drop y16)).2) := (hq50.trans (show get_m_k1 s y16 y36 = (0, (nB_m ((s.take y36).drop y16)).2) from by unfold get_m_k1; rw [if_pos hc56] <;> rfl))
    exact ⟨rfl, .tuple #[.int .i64 0, .int .i64 ((nB_m ((s.take y36).drop y16)).2)], res_tt rfl rfl rfl, ⟨by (rw [he58]; try rfl), hm53.below⟩⟩
  refine wp_skip ?_
  refine then_n (hK54 _ _ ?_)
  refine wp_seq_k (fun K59 hK59 => ?_)
  refine wp_seq_k (fun K60 hK60 => ?_)
  refine wp_region_lit ?_
  refine lvw 63 (.int .i64 ((y36 : Nat) : Int)) rfl rfl (run_mv rfl rfl) ?_
  simp only [nz1, nz2, nz3]
  refine lvw 64 (.int .i64 ((y16 : Nat) : Int)) rfl rfl (run_mv rfl rfl) ?_
  simp only [nz1, nz2, nz3]
  refine lvb 65 (y36 = y16) rfl rfl (r_eql y36 y16 rfl rfl rfl) (fun hs61 => ?_) (fun hs61 => ?_)
  · simp only [nz1, nz2, nz3]
    refine lvw 66 (.bool true) rfl rfl (run_mv rfl rfl) ?_
    simp only [nz1, nz2, nz3]
    refine lst_skip 67 rfl rfl ?_
    simp only [nz1, nz2, nz3]
    refine lst_skip 68 rfl rfl ?_
    simp only [nz1, nz2, nz3]
    refine lst_skip 69 rfl rfl ?_
    simp only [nz1, nz2, nz3]
    refine lst_skip 70 rfl rfl ?_
    simp only [nz1, nz2, nz3]
    refine lst_skip 71 rfl rfl ?_
    simp only [nz1, nz2, nz3]
    refine lvw 72 (.bool true) rfl rfl (run_pick rfl rfl rfl) ?_
    simp only [nz1, nz2, nz3]
    refine wpList_nil ?_
    refine then_n (hK60 _ _ ?_)
    refine cond_t rfl ?_
    refine wp_seq_k (fun K62 hK62 => ?_)
    refine wp_region_lit ?_
    refine lvw 2 (.int .i64 0) rfl rfl (run_as rfl rfl) ?_
    simp only [nz1, nz2, nz3]
    refine lvw 3 (.int .i64 2) rfl rfl (run_as rfl rfl) ?_
    simp only [nz1, nz2, nz3]
    refine wpList_nil ?_
    refine then_n (hK62 _ _ ?_)
    refine wp_ret ?_
    refine then_r ?_
    have he63 : get_m s = (0, 2) := (hq50.trans (show get_m_k1 s y16 y36 = (0, 2) from by unfold get_m_k1; rw [if_neg hc56, if_pos hs61] <;> rfl))
    exact ⟨rfl, .tuple #[.int .i64 0, .int .i64 2], res_tt rfl rfl rfl, ⟨by (rw [he63]; try rfl), hm53.below⟩⟩
  simp only [nz1, nz2, nz3]
  refine lvw 66 (.bool false) rfl rfl (run_mv rfl rfl) ?_
  simp only [nz1, nz2, nz3]
  refine lvw 67 (.string (tx s)) rfl rfl (run_mv rfl rfl) ?_
  simp only [nz1, nz2, nz3]
  refine lvw 68 (.int .i64 ((y36 : Nat) : Int)) rfl rfl (run_mv rfl rfl) ?_
  simp only [nz1, nz2, nz3]
  refine lvw 69 (.string (tx (s.drop y36))) rfl rfl (t_from s y36 (by omega) Tryd.underlying9 rfl rfl rfl) ?_
  simp only [nz1, nz2, nz3]
  refine lst rfl (m_call hm53 70 (.bool ((nothing_m (s.drop y36)))) rfl (run_nothing rfl rfl) (nothing_any (s.drop y36)  _  (by first | omega | assumption | (rw [List.length_drop]; omega) | (rw [List.length_take]; omega) | (rw [List.length_drop, List.length_take]; omega) | (simp; done) | (simp; omega) | (simp only [List.length_append, List.length_cons, List.length_nil]; omega) | (simp only [List.length_append, List.length_cons, List.length_nil] at *; omega) | decide)) (fun w64 (hm65 : Mm none (fun _ => True) w w64 []) => ?_))
  simp only [nz1, nz2, nz3]
  refine lvw 71 (.bool (!(nothing_m (s.drop y36)))) rfl rfl (r_not (nothing_m (s.drop y36)) rfl rfl) ?_
  simp only [nz1, nz2, nz3]
  refine lvw 72 (.bool (!(nothing_m (s.drop y36)))) rfl rfl (run_pickf rfl rfl rfl) ?_
  simp only [nz1, nz2, nz3]
  refine wpList_nil ?_
  refine then_n (hK60 _ _ ?_)
  refine cond_B (!(nothing_m (s.drop y36))) rfl (fun hc66 => ?_) (fun hc66 => ?_)
  · refine wp_seq_k (fun K67 hK67 => ?_)
    refine wp_region_lit ?_
    refine lvw 2 (.int .i64 0) rfl rfl (run_as rfl rfl) ?_
    simp only [nz1, nz2, nz3]
    refine lvw 3 (.int .i64 2) rfl rfl (run_as rfl rfl) ?_
    simp only [nz1, nz2, nz3]
    refine wpList_nil ?_
    refine then_n (hK67 _ _ ?_)
    refine wp_ret ?_
    refine then_r ?_
    have he68 : get_m s = (0, 2) := (hq50.trans (show get_m_k1 s y16 y36 = (0, 2) from by unfold get_m_k1; rw [if_neg hc56, if_neg hs61, if_pos hc66] <;> rfl))
    exact ⟨rfl, .tuple #[.int .i64 0, .int .i64 2], res_tt rfl rfl rfl, ⟨by (rw [he68]; try rfl), hm65.below⟩⟩
  refine wp_skip ?_
  refine then_n (hK59 _ _ ?_)
  refine wp_seq_k (fun K69 hK69 => ?_)
  refine wp_region_lit ?_
  refine lvw 73 (.int .i64 ((nB_m ((s.take y36).drop y16)).1)) rfl rfl (run_mv rfl rfl) ?_
  simp only [nz1, nz2, nz3]
  refine lvw 2 (.int .i64 ((nB_m ((s.take y36).drop y16)).1)) rfl rfl (run_as rfl rfl) ?_
  simp only [nz1, nz2, nz3]
  refine lvw 3 (.int .i64 0) rfl rfl (run_as rfl rfl) ?_
  simp only [nz1, nz2, nz3]
  refine wpList_nil ?_
  refine then_n (hK69 _ _ ?_)
  refine wp_ret ?_
  have he70 : get_m s = ((nB_m ((s.take y36).drop y16)).1, 0) := (hq50.trans (show get_m_k1 s y16 y36 = ((nB_m ((s.take y36).drop y16)).1, 0) from by unfold get_m_k1; rw [if_neg hc56, if_neg hs61, if_neg hc66] <;> rfl))
  exact ⟨rfl, .tuple #[.int .i64 ((nB_m ((s.take y36).drop y16)).1), .int .i64 0], res_tt rfl rfl rfl, ⟨by (rw [he70]; try rfl), hm65.below⟩⟩
theorem run_get {o : Oper} {a : Act} {w : World} {x0 : Operand} {v0 : Value} (ho : o.op = .call { callee := .value (.func 41), args := #[x0], argTypes := #[9] }) (h0 : a.eval x0 = v0) :
    (execOp a.eval o).run Tryd.prog w = .ok (.enter 41 #[v0]) w := by
  unfold execOp
  simp only [ho]
  have hf : a.eval (.func 41) = .func (.func 41) #[] #[] := rfl
  generalize a.eval = f at *
  go_simp
end Go.Proofs.YtglnifckngcpkaaDoor.Hd
