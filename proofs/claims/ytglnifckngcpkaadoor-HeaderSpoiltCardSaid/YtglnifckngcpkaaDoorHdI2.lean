/- Layer 8: a number put as the document says. -/
import Derived.Test.YtglnifckngcpkaaDoorHdJ
namespace Go.Proofs.YtglnifckngcpkaaDoor.Hd
open Go.RowKit
open Go.Proofs.YtglnifckngcpkaaDoor.Sym Go.Proofs.YtglnifckngcpkaaDoor.Mem
open Go.Proofs.YtglnifckngcpkaaDoor.Sx hiding Mm m_alloc m_store m_put m_call m_callx m_make m_append r_string r_ixS
set_option linter.unusedVariables false
attribute [local irreducible] roct_m
attribute [local irreducible] wpList Oper.wp

def rput_m_b0 (n : Int) (width : Int) (rec : Int × (List UInt8) → Sum (Int × (List UInt8)) ((List UInt8) × Int)) (x22 : Int) (x23 : List UInt8) : Sum (Int × (List UInt8)) ((List UInt8) × Int) :=
  if ((x23.length : Nat) : Int) < (width - (1 : Int)) then
    rec ((x22 / 256), (([(UInt8.ofNat x22.toNat)] : List UInt8) ++ x23))
  else
    .inl (x22, x23)
def rput_m_l0 (n : Int) (width : Int) : Nat → Int × (List UInt8) → Sum (Int × (List UInt8)) ((List UInt8) × Int)
  | 0, zz => .inl zz
  | nq + 1, zz => rput_m_b0 n width (rput_m_l0 n width nq) zz.1 zz.2

def rput_m_k0 (n : Int) (width : Int) (y27 : Int) (y28 : List UInt8) : (List UInt8) × Int :=
  if ¬ y27 = 0 then
    (([]), 3)
  else
    (([128] ++ y28), 0)

def rput_m (n : Int) (width : Int) : (List UInt8) × Int :=
  if n < 0 then
    (([]), 1)
  else
    if ¬ width = 8 then
      if ¬ width = 12 then
        (([]), 1)
      else
        if ((roct_m n (width - (1 : Int))).2) = true then
          (((roct_m n (width - (1 : Int))).1 ++ [0]), 0)
        else
          fin (rput_m_l0 n width ((width - 1 - (((([]) : List UInt8).length : Nat) : Int)).toNat + 1) (n, ([]))) (fun r => r) (fun zz => rput_m_k0 n width zz.1 zz.2)
    else
      if ((roct_m n (width - (1 : Int))).2) = true then
        (((roct_m n (width - (1 : Int))).1 ++ [0]), 0)
      else
        fin (rput_m_l0 n width ((width - 1 - (((([]) : List UInt8).length : Nat) : Int)).toNat + 1) (n, ([]))) (fun r => r) (fun zz => rput_m_k0 n width zz.1 zz.2)

set_option maxHeartbeats 4000000 in
set_option maxRecDepth 100000 in
theorem rput_any (n : Int) (width : Int) (w : World)  (hp0 : n ≤ 9223372036854775807) : Calls Tryd.prog 52 #[.int .i64 (n), .int .i64 (width)] w (fun e w' => e = .returned (.tuple #[.string (tx ((rput_m n width).1)), .int .i64 ((rput_m n width).2)]) ∧ Below w.heap.size w w') := by
  go_enter Tryd.func52, Tryd.ntmps52
  have hm00 := Mm.nil none (fun _ => True) w
  have hm0 := hm00
  refine wp_seq_k (fun K1 hK1 => ?_)
  refine wp_region_lit ?_
  refine lvw 4 (.string (tx ([]))) rfl rfl (run_as rfl rfl) ?_
  simp only [nz1, nz2, nz3]
  refine lvw 5 (.int .i64 0) rfl rfl (run_as rfl rfl) ?_
  simp only [nz1, nz2, nz3]
  refine wpList_nil ?_
  refine then_n (hK1 _ _ ?_)
  refine wp_seq_k (fun K2 hK2 => ?_)
  refine wp_seq_k (fun K3 hK3 => ?_)
  refine wp_region_lit ?_
  refine lvw 8 (.int .i64 (n)) rfl rfl (run_mv rfl rfl) ?_
  simp only [nz1, nz2, nz3]
  refine lvb 9 (n < 0) rfl rfl (z_lss n 0 rfl rfl rfl) (fun hs4 => ?_) (fun hs4 => ?_)
  · simp only [nz1, nz2, nz3]
    refine lvw 10 (.bool true) rfl rfl (run_mv rfl rfl) ?_
    simp only [nz1, nz2, nz3]
    refine lst_skip 11 rfl rfl ?_
    simp only [nz1, nz2, nz3]
    refine lst_skip 12 rfl rfl ?_
    simp only [nz1, nz2, nz3]
    refine lst_skip 13 rfl rfl ?_
    simp only [nz1, nz2, nz3]
    refine lst_skip 14 rfl rfl ?_
    simp only [nz1, nz2, nz3]
    refine lst_skip 15 rfl rfl ?_
    simp only [nz1, nz2, nz3]
    refine lst_skip 16 rfl rfl ?_
    simp only [nz1, nz2, nz3]
    refine lvw 17 (.bool true) rfl rfl (run_pick rfl rfl rfl) ?_
    simp only [nz1, nz2, nz3]
    refine wpList_nil ?_
    refine then_n (hK3 _ _ ?_)
    refine cond_t rfl ?_
    refine wp_seq_k (fun K5 hK5 => ?_)
    refine wp_region_lit ?_
    refine lvw 4 (.string (tx ([]))) rfl rfl (run_as rfl rfl) ?_
    simp only [nz1, nz2, nz3]
    refine lvw 5 (.int .i64 1) rfl rfl (run_as rfl rfl) ?_
    simp only [nz1, nz2, nz3]
    refine wpList_nil ?_
    refine then_n (hK5 _ _ ?_)
    refine wp_ret ?_
    refine then_r ?_
    have he6 : rput_m n width = (([]), 1) := (show rput_m n width = (([]), 1) from by unfold rput_m; rw [if_pos hs4] <;> rfl)
    exact ⟨rfl, .tuple #[.string (tx ([])), .int .i64 1], res_tt rfl rfl rfl, ⟨by (rw [he6]; try rfl), hm0.below⟩⟩
  simp only [nz1, nz2, nz3]
  refine lvw 10 (.bool false) rfl rfl (run_mv rfl rfl) ?_
  simp only [nz1, nz2, nz3]
  refine lvw 11 (.int .i64 (width)) rfl rfl (run_mv rfl rfl) ?_
  simp only [nz1, nz2, nz3]
  refine lvb 12 (¬ width = 8) rfl rfl (z_neq width 8 rfl rfl rfl) (fun hs7 => ?_) (fun hs7 => ?_)
  rotate_left
  · simp only [nz1, nz2, nz3]
    refine lvw 13 (.bool false) rfl rfl (run_mv rfl rfl) ?_
    simp only [nz1, nz2, nz3]
    refine lst_skip 14 rfl rfl ?_
    simp only [nz1, nz2, nz3]
    refine lst_skip 15 rfl rfl ?_
    simp only [nz1, nz2, nz3]
    refine lvw 16 (.bool false) rfl rfl (run_pickf rfl rfl rfl) ?_
    simp only [nz1, nz2, nz3]
    refine lvw 17 (.bool false) rfl rfl (run_pickf rfl rfl rfl) ?_
    simp only [nz1, nz2, nz3]
    refine wpList_nil ?_
    refine then_n (hK3 _ _ ?_)
    refine cond_f rfl ?_
    refine wp_skip ?_
    refine then_n (hK2 _ _ ?_)
    refine wp_seq_k (fun K52 hK52 => ?_)
    refine wp_region_lit ?_
    refine lvw 19 (.int .i64 (n)) rfl rfl (run_mv rfl rfl) ?_
    simp only [nz1, nz2, nz3]
    refine lvw 20 (.int .i64 (width)) rfl rfl (run_mv rfl rfl) ?_
    simp only [nz1, nz2, nz3]
    refine lvw 21 (.int .i64 ((width - (1 : Int)))) rfl rfl (z_sub width (1 : Int) _ (by rw [IntKind.wrap_i64]; omega) rfl rfl rfl) ?_
    simp only [nz1, nz2, nz3]
    refine lst rfl (m_call hm0 22 (.tuple #[.string (tx ((roct_m n (width - (1 : Int))).1)), .bool ((roct_m n (width - (1 : Int))).2)]) rfl (run_roct rfl rfl rfl) (roct_any n (width - (1 : Int))  _  (by first | omega | assumption | (simp; done) | (simp; omega) | (simp only [List.length_append, List.length_cons, List.length_nil]; omega) | (simp only [List.length_append, List.length_cons, List.length_nil] at *; omega) | decide)) (fun w53 (hm54 : Mm none (fun _ => True) w w53 []) => ?_))
    have hf55 : (((roct_m n (width - (1 : Int))).1.length : Nat) : Int) = (width - (1 : Int)) := roct_len n (width - (1 : Int)) (by omega) (by omega) (by omega)
    simp only [nz1, nz2, nz3]
    refine lvw 18 (.tuple #[.string (tx ((roct_m n (width - (1 : Int))).1)), .bool ((roct_m n (width - (1 : Int))).2)]) rfl rfl (run_mv rfl rfl) ?_
    simp only [nz1, nz2, nz3]
    refine lvw 23 (.string (tx ((roct_m n (width - (1 : Int))).1))) rfl rfl (run_ex rfl rfl rfl) ?_
    simp only [nz1, nz2, nz3]
    refine lvw 24 (.bool ((roct_m n (width - (1 : Int))).2)) rfl rfl (run_ex rfl rfl rfl) ?_
    simp only [nz1, nz2, nz3]
    refine lvw 6 (.string (tx ((roct_m n (width - (1 : Int))).1))) rfl rfl (run_as rfl rfl) ?_
    simp only [nz1, nz2, nz3]
    refine lvw 7 (.bool ((roct_m n (width - (1 : Int))).2)) rfl rfl (run_as rfl rfl) ?_
    simp only [nz1, nz2, nz3]
    refine wpList_nil ?_
    refine then_n (hK52 _ _ ?_)
    refine wp_seq_k (fun K56 hK56 => ?_)
    refine wp_seq_k (fun K57 hK57 => ?_)
    refine wp_region_lit ?_
    refine lvw 25 (.bool ((roct_m n (width - (1 : Int))).2)) rfl rfl (run_mv rfl rfl) ?_
    simp only [nz1, nz2, nz3]
    refine wpList_nil ?_
    refine then_n (hK57 _ _ ?_)
    refine cond_B ((roct_m n (width - (1 : Int))).2) rfl (fun hc58 => ?_) (fun hc58 => ?_)
    · refine wp_seq_k (fun K59 hK59 => ?_)
      refine wp_region_lit ?_
      refine lvw 26 (.string (tx ((roct_m n (width - (1 : Int))).1))) rfl rfl (run_mv rfl rfl) ?_
      simp only [nz1, nz2, nz3]
      refine lvw 27 (.string (tx ((roct_m n (width - (1 : Int))).1 ++ [0]))) rfl rfl (t_cat ((roct_m n (width - (1 : Int))).1) ([0]) (by first | omega | (simp; omega) | (simp only [List.length_append, List.length_cons, List.length_nil] at *; omega)) rfl rfl rfl) ?_
      simp only [nz1, nz2, nz3]
      refine lvw 4 (.string (tx ((roct_m n (width - (1 : Int))).1 ++ [0]))) rfl rfl (run_as rfl rfl) ?_
      simp only [nz1, nz2, nz3]
      refine lvw 5 (.int .i64 0) rfl rfl (run_as rfl rfl) ?_
      simp only [nz1, nz2, nz3]
      refine wpList_nil ?_
      refine then_n (hK59 _ _ ?_)
      refine wp_ret ?_
      refine then_r ?_
      have he60 : rput_m n width = (((roct_m n (width - (1 : Int))).1 ++ [0]), 0) := (show rput_m n width = (((roct_m n (width - (1 : Int))).1 ++ [0]), 0) from by unfold rput_m; rw [if_neg hs4, if_neg hs7, if_pos hc58] <;> rfl)
      exact ⟨rfl, .tuple #[.string (tx ((roct_m n (width - (1 : Int))).1 ++ [0])), .int .i64 0], res_tt rfl rfl rfl, ⟨by (rw [he60]; try rfl), hm54.below⟩⟩
    refine wp_skip ?_
    refine then_n (hK56 _ _ ?_)
    refine wp_seq_k (fun K61 hK61 => ?_)
    refine wp_region_lit ?_
    refine lvw 6 (.string (tx ([]))) rfl rfl (run_as rfl rfl) ?_
    simp only [nz1, nz2, nz3]
    refine wpList_nil ?_
    refine then_n (hK61 _ _ ?_)
    refine wp_seq_k (fun K62 hK62 => ?_)
    refine wp_cutK (fun a' w' => ∃ (y68 : Int) (y69 : List UInt8) (yu0 : Nat → Value), rput_m_l0 n width ((width - 1 - (((([]) : List UInt8).length : Nat) : Int)).toNat + 1) (n, ([])) = .inl (y68, y69) ∧ (y69.length ≤ 11 ∧ 0 ≤ y68 ∧ y68 ≤ 9223372036854775807) ∧ a' = ⟨#[.int .i64 (y68), .int .i64 (width), undef, undef, .string (tx ([])), .int .i64 0, .string (tx y69), .bool ((roct_m n (width - (1 : Int))).2), .int .i64 (n), .bool false, .bool false, .int .i64 (width), .bool false, .bool false, undef, undef, .bool false, .bool false, .tuple #[.string (tx ((roct_m n (width - (1 : Int))).1)), .bool ((roct_m n (width - (1 : Int))).2)], .int .i64 (n), .int .i64 (width), .int .i64 ((width - (1 : Int))), .tuple #[.string (tx ((roct_m n (width - (1 : Int))).1)), .bool ((roct_m n (width - (1 : Int))).2)], .string (tx ((roct_m n (width - (1 : Int))).1)), .bool ((roct_m n (width - (1 : Int))).2), .bool ((roct_m n (width - (1 : Int))).2), undef, undef, yu0 0, yu0 1, yu0 2, yu0 3, yu0 4, yu0 5, yu0 6, yu0 7, yu0 8, yu0 9, yu0 10, yu0 11, yu0 12, undef, undef, undef, undef], []⟩ ∧ Mm none (fun _ => True) w w' []) ?_ ?_
    · refine wp_block ?_
      refine wp_loop_n (fun n' a' w' => ∃ (n65 : Nat) (x63 : Int) (x64 : List UInt8) (u0 : Nat → Value), n' = n65 ∧ (width - 1 - (((x64 : List UInt8).length : Nat) : Int)).toNat < n65 ∧ rput_m_l0 n width ((width - 1 - (((([]) : List UInt8).length : Nat) : Int)).toNat + 1) (n, ([])) = rput_m_l0 n width n65 (x63, x64) ∧ (x64.length ≤ 11 ∧ 0 ≤ x63 ∧ x63 ≤ 9223372036854775807) ∧ a' = ⟨#[.int .i64 (x63), .int .i64 (width), undef, undef, .string (tx ([])), .int .i64 0, .string (tx x64), .bool ((roct_m n (width - (1 : Int))).2), .int .i64 (n), .bool false, .bool false, .int .i64 (width), .bool false, .bool false, undef, undef, .bool false, .bool false, .tuple #[.string (tx ((roct_m n (width - (1 : Int))).1)), .bool ((roct_m n (width - (1 : Int))).2)], .int .i64 (n), .int .i64 (width), .int .i64 ((width - (1 : Int))), .tuple #[.string (tx ((roct_m n (width - (1 : Int))).1)), .bool ((roct_m n (width - (1 : Int))).2)], .string (tx ((roct_m n (width - (1 : Int))).1)), .bool ((roct_m n (width - (1 : Int))).2), .bool ((roct_m n (width - (1 : Int))).2), undef, undef, u0 0, u0 1, u0 2, u0 3, u0 4, u0 5, u0 6, u0 7, u0 8, u0 9, u0 10, u0 11, u0 12, undef, undef, undef, undef], []⟩ ∧ Mm none (fun _ => True) w w' []) ⟨((width - 1 - (((([]) : List UInt8).length : Nat) : Int)).toNat + 1), n, ([]), (fun qq => List.getD [undef, undef, undef, undef, undef, undef, undef, undef, undef, undef, undef, undef, undef] qq undef), rfl, Nat.lt_succ_self _, rfl, (by first | omega | (simp; done) | (simp; omega) | (simp at *; omega)), rfl, hm54⟩ ?_
      rintro n65 _ w71 ⟨_, x63, x64, u0, rfl, hl75, hi67, hrp, rfl, hm72⟩ R73 hR73
      obtain ⟨k66, rfl⟩ : ∃ k, n65 = k + 1 := ⟨n65 - 1, by omega⟩
      refine wp_seq_k (fun K76 hK76 => ?_)
      refine wp_seq_k (fun K77 hK77 => ?_)
      refine wp_region_lit ?_
      refine lvw 28 (.string (tx x64)) rfl rfl (run_mv rfl rfl) ?_
      simp only [nz1, nz2, nz3]
      refine lvw 29 (.int .i64 ((x64.length : Nat) : Int)) rfl rfl (t_len rfl Tryd.underlying9 rfl) ?_
      simp only [nz1, nz2, nz3]
      refine lvw 30 (.int .i64 (width)) rfl rfl (run_mv rfl rfl) ?_
      simp only [nz1, nz2, nz3]
      refine lvw 31 (.int .i64 ((width - (1 : Int)))) rfl rfl (z_sub width (1 : Int) _ (by rw [IntKind.wrap_i64]; omega) rfl rfl rfl) ?_
      simp only [nz1, nz2, nz3]
      refine lvw 32 (.bool (decide (((x64.length : Nat) : Int) < (width - (1 : Int))))) rfl rfl (z_lss ((x64.length : Nat) : Int) (width - (1 : Int)) rfl rfl rfl) ?_
      simp only [nz1, nz2, nz3]
      refine wpList_nil ?_
      refine then_n (hK77 _ _ ?_)
      refine cond_d (((x64.length : Nat) : Int) < (width - (1 : Int))) rfl (fun hc78 => ?_) (fun hc78 => ?_)
      rotate_left
      · refine wp_exit ?_
        refine then_x ?_
        refine then_x ?_
        refine blk_x ?_
        refine then_n ?_
        exact ⟨x63, x64, (fun qq => List.getD [.string (tx x64), .int .i64 ((x64.length : Nat) : Int), .int .i64 (width), .int .i64 ((width - (1 : Int))), .bool (decide (((x64.length : Nat) : Int) < (width - (1 : Int)))), u0 5, u0 6, u0 7, u0 8, u0 9, u0 10, u0 11, u0 12] qq undef), (hi67.trans (show rput_m_b0 n width (rput_m_l0 n width k66) x63 x64 = .inl (x63, x64) from by unfold rput_m_b0; rw [if_neg hc78] <;> rfl)), (by first | omega | (simp; done) | (simp; omega) | (simp at *; omega)), rfl, hm72⟩
      refine wp_skip ?_
      refine then_n (hK76 _ _ ?_)
      refine wp_block ?_
      refine wp_seq_k (fun K79 hK79 => ?_)
      refine wp_region_lit ?_
      refine lvw 33 (.int .i64 (x63)) rfl rfl (run_mv rfl rfl) ?_
      simp only [nz1, nz2, nz3]
      refine lvw 34 (.int .u8 (((UInt8.ofNat x63.toNat).toNat : Nat) : Int)) rfl rfl (z_conv (k' := .u8) x63 (((UInt8.ofNat x63.toNat).toNat : Nat) : Int) some_3 Tryd.underlying5 (u8_wrap _ (by omega)) rfl rfl) ?_
      simp only [nz1, nz2, nz3]
      refine lst rfl (m_make (c := #[.int .u8 (((UInt8.ofNat x63.toNat).toNat : Nat) : Int)]) (T := 5) (fun g => .slice (some ⟨g, 0, none⟩) 1 1) hm72 35 rfl (by unfold execOp; go_simp; try rfl) (fun g82 w80 (hm81 : Mm none (fun _ => True) w w80 [.blk g82 #[.int .u8 (((UInt8.ofNat x63.toNat).toNat : Nat) : Int)] 5]) => ?_))
      simp only [nz1, nz2, nz3]
      refine lvw 36 (.string (tx ([(UInt8.ofNat x63.toNat)] : List UInt8))) rfl rfl (r_stringR ([(UInt8.ofNat x63.toNat)]) (by have h := Rs.blk (enc := eB) (l := ([(UInt8.ofNat x63.toNat)] : List UInt8)) (hm81.at 0 rfl) rfl rfl eB_len (Nat.le_refl _); unfold Rs at h; rw [eB_map] at h; exact h) Tryd.underlying34 Tryd.underlying5 Tryd.underlying9 rfl rfl) ?_
      simp only [nz1, nz2, nz3]
      refine lvw 37 (.string (tx x64)) rfl rfl (run_mv rfl rfl) ?_
      simp only [nz1, nz2, nz3]
      refine lvw 38 (.string (tx (([(UInt8.ofNat x63.toNat)] : List UInt8) ++ x64))) rfl rfl (t_cat ([(UInt8.ofNat x63.toNat)] : List UInt8) x64 (by first | omega | (simp; omega) | (simp only [List.length_append, List.length_cons, List.length_nil] at *; omega)) rfl rfl rfl) ?_
      simp only [nz1, nz2, nz3]
      refine lvw 6 (.string (tx (([(UInt8.ofNat x63.toNat)] : List UInt8) ++ x64))) rfl rfl (run_as rfl rfl) ?_
      simp only [nz1, nz2, nz3]
      refine wpList_nil ?_
      refine then_n (hK79 _ _ ?_)
      refine wp_region_lit ?_
      refine lvw 39 (.int .i64 (x63)) rfl rfl (run_mv rfl rfl) ?_
      simp only [nz1, nz2, nz3]
      refine lvw 40 (.int .i64 ((x63 / 256))) rfl rfl (z_shrN x63 8 _ (by omega) (by decide) (by omega) rfl rfl rfl) ?_
      simp only [nz1, nz2, nz3]
      refine lvw 0 (.int .i64 ((x63 / 256))) rfl rfl (run_as rfl rfl) ?_
      simp only [nz1, nz2]
      refine wpList_nil ?_
      refine blk_n ?_
      refine then_n (hR73 _ _ _ ⟨k66, (x63 / 256), (([(UInt8.ofNat x63.toNat)] : List UInt8) ++ x64), (fun qq => List.getD [.string (tx x64), .int .i64 ((x64.length : Nat) : Int), .int .i64 (width), .int .i64 ((width - (1 : Int))), .bool (decide (((x64.length : Nat) : Int) < (width - (1 : Int)))), .int .i64 (x63), .int .u8 (((UInt8.ofNat x63.toNat).toNat : Nat) : Int), .slice (some ⟨g82, 0, none⟩) 1 1, .string (tx ([(UInt8.ofNat x63.toNat)] : List UInt8)), .string (tx x64), .string (tx (([(UInt8.ofNat x63.toNat)] : List UInt8) ++ x64)), .int .i64 (x63), .int .i64 ((x63 / 256))] qq undef), rfl, (by first | omega | (simp; omega) | (simp at *; omega)), (hi67.trans (show rput_m_b0 n width (rput_m_l0 n width k66) x63 x64 = rput_m_l0 n width k66 ((x63 / 256), (([(UInt8.ofNat x63.toNat)] : List UInt8) ++ x64)) from by unfold rput_m_b0; rw [if_pos hc78] <;> rfl)), (by first | omega | (simp; omega) | (simp only [List.length_append, List.length_cons, List.length_nil] at *; omega)), rfl, (Mm.reorder hm81 [] (by decide) rfl)⟩ ?_)
      omega
    rintro _ w83 ⟨y68, y69, yu0, hx70, hrp, rfl, hm84⟩
    have hq85 : rput_m n width = rput_m_k0 n width y68 y69 := (show rput_m n width = rput_m_k0 n width y68 y69 from by unfold rput_m; rw [if_neg hs4, if_neg hs7, if_neg hc58, hx70] <;> rfl)
    refine then_n (hK62 _ _ ?_)
    refine wp_seq_k (fun K86 hK86 => ?_)
    refine wp_seq_k (fun K87 hK87 => ?_)
    refine wp_region_lit ?_
    refine lvw 41 (.int .i64 (y68)) rfl rfl (run_mv rfl rfl) ?_
    simp only [nz1, nz2, nz3]
    refine lvw 42 (.bool (decide (¬ y68 = 0))) rfl rfl (z_neq y68 0 rfl rfl rfl) ?_
    simp only [nz1, nz2, nz3]
    refine wpList_nil ?_
    refine then_n (hK87 _ _ ?_)
    refine cond_d (¬ y68 = 0) rfl (fun hc88 => ?_) (fun hc88 => ?_)
    · refine wp_seq_k (fun K89 hK89 => ?_)
      refine wp_region_lit ?_
      refine lvw 4 (.string (tx ([]))) rfl rfl (run_as rfl rfl) ?_
      simp only [nz1, nz2, nz3]
      refine lvw 5 (.int .i64 3) rfl rfl (run_as rfl rfl) ?_
      simp only [nz1, nz2, nz3]
      refine wpList_nil ?_
      refine then_n (hK89 _ _ ?_)
      refine wp_ret ?_
      refine then_r ?_
      have he90 : rput_m n width = (([]), 3) := (hq85.trans (show rput_m_k0 n width y68 y69 = (([]), 3) from by unfold rput_m_k0; rw [if_pos hc88] <;> rfl))
      exact ⟨rfl, .tuple #[.string (tx ([])), .int .i64 3], res_tt rfl rfl rfl, ⟨by (rw [he90]; try rfl), hm84.below⟩⟩
    refine wp_skip ?_
    refine then_n (hK86 _ _ ?_)
    refine wp_seq_k (fun K91 hK91 => ?_)
    refine wp_region_lit ?_
    refine lvw 43 (.string (tx y69)) rfl rfl (run_mv rfl rfl) ?_
    simp only [nz1, nz2, nz3]
    refine lvw 44 (.string (tx ([128] ++ y69))) rfl rfl (t_cat ([128]) y69 (by first | omega | (simp; omega) | (simp only [List.length_append, List.length_cons, List.length_nil] at *; omega)) rfl rfl rfl) ?_
    simp only [nz1, nz2, nz3]
    refine lvw 4 (.string (tx ([128] ++ y69))) rfl rfl (run_as rfl rfl) ?_
    simp only [nz1, nz2, nz3]
    refine lvw 5 (.int .i64 0) rfl rfl (run_as rfl rfl) ?_
    simp only [nz1, nz2, nz3]
    refine wpList_nil ?_
    refine then_n (hK91 _ _ ?_)
    refine wp_ret ?_
    have he92 : rput_m n width = (([128] ++ y69), 0) := (hq85.trans (show rput_m_k0 n width y68 y69 = (([128] ++ y69), 0) from by unfold rput_m_k0; rw [if_neg hc88] <;> rfl))
    exact ⟨rfl, .tuple #[.string (tx ([128] ++ y69)), .int .i64 0], res_tt rfl rfl rfl, ⟨by (rw [he92]; try rfl), hm84.below⟩⟩
  simp only [nz1, nz2, nz3]
  refine lvw 13 (.bool true) rfl rfl (run_mv rfl rfl) ?_
  simp only [nz1, nz2, nz3]
  refine lvw 14 (.int .i64 (width)) rfl rfl (run_mv rfl rfl) ?_
  simp only [nz1, nz2, nz3]
  refine lvw 15 (.bool (decide (¬ width = 12))) rfl rfl (z_neq width 12 rfl rfl rfl) ?_
  simp only [nz1, nz2, nz3]
  refine lvw 16 (.bool (decide (¬ width = 12))) rfl rfl (run_pick rfl rfl rfl) ?_
  simp only [nz1, nz2, nz3]
  refine lvw 17 (.bool (decide (¬ width = 12))) rfl rfl (run_pickf rfl rfl rfl) ?_
  simp only [nz1, nz2, nz3]
  refine wpList_nil ?_
  refine then_n (hK3 _ _ ?_)
  refine cond_d (¬ width = 12) rfl (fun hc8 => ?_) (fun hc8 => ?_)
  · refine wp_seq_k (fun K9 hK9 => ?_)
    refine wp_region_lit ?_
    refine lvw 4 (.string (tx ([]))) rfl rfl (run_as rfl rfl) ?_
    simp only [nz1, nz2, nz3]
    refine lvw 5 (.int .i64 1) rfl rfl (run_as rfl rfl) ?_
    simp only [nz1, nz2, nz3]
    refine wpList_nil ?_
    refine then_n (hK9 _ _ ?_)
    refine wp_ret ?_
    refine then_r ?_
    have he10 : rput_m n width = (([]), 1) := (show rput_m n width = (([]), 1) from by unfold rput_m; rw [if_neg hs4, if_pos hs7, if_pos hc8] <;> rfl)
    exact ⟨rfl, .tuple #[.string (tx ([])), .int .i64 1], res_tt rfl rfl rfl, ⟨by (rw [he10]; try rfl), hm0.below⟩⟩
  refine wp_skip ?_
  refine then_n (hK2 _ _ ?_)
  refine wp_seq_k (fun K11 hK11 => ?_)
  refine wp_region_lit ?_
  refine lvw 19 (.int .i64 (n)) rfl rfl (run_mv rfl rfl) ?_
  simp only [nz1, nz2, nz3]
  refine lvw 20 (.int .i64 (width)) rfl rfl (run_mv rfl rfl) ?_
  simp only [nz1, nz2, nz3]
  refine lvw 21 (.int .i64 ((width - (1 : Int)))) rfl rfl (z_sub width (1 : Int) _ (by rw [IntKind.wrap_i64]; omega) rfl rfl rfl) ?_
  simp only [nz1, nz2, nz3]
  refine lst rfl (m_call hm0 22 (.tuple #[.string (tx ((roct_m n (width - (1 : Int))).1)), .bool ((roct_m n (width - (1 : Int))).2)]) rfl (run_roct rfl rfl rfl) (roct_any n (width - (1 : Int))  _  (by first | omega | assumption | (simp; done) | (simp; omega) | (simp only [List.length_append, List.length_cons, List.length_nil]; omega) | (simp only [List.length_append, List.length_cons, List.length_nil] at *; omega) | decide)) (fun w12 (hm13 : Mm none (fun _ => True) w w12 []) => ?_))
  have hf14 : (((roct_m n (width - (1 : Int))).1.length : Nat) : Int) = (width - (1 : Int)) := roct_len n (width - (1 : Int)) (by omega) (by omega) (by omega)
  simp only [nz1, nz2, nz3]
  refine lvw 18 (.tuple #[.string (tx ((roct_m n (width - (1 : Int))).1)), .bool ((roct_m n (width - (1 : Int))).2)]) rfl rfl (run_mv rfl rfl) ?_
  simp only [nz1, nz2, nz3]
  refine lvw 23 (.string (tx ((roct_m n (width - (1 : Int))).1))) rfl rfl (run_ex rfl rfl rfl) ?_
  simp only [nz1, nz2, nz3]
  refine lvw 24 (.bool ((roct_m n (width - (1 : Int))).2)) rfl rfl (run_ex rfl rfl rfl) ?_
  simp only [nz1, nz2, nz3]
  refine lvw 6 (.string (tx ((roct_m n (width - (1 : Int))).1))) rfl rfl (run_as rfl rfl) ?_
  simp only [nz1, nz2, nz3]
  refine lvw 7 (.bool ((roct_m n (width - (1 : Int))).2)) rfl rfl (run_as rfl rfl) ?_
  simp only [nz1, nz2, nz3]
  refine wpList_nil ?_
  refine then_n (hK11 _ _ ?_)
  refine wp_seq_k (fun K15 hK15 => ?_)
  refine wp_seq_k (fun K16 hK16 => ?_)
  refine wp_region_lit ?_
  refine lvw 25 (.bool ((roct_m n (width - (1 : Int))).2)) rfl rfl (run_mv rfl rfl) ?_
  simp only [nz1, nz2, nz3]
  refine wpList_nil ?_
  refine then_n (hK16 _ _ ?_)
  refine cond_B ((roct_m n (width - (1 : Int))).2) rfl (fun hc17 => ?_) (fun hc17 => ?_)
  · refine wp_seq_k (fun K18 hK18 => ?_)
    refine wp_region_lit ?_
    refine lvw 26 (.string (tx ((roct_m n (width - (1 : Int))).1))) rfl rfl (run_mv rfl rfl) ?_
    simp only [nz1, nz2, nz3]
    refine lvw 27 (.string (tx ((roct_m n (width - (1 : Int))).1 ++ [0]))) rfl rfl (t_cat ((roct_m n (width - (1 : Int))).1) ([0]) (by first | omega | (simp; omega) | (simp only [List.length_append, List.length_cons, List.length_nil] at *; omega)) rfl rfl rfl) ?_
    simp only [nz1, nz2, nz3]
    refine lvw 4 (.string (tx ((roct_m n (width - (1 : Int))).1 ++ [0]))) rfl rfl (run_as rfl rfl) ?_
    simp only [nz1, nz2, nz3]
    refine lvw 5 (.int .i64 0) rfl rfl (run_as rfl rfl) ?_
    simp only [nz1, nz2, nz3]
    refine wpList_nil ?_
    refine then_n (hK18 _ _ ?_)
    refine wp_ret ?_
    refine then_r ?_
    have he19 : rput_m n width = (((roct_m n (width - (1 : Int))).1 ++ [0]), 0) := (show rput_m n width = (((roct_m n (width - (1 : Int))).1 ++ [0]), 0) from by unfold rput_m; rw [if_neg hs4, if_pos hs7, if_neg hc8, if_pos hc17] <;> rfl)
    exact ⟨rfl, .tuple #[.string (tx ((roct_m n (width - (1 : Int))).1 ++ [0])), .int .i64 0], res_tt rfl rfl rfl, ⟨by (rw [he19]; try rfl), hm13.below⟩⟩
  refine wp_skip ?_
  refine then_n (hK15 _ _ ?_)
  refine wp_seq_k (fun K20 hK20 => ?_)
  refine wp_region_lit ?_
  refine lvw 6 (.string (tx ([]))) rfl rfl (run_as rfl rfl) ?_
  simp only [nz1, nz2, nz3]
  refine wpList_nil ?_
  refine then_n (hK20 _ _ ?_)
  refine wp_seq_k (fun K21 hK21 => ?_)
  refine wp_cutK (fun a' w' => ∃ (y27 : Int) (y28 : List UInt8) (yu0 : Nat → Value), rput_m_l0 n width ((width - 1 - (((([]) : List UInt8).length : Nat) : Int)).toNat + 1) (n, ([])) = .inl (y27, y28) ∧ (y28.length ≤ 11 ∧ 0 ≤ y27 ∧ y27 ≤ 9223372036854775807) ∧ a' = ⟨#[.int .i64 (y27), .int .i64 (width), undef, undef, .string (tx ([])), .int .i64 0, .string (tx y28), .bool ((roct_m n (width - (1 : Int))).2), .int .i64 (n), .bool false, .bool false, .int .i64 (width), .bool true, .bool true, .int .i64 (width), .bool (decide (¬ width = 12)), .bool (decide (¬ width = 12)), .bool (decide (¬ width = 12)), .tuple #[.string (tx ((roct_m n (width - (1 : Int))).1)), .bool ((roct_m n (width - (1 : Int))).2)], .int .i64 (n), .int .i64 (width), .int .i64 ((width - (1 : Int))), .tuple #[.string (tx ((roct_m n (width - (1 : Int))).1)), .bool ((roct_m n (width - (1 : Int))).2)], .string (tx ((roct_m n (width - (1 : Int))).1)), .bool ((roct_m n (width - (1 : Int))).2), .bool ((roct_m n (width - (1 : Int))).2), undef, undef, yu0 0, yu0 1, yu0 2, yu0 3, yu0 4, yu0 5, yu0 6, yu0 7, yu0 8, yu0 9, yu0 10, yu0 11, yu0 12, undef, undef, undef, undef], []⟩ ∧ Mm none (fun _ => True) w w' []) ?_ ?_
  · refine wp_block ?_
    refine wp_loop_n (fun n' a' w' => ∃ (n24 : Nat) (x22 : Int) (x23 : List UInt8) (u0 : Nat → Value), n' = n24 ∧ (width - 1 - (((x23 : List UInt8).length : Nat) : Int)).toNat < n24 ∧ rput_m_l0 n width ((width - 1 - (((([]) : List UInt8).length : Nat) : Int)).toNat + 1) (n, ([])) = rput_m_l0 n width n24 (x22, x23) ∧ (x23.length ≤ 11 ∧ 0 ≤ x22 ∧ x22 ≤ 9223372036854775807) ∧ a' = ⟨#[.int .i64 (x22), .int .i64 (width), undef, undef, .string (tx ([])), .int .i64 0, .string (tx x23), .bool ((roct_m n (width - (1 : Int))).2), .int .i64 (n), .bool false, .bool false, .int .i64 (width), .bool true, .bool true, .int .i64 (width), .bool (decide (¬ width = 12)), .bool (decide (¬ width = 12)), .bool (decide (¬ width = 12)), .tuple #[.string (tx ((roct_m n (width - (1 : Int))).1)), .bool ((roct_m n (width - (1 : Int))).2)], .int .i64 (n), .int .i64 (width), .int .i64 ((width - (1 : Int))), .tuple #[.string (tx ((roct_m n (width - (1 : Int))).1)), .bool ((roct_m n (width - (1 : Int))).2)], .string (tx ((roct_m n (width - (1 : Int))).1)), .bool ((roct_m n (width - (1 : Int))).2), .bool ((roct_m n (width - (1 : Int))).2), undef, undef, u0 0, u0 1, u0 2, u0 3, u0 4, u0 5, u0 6, u0 7, u0 8, u0 9, u0 10, u0 11, u0 12, undef, undef, undef, undef], []⟩ ∧ Mm none (fun _ => True) w w' []) ⟨((width - 1 - (((([]) : List UInt8).length : Nat) : Int)).toNat + 1), n, ([]), (fun qq => List.getD [undef, undef, undef, undef, undef, undef, undef, undef, undef, undef, undef, undef, undef] qq undef), rfl, Nat.lt_succ_self _, rfl, (by first | omega | (simp; done) | (simp; omega) | (simp at *; omega)), rfl, hm13⟩ ?_
    rintro n24 _ w30 ⟨_, x22, x23, u0, rfl, hl34, hi26, hrp, rfl, hm31⟩ R32 hR32
    obtain ⟨k25, rfl⟩ : ∃ k, n24 = k + 1 := ⟨n24 - 1, by omega⟩
    refine wp_seq_k (fun K35 hK35 => ?_)
    refine wp_seq_k (fun K36 hK36 => ?_)
    refine wp_region_lit ?_
    refine lvw 28 (.string (tx x23)) rfl rfl (run_mv rfl rfl) ?_
    simp only [nz1, nz2, nz3]
    refine lvw 29 (.int .i64 ((x23.length : Nat) : Int)) rfl rfl (t_len rfl Tryd.underlying9 rfl) ?_
    simp only [nz1, nz2, nz3]
    refine lvw 30 (.int .i64 (width)) rfl rfl (run_mv rfl rfl) ?_
    simp only [nz1, nz2, nz3]
    refine lvw 31 (.int .i64 ((width - (1 : Int)))) rfl rfl (z_sub width (1 : Int) _ (by rw [IntKind.wrap_i64]; omega) rfl rfl rfl) ?_
    simp only [nz1, nz2, nz3]
    refine lvw 32 (.bool (decide (((x23.length : Nat) : Int) < (width - (1 : Int))))) rfl rfl (z_lss ((x23.length : Nat) : Int) (width - (1 : Int)) rfl rfl rfl) ?_
    simp only [nz1, nz2, nz3]
    refine wpList_nil ?_
    refine then_n (hK36 _ _ ?_)
    refine cond_d (((x23.length : Nat) : Int) < (width - (1 : Int))) rfl (fun hc37 => ?_) (fun hc37 => ?_)
    rotate_left
    · refine wp_exit ?_
      refine then_x ?_
      refine then_x ?_
      refine blk_x ?_
      refine then_n ?_
      exact ⟨x22, x23, (fun qq => List.getD [.string (tx x23), .int .i64 ((x23.length : Nat) : Int), .int .i64 (width), .int .i64 ((width - (1 : Int))), .bool (decide (((x23.length : Nat) : Int) < (width - (1 : Int)))), u0 5, u0 6, u0 7, u0 8, u0 9, u0 10, u0 11, u0 12] qq undef), (hi26.trans (show rput_m_b0 n width (rput_m_l0 n width k25) x22 x23 = .inl (x22, x23) from by unfold rput_m_b0; rw [if_neg hc37] <;> rfl)), (by first | omega | (simp; done) | (simp; omega) | (simp at *; omega)), rfl, hm31⟩
    refine wp_skip ?_
    refine then_n (hK35 _ _ ?_)
    refine wp_block ?_
    refine wp_seq_k (fun K38 hK38 => ?_)
    refine wp_region_lit ?_
    refine lvw 33 (.int .i64 (x22)) rfl rfl (run_mv rfl rfl) ?_
    simp only [nz1, nz2, nz3]
    refine lvw 34 (.int .u8 (((UInt8.ofNat x22.toNat).toNat : Nat) : Int)) rfl rfl (z_conv (k' := .u8) x22 (((UInt8.ofNat x22.toNat).toNat : Nat) : Int) some_3 Tryd.underlying5 (u8_wrap _ (by omega)) rfl rfl) ?_
    simp only [nz1, nz2, nz3]
    refine lst rfl (m_make (c := #[.int .u8 (((UInt8.ofNat x22.toNat).toNat : Nat) : Int)]) (T := 5) (fun g => .slice (some ⟨g, 0, none⟩) 1 1) hm31 35 rfl (by unfold execOp; go_simp; try rfl) (fun g41 w39 (hm40 : Mm none (fun _ => True) w w39 [.blk g41 #[.int .u8 (((UInt8.ofNat x22.toNat).toNat : Nat) : Int)] 5]) => ?_))
    simp only [nz1, nz2, nz3]
    refine lvw 36 (.string (tx ([(UInt8.ofNat x22.toNat)] : List UInt8))) rfl rfl (r_stringR ([(UInt8.ofNat x22.toNat)]) (by have h := Rs.blk (enc := eB) (l := ([(UInt8.ofNat x22.toNat)] : List UInt8)) (hm40.at 0 rfl) rfl rfl eB_len (Nat.le_refl _); unfold Rs at h; rw [eB_map] at h; exact h) Tryd.underlying34 Tryd.underlying5 Tryd.underlying9 rfl rfl) ?_
    simp only [nz1, nz2, nz3]
    refine lvw 37 (.string (tx x23)) rfl rfl (run_mv rfl rfl) ?_
    simp only [nz1, nz2, nz3]
    refine lvw 38 (.string (tx (([(UInt8.ofNat x22.toNat)] : List UInt8) ++ x23))) rfl rfl (t_cat ([(UInt8.ofNat x22.toNat)] : List UInt8) x23 (by first | omega | (simp; omega) | (simp only [List.length_append, List.length_cons, List.length_nil] at *; omega)) rfl rfl rfl) ?_
    simp only [nz1, nz2, nz3]
    refine lvw 6 (.string (tx (([(UInt8.ofNat x22.toNat)] : List UInt8) ++ x23))) rfl rfl (run_as rfl rfl) ?_
    simp only [nz1, nz2, nz3]
    refine wpList_nil ?_
    refine then_n (hK38 _ _ ?_)
    refine wp_region_lit ?_
    refine lvw 39 (.int .i64 (x22)) rfl rfl (run_mv rfl rfl) ?_
    simp only [nz1, nz2, nz3]
    refine lvw 40 (.int .i64 ((x22 / 256))) rfl rfl (z_shrN x22 8 _ (by omega) (by decide) (by omega) rfl rfl rfl) ?_
    simp only [nz1, nz2, nz3]
    refine lvw 0 (.int .i64 ((x22 / 256))) rfl rfl (run_as rfl rfl) ?_
    simp only [nz1, nz2]
    refine wpList_nil ?_
    refine blk_n ?_
    refine then_n (hR32 _ _ _ ⟨k25, (x22 / 256), (([(UInt8.ofNat x22.toNat)] : List UInt8) ++ x23), (fun qq => List.getD [.string (tx x23), .int .i64 ((x23.length : Nat) : Int), .int .i64 (width), .int .i64 ((width - (1 : Int))), .bool (decide (((x23.length : Nat) : Int) < (width - (1 : Int)))), .int .i64 (x22), .int .u8 (((UInt8.ofNat x22.toNat).toNat : Nat) : Int), .slice (some ⟨g41, 0, none⟩) 1 1, .string (tx ([(UInt8.ofNat x22.toNat)] : List UInt8)), .string (tx x23), .string (tx (([(UInt8.ofNat x22.toNat)] : List UInt8) ++ x23)), .int .i64 (x22), .int .i64 ((x22 / 256))] qq undef), rfl, (by first | omega | (simp; omega) | (simp at *; omega)), (hi26.trans (show rput_m_b0 n width (rput_m_l0 n width k25) x22 x23 = rput_m_l0 n width k25 ((x22 / 256), (([(UInt8.ofNat x22.toNat)] : List UInt8) ++ x23)) from by unfold rput_m_b0; rw [if_pos hc37] <;> rfl)), (by first | omega | (simp; omega) | (simp only [List.length_append, List.length_cons, List.length_nil] at *; omega)), rfl, (Mm.reorder hm40 [] (by decide) rfl)⟩ ?_)
    omega
  rintro _ w42 ⟨y27, y28, yu0, hx29, hrp, rfl, hm43⟩
  have hq44 : rput_m n width = rput_m_k0 n width y27 y28 := (show rput_m n width = rput_m_k0 n width y27 y28 from by unfold rput_m; rw [if_neg hs4, if_pos hs7, if_neg hc8, if_neg hc17, hx29] <;> rfl)
  refine then_n (hK21 _ _ ?_)
  refine wp_seq_k (fun K45 hK45 => ?_)
  refine wp_seq_k (fun K46 hK46 => ?_)
  refine wp_region_lit ?_
  refine lvw 41 (.int .i64 (y27)) rfl rfl (run_mv rfl rfl) ?_
  simp only [nz1, nz2, nz3]
  refine lvw 42 (.bool (decide (¬ y27 = 0))) rfl rfl (z_neq y27 0 rfl rfl rfl) ?_
  simp only [nz1, nz2, nz3]
  refine wpList_nil ?_
  refine then_n (hK46 _ _ ?_)
  refine cond_d (¬ y27 = 0) rfl (fun hc47 => ?_) (fun hc47 => ?_)
  · refine wp_seq_k (fun K48 hK48 => ?_)
    refine wp_region_lit ?_
    refine lvw 4 (.string (tx ([]))) rfl rfl (run_as rfl rfl) ?_
    simp only [nz1, nz2, nz3]
    refine lvw 5 (.int .i64 3) rfl rfl (run_as rfl rfl) ?_
    simp only [nz1, nz2, nz3]
    refine wpList_nil ?_
    refine then_n (hK48 _ _ ?_)
    refine wp_ret ?_
    refine then_r ?_
    have he49 : rput_m n width = (([]), 3) := (hq44.trans (show rput_m_k0 n width y27 y28 = (([]), 3) from by unfold rput_m_k0; rw [if_pos hc47] <;> rfl))
    exact ⟨rfl, .tuple #[.string (tx ([])), .int .i64 3], res_tt rfl rfl rfl, ⟨by (rw [he49]; try rfl), hm43.below⟩⟩
  refine wp_skip ?_
  refine then_n (hK45 _ _ ?_)
  refine wp_seq_k (fun K50 hK50 => ?_)
  refine wp_region_lit ?_
  refine lvw 43 (.string (tx y28)) rfl rfl (run_mv rfl rfl) ?_
  simp only [nz1, nz2, nz3]
  refine lvw 44 (.string (tx ([128] ++ y28))) rfl rfl (t_cat ([128]) y28 (by first | omega | (simp; omega) | (simp only [List.length_append, List.length_cons, List.length_nil] at *; omega)) rfl rfl rfl) ?_
  simp only [nz1, nz2, nz3]
  refine lvw 4 (.string (tx ([128] ++ y28))) rfl rfl (run_as rfl rfl) ?_
  simp only [nz1, nz2, nz3]
  refine lvw 5 (.int .i64 0) rfl rfl (run_as rfl rfl) ?_
  simp only [nz1, nz2, nz3]
  refine wpList_nil ?_
  refine then_n (hK50 _ _ ?_)
  refine wp_ret ?_
  have he51 : rput_m n width = (([128] ++ y28), 0) := (hq44.trans (show rput_m_k0 n width y27 y28 = (([128] ++ y28), 0) from by unfold rput_m_k0; rw [if_neg hc47] <;> rfl))
  exact ⟨rfl, .tuple #[.string (tx ([128] ++ y28)), .int .i64 0], res_tt rfl rfl rfl, ⟨by (rw [he51]; try rfl), hm43.below⟩⟩
theorem run_rput {o : Oper} {a : Act} {w : World} {x0 x1 : Operand} {v0 v1 : Value} (ho : o.op = .call { callee := .value (.func 52), args := #[x0, x1], argTypes := #[3, 3] }) (h0 : a.eval x0 = v0) (h1 : a.eval x1 = v1) :
    (execOp a.eval o).run Tryd.prog w = .ok (.enter 52 #[v0, v1]) w := by
  unfold execOp
  simp only [ho]
  have hf : a.eval (.func 52) = .func (.func 52) #[] #[] := rfl
  generalize a.eval = f at *
  go_simp
end Go.Proofs.YtglnifckngcpkaaDoor.Hd
