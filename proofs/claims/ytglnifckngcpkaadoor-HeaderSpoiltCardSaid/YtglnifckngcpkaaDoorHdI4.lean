/- Layer 8: a number read as the document says. -/
import Derived.Test.YtglnifckngcpkaaDoorHdI3
namespace Go.Proofs.YtglnifckngcpkaaDoor.Hd
open Go.RowKit
open Go.Proofs.YtglnifckngcpkaaDoor.Sym Go.Proofs.YtglnifckngcpkaaDoor.Mem
open Go.Proofs.YtglnifckngcpkaaDoor.Sx hiding Mm m_alloc m_store m_put m_call m_callx m_make m_append r_string r_ixS
set_option linter.unusedVariables false
attribute [local irreducible] rwide_m
attribute [local irreducible] wpList Oper.wp

def rget_m_b0 (s : List UInt8) (rec : Nat → Sum (Nat) (Int × Int)) (x12 : Nat) : Sum (Nat) (Int × Int) :=
  if x12 < s.length then
    if by' s x12 = 32 then
      rec (x12 + 1)
    else
      .inl x12
  else
    .inl x12
def rget_m_l0 (s : List UInt8) : Nat → Nat → Sum (Nat) (Int × Int)
  | 0, zz => .inl zz
  | nq + 1, zz => rget_m_b0 s (rget_m_l0 s nq) zz

def rget_m_b1 (s : List UInt8) (y16 : Nat) (rec : Nat × Nat × Nat → Sum (Nat × Nat × Nat) (Int × Int)) (x32 : Nat) (x33 : Nat) (x34 : Nat) : Sum (Nat × Nat × Nat) (Int × Int) :=
  if x32 < s.length then
    if 48 ≤ by' s x32 then
      if by' s x32 ≤ 55 then
        if 1152921504606846976 ≤ x33 then
          .inr (0, 3)
        else
          rec ((x32 + 1), ((8 * x33) + ((by' s x32) - 48)), (x34 + 1))
      else
        .inl (x32, x33, x34)
    else
      .inl (x32, x33, x34)
  else
    .inl (x32, x33, x34)
def rget_m_l1 (s : List UInt8) (y16 : Nat) : Nat → Nat × Nat × Nat → Sum (Nat × Nat × Nat) (Int × Int)
  | 0, zz => .inl zz
  | nq + 1, zz => rget_m_b1 s y16 (rget_m_l1 s y16 nq) zz.1 zz.2.1 zz.2.2

def rget_m_b2 (s : List UInt8) (y16 : Nat) (y38 : Nat) (y39 : Nat) (y40 : Nat) (rec : Nat → Sum (Nat) (Int × Int)) (x65 : Nat) : Sum (Nat) (Int × Int) :=
  if x65 < s.length then
    if ¬ by' s x65 = 32 then
      if ¬ by' s x65 = 0 then
        .inr (0, 2)
      else
        rec (x65 + 1)
    else
      rec (x65 + 1)
  else
    .inl x65
def rget_m_l2 (s : List UInt8) (y16 : Nat) (y38 : Nat) (y39 : Nat) (y40 : Nat) : Nat → Nat → Sum (Nat) (Int × Int)
  | 0, zz => .inl zz
  | nq + 1, zz => rget_m_b2 s y16 y38 y39 y40 (rget_m_l2 s y16 y38 y39 y40 nq) zz

def rget_m_k2 (s : List UInt8) (y16 : Nat) (y38 : Nat) (y39 : Nat) (y40 : Nat) (y69 : Nat) : Int × Int :=
  if y40 = 0 then
    (0, 2)
  else
    (((y39 : Nat) : Int), 0)

def rget_m_k1 (s : List UInt8) (y16 : Nat) (y38 : Nat) (y39 : Nat) (y40 : Nat) : Int × Int :=
  fin (rget_m_l2 s y16 y38 y39 y40 ((s.length - y38) + 1) y38) (fun r => r) (fun zz => rget_m_k2 s y16 y38 y39 y40 zz)

def rget_m_k0 (s : List UInt8) (y16 : Nat) : Int × Int :=
  fin (rget_m_l1 s y16 ((s.length - y16) + 1) (y16, 0, 0)) (fun r => r) (fun zz => rget_m_k1 s y16 zz.1 zz.2.1 zz.2.2)

def rget_m (s : List UInt8) : Int × Int :=
  if ¬ s = [] then
    if by' s 0 = 128 then
      ((rwide_m (s.drop 1)).1, (rwide_m (s.drop 1)).2)
    else
      fin (rget_m_l0 s ((s.length - 0) + 1) 0) (fun r => r) (fun zz => rget_m_k0 s zz)
  else
    fin (rget_m_l0 s ((s.length - 0) + 1) 0) (fun r => r) (fun zz => rget_m_k0 s zz)

set_option maxHeartbeats 4000000 in
set_option maxRecDepth 100000 in
theorem rget_any (s : List UInt8) (w : World)  (hp0 : s.length ≤ 1048576) : Calls Tryd.prog 43 #[.string (tx s)] w (fun e w' => e = .returned (.tuple #[.int .i64 ((rget_m s).1), .int .i64 ((rget_m s).2)]) ∧ Below w.heap.size w w') := by
  go_enter Tryd.func43, Tryd.ntmps43
  have hm00 := Mm.nil none (fun _ => True) w
  have hm0 := hm00
  refine wp_seq_k (fun K1 hK1 => ?_)
  refine wp_region_lit ?_
  refine lvw 2 (.int .i64 0) rfl rfl (run_as rfl rfl) ?_
  simp only [nz1, nz2, nz3]
  refine lvw 3 (.int .i64 0) rfl rfl (run_as rfl rfl) ?_
  simp only [nz1, nz2, nz3]
  refine wpList_nil ?_
  refine then_n (hK1 _ _ ?_)
  refine wp_seq_k (fun K2 hK2 => ?_)
  refine wp_seq_k (fun K3 hK3 => ?_)
  refine wp_region_lit ?_
  refine lvw 8 (.string (tx s)) rfl rfl (run_mv rfl rfl) ?_
  simp only [nz1, nz2, nz3]
  refine lvb 9 (¬ s = []) rfl rfl (t_neq s ([]) rfl rfl rfl) (fun hs4 => ?_) (fun hs4 => ?_)
  rotate_left
  · simp only [nz1, nz2, nz3]
    refine lvw 10 (.bool false) rfl rfl (run_mv rfl rfl) ?_
    simp only [nz1, nz2, nz3]
    refine lst_skip 11 rfl rfl ?_
    simp only [nz1, nz2, nz3]
    refine lst_skip 12 rfl rfl ?_
    simp only [nz1, nz2, nz3]
    refine lst_skip 13 rfl rfl ?_
    simp only [nz1, nz2, nz3]
    refine lvw 14 (.bool false) rfl rfl (run_pickf rfl rfl rfl) ?_
    simp only [nz1, nz2, nz3]
    refine wpList_nil ?_
    refine then_n (hK3 _ _ ?_)
    refine cond_f rfl ?_
    refine wp_skip ?_
    refine then_n (hK2 _ _ ?_)
    refine wp_seq_k (fun K96 hK96 => ?_)
    refine wp_region_lit ?_
    refine lvw 4 (.int .i64 0) rfl rfl (run_as rfl rfl) ?_
    simp only [nz1, nz2, nz3]
    refine wpList_nil ?_
    refine then_n (hK96 _ _ ?_)
    refine wp_seq_k (fun K97 hK97 => ?_)
    refine wp_cutK (fun a' w' => ∃ (y102 : Nat) (yu0 : Nat → Value), rget_m_l0 s ((s.length - 0) + 1) 0 = .inl y102 ∧ (y102 ≤ s.length) ∧ a' = ⟨#[.string (tx s), undef, .int .i64 0, .int .i64 0, .int .i64 ((y102 : Nat) : Int), undef, undef, undef, .string (tx s), .bool false, .bool false, undef, undef, undef, .bool false, undef, undef, undef, undef, undef, yu0 0, yu0 1, yu0 2, yu0 3, yu0 4, yu0 5, yu0 6, yu0 7, yu0 8, yu0 9, yu0 10, yu0 11, undef, undef, undef, undef, undef, undef, undef, undef, undef, undef, undef, undef, undef, undef, undef, undef, undef, undef, undef, undef, undef, undef, undef, undef, undef, undef, undef, undef, undef, undef, undef, undef, undef, undef, undef, undef, undef, undef, undef, undef, undef, undef, undef, undef, undef, undef, undef, undef, undef, undef], []⟩ ∧ Mm none (fun _ => True) w w' []) ?_ ?_
    · refine wp_block ?_
      refine wp_loop_n (fun n' a' w' => ∃ (n99 : Nat) (x98 : Nat) (u0 : Nat → Value), n' = n99 ∧ (s.length - x98) < n99 ∧ rget_m_l0 s ((s.length - 0) + 1) 0 = rget_m_l0 s n99 x98 ∧ (x98 ≤ s.length) ∧ a' = ⟨#[.string (tx s), undef, .int .i64 0, .int .i64 0, .int .i64 ((x98 : Nat) : Int), undef, undef, undef, .string (tx s), .bool false, .bool false, undef, undef, undef, .bool false, undef, undef, undef, undef, undef, u0 0, u0 1, u0 2, u0 3, u0 4, u0 5, u0 6, u0 7, u0 8, u0 9, u0 10, u0 11, undef, undef, undef, undef, undef, undef, undef, undef, undef, undef, undef, undef, undef, undef, undef, undef, undef, undef, undef, undef, undef, undef, undef, undef, undef, undef, undef, undef, undef, undef, undef, undef, undef, undef, undef, undef, undef, undef, undef, undef, undef, undef, undef, undef, undef, undef, undef, undef, undef, undef], []⟩ ∧ Mm none (fun _ => True) w w' []) ⟨((s.length - 0) + 1), 0, (fun qq => List.getD [undef, undef, undef, undef, undef, undef, undef, undef, undef, undef, undef, undef] qq undef), rfl, Nat.lt_succ_self _, rfl, (by first | omega | (simp; done) | (simp; omega) | (simp at *; omega)), rfl, hm0⟩ ?_
      rintro n99 _ w104 ⟨_, x98, u0, rfl, hl108, hi101, hga, rfl, hm105⟩ R106 hR106
      obtain ⟨k100, rfl⟩ : ∃ k, n99 = k + 1 := ⟨n99 - 1, by omega⟩
      refine wp_seq_k (fun K109 hK109 => ?_)
      refine wp_seq_k (fun K110 hK110 => ?_)
      refine wp_region_lit ?_
      refine lvw 20 (.int .i64 ((x98 : Nat) : Int)) rfl rfl (run_mv rfl rfl) ?_
      simp only [nz1, nz2, nz3]
      refine lvw 21 (.string (tx s)) rfl rfl (run_mv rfl rfl) ?_
      simp only [nz1, nz2, nz3]
      refine lvw 22 (.int .i64 ((s.length : Nat) : Int)) rfl rfl (t_len rfl Tryd.underlying9 rfl) ?_
      simp only [nz1, nz2, nz3]
      refine lvb 23 (x98 < s.length) rfl rfl (r_lss x98 s.length rfl rfl rfl) (fun hs111 => ?_) (fun hs111 => ?_)
      rotate_left
      · simp only [nz1, nz2, nz3]
        refine lvw 24 (.bool false) rfl rfl (run_mv rfl rfl) ?_
        simp only [nz1, nz2, nz3]
        refine lst_skip 25 rfl rfl ?_
        simp only [nz1, nz2, nz3]
        refine lst_skip 26 rfl rfl ?_
        simp only [nz1, nz2, nz3]
        refine lst_skip 27 rfl rfl ?_
        simp only [nz1, nz2, nz3]
        refine lst_skip 28 rfl rfl ?_
        simp only [nz1, nz2, nz3]
        refine lvw 29 (.bool false) rfl rfl (run_pickf rfl rfl rfl) ?_
        simp only [nz1, nz2, nz3]
        refine wpList_nil ?_
        refine then_n (hK110 _ _ ?_)
        refine cond_f rfl ?_
        refine wp_exit ?_
        refine then_x ?_
        refine then_x ?_
        refine blk_x ?_
        refine then_n ?_
        exact ⟨x98, (fun qq => List.getD [.int .i64 ((x98 : Nat) : Int), .string (tx s), .int .i64 ((s.length : Nat) : Int), .bool false, .bool false, undef, undef, undef, undef, .bool false, u0 10, u0 11] qq undef), (hi101.trans (show rget_m_b0 s (rget_m_l0 s k100) x98 = .inl x98 from by unfold rget_m_b0; rw [if_neg hs111] <;> rfl)), (by first | omega | (simp; done) | (simp; omega) | (simp at *; omega)), rfl, hm105⟩
      simp only [nz1, nz2, nz3]
      refine lvw 24 (.bool true) rfl rfl (run_mv rfl rfl) ?_
      simp only [nz1, nz2, nz3]
      refine lvw 25 (.string (tx s)) rfl rfl (run_mv rfl rfl) ?_
      simp only [nz1, nz2, nz3]
      refine lvw 26 (.int .i64 ((x98 : Nat) : Int)) rfl rfl (run_mv rfl rfl) ?_
      simp only [nz1, nz2, nz3]
      refine lvw 27 (.int .u8 ((by' s x98 : Nat) : Int)) rfl rfl (t_char s x98 (by omega) Tryd.underlying9 rfl rfl rfl) ?_
      simp only [nz1, nz2, nz3]
      refine lvw 28 (.bool (decide (by' s x98 = 32))) rfl rfl (r_eql (by' s x98) 32 rfl rfl rfl) ?_
      simp only [nz1, nz2, nz3]
      refine lvw 29 (.bool (decide (by' s x98 = 32))) rfl rfl (run_pick rfl rfl rfl) ?_
      simp only [nz1, nz2, nz3]
      refine wpList_nil ?_
      refine then_n (hK110 _ _ ?_)
      refine cond_d (by' s x98 = 32) rfl (fun hc112 => ?_) (fun hc112 => ?_)
      rotate_left
      · refine wp_exit ?_
        refine then_x ?_
        refine then_x ?_
        refine blk_x ?_
        refine then_n ?_
        exact ⟨x98, (fun qq => List.getD [.int .i64 ((x98 : Nat) : Int), .string (tx s), .int .i64 ((s.length : Nat) : Int), .bool true, .bool true, .string (tx s), .int .i64 ((x98 : Nat) : Int), .int .u8 ((by' s x98 : Nat) : Int), .bool (decide (by' s x98 = 32)), .bool (decide (by' s x98 = 32)), u0 10, u0 11] qq undef), (hi101.trans (show rget_m_b0 s (rget_m_l0 s k100) x98 = .inl x98 from by unfold rget_m_b0; rw [if_pos hs111, if_neg hc112] <;> rfl)), (by first | omega | (simp; done) | (simp; omega) | (simp at *; omega)), rfl, hm105⟩
      refine wp_skip ?_
      refine then_n (hK109 _ _ ?_)
      refine wp_block ?_
      refine wp_region_lit ?_
      refine lvw 30 (.int .i64 ((x98 : Nat) : Int)) rfl rfl (run_mv rfl rfl) ?_
      simp only [nz1, nz2, nz3]
      refine lvw 31 (.int .i64 (((x98 + 1) : Nat) : Int)) rfl rfl (r_add x98 1 (show (x98 + 1) < 9223372036854775808 from by omega) rfl rfl rfl) ?_
      simp only [nz1, nz2, nz3]
      refine lvw 4 (.int .i64 (((x98 + 1) : Nat) : Int)) rfl rfl (run_as rfl rfl) ?_
      simp only [nz1, nz2, nz3]
      refine wpList_nil ?_
      refine blk_n ?_
      refine then_n (hR106 _ _ _ ⟨k100, (x98 + 1), (fun qq => List.getD [.int .i64 ((x98 : Nat) : Int), .string (tx s), .int .i64 ((s.length : Nat) : Int), .bool true, .bool true, .string (tx s), .int .i64 ((x98 : Nat) : Int), .int .u8 ((by' s x98 : Nat) : Int), .bool (decide (by' s x98 = 32)), .bool (decide (by' s x98 = 32)), .int .i64 ((x98 : Nat) : Int), .int .i64 (((x98 + 1) : Nat) : Int)] qq undef), rfl, (by first | omega | (simp; omega) | (simp at *; omega)), (hi101.trans (show rget_m_b0 s (rget_m_l0 s k100) x98 = rget_m_l0 s k100 (x98 + 1) from by unfold rget_m_b0; rw [if_pos hs111, if_pos hc112] <;> rfl)), (by first | omega | (simp; done) | (simp; omega) | (simp at *; omega)), rfl, hm105⟩ ?_)
      omega
    rintro _ w113 ⟨y102, yu0, hx103, hga, rfl, hm114⟩
    have hq115 : rget_m s = rget_m_k0 s y102 := (show rget_m s = rget_m_k0 s y102 from by unfold rget_m; rw [if_neg hs4, hx103] <;> rfl)
    refine then_n (hK97 _ _ ?_)
    refine wp_seq_k (fun K116 hK116 => ?_)
    refine wp_region_lit ?_
    refine lvw 5 (.int .i64 0) rfl rfl (run_as rfl rfl) ?_
    simp only [nz1, nz2, nz3]
    refine lvw 6 (.int .i64 0) rfl rfl (run_as rfl rfl) ?_
    simp only [nz1, nz2, nz3]
    refine wpList_nil ?_
    refine then_n (hK116 _ _ ?_)
    refine wp_seq_k (fun K117 hK117 => ?_)
    refine wp_cutK (fun a' w' => ∃ (y124 : Nat) (y125 : Nat) (y126 : Nat) (yu1 : Nat → Value), rget_m_l1 s y102 ((s.length - y102) + 1) (y102, 0, 0) = .inl (y124, y125, y126) ∧ (y124 ≤ s.length ∧ 0 ≤ y125 ∧ y125 ≤ 9223372036854775807 ∧ y126 ≤ y124) ∧ a' = ⟨#[.string (tx s), undef, yu1 0, yu1 1, .int .i64 ((y124 : Nat) : Int), .int .i64 ((y125 : Nat) : Int), .int .i64 ((y126 : Nat) : Int), undef, .string (tx s), .bool false, .bool false, undef, undef, undef, .bool false, undef, undef, undef, undef, undef, yu0 0, yu0 1, yu0 2, yu0 3, yu0 4, yu0 5, yu0 6, yu0 7, yu0 8, yu0 9, yu0 10, yu0 11, yu1 2, yu1 3, yu1 4, yu1 5, yu1 6, yu1 7, yu1 8, yu1 9, yu1 10, yu1 11, yu1 12, yu1 13, yu1 14, yu1 15, yu1 16, yu1 17, yu1 18, yu1 19, yu1 20, yu1 21, yu1 22, yu1 23, yu1 24, yu1 25, yu1 26, yu1 27, yu1 28, yu1 29, yu1 30, yu1 31, undef, undef, undef, undef, undef, undef, undef, undef, undef, undef, undef, undef, undef, undef, undef, undef, undef, undef, undef, undef], []⟩ ∧ Mm none (fun _ => True) w w' []) ?_ ?_
    · refine wp_block ?_
      refine wp_loop_n (fun n' a' w' => ∃ (n121 : Nat) (x118 : Nat) (x119 : Nat) (x120 : Nat) (u1 : Nat → Value), n' = n121 ∧ (s.length - x118) < n121 ∧ rget_m_l1 s y102 ((s.length - y102) + 1) (y102, 0, 0) = rget_m_l1 s y102 n121 (x118, x119, x120) ∧ (x118 ≤ s.length ∧ 0 ≤ x119 ∧ x119 ≤ 9223372036854775807 ∧ x120 ≤ x118) ∧ a' = ⟨#[.string (tx s), undef, u1 0, u1 1, .int .i64 ((x118 : Nat) : Int), .int .i64 ((x119 : Nat) : Int), .int .i64 ((x120 : Nat) : Int), undef, .string (tx s), .bool false, .bool false, undef, undef, undef, .bool false, undef, undef, undef, undef, undef, yu0 0, yu0 1, yu0 2, yu0 3, yu0 4, yu0 5, yu0 6, yu0 7, yu0 8, yu0 9, yu0 10, yu0 11, u1 2, u1 3, u1 4, u1 5, u1 6, u1 7, u1 8, u1 9, u1 10, u1 11, u1 12, u1 13, u1 14, u1 15, u1 16, u1 17, u1 18, u1 19, u1 20, u1 21, u1 22, u1 23, u1 24, u1 25, u1 26, u1 27, u1 28, u1 29, u1 30, u1 31, undef, undef, undef, undef, undef, undef, undef, undef, undef, undef, undef, undef, undef, undef, undef, undef, undef, undef, undef, undef], []⟩ ∧ Mm none (fun _ => True) w w' []) ⟨((s.length - y102) + 1), y102, 0, 0, (fun qq => bif Nat.blt qq 24 then List.getD [.int .i64 0, .int .i64 0, undef, undef, undef, undef, undef, undef, undef, undef, undef, undef, undef, undef, undef, undef, undef, undef, undef, undef, undef, undef, undef, undef] qq undef else List.getD [undef, undef, undef, undef, undef, undef, undef, undef] (qq - 24) undef), rfl, Nat.lt_succ_self _, rfl, (by first | omega | (simp; done) | (simp; omega) | (simp at *; omega)), rfl, hm114⟩ ?_
      rintro n121 _ w128 ⟨_, x118, x119, x120, u1, rfl, hl132, hi123, hgb, rfl, hm129⟩ R130 hR130
      obtain ⟨k122, rfl⟩ : ∃ k, n121 = k + 1 := ⟨n121 - 1, by omega⟩
      refine wp_seq_k (fun K133 hK133 => ?_)
      refine wp_seq_k (fun K134 hK134 => ?_)
      refine wp_region_lit ?_
      refine lvw 32 (.int .i64 ((x118 : Nat) : Int)) rfl rfl (run_mv rfl rfl) ?_
      simp only [nz1, nz2, nz3]
      refine lvw 33 (.string (tx s)) rfl rfl (run_mv rfl rfl) ?_
      simp only [nz1, nz2, nz3]
      refine lvw 34 (.int .i64 ((s.length : Nat) : Int)) rfl rfl (t_len rfl Tryd.underlying9 rfl) ?_
      simp only [nz1, nz2, nz3]
      refine lvb 35 (x118 < s.length) rfl rfl (r_lss x118 s.length rfl rfl rfl) (fun hs135 => ?_) (fun hs135 => ?_)
      rotate_left
      · simp only [nz1, nz2, nz3]
        refine lvw 36 (.bool false) rfl rfl (run_mv rfl rfl) ?_
        simp only [nz1, nz2, nz3]
        refine lst_skip 37 rfl rfl ?_
        simp only [nz1, nz2, nz3]
        refine lst_skip 38 rfl rfl ?_
        simp only [nz1, nz2, nz3]
        refine lst_skip 39 rfl rfl ?_
        simp only [nz1, nz2, nz3]
        refine lst_skip 40 rfl rfl ?_
        simp only [nz1, nz2, nz3]
        refine lvw 41 (.bool false) rfl rfl (run_pickf rfl rfl rfl) ?_
        simp only [nz1, nz2, nz3]
        refine lvw 42 (.bool false) rfl rfl (run_mv rfl rfl) ?_
        simp only [nz1, nz2, nz3]
        refine lst_skip 43 rfl rfl ?_
        simp only [nz1, nz2, nz3]
        refine lst_skip 44 rfl rfl ?_
        simp only [nz1, nz2, nz3]
        refine lst_skip 45 rfl rfl ?_
        simp only [nz1, nz2, nz3]
        refine lst_skip 46 rfl rfl ?_
        simp only [nz1, nz2, nz3]
        refine lvw 47 (.bool false) rfl rfl (run_pickf rfl rfl rfl) ?_
        simp only [nz1, nz2, nz3]
        refine wpList_nil ?_
        refine then_n (hK134 _ _ ?_)
        refine cond_f rfl ?_
        refine wp_exit ?_
        refine then_x ?_
        refine then_x ?_
        refine blk_x ?_
        refine then_n ?_
        exact ⟨x118, x119, x120, (fun qq => bif Nat.blt qq 24 then List.getD [u1 0, u1 1, .int .i64 ((x118 : Nat) : Int), .string (tx s), .int .i64 ((s.length : Nat) : Int), .bool false, .bool false, undef, undef, undef, undef, .bool false, .bool false, undef, undef, undef, undef, .bool false, u1 18, u1 19, u1 20, u1 21, u1 22, u1 23] qq undef else List.getD [u1 24, u1 25, u1 26, u1 27, u1 28, u1 29, u1 30, u1 31] (qq - 24) undef), (hi123.trans (show rget_m_b1 s y102 (rget_m_l1 s y102 k122) x118 x119 x120 = .inl (x118, x119, x120) from by unfold rget_m_b1; rw [if_neg hs135] <;> rfl)), (by first | omega | (simp; done) | (simp; omega) | (simp at *; omega)), rfl, hm129⟩
      simp only [nz1, nz2, nz3]
      refine lvw 36 (.bool true) rfl rfl (run_mv rfl rfl) ?_
      simp only [nz1, nz2, nz3]
      refine lvw 37 (.string (tx s)) rfl rfl (run_mv rfl rfl) ?_
      simp only [nz1, nz2, nz3]
      refine lvw 38 (.int .i64 ((x118 : Nat) : Int)) rfl rfl (run_mv rfl rfl) ?_
      simp only [nz1, nz2, nz3]
      refine lvw 39 (.int .u8 ((by' s x118 : Nat) : Int)) rfl rfl (t_char s x118 (by omega) Tryd.underlying9 rfl rfl rfl) ?_
      simp only [nz1, nz2, nz3]
      refine lvb 40 (48 ≤ by' s x118) rfl rfl (r_geq (by' s x118) 48 rfl rfl rfl) (fun hs136 => ?_) (fun hs136 => ?_)
      rotate_left
      · simp only [nz1, nz2, nz3]
        refine lvw 41 (.bool false) rfl rfl (run_pick rfl rfl rfl) ?_
        simp only [nz1, nz2, nz3]
        refine lvw 42 (.bool false) rfl rfl (run_mv rfl rfl) ?_
        simp only [nz1, nz2, nz3]
        refine lst_skip 43 rfl rfl ?_
        simp only [nz1, nz2, nz3]
        refine lst_skip 44 rfl rfl ?_
        simp only [nz1, nz2, nz3]
        refine lst_skip 45 rfl rfl ?_
        simp only [nz1, nz2, nz3]
        refine lst_skip 46 rfl rfl ?_
        simp only [nz1, nz2, nz3]
        refine lvw 47 (.bool false) rfl rfl (run_pickf rfl rfl rfl) ?_
        simp only [nz1, nz2, nz3]
        refine wpList_nil ?_
        refine then_n (hK134 _ _ ?_)
        refine cond_f rfl ?_
        refine wp_exit ?_
        refine then_x ?_
        refine then_x ?_
        refine blk_x ?_
        refine then_n ?_
        exact ⟨x118, x119, x120, (fun qq => bif Nat.blt qq 24 then List.getD [u1 0, u1 1, .int .i64 ((x118 : Nat) : Int), .string (tx s), .int .i64 ((s.length : Nat) : Int), .bool true, .bool true, .string (tx s), .int .i64 ((x118 : Nat) : Int), .int .u8 ((by' s x118 : Nat) : Int), .bool false, .bool false, .bool false, undef, undef, undef, undef, .bool false, u1 18, u1 19, u1 20, u1 21, u1 22, u1 23] qq undef else List.getD [u1 24, u1 25, u1 26, u1 27, u1 28, u1 29, u1 30, u1 31] (qq - 24) undef), (hi123.trans (show rget_m_b1 s y102 (rget_m_l1 s y102 k122) x118 x119 x120 = .inl (x118, x119, x120) from by unfold rget_m_b1; rw [if_pos hs135, if_neg hs136] <;> rfl)), (by first | omega | (simp; done) | (simp; omega) | (simp at *; omega)), rfl, hm129⟩
      simp only [nz1, nz2, nz3]
      refine lvw 41 (.bool true) rfl rfl (run_pick rfl rfl rfl) ?_
      simp only [nz1, nz2, nz3]
      refine lvw 42 (.bool true) rfl rfl (run_mv rfl rfl) ?_
      simp only [nz1, nz2, nz3]
      refine lvw 43 (.string (tx s)) rfl rfl (run_mv rfl rfl) ?_
      simp only [nz1, nz2, nz3]
      refine lvw 44 (.int .i64 ((x118 : Nat) : Int)) rfl rfl (run_mv rfl rfl) ?_
      simp only [nz1, nz2, nz3]
      refine lvw 45 (.int .u8 ((by' s x118 : Nat) : Int)) rfl rfl (t_char s x118 (by omega) Tryd.underlying9 rfl rfl rfl) ?_
      simp only [nz1, nz2, nz3]
      refine lvw 46 (.bool (decide (by' s x118 ≤ 55))) rfl rfl (r_leq (by' s x118) 55 rfl rfl rfl) ?_
      simp only [nz1, nz2, nz3]
      refine lvw 47 (.bool (decide (by' s x118 ≤ 55))) rfl rfl (run_pick rfl rfl rfl) ?_
      simp only [nz1, nz2, nz3]
      refine wpList_nil ?_
      refine then_n (hK134 _ _ ?_)
      refine cond_d (by' s x118 ≤ 55) rfl (fun hc137 => ?_) (fun hc137 => ?_)
      rotate_left
      · refine wp_exit ?_
        refine then_x ?_
        refine then_x ?_
        refine blk_x ?_
        refine then_n ?_
        exact ⟨x118, x119, x120, (fun qq => bif Nat.blt qq 24 then List.getD [u1 0, u1 1, .int .i64 ((x118 : Nat) : Int), .string (tx s), .int .i64 ((s.length : Nat) : Int), .bool true, .bool true, .string (tx s), .int .i64 ((x118 : Nat) : Int), .int .u8 ((by' s x118 : Nat) : Int), .bool true, .bool true, .bool true, .string (tx s), .int .i64 ((x118 : Nat) : Int), .int .u8 ((by' s x118 : Nat) : Int), .bool (decide (by' s x118 ≤ 55)), .bool (decide (by' s x118 ≤ 55)), u1 18, u1 19, u1 20, u1 21, u1 22, u1 23] qq undef else List.getD [u1 24, u1 25, u1 26, u1 27, u1 28, u1 29, u1 30, u1 31] (qq - 24) undef), (hi123.trans (show rget_m_b1 s y102 (rget_m_l1 s y102 k122) x118 x119 x120 = .inl (x118, x119, x120) from by unfold rget_m_b1; rw [if_pos hs135, if_pos hs136, if_neg hc137] <;> rfl)), (by first | omega | (simp; done) | (simp; omega) | (simp at *; omega)), rfl, hm129⟩
      refine wp_skip ?_
      refine then_n (hK133 _ _ ?_)
      refine wp_block ?_
      refine wp_seq_k (fun K138 hK138 => ?_)
      refine wp_seq_k (fun K139 hK139 => ?_)
      refine wp_region_lit ?_
      refine lvw 48 (.int .i64 ((x119 : Nat) : Int)) rfl rfl (run_mv rfl rfl) ?_
      simp only [nz1, nz2, nz3]
      refine lvw 49 (.bool (decide (1152921504606846976 ≤ x119))) rfl rfl (r_geq x119 1152921504606846976 rfl rfl rfl) ?_
      simp only [nz1, nz2, nz3]
      refine wpList_nil ?_
      refine then_n (hK139 _ _ ?_)
      refine cond_d (1152921504606846976 ≤ x119) rfl (fun hc140 => ?_) (fun hc140 => ?_)
      · refine wp_seq_k (fun K141 hK141 => ?_)
        refine wp_region_lit ?_
        refine lvw 2 (.int .i64 0) rfl rfl (run_as rfl rfl) ?_
        simp only [nz1, nz2, nz3]
        refine lvw 3 (.int .i64 3) rfl rfl (run_as rfl rfl) ?_
        simp only [nz1, nz2, nz3]
        refine wpList_nil ?_
        refine then_n (hK141 _ _ ?_)
        refine wp_ret ?_
        refine then_r ?_
        refine blk_r ?_
        refine then_r ?_
        refine blk_r ?_
        refine then_r ?_
        refine then_r ?_
        have he142 : rget_m_l1 s y102 ((s.length - y102) + 1) (y102, 0, 0) = .inr (0, 3) := (hi123.trans (show rget_m_b1 s y102 (rget_m_l1 s y102 k122) x118 x119 x120 = .inr (0, 3) from by unfold rget_m_b1; rw [if_pos hs135, if_pos hs136, if_pos hc137, if_pos hc140] <;> rfl))
        have he143 : rget_m s = (0, 3) := (hq115.trans (show rget_m_k0 s y102 = (0, 3) from by unfold rget_m_k0; rw [he142] <;> rfl))
        exact ⟨rfl, .tuple #[.int .i64 0, .int .i64 3], res_tt rfl rfl rfl, ⟨by (rw [he143]; try rfl), hm129.below⟩⟩
      refine wp_skip ?_
      refine then_n (hK138 _ _ ?_)
      refine wp_seq_k (fun K144 hK144 => ?_)
      refine wp_region_lit ?_
      refine lvw 50 (.int .i64 ((x119 : Nat) : Int)) rfl rfl (run_mv rfl rfl) ?_
      simp only [nz1, nz2, nz3]
      refine lvw 51 (.int .i64 (((8 * x119) : Nat) : Int)) rfl rfl (r_mul 8 x119 (show (8 * x119) < 9223372036854775808 from by omega) rfl rfl rfl) ?_
      simp only [nz1, nz2, nz3]
      refine lvw 52 (.string (tx s)) rfl rfl (run_mv rfl rfl) ?_
      simp only [nz1, nz2, nz3]
      refine lvw 53 (.int .i64 ((x118 : Nat) : Int)) rfl rfl (run_mv rfl rfl) ?_
      simp only [nz1, nz2, nz3]
      refine lvw 54 (.int .u8 ((by' s x118 : Nat) : Int)) rfl rfl (t_char s x118 (by omega) Tryd.underlying9 rfl rfl rfl) ?_
      simp only [nz1, nz2, nz3]
      refine lvw 55 (.int .u8 ((((by' s x118) - 48) : Nat) : Int)) rfl rfl (r_sub (by' s x118) 48 (show (by' s x118) < 256 from by omega) (by omega) rfl rfl rfl) ?_
      simp only [nz1, nz2, nz3]
      refine lvw 56 (.int .i64 ((((by' s x118) - 48) : Nat) : Int)) rfl rfl (r_conv (k' := .i64) ((by' s x118) - 48) ((by' s x118) - 48) some_5 Tryd.underlying3 (wrap_nat (show _ < 9223372036854775808 from by omega)) rfl rfl) ?_
      simp only [nz1, nz2, nz3]
      refine lvw 57 (.int .i64 ((((8 * x119) + ((by' s x118) - 48)) : Nat) : Int)) rfl rfl (r_add (8 * x119) ((by' s x118) - 48) (show ((8 * x119) + ((by' s x118) - 48)) < 9223372036854775808 from by omega) rfl rfl rfl) ?_
      simp only [nz1, nz2, nz3]
      refine lvw 5 (.int .i64 ((((8 * x119) + ((by' s x118) - 48)) : Nat) : Int)) rfl rfl (run_as rfl rfl) ?_
      simp only [nz1, nz2, nz3]
      refine wpList_nil ?_
      refine then_n (hK144 _ _ ?_)
      refine wp_seq_k (fun K145 hK145 => ?_)
      refine wp_region_lit ?_
      refine lvw 58 (.int .i64 ((x118 : Nat) : Int)) rfl rfl (run_mv rfl rfl) ?_
      simp only [nz1, nz2, nz3]
      refine lvw 59 (.int .i64 (((x118 + 1) : Nat) : Int)) rfl rfl (r_add x118 1 (show (x118 + 1) < 9223372036854775808 from by omega) rfl rfl rfl) ?_
      simp only [nz1, nz2, nz3]
      refine lvw 4 (.int .i64 (((x118 + 1) : Nat) : Int)) rfl rfl (run_as rfl rfl) ?_
      simp only [nz1, nz2, nz3]
      refine wpList_nil ?_
      refine then_n (hK145 _ _ ?_)
      refine wp_region_lit ?_
      refine lvw 60 (.int .i64 ((x120 : Nat) : Int)) rfl rfl (run_mv rfl rfl) ?_
      simp only [nz1, nz2, nz3]
      refine lvw 61 (.int .i64 (((x120 + 1) : Nat) : Int)) rfl rfl (r_add x120 1 (show (x120 + 1) < 9223372036854775808 from by omega) rfl rfl rfl) ?_
      simp only [nz1, nz2, nz3]
      refine lvw 6 (.int .i64 (((x120 + 1) : Nat) : Int)) rfl rfl (run_as rfl rfl) ?_
      simp only [nz1, nz2, nz3]
      refine wpList_nil ?_
      refine blk_n ?_
      refine then_n (hR130 _ _ _ ⟨k122, (x118 + 1), ((8 * x119) + ((by' s x118) - 48)), (x120 + 1), (fun qq => bif Nat.blt qq 24 then List.getD [u1 0, u1 1, .int .i64 ((x118 : Nat) : Int), .string (tx s), .int .i64 ((s.length : Nat) : Int), .bool true, .bool true, .string (tx s), .int .i64 ((x118 : Nat) : Int), .int .u8 ((by' s x118 : Nat) : Int), .bool true, .bool true, .bool true, .string (tx s), .int .i64 ((x118 : Nat) : Int), .int .u8 ((by' s x118 : Nat) : Int), .bool (decide (by' s x118 ≤ 55)), .bool (decide (by' s x118 ≤ 55)), .int .i64 ((x119 : Nat) : Int), .bool (decide (1152921504606846976 ≤ x119)), .int .i64 ((x119 : Nat) : Int), .int .i64 (((8 * x119) : Nat) : Int), .string (tx s), .int .i64 ((x118 : Nat) : Int)] qq undef else List.getD [.int .u8 ((by' s x118 : Nat) : Int), .int .u8 ((((by' s x118) - 48) : Nat) : Int), .int .i64 ((((by' s x118) - 48) : Nat) : Int), .int .i64 ((((8 * x119) + ((by' s x118) - 48)) : Nat) : Int), .int .i64 ((x118 : Nat) : Int), .int .i64 (((x118 + 1) : Nat) : Int), .int .i64 ((x120 : Nat) : Int), .int .i64 (((x120 + 1) : Nat) : Int)] (qq - 24) undef), rfl, (by first | omega | (simp; omega) | (simp at *; omega)), (hi123.trans (show rget_m_b1 s y102 (rget_m_l1 s y102 k122) x118 x119 x120 = rget_m_l1 s y102 k122 ((x118 + 1), ((8 * x119) + ((by' s x118) - 48)), (x120 + 1)) from by unfold rget_m_b1; rw [if_pos hs135, if_pos hs136, if_pos hc137, if_neg hc140] <;> rfl)), (by first | omega | (simp; done) | (simp; omega) | (simp at *; omega)), rfl, hm129⟩ ?_)
      omega
    rintro _ w146 ⟨y124, y125, y126, yu1, hx127, hgb, rfl, hm147⟩
    have hq148 : rget_m s = rget_m_k1 s y102 y124 y125 y126 := (hq115.trans (show rget_m_k0 s y102 = rget_m_k1 s y102 y124 y125 y126 from by unfold rget_m_k0; rw [hx127] <;> rfl))
    refine then_n (hK117 _ _ ?_)
    refine wp_seq_k (fun K149 hK149 => ?_)
    refine wp_seq_k (fun K150 hK150 => ?_)
    refine wp_region_lit ?_
    refine lvw 62 (.int .i64 ((y124 : Nat) : Int)) rfl rfl (run_mv rfl rfl) ?_
    simp only [nz1, nz2, nz3]
    refine lvw 7 (.int .i64 ((y124 : Nat) : Int)) rfl rfl (run_as rfl rfl) ?_
    simp only [nz1, nz2, nz3]
    refine wpList_nil ?_
    refine then_n (hK150 _ _ ?_)
    refine wp_cutK (fun a' w' => ∃ (y155 : Nat) (yu2 : Nat → Value), rget_m_l2 s y102 y124 y125 y126 ((s.length - y124) + 1) y124 = .inl y155 ∧ (y155 ≤ s.length) ∧ a' = ⟨#[.string (tx s), undef, yu2 0, yu2 1, .int .i64 ((y124 : Nat) : Int), .int .i64 ((y125 : Nat) : Int), .int .i64 ((y126 : Nat) : Int), .int .i64 ((y155 : Nat) : Int), .string (tx s), .bool false, .bool false, undef, undef, undef, .bool false, undef, undef, undef, undef, undef, yu0 0, yu0 1, yu0 2, yu0 3, yu0 4, yu0 5, yu0 6, yu0 7, yu0 8, yu0 9, yu0 10, yu0 11, yu1 2, yu1 3, yu1 4, yu1 5, yu1 6, yu1 7, yu1 8, yu1 9, yu1 10, yu1 11, yu1 12, yu1 13, yu1 14, yu1 15, yu1 16, yu1 17, yu1 18, yu1 19, yu1 20, yu1 21, yu1 22, yu1 23, yu1 24, yu1 25, yu1 26, yu1 27, yu1 28, yu1 29, yu1 30, yu1 31, .int .i64 ((y124 : Nat) : Int), yu2 2, yu2 3, yu2 4, yu2 5, yu2 6, yu2 7, yu2 8, yu2 9, yu2 10, yu2 11, yu2 12, yu2 13, yu2 14, yu2 15, yu2 16, yu2 17, undef, undef, undef], []⟩ ∧ Mm none (fun _ => True) w w' []) ?_ ?_
    · refine wp_block ?_
      refine wp_loop_n (fun n' a' w' => ∃ (n152 : Nat) (x151 : Nat) (u2 : Nat → Value), n' = n152 ∧ (s.length - x151) < n152 ∧ rget_m_l2 s y102 y124 y125 y126 ((s.length - y124) + 1) y124 = rget_m_l2 s y102 y124 y125 y126 n152 x151 ∧ (x151 ≤ s.length) ∧ a' = ⟨#[.string (tx s), undef, u2 0, u2 1, .int .i64 ((y124 : Nat) : Int), .int .i64 ((y125 : Nat) : Int), .int .i64 ((y126 : Nat) : Int), .int .i64 ((x151 : Nat) : Int), .string (tx s), .bool false, .bool false, undef, undef, undef, .bool false, undef, undef, undef, undef, undef, yu0 0, yu0 1, yu0 2, yu0 3, yu0 4, yu0 5, yu0 6, yu0 7, yu0 8, yu0 9, yu0 10, yu0 11, yu1 2, yu1 3, yu1 4, yu1 5, yu1 6, yu1 7, yu1 8, yu1 9, yu1 10, yu1 11, yu1 12, yu1 13, yu1 14, yu1 15, yu1 16, yu1 17, yu1 18, yu1 19, yu1 20, yu1 21, yu1 22, yu1 23, yu1 24, yu1 25, yu1 26, yu1 27, yu1 28, yu1 29, yu1 30, yu1 31, .int .i64 ((y124 : Nat) : Int), u2 2, u2 3, u2 4, u2 5, u2 6, u2 7, u2 8, u2 9, u2 10, u2 11, u2 12, u2 13, u2 14, u2 15, u2 16, u2 17, undef, undef, undef], []⟩ ∧ Mm none (fun _ => True) w w' []) ⟨((s.length - y124) + 1), y124, (fun qq => List.getD [yu1 0, yu1 1, undef, undef, undef, undef, undef, undef, undef, undef, undef, undef, undef, undef, undef, undef, undef, undef] qq undef), rfl, Nat.lt_succ_self _, rfl, (by first | omega | (simp; done) | (simp; omega) | (simp at *; omega)), rfl, hm147⟩ ?_
      rintro n152 _ w157 ⟨_, x151, u2, rfl, hl161, hi154, hga, rfl, hm158⟩ R159 hR159
      obtain ⟨k153, rfl⟩ : ∃ k, n152 = k + 1 := ⟨n152 - 1, by omega⟩
      refine wp_seq_k (fun K162 hK162 => ?_)
      refine wp_seq_k (fun K163 hK163 => ?_)
      refine wp_region_lit ?_
      refine lvw 63 (.int .i64 ((x151 : Nat) : Int)) rfl rfl (run_mv rfl rfl) ?_
      simp only [nz1, nz2, nz3]
      refine lvw 64 (.string (tx s)) rfl rfl (run_mv rfl rfl) ?_
      simp only [nz1, nz2, nz3]
      refine lvw 65 (.int .i64 ((s.length : Nat) : Int)) rfl rfl (t_len rfl Tryd.underlying9 rfl) ?_
      simp only [nz1, nz2, nz3]
      refine lvw 66 (.bool (decide (x151 < s.length))) rfl rfl (r_lss x151 s.length rfl rfl rfl) ?_
      simp only [nz1, nz2, nz3]
      refine wpList_nil ?_
      refine then_n (hK163 _ _ ?_)
      refine cond_d (x151 < s.length) rfl (fun hc164 => ?_) (fun hc164 => ?_)
      rotate_left
      · refine wp_exit ?_
        refine then_x ?_
        refine then_x ?_
        refine blk_x ?_
        refine then_n ?_
        exact ⟨x151, (fun qq => List.getD [u2 0, u2 1, .int .i64 ((x151 : Nat) : Int), .string (tx s), .int .i64 ((s.length : Nat) : Int), .bool (decide (x151 < s.length)), u2 6, u2 7, u2 8, u2 9, u2 10, u2 11, u2 12, u2 13, u2 14, u2 15, u2 16, u2 17] qq undef), (hi154.trans (show rget_m_b2 s y102 y124 y125 y126 (rget_m_l2 s y102 y124 y125 y126 k153) x151 = .inl x151 from by unfold rget_m_b2; rw [if_neg hc164] <;> rfl)), (by first | omega | (simp; done) | (simp; omega) | (simp at *; omega)), rfl, hm158⟩
      refine wp_skip ?_
      refine then_n (hK162 _ _ ?_)
      refine wp_seq_k (fun K165 hK165 => ?_)
      refine wp_block ?_
      refine wp_seq_k (fun K166 hK166 => ?_)
      refine wp_region_lit ?_
      refine lvw 69 (.string (tx s)) rfl rfl (run_mv rfl rfl) ?_
      simp only [nz1, nz2, nz3]
      refine lvw 70 (.int .i64 ((x151 : Nat) : Int)) rfl rfl (run_mv rfl rfl) ?_
      simp only [nz1, nz2, nz3]
      refine lvw 71 (.int .u8 ((by' s x151 : Nat) : Int)) rfl rfl (t_char s x151 (by omega) Tryd.underlying9 rfl rfl rfl) ?_
      simp only [nz1, nz2, nz3]
      refine lvb 72 (¬ by' s x151 = 32) rfl rfl (r_neq (by' s x151) 32 rfl rfl rfl) (fun hs167 => ?_) (fun hs167 => ?_)
      rotate_left
      · simp only [nz1, nz2, nz3]
        refine lvw 73 (.bool false) rfl rfl (run_mv rfl rfl) ?_
        simp only [nz1, nz2, nz3]
        refine lst_skip 74 rfl rfl ?_
        simp only [nz1, nz2, nz3]
        refine lst_skip 75 rfl rfl ?_
        simp only [nz1, nz2, nz3]
        refine lst_skip 76 rfl rfl ?_
        simp only [nz1, nz2, nz3]
        refine lst_skip 77 rfl rfl ?_
        simp only [nz1, nz2, nz3]
        refine lvw 78 (.bool false) rfl rfl (run_pickf rfl rfl rfl) ?_
        simp only [nz1, nz2, nz3]
        refine wpList_nil ?_
        refine then_n (hK166 _ _ ?_)
        refine cond_f rfl ?_
        refine wp_skip ?_
        refine blk_n ?_
        refine then_n (hK165 _ _ ?_)
        refine wp_region_lit ?_
        refine lvw 67 (.int .i64 ((x151 : Nat) : Int)) rfl rfl (run_mv rfl rfl) ?_
        simp only [nz1, nz2, nz3]
        refine lvw 68 (.int .i64 (((x151 + 1) : Nat) : Int)) rfl rfl (r_add x151 1 (show (x151 + 1) < 9223372036854775808 from by omega) rfl rfl rfl) ?_
        simp only [nz1, nz2, nz3]
        refine lvw 7 (.int .i64 (((x151 + 1) : Nat) : Int)) rfl rfl (run_as rfl rfl) ?_
        simp only [nz1, nz2, nz3]
        refine wpList_nil ?_
        refine then_n (hR159 _ _ _ ⟨k153, (x151 + 1), (fun qq => List.getD [u2 0, u2 1, .int .i64 ((x151 : Nat) : Int), .string (tx s), .int .i64 ((s.length : Nat) : Int), .bool (decide (x151 < s.length)), .int .i64 ((x151 : Nat) : Int), .int .i64 (((x151 + 1) : Nat) : Int), .string (tx s), .int .i64 ((x151 : Nat) : Int), .int .u8 ((by' s x151 : Nat) : Int), .bool false, .bool false, undef, undef, undef, undef, .bool false] qq undef), rfl, (by first | omega | (simp; omega) | (simp at *; omega)), (hi154.trans (show rget_m_b2 s y102 y124 y125 y126 (rget_m_l2 s y102 y124 y125 y126 k153) x151 = rget_m_l2 s y102 y124 y125 y126 k153 (x151 + 1) from by unfold rget_m_b2; rw [if_pos hc164, if_neg hs167] <;> rfl)), (by first | omega | (simp; done) | (simp; omega) | (simp at *; omega)), rfl, hm158⟩ ?_)
        omega
      simp only [nz1, nz2, nz3]
      refine lvw 73 (.bool true) rfl rfl (run_mv rfl rfl) ?_
      simp only [nz1, nz2, nz3]
      refine lvw 74 (.string (tx s)) rfl rfl (run_mv rfl rfl) ?_
      simp only [nz1, nz2, nz3]
      refine lvw 75 (.int .i64 ((x151 : Nat) : Int)) rfl rfl (run_mv rfl rfl) ?_
      simp only [nz1, nz2, nz3]
      refine lvw 76 (.int .u8 ((by' s x151 : Nat) : Int)) rfl rfl (t_char s x151 (by omega) Tryd.underlying9 rfl rfl rfl) ?_
      simp only [nz1, nz2, nz3]
      refine lvw 77 (.bool (decide (¬ by' s x151 = 0))) rfl rfl (r_neq (by' s x151) 0 rfl rfl rfl) ?_
      simp only [nz1, nz2, nz3]
      refine lvw 78 (.bool (decide (¬ by' s x151 = 0))) rfl rfl (run_pick rfl rfl rfl) ?_
      simp only [nz1, nz2, nz3]
      refine wpList_nil ?_
      refine then_n (hK166 _ _ ?_)
      refine cond_d (¬ by' s x151 = 0) rfl (fun hc168 => ?_) (fun hc168 => ?_)
      rotate_left
      · refine wp_skip ?_
        refine blk_n ?_
        refine then_n (hK165 _ _ ?_)
        refine wp_region_lit ?_
        refine lvw 67 (.int .i64 ((x151 : Nat) : Int)) rfl rfl (run_mv rfl rfl) ?_
        simp only [nz1, nz2, nz3]
        refine lvw 68 (.int .i64 (((x151 + 1) : Nat) : Int)) rfl rfl (r_add x151 1 (show (x151 + 1) < 9223372036854775808 from by omega) rfl rfl rfl) ?_
        simp only [nz1, nz2, nz3]
        refine lvw 7 (.int .i64 (((x151 + 1) : Nat) : Int)) rfl rfl (run_as rfl rfl) ?_
        simp only [nz1, nz2, nz3]
        refine wpList_nil ?_
        refine then_n (hR159 _ _ _ ⟨k153, (x151 + 1), (fun qq => List.getD [u2 0, u2 1, .int .i64 ((x151 : Nat) : Int), .string (tx s), .int .i64 ((s.length : Nat) : Int), .bool (decide (x151 < s.length)), .int .i64 ((x151 : Nat) : Int), .int .i64 (((x151 + 1) : Nat) : Int), .string (tx s), .int .i64 ((x151 : Nat) : Int), .int .u8 ((by' s x151 : Nat) : Int), .bool true, .bool true, .string (tx s), .int .i64 ((x151 : Nat) : Int), .int .u8 ((by' s x151 : Nat) : Int), .bool (decide (¬ by' s x151 = 0)), .bool (decide (¬ by' s x151 = 0))] qq undef), rfl, (by first | omega | (simp; omega) | (simp at *; omega)), (hi154.trans (show rget_m_b2 s y102 y124 y125 y126 (rget_m_l2 s y102 y124 y125 y126 k153) x151 = rget_m_l2 s y102 y124 y125 y126 k153 (x151 + 1) from by unfold rget_m_b2; rw [if_pos hc164, if_pos hs167, if_neg hc168] <;> rfl)), (by first | omega | (simp; done) | (simp; omega) | (simp at *; omega)), rfl, hm158⟩ ?_)
        omega
      refine wp_seq_k (fun K169 hK169 => ?_)
      refine wp_region_lit ?_
      refine lvw 2 (.int .i64 0) rfl rfl (run_as rfl rfl) ?_
      simp only [nz1, nz2, nz3]
      refine lvw 3 (.int .i64 2) rfl rfl (run_as rfl rfl) ?_
      simp only [nz1, nz2, nz3]
      refine wpList_nil ?_
      refine then_n (hK169 _ _ ?_)
      refine wp_ret ?_
      refine blk_r ?_
      refine then_r ?_
      refine then_r ?_
      refine blk_r ?_
      refine then_r ?_
      refine then_r ?_
      have he170 : rget_m_l2 s y102 y124 y125 y126 ((s.length - y124) + 1) y124 = .inr (0, 2) := (hi154.trans (show rget_m_b2 s y102 y124 y125 y126 (rget_m_l2 s y102 y124 y125 y126 k153) x151 = .inr (0, 2) from by unfold rget_m_b2; rw [if_pos hc164, if_pos hs167, if_pos hc168] <;> rfl))
      have he171 : rget_m s = (0, 2) := (hq148.trans (show rget_m_k1 s y102 y124 y125 y126 = (0, 2) from by unfold rget_m_k1; rw [he170] <;> rfl))
      exact ⟨rfl, .tuple #[.int .i64 0, .int .i64 2], res_tt rfl rfl rfl, ⟨by (rw [he171]; try rfl), hm158.below⟩⟩
    rintro _ w172 ⟨y155, yu2, hx156, hga, rfl, hm173⟩
    have hq174 : rget_m s = rget_m_k2 s y102 y124 y125 y126 y155 := (hq148.trans (show rget_m_k1 s y102 y124 y125 y126 = rget_m_k2 s y102 y124 y125 y126 y155 from by unfold rget_m_k1; rw [hx156] <;> rfl))
    refine then_n (hK149 _ _ ?_)
    refine wp_seq_k (fun K175 hK175 => ?_)
    refine wp_seq_k (fun K176 hK176 => ?_)
    refine wp_region_lit ?_
    refine lvw 79 (.int .i64 ((y126 : Nat) : Int)) rfl rfl (run_mv rfl rfl) ?_
    simp only [nz1, nz2, nz3]
    refine lvw 80 (.bool (decide (y126 = 0))) rfl rfl (r_eql y126 0 rfl rfl rfl) ?_
    simp only [nz1, nz2, nz3]
    refine wpList_nil ?_
    refine then_n (hK176 _ _ ?_)
    refine cond_d (y126 = 0) rfl (fun hc177 => ?_) (fun hc177 => ?_)
    · refine wp_seq_k (fun K178 hK178 => ?_)
      refine wp_region_lit ?_
      refine lvw 2 (.int .i64 0) rfl rfl (run_as rfl rfl) ?_
      simp only [nz1, nz2, nz3]
      refine lvw 3 (.int .i64 2) rfl rfl (run_as rfl rfl) ?_
      simp only [nz1, nz2, nz3]
      refine wpList_nil ?_
      refine then_n (hK178 _ _ ?_)
      refine wp_ret ?_
      refine then_r ?_
      have he179 : rget_m s = (0, 2) := (hq174.trans (show rget_m_k2 s y102 y124 y125 y126 y155 = (0, 2) from by unfold rget_m_k2; rw [if_pos hc177] <;> rfl))
      exact ⟨rfl, .tuple #[.int .i64 0, .int .i64 2], res_tt rfl rfl rfl, ⟨by (rw [he179]; try rfl), hm173.below⟩⟩
    refine wp_skip ?_
    refine then_n (hK175 _ _ ?_)
    refine wp_seq_k (fun K180 hK180 => ?_)
    refine wp_region_lit ?_
    refine lvw 81 (.int .i64 ((y125 : Nat) : Int)) rfl rfl (run_mv rfl rfl) ?_
    simp only [nz1, nz2, nz3]
    refine lvw 2 (.int .i64 ((y125 : Nat) : Int)) rfl rfl (run_as rfl rfl) ?_
    simp only [nz1, nz2, nz3]
    refine lvw 3 (.int .i64 0) rfl rfl (run_as rfl rfl) ?_
    simp only [nz1, nz2, nz3]
    refine wpList_nil ?_
    refine then_n (hK180 _ _ ?_)
    refine wp_ret ?_
    have he181 : rget_m s = (((y125 : Nat) : Int), 0) := (hq174.trans (show rget_m_k2 s y102 y124 y125 y126 y155 = (((y125 : Nat) : Int), 0) from by unfold rget_m_k2; rw [if_neg hc177] <;> rfl))
    exact ⟨rfl, .tuple #[.int .i64 ((y125 : Nat) : Int), .int .i64 0], res_tt rfl rfl rfl, ⟨by (rw [he181]; try rfl), hm173.below⟩⟩
  simp only [nz1, nz2, nz3]
  refine lvw 10 (.bool true) rfl rfl (run_mv rfl rfl) ?_
  simp only [nz1, nz2, nz3]
  refine lvw 11 (.string (tx s)) rfl rfl (run_mv rfl rfl) ?_
  simp only [nz1, nz2, nz3]
  refine lvw 12 (.int .u8 ((by' s 0 : Nat) : Int)) rfl rfl (t_char s 0 (List.length_pos_iff.2 (by assumption)) Tryd.underlying9 rfl rfl rfl) ?_
  simp only [nz1, nz2, nz3]
  refine lvw 13 (.bool (decide (by' s 0 = 128))) rfl rfl (r_eql (by' s 0) 128 rfl rfl rfl) ?_
  simp only [nz1, nz2, nz3]
  refine lvw 14 (.bool (decide (by' s 0 = 128))) rfl rfl (run_pick rfl rfl rfl) ?_
  simp only [nz1, nz2, nz3]
  refine wpList_nil ?_
  refine then_n (hK3 _ _ ?_)
  refine cond_d (by' s 0 = 128) rfl (fun hc5 => ?_) (fun hc5 => ?_)
  · refine wp_seq_k (fun K6 hK6 => ?_)
    refine wp_region_lit ?_
    refine lvw 15 (.string (tx s)) rfl rfl (run_mv rfl rfl) ?_
    simp only [nz1, nz2, nz3]
    refine lvw 16 (.string (tx (s.drop 1))) rfl rfl (t_from s 1 (List.length_pos_iff.2 (by assumption)) Tryd.underlying9 rfl rfl rfl) ?_
    simp only [nz1, nz2, nz3]
    refine lst rfl (m_call hm0 17 (.tuple #[.int .i64 ((rwide_m (s.drop 1)).1), .int .i64 ((rwide_m (s.drop 1)).2)]) rfl (run_rwide rfl rfl) (rwide_any (s.drop 1)  _  (by first | omega | assumption | (simp; done) | (simp; omega) | (simp only [List.length_append, List.length_cons, List.length_nil]; omega) | (simp only [List.length_append, List.length_cons, List.length_nil] at *; omega) | decide)) (fun w7 (hm8 : Mm none (fun _ => True) w w7 []) => ?_))
    simp only [nz1, nz2, nz3]
    refine lvw 18 (.int .i64 ((rwide_m (s.drop 1)).1)) rfl rfl (run_ex rfl rfl rfl) ?_
    simp only [nz1, nz2, nz3]
    refine lvw 19 (.int .i64 ((rwide_m (s.drop 1)).2)) rfl rfl (run_ex rfl rfl rfl) ?_
    simp only [nz1, nz2, nz3]
    refine lvw 2 (.int .i64 ((rwide_m (s.drop 1)).1)) rfl rfl (run_as rfl rfl) ?_
    simp only [nz1, nz2, nz3]
    refine lvw 3 (.int .i64 ((rwide_m (s.drop 1)).2)) rfl rfl (run_as rfl rfl) ?_
    simp only [nz1, nz2, nz3]
    refine wpList_nil ?_
    refine then_n (hK6 _ _ ?_)
    refine wp_ret ?_
    refine then_r ?_
    have he9 : rget_m s = ((rwide_m (s.drop 1)).1, (rwide_m (s.drop 1)).2) := (show rget_m s = ((rwide_m (s.drop 1)).1, (rwide_m (s.drop 1)).2) from by unfold rget_m; rw [if_pos hs4, if_pos hc5] <;> rfl)
    exact ⟨rfl, .tuple #[.int .i64 ((rwide_m (s.drop 1)).1), .int .i64 ((rwide_m (s.drop 1)).2)], res_tt rfl rfl rfl, ⟨by (rw [he9]; try rfl), hm8.below⟩⟩
  refine wp_skip ?_
  refine then_n (hK2 _ _ ?_)
  refine wp_seq_k (fun K10 hK10 => ?_)
  refine wp_region_lit ?_
  refine lvw 4 (.int .i64 0) rfl rfl (run_as rfl rfl) ?_
  simp only [nz1, nz2, nz3]
  refine wpList_nil ?_
  refine then_n (hK10 _ _ ?_)
  refine wp_seq_k (fun K11 hK11 => ?_)
  refine wp_cutK (fun a' w' => ∃ (y16 : Nat) (yu0 : Nat → Value), rget_m_l0 s ((s.length - 0) + 1) 0 = .inl y16 ∧ (y16 ≤ s.length) ∧ a' = ⟨#[.string (tx s), undef, .int .i64 0, .int .i64 0, .int .i64 ((y16 : Nat) : Int), undef, undef, undef, .string (tx s), .bool true, .bool true, .string (tx s), .int .u8 ((by' s 0 : Nat) : Int), .bool (decide (by' s 0 = 128)), .bool (decide (by' s 0 = 128)), undef, undef, undef, undef, undef, yu0 0, yu0 1, yu0 2, yu0 3, yu0 4, yu0 5, yu0 6, yu0 7, yu0 8, yu0 9, yu0 10, yu0 11, undef, undef, undef, undef, undef, undef, undef, undef, undef, undef, undef, undef, undef, undef, undef, undef, undef, undef, undef, undef, undef, undef, undef, undef, undef, undef, undef, undef, undef, undef, undef, undef, undef, undef, undef, undef, undef, undef, undef, undef, undef, undef, undef, undef, undef, undef, undef, undef, undef, undef], []⟩ ∧ Mm none (fun _ => True) w w' []) ?_ ?_
  · refine wp_block ?_
    refine wp_loop_n (fun n' a' w' => ∃ (n13 : Nat) (x12 : Nat) (u0 : Nat → Value), n' = n13 ∧ (s.length - x12) < n13 ∧ rget_m_l0 s ((s.length - 0) + 1) 0 = rget_m_l0 s n13 x12 ∧ (x12 ≤ s.length) ∧ a' = ⟨#[.string (tx s), undef, .int .i64 0, .int .i64 0, .int .i64 ((x12 : Nat) : Int), undef, undef, undef, .string (tx s), .bool true, .bool true, .string (tx s), .int .u8 ((by' s 0 : Nat) : Int), .bool (decide (by' s 0 = 128)), .bool (decide (by' s 0 = 128)), undef, undef, undef, undef, undef, u0 0, u0 1, u0 2, u0 3, u0 4, u0 5, u0 6, u0 7, u0 8, u0 9, u0 10, u0 11, undef, undef, undef, undef, undef, undef, undef, undef, undef, undef, undef, undef, undef, undef, undef, undef, undef, undef, undef, undef, undef, undef, undef, undef, undef, undef, undef, undef, undef, undef, undef, undef, undef, undef, undef, undef, undef, undef, undef, undef, undef, undef, undef, undef, undef, undef, undef, undef, undef, undef], []⟩ ∧ Mm none (fun _ => True) w w' []) ⟨((s.length - 0) + 1), 0, (fun qq => List.getD [undef, undef, undef, undef, undef, undef, undef, undef, undef, undef, undef, undef] qq undef), rfl, Nat.lt_succ_self _, rfl, (by first | omega | (simp; done) | (simp; omega) | (simp at *; omega)), rfl, hm0⟩ ?_
    rintro n13 _ w18 ⟨_, x12, u0, rfl, hl22, hi15, hga, rfl, hm19⟩ R20 hR20
    obtain ⟨k14, rfl⟩ : ∃ k, n13 = k + 1 := ⟨n13 - 1, by omega⟩
    refine wp_seq_k (fun K23 hK23 => ?_)
    refine wp_seq_k (fun K24 hK24 => ?_)
    refine wp_region_lit ?_
    refine lvw 20 (.int .i64 ((x12 : Nat) : Int)) rfl rfl (run_mv rfl rfl) ?_
    simp only [nz1, nz2, nz3]
    refine lvw 21 (.string (tx s)) rfl rfl (run_mv rfl rfl) ?_
    simp only [nz1, nz2, nz3]
    refine lvw 22 (.int .i64 ((s.length : Nat) : Int)) rfl rfl (t_len rfl Tryd.underlying9 rfl) ?_
    simp only [nz1, nz2, nz3]
    refine lvb 23 (x12 < s.length) rfl rfl (r_lss x12 s.length rfl rfl rfl) (fun hs25 => ?_) (fun hs25 => ?_)
    rotate_left
    · simp only [nz1, nz2, nz3]
      refine lvw 24 (.bool false) rfl rfl (run_mv rfl rfl) ?_
      simp only [nz1, nz2, nz3]
      refine lst_skip 25 rfl rfl ?_
      simp only [nz1, nz2, nz3]
      refine lst_skip 26 rfl rfl ?_
      simp only [nz1, nz2, nz3]
      refine lst_skip 27 rfl rfl ?_
      simp only [nz1, nz2, nz3]
      refine lst_skip 28 rfl rfl ?_
      simp only [nz1, nz2, nz3]
      refine lvw 29 (.bool false) rfl rfl (run_pickf rfl rfl rfl) ?_
      simp only [nz1, nz2, nz3]
      refine wpList_nil ?_
      refine then_n (hK24 _ _ ?_)
      refine cond_f rfl ?_
      refine wp_exit ?_
      refine then_x ?_
      refine then_x ?_
      refine blk_x ?_
      refine then_n ?_
      exact ⟨x12, (fun qq => List.getD [.int .i64 ((x12 : Nat) : Int), .string (tx s), .int .i64 ((s.length : Nat) : Int), .bool false, .bool false, undef, undef, undef, undef, .bool false, u0 10, u0 11] qq undef), (hi15.trans (show rget_m_b0 s (rget_m_l0 s k14) x12 = .inl x12 from by unfold rget_m_b0; rw [if_neg hs25] <;> rfl)), (by first | omega | (simp; done) | (simp; omega) | (simp at *; omega)), rfl, hm19⟩
    simp only [nz1, nz2, nz3]
    refine lvw 24 (.bool true) rfl rfl (run_mv rfl rfl) ?_
    simp only [nz1, nz2, nz3]
    refine lvw 25 (.string (tx s)) rfl rfl (run_mv rfl rfl) ?_
    simp only [nz1, nz2, nz3]
    refine lvw 26 (.int .i64 ((x12 : Nat) : Int)) rfl rfl (run_mv rfl rfl) ?_
    simp only [nz1, nz2, nz3]
    refine lvw 27 (.int .u8 ((by' s x12 : Nat) : Int)) rfl rfl (t_char s x12 (by omega) Tryd.underlying9 rfl rfl rfl) ?_
    simp only [nz1, nz2, nz3]
    refine lvw 28 (.bool (decide (by' s x12 = 32))) rfl rfl (r_eql (by' s x12) 32 rfl rfl rfl) ?_
    simp only [nz1, nz2, nz3]
    refine lvw 29 (.bool (decide (by' s x12 = 32))) rfl rfl (run_pick rfl rfl rfl) ?_
    simp only [nz1, nz2, nz3]
    refine wpList_nil ?_
    refine then_n (hK24 _ _ ?_)
    refine cond_d (by' s x12 = 32) rfl (fun hc26 => ?_) (fun hc26 => ?_)
    rotate_left
    · refine wp_exit ?_
      refine then_x ?_
      refine then_x ?_
      refine blk_x ?_
      refine then_n ?_
      exact ⟨x12, (fun qq => List.getD [.int .i64 ((x12 : Nat) : Int), .string (tx s), .int .i64 ((s.length : Nat) : Int), .bool true, .bool true, .string (tx s), .int .i64 ((x12 : Nat) : Int), .int .u8 ((by' s x12 : Nat) : Int), .bool (decide (by' s x12 = 32)), .bool (decide (by' s x12 = 32)), u0 10, u0 11] qq undef), (hi15.trans (show rget_m_b0 s (rget_m_l0 s k14) x12 = .inl x12 from by unfold rget_m_b0; rw [if_pos hs25, if_neg hc26] <;> rfl)), (by first | omega | (simp; done) | (simp; omega) | (simp at *; omega)), rfl, hm19⟩
    refine wp_skip ?_
    refine then_n (hK23 _ _ ?_)
    refine wp_block ?_
    refine wp_region_lit ?_
    refine lvw 30 (.int .i64 ((x12 : Nat) : Int)) rfl rfl (run_mv rfl rfl) ?_
    simp only [nz1, nz2, nz3]
    refine lvw 31 (.int .i64 (((x12 + 1) : Nat) : Int)) rfl rfl (r_add x12 1 (show (x12 + 1) < 9223372036854775808 from by omega) rfl rfl rfl) ?_
    simp only [nz1, nz2, nz3]
    refine lvw 4 (.int .i64 (((x12 + 1) : Nat) : Int)) rfl rfl (run_as rfl rfl) ?_
    simp only [nz1, nz2, nz3]
    refine wpList_nil ?_
    refine blk_n ?_
    refine then_n (hR20 _ _ _ ⟨k14, (x12 + 1), (fun qq => List.getD [.int .i64 ((x12 : Nat) : Int), .string (tx s), .int .i64 ((s.length : Nat) : Int), .bool true, .bool true, .string (tx s), .int .i64 ((x12 : Nat) : Int), .int .u8 ((by' s x12 : Nat) : Int), .bool (decide (by' s x12 = 32)), .bool (decide (by' s x12 = 32)), .int .i64 ((x12 : Nat) : Int), .int .i64 (((x12 + 1) : Nat) : Int)] qq undef), rfl, (by first | omega | (simp; omega) | (simp at *; omega)), (hi15.trans (show rget_m_b0 s (rget_m_l0 s k14) x12 = rget_m_l0 s k14 (x12 + 1) from by unfold rget_m_b0; rw [if_pos hs25, if_pos hc26] <;> rfl)), (by first | omega | (simp; done) | (simp; omega) | (simp at *; omega)), rfl, hm19⟩ ?_)
    omega
  rintro _ w27 ⟨y16, yu0, hx17, hga, rfl, hm28⟩
  have hq29 : rget_m s = rget_m_k0 s y16 := (show rget_m s = rget_m_k0 s y16 from by unfold rget_m; rw [if_pos hs4, if_neg hc5, hx17] <;> rfl)
  refine then_n (hK11 _ _ ?_)
  refine wp_seq_k (fun K30 hK30 => ?_)
  refine wp_region_lit ?_
  refine lvw 5 (.int .i64 0) rfl rfl (run_as rfl rfl) ?_
  simp only [nz1, nz2, nz3]
  refine lvw 6 (.int .i64 0) rfl rfl (run_as rfl rfl) ?_
  simp only [nz1, nz2, nz3]
  refine wpList_nil ?_
  refine then_n (hK30 _ _ ?_)
  refine wp_seq_k (fun K31 hK31 => ?_)
  refine wp_cutK (fun a' w' => ∃ (y38 : Nat) (y39 : Nat) (y40 : Nat) (yu1 : Nat → Value), rget_m_l1 s y16 ((s.length - y16) + 1) (y16, 0, 0) = .inl (y38, y39, y40) ∧ (y38 ≤ s.length ∧ 0 ≤ y39 ∧ y39 ≤ 9223372036854775807 ∧ y40 ≤ y38) ∧ a' = ⟨#[.string (tx s), undef, yu1 0, yu1 1, .int .i64 ((y38 : Nat) : Int), .int .i64 ((y39 : Nat) : Int), .int .i64 ((y40 : Nat) : Int), undef, .string (tx s), .bool true, .bool true, .string (tx s), .int .u8 ((by' s 0 : Nat) : Int), .bool (decide (by' s 0 = 128)), .bool (decide (by' s 0 = 128)), undef, undef, undef, undef, undef, yu0 0, yu0 1, yu0 2, yu0 3, yu0 4, yu0 5, yu0 6, yu0 7, yu0 8, yu0 9, yu0 10, yu0 11, yu1 2, yu1 3, yu1 4, yu1 5, yu1 6, yu1 7, yu1 8, yu1 9, yu1 10, yu1 11, yu1 12, yu1 13, yu1 14, yu1 15, yu1 16, yu1 17, yu1 18, yu1 19, yu1 20, yu1 21, yu1 22, yu1 23, yu1 24, yu1 25, yu1 26, yu1 27, yu1 28, yu1 29, yu1 30, yu1 31, undef, undef, undef, undef, undef, undef, undef, undef, undef, undef, undef, undef, undef, undef, undef, undef, undef, undef, undef, undef], []⟩ ∧ Mm none (fun _ => True) w w' []) ?_ ?_
  · refine wp_block ?_
    refine wp_loop_n (fun n' a' w' => ∃ (n35 : Nat) (x32 : Nat) (x33 : Nat) (x34 : Nat) (u1 : Nat → Value), n' = n35 ∧ (s.length - x32) < n35 ∧ rget_m_l1 s y16 ((s.length - y16) + 1) (y16, 0, 0) = rget_m_l1 s y16 n35 (x32, x33, x34) ∧ (x32 ≤ s.length ∧ 0 ≤ x33 ∧ x33 ≤ 9223372036854775807 ∧ x34 ≤ x32) ∧ a' = ⟨#[.string (tx s), undef, u1 0, u1 1, .int .i64 ((x32 : Nat) : Int), .int .i64 ((x33 : Nat) : Int), .int .i64 ((x34 : Nat) : Int), undef, .string (tx s), .bool true, .bool true, .string (tx s), .int .u8 ((by' s 0 : Nat) : Int), .bool (decide (by' s 0 = 128)), .bool (decide (by' s 0 = 128)), undef, undef, undef, undef, undef, yu0 0, yu0 1, yu0 2, yu0 3, yu0 4, yu0 5, yu0 6, yu0 7, yu0 8, yu0 9, yu0 10, yu0 11, u1 2, u1 3, u1 4, u1 5, u1 6, u1 7, u1 8, u1 9, u1 10, u1 11, u1 12, u1 13, u1 14, u1 15, u1 16, u1 17, u1 18, u1 19, u1 20, u1 21, u1 22, u1 23, u1 24, u1 25, u1 26, u1 27, u1 28, u1 29, u1 30, u1 31, undef, undef, undef, undef, undef, undef, undef, undef, undef, undef, undef, undef, undef, undef, undef, undef, undef, undef, undef, undef], []⟩ ∧ Mm none (fun _ => True) w w' []) ⟨((s.length - y16) + 1), y16, 0, 0, (fun qq => bif Nat.blt qq 24 then List.getD [.int .i64 0, .int .i64 0, undef, undef, undef, undef, undef, undef, undef, undef, undef, undef, undef, undef, undef, undef, undef, undef, undef, undef, undef, undef, undef, undef] qq undef else List.getD [undef, undef, undef, undef, undef, undef, undef, undef] (qq - 24) undef), rfl, Nat.lt_succ_self _, rfl, (by first | omega | (simp; done) | (simp; omega) | (simp at *; omega)), rfl, hm28⟩ ?_
    rintro n35 _ w42 ⟨_, x32, x33, x34, u1, rfl, hl46, hi37, hgb, rfl, hm43⟩ R44 hR44
    obtain ⟨k36, rfl⟩ : ∃ k, n35 = k + 1 := ⟨n35 - 1, by omega⟩
    refine wp_seq_k (fun K47 hK47 => ?_)
    refine wp_seq_k (fun K48 hK48 => ?_)
    refine wp_region_lit ?_
    refine lvw 32 (.int .i64 ((x32 : Nat) : Int)) rfl rfl (run_mv rfl rfl) ?_
    simp only [nz1, nz2, nz3]
    refine lvw 33 (.string (tx s)) rfl rfl (run_mv rfl rfl) ?_
    simp only [nz1, nz2, nz3]
    refine lvw 34 (.int .i64 ((s.length : Nat) : Int)) rfl rfl (t_len rfl Tryd.underlying9 rfl) ?_
    simp only [nz1, nz2, nz3]
    refine lvb 35 (x32 < s.length) rfl rfl (r_lss x32 s.length rfl rfl rfl) (fun hs49 => ?_) (fun hs49 => ?_)
    rotate_left
    · simp only [nz1, nz2, nz3]
      refine lvw 36 (.bool false) rfl rfl (run_mv rfl rfl) ?_
      simp only [nz1, nz2, nz3]
      refine lst_skip 37 rfl rfl ?_
      simp only [nz1, nz2, nz3]
      refine lst_skip 38 rfl rfl ?_
      simp only [nz1, nz2, nz3]
      refine lst_skip 39 rfl rfl ?_
      simp only [nz1, nz2, nz3]
      refine lst_skip 40 rfl rfl ?_
      simp only [nz1, nz2, nz3]
      refine lvw 41 (.bool false) rfl rfl (run_pickf rfl rfl rfl) ?_
      simp only [nz1, nz2, nz3]
      refine lvw 42 (.bool false) rfl rfl (run_mv rfl rfl) ?_
      simp only [nz1, nz2, nz3]
      refine lst_skip 43 rfl rfl ?_
      simp only [nz1, nz2, nz3]
      refine lst_skip 44 rfl rfl ?_
      simp only [nz1, nz2, nz3]
      refine lst_skip 45 rfl rfl ?_
      simp only [nz1, nz2, nz3]
      refine lst_skip 46 rfl rfl ?_
      simp only [nz1, nz2, nz3]
      refine lvw 47 (.bool false) rfl rfl (run_pickf rfl rfl rfl) ?_
      simp only [nz1, nz2, nz3]
      refine wpList_nil ?_
      refine then_n (hK48 _ _ ?_)
      refine cond_f rfl ?_
      refine wp_exit ?_
      refine then_x ?_
      refine then_x ?_
      refine blk_x ?_
      refine then_n ?_
      exact ⟨x32, x33, x34, (fun qq => bif Nat.blt qq 24 then List.getD [u1 0, u1 1, .int .i64 ((x32 : Nat) : Int), .string (tx s), .int .i64 ((s.length : Nat) : Int), .bool false, .bool false, undef, undef, undef, undef, .bool false, .bool false, undef, undef, undef, undef, .bool false, u1 18, u1 19, u1 20, u1 21, u1 22, u1 23] qq undef else List.getD [u1 24, u1 25, u1 26, u1 27, u1 28, u1 29, u1 30, u1 31] (qq - 24) undef), (hi37.trans (show rget_m_b1 s y16 (rget_m_l1 s y16 k36) x32 x33 x34 = .inl (x32, x33, x34) from by unfold rget_m_b1; rw [if_neg hs49] <;> rfl)), (by first | omega | (simp; done) | (simp; omega) | (simp at *; omega)), rfl, hm43⟩
    simp only [nz1, nz2, nz3]
    refine lvw 36 (.bool true) rfl rfl (run_mv rfl rfl) ?_
    simp only [nz1, nz2, nz3]
    refine lvw 37 (.string (tx s)) rfl rfl (run_mv rfl rfl) ?_
    simp only [nz1, nz2, nz3]
    refine lvw 38 (.int .i64 ((x32 : Nat) : Int)) rfl rfl (run_mv rfl rfl) ?_
    simp only [nz1, nz2, nz3]
    refine lvw 39 (.int .u8 ((by' s x32 : Nat) : Int)) rfl rfl (t_char s x32 (by omega) Tryd.underlying9 rfl rfl rfl) ?_
    simp only [nz1, nz2, nz3]
    refine lvb 40 (48 ≤ by' s x32) rfl rfl (r_geq (by' s x32) 48 rfl rfl rfl) (fun hs50 => ?_) (fun hs50 => ?_)
    rotate_left
    · simp only [nz1, nz2, nz3]
      refine lvw 41 (.bool false) rfl rfl (run_pick rfl rfl rfl) ?_
      simp only [nz1, nz2, nz3]
      refine lvw 42 (.bool false) rfl rfl (run_mv rfl rfl) ?_
      simp only [nz1, nz2, nz3]
      refine lst_skip 43 rfl rfl ?_
      simp only [nz1, nz2, nz3]
      refine lst_skip 44 rfl rfl ?_
      simp only [nz1, nz2, nz3]
      refine lst_skip 45 rfl rfl ?_
      simp only [nz1, nz2, nz3]
      refine lst_skip 46 rfl rfl ?_
      simp only [nz1, nz2, nz3]
      refine lvw 47 (.bool false) rfl rfl (run_pickf rfl rfl rfl) ?_
      simp only [nz1, nz2, nz3]
      refine wpList_nil ?_
      refine then_n (hK48 _ _ ?_)
      refine cond_f rfl ?_
      refine wp_exit ?_
      refine then_x ?_
      refine then_x ?_
      refine blk_x ?_
      refine then_n ?_
      exact ⟨x32, x33, x34, (fun qq => bif Nat.blt qq 24 then List.getD [u1 0, u1 1, .int .i64 ((x32 : Nat) : Int), .string (tx s), .int .i64 ((s.length : Nat) : Int), .bool true, .bool true, .string (tx s), .int .i64 ((x32 : Nat) : Int), .int .u8 ((by' s x32 : Nat) : Int), .bool false, .bool false, .bool false, undef, undef, undef, undef, .bool false, u1 18, u1 19, u1 20, u1 21, u1 22, u1 23] qq undef else List.getD [u1 24, u1 25, u1 26, u1 27, u1 28, u1 29, u1 30, u1 31] (qq - 24) undef), (hi37.trans (show rget_m_b1 s y16 (rget_m_l1 s y16 k36) x32 x33 x34 = .inl (x32, x33, x34) from by unfold rget_m_b1; rw [if_pos hs49, if_neg hs50] <;> rfl)), (by first | omega | (simp; done) | (simp; omega) | (simp at *; omega)), rfl, hm43⟩
    simp only [nz1, nz2, nz3]
    refine lvw 41 (.bool true) rfl rfl (run_pick rfl rfl rfl) ?_
    simp only [nz1, nz2, nz3]
    refine lvw 42 (.bool true) rfl rfl (run_mv rfl rfl) ?_
    simp only [nz1, nz2, nz3]
    refine lvw 43 (.string (tx s)) rfl rfl (run_mv rfl rfl) ?_
    simp only [nz1, nz2, nz3]
    refine lvw 44 (.int .i64 ((x32 : Nat) : Int)) rfl rfl (run_mv rfl rfl) ?_
    simp only [nz1, nz2, nz3]
    refine lvw 45 (.int .u8 ((by' s x32 : Nat) : Int)) rfl rfl (t_char s x32 (by omega) Tryd.underlying9 rfl rfl rfl) ?_
    simp only [nz1, nz2, nz3]
    refine lvw 46 (.bool (decide (by' s x32 ≤ 55))) rfl rfl (r_leq (by' s x32) 55 rfl rfl rfl) ?_
    simp only [nz1, nz2, nz3]
    refine lvw 47 (.bool (decide (by' s x32 ≤ 55))) rfl rfl (run_pick rfl rfl rfl) ?_
    simp only [nz1, nz2, nz3]
    refine wpList_nil ?_
    refine then_n (hK48 _ _ ?_)
    refine cond_d (by' s x32 ≤ 55) rfl (fun hc51 => ?_) (fun hc51 => ?_)
    rotate_left
    · refine wp_exit ?_
      refine then_x ?_
      refine then_x ?_
      refine blk_x ?_
      refine then_n ?_
      exact ⟨x32, x33, x34, (fun qq => bif Nat.blt qq 24 then List.getD [u1 0, u1 1, .int .i64 ((x32 : Nat) : Int), .string (tx s), .int .i64 ((s.length : Nat) : Int), .bool true, .bool true, .string (tx s), .int .i64 ((x32 : Nat) : Int), .int .u8 ((by' s x32 : Nat) : Int), .bool true, .bool true, .bool true, .string (tx s), .int .i64 ((x32 : Nat) : Int), .int .u8 ((by' s x32 : Nat) : Int), .bool (decide (by' s x32 ≤ 55)), .bool (decide (by' s x32 ≤ 55)), u1 18, u1 19, u1 20, u1 21, u1 22, u1 23] qq undef else List.getD [u1 24, u1 25, u1 26, u1 27, u1 28, u1 29, u1 30, u1 31] (qq - 24) undef), (hi37.trans (show rget_m_b1 s y16 (rget_m_l1 s y16 k36) x32 x33 x34 = .inl (x32, x33, x34) from by unfold rget_m_b1; rw [if_pos hs49, if_pos hs50, if_neg hc51] <;> rfl)), (by first | omega | (simp; done) | (simp; omega) | (simp at *; omega)), rfl, hm43⟩
    refine wp_skip ?_
    refine then_n (hK47 _ _ ?_)
    refine wp_block ?_
    refine wp_seq_k (fun K52 hK52 => ?_)
    refine wp_seq_k (fun K53 hK53 => ?_)
    refine wp_region_lit ?_
    refine lvw 48 (.int .i64 ((x33 : Nat) : Int)) rfl rfl (run_mv rfl rfl) ?_
    simp only [nz1, nz2, nz3]
    refine lvw 49 (.bool (decide (1152921504606846976 ≤ x33))) rfl rfl (r_geq x33 1152921504606846976 rfl rfl rfl) ?_
    simp only [nz1, nz2, nz3]
    refine wpList_nil ?_
    refine then_n (hK53 _ _ ?_)
    refine cond_d (1152921504606846976 ≤ x33) rfl (fun hc54 => ?_) (fun hc54 => ?_)
    · refine wp_seq_k (fun K55 hK55 => ?_)
      refine wp_region_lit ?_
      refine lvw 2 (.int .i64 0) rfl rfl (run_as rfl rfl) ?_
      simp only [nz1, nz2, nz3]
      refine lvw 3 (.int .i64 3) rfl rfl (run_as rfl rfl) ?_
      simp only [nz1, nz2, nz3]
      refine wpList_nil ?_
      refine then_n (hK55 _ _ ?_)
      refine wp_ret ?_
      refine then_r ?_
      refine blk_r ?_
      refine then_r ?_
      refine blk_r ?_
      refine then_r ?_
      refine then_r ?_
      have he56 : rget_m_l1 s y16 ((s.length - y16) + 1) (y16, 0, 0) = .inr (0, 3) := (hi37.trans (show rget_m_b1 s y16 (rget_m_l1 s y16 k36) x32 x33 x34 = .inr (0, 3) from by unfold rget_m_b1; rw [if_pos hs49, if_pos hs50, if_pos hc51, if_pos hc54] <;> rfl))
      have he57 : rget_m s = (0, 3) := (hq29.trans (show rget_m_k0 s y16 = (0, 3) from by unfold rget_m_k0; rw [he56] <;> rfl))
      exact ⟨rfl, .tuple #[.int .i64 0, .int .i64 3], res_tt rfl rfl rfl, ⟨by (rw [he57]; try rfl), hm43.below⟩⟩
    refine wp_skip ?_
    refine then_n (hK52 _ _ ?_)
    refine wp_seq_k (fun K58 hK58 => ?_)
    refine wp_region_lit ?_
    refine lvw 50 (.int .i64 ((x33 : Nat) : Int)) rfl rfl (run_mv rfl rfl) ?_
    simp only [nz1, nz2, nz3]
    refine lvw 51 (.int .i64 (((8 * x33) : Nat) : Int)) rfl rfl (r_mul 8 x33 (show (8 * x33) < 9223372036854775808 from by omega) rfl rfl rfl) ?_
    simp only [nz1, nz2, nz3]
    refine lvw 52 (.string (tx s)) rfl rfl (run_mv rfl rfl) ?_
    simp only [nz1, nz2, nz3]
    refine lvw 53 (.int .i64 ((x32 : Nat) : Int)) rfl rfl (run_mv rfl rfl) ?_
    simp only [nz1, nz2, nz3]
    refine lvw 54 (.int .u8 ((by' s x32 : Nat) : Int)) rfl rfl (t_char s x32 (by omega) Tryd.underlying9 rfl rfl rfl) ?_
    simp only [nz1, nz2, nz3]
    refine lvw 55 (.int .u8 ((((by' s x32) - 48) : Nat) : Int)) rfl rfl (r_sub (by' s x32) 48 (show (by' s x32) < 256 from by omega) (by omega) rfl rfl rfl) ?_
    simp only [nz1, nz2, nz3]
    refine lvw 56 (.int .i64 ((((by' s x32) - 48) : Nat) : Int)) rfl rfl (r_conv (k' := .i64) ((by' s x32) - 48) ((by' s x32) - 48) some_5 Tryd.underlying3 (wrap_nat (show _ < 9223372036854775808 from by omega)) rfl rfl) ?_
    simp only [nz1, nz2, nz3]
    refine lvw 57 (.int .i64 ((((8 * x33) + ((by' s x32) - 48)) : Nat) : Int)) rfl rfl (r_add (8 * x33) ((by' s x32) - 48) (show ((8 * x33) + ((by' s x32) - 48)) < 9223372036854775808 from by omega) rfl rfl rfl) ?_
    simp only [nz1, nz2, nz3]
    refine lvw 5 (.int .i64 ((((8 * x33) + ((by' s x32) - 48)) : Nat) : Int)) rfl rfl (run_as rfl rfl) ?_
    simp only [nz1, nz2, nz3]
    refine wpList_nil ?_
    refine then_n (hK58 _ _ ?_)
    refine wp_seq_k (fun K59 hK59 => ?_)
    refine wp_region_lit ?_
    refine lvw 58 (.int .i64 ((x32 : Nat) : Int)) rfl rfl (run_mv rfl rfl) ?_
    simp only [nz1, nz2, nz3]
    refine lvw 59 (.int .i64 (((x32 + 1) : Nat) : Int)) rfl rfl (r_add x32 1 (show (x32 + 1) < 9223372036854775808 from by omega) rfl rfl rfl) ?_
    simp only [nz1, nz2, nz3]
    refine lvw 4 (.int .i64 (((x32 + 1) : Nat) : Int)) rfl rfl (run_as rfl rfl) ?_
    simp only [nz1, nz2, nz3]
    refine wpList_nil ?_
    refine then_n (hK59 _ _ ?_)
    refine wp_region_lit ?_
    refine lvw 60 (.int .i64 ((x34 : Nat) : Int)) rfl rfl (run_mv rfl rfl) ?_
    simp only [nz1, nz2, nz3]
    refine lvw 61 (.int .i64 (((x34 + 1) : Nat) : Int)) rfl rfl (r_add x34 1 (show (x34 + 1) < 9223372036854775808 from by omega) rfl rfl rfl) ?_
    simp only [nz1, nz2, nz3]
    refine lvw 6 (.int .i64 (((x34 + 1) : Nat) : Int)) rfl rfl (run_as rfl rfl) ?_
    simp only [nz1, nz2, nz3]
    refine wpList_nil ?_
    refine blk_n ?_
    refine then_n (hR44 _ _ _ ⟨k36, (x32 + 1), ((8 * x33) + ((by' s x32) - 48)), (x34 + 1), (fun qq => bif Nat.blt qq 24 then List.getD [u1 0, u1 1, .int .i64 ((x32 : Nat) : Int), .string (tx s), .int .i64 ((s.length : Nat) : Int), .bool true, .bool true, .string (tx s), .int .i64 ((x32 : Nat) : Int), .int .u8 ((by' s x32 : Nat) : Int), .bool true, .bool true, .bool true, .string (tx s), .int .i64 ((x32 : Nat) : Int), .int .u8 ((by' s x32 : Nat) : Int), .bool (decide (by' s x32 ≤ 55)), .bool (decide (by' s x32 ≤ 55)), .int .i64 ((x33 : Nat) : Int), .bool (decide (1152921504606846976 ≤ x33)), .int .i64 ((x33 : Nat) : Int), .int .i64 (((8 * x33) : Nat) : Int), .string (tx s), .int .i64 ((x32 : Nat) : Int)] qq undef else List.getD [.int .u8 ((by' s x32 : Nat) : Int), .int .u8 ((((by' s x32) - 48) : Nat) : Int), .int .i64 ((((by' s x32) - 48) : Nat) : Int), .int .i64 ((((8 * x33) + ((by' s x32) - 48)) : Nat) : Int), .int .i64 ((x32 : Nat) : Int), .int .i64 (((x32 + 1) : Nat) : Int), .int .i64 ((x34 : Nat) : Int), .int .i64 (((x34 + 1) : Nat) : Int)] (qq - 24) undef), rfl, (by first | omega | (simp; omega) | (simp at *; omega)), (hi37.trans (show rget_m_b1 s y16 (rget_m_l1 s y16 k36) x32 x33 x34 = rget_m_l1 s y16 k36 ((x32 + 1), ((8 * x33) + ((by' s x32) - 48)), (x34 + 1)) from by unfold rget_m_b1; rw [if_pos hs49, if_pos hs50, if_pos hc51, if_neg hc54] <;> rfl)), (by first | omega | (simp; done) | (simp; omega) | (simp at *; omega)), rfl, hm43⟩ ?_)
    omega
  rintro _ w60 ⟨y38, y39, y40, yu1, hx41, hgb, rfl, hm61⟩
  have hq62 : rget_m s = rget_m_k1 s y16 y38 y39 y40 := (hq29.trans (show rget_m_k0 s y16 = rget_m_k1 s y16 y38 y39 y40 from by unfold rget_m_k0; rw [hx41] <;> rfl))
  refine then_n (hK31 _ _ ?_)
  refine wp_seq_k (fun K63 hK63 => ?_)
  refine wp_seq_k (fun K64 hK64 => ?_)
  refine wp_region_lit ?_
  refine lvw 62 (.int .i64 ((y38 : Nat) : Int)) rfl rfl (run_mv rfl rfl) ?_
  simp only [nz1, nz2, nz3]
  refine lvw 7 (.int .i64 ((y38 : Nat) : Int)) rfl rfl (run_as rfl rfl) ?_
  simp only [nz1, nz2, nz3]
  refine wpList_nil ?_
  refine then_n (hK64 _ _ ?_)
  refine wp_cutK (fun a' w' => ∃ (y69 : Nat) (yu2 : Nat → Value), rget_m_l2 s y16 y38 y39 y40 ((s.length - y38) + 1) y38 = .inl y69 ∧ (y69 ≤ s.length) ∧ a' = ⟨#[.string (tx s), undef, yu2 0, yu2 1, .int .i64 ((y38 : Nat) : Int), .int .i64 ((y39 : Nat) : Int), .int .i64 ((y40 : Nat) : Int), .int .i64 ((y69 : Nat) : Int), .string (tx s), .bool true, .bool true, .string (tx s), .int .u8 ((by' s 0 : Nat) : Int), .bool (decide (by' s 0 = 128)), .bool (decide (by' s 0 = 128)), undef, undef, undef, undef, undef, yu0 0, yu0 1, yu0 2, yu0 3, yu0 4, yu0 5, yu0 6, yu0 7, yu0 8, yu0 9, yu0 10, yu0 11, yu1 2, yu1 3, yu1 4, yu1 5, yu1 6, yu1 7, yu1 8, yu1 9, yu1 10, yu1 11, yu1 12, yu1 13, yu1 14, yu1 15, yu1 16, yu1 17, yu1 18, yu1 19, yu1 20, yu1 21, yu1 22, yu1 23, yu1 24, yu1 25, yu1 26, yu1 27, yu1 28, yu1 29, yu1 30, yu1 31, .int .i64 ((y38 : Nat) : Int), yu2 2, yu2 3, yu2 4, yu2 5, yu2 6, yu2 7, yu2 8, yu2 9, yu2 10, yu2 11, yu2 12, yu2 13, yu2 14, yu2 15, yu2 16, yu2 17, undef, undef, undef], []⟩ ∧ Mm none (fun _ => True) w w' []) ?_ ?_
  · refine wp_block ?_
    refine wp_loop_n (fun n' a' w' => ∃ (n66 : Nat) (x65 : Nat) (u2 : Nat → Value), n' = n66 ∧ (s.length - x65) < n66 ∧ rget_m_l2 s y16 y38 y39 y40 ((s.length - y38) + 1) y38 = rget_m_l2 s y16 y38 y39 y40 n66 x65 ∧ (x65 ≤ s.length) ∧ a' = ⟨#[.string (tx s), undef, u2 0, u2 1, .int .i64 ((y38 : Nat) : Int), .int .i64 ((y39 : Nat) : Int), .int .i64 ((y40 : Nat) : Int), .int .i64 ((x65 : Nat) : Int), .string (tx s), .bool true, .bool true, .string (tx s), .int .u8 ((by' s 0 : Nat) : Int), .bool (decide (by' s 0 = 128)), .bool (decide (by' s 0 = 128)), undef, undef, undef, undef, undef, yu0 0, yu0 1, yu0 2, yu0 3, yu0 4, yu0 5, yu0 6, yu0 7, yu0 8, yu0 9, yu0 10, yu0 11, yu1 2, yu1 3, yu1 4, yu1 5, yu1 6, yu1 7, yu1 8, yu1 9, yu1 10, yu1 11, yu1 12, yu1 13, yu1 14, yu1 15, yu1 16, yu1 17, yu1 18, yu1 19, yu1 20, yu1 21, yu1 22, yu1 23, yu1 24, yu1 25, yu1 26, yu1 27, yu1 28, yu1 29, yu1 30, yu1 31, .int .i64 ((y38 : Nat) : Int), u2 2, u2 3, u2 4, u2 5, u2 6, u2 7, u2 8, u2 9, u2 10, u2 11, u2 12, u2 13, u2 14, u2 15, u2 16, u2 17, undef, undef, undef], []⟩ ∧ Mm none (fun _ => True) w w' []) ⟨((s.length - y38) + 1), y38, (fun qq => List.getD [yu1 0, yu1 1, undef, undef, undef, undef, undef, undef, undef, undef, undef, undef, undef, undef, undef, undef, undef, undef] qq undef), rfl, Nat.lt_succ_self _, rfl, (by first | omega | (simp; done) | (simp; omega) | (simp at *; omega)), rfl, hm61⟩ ?_
    rintro n66 _ w71 ⟨_, x65, u2, rfl, hl75, hi68, hga, rfl, hm72⟩ R73 hR73
    obtain ⟨k67, rfl⟩ : ∃ k, n66 = k + 1 := ⟨n66 - 1, by omega⟩
    refine wp_seq_k (fun K76 hK76 => ?_)
    refine wp_seq_k (fun K77 hK77 => ?_)
    refine wp_region_lit ?_
    refine lvw 63 (.int .i64 ((x65 : Nat) : Int)) rfl rfl (run_mv rfl rfl) ?_
    simp only [nz1, nz2, nz3]
    refine lvw 64 (.string (tx s)) rfl rfl (run_mv rfl rfl) ?_
    simp only [nz1, nz2, nz3]
    refine lvw 65 (.int .i64 ((s.length : Nat) : Int)) rfl rfl (t_len rfl Tryd.underlying9 rfl) ?_
    simp only [nz1, nz2, nz3]
    refine lvw 66 (.bool (decide (x65 < s.length))) rfl rfl (r_lss x65 s.length rfl rfl rfl) ?_
    simp only [nz1, nz2, nz3]
    refine wpList_nil ?_
    refine then_n (hK77 _ _ ?_)
    refine cond_d (x65 < s.length) rfl (fun hc78 => ?_) (fun hc78 => ?_)
    rotate_left
    · refine wp_exit ?_
      refine then_x ?_
      refine then_x ?_
      refine blk_x ?_
      refine then_n ?_
      exact ⟨x65, (fun qq => List.getD [u2 0, u2 1, .int .i64 ((x65 : Nat) : Int), .string (tx s), .int .i64 ((s.length : Nat) : Int), .bool (decide (x65 < s.length)), u2 6, u2 7, u2 8, u2 9, u2 10, u2 11, u2 12, u2 13, u2 14, u2 15, u2 16, u2 17] qq undef), (hi68.trans (show rget_m_b2 s y16 y38 y39 y40 (rget_m_l2 s y16 y38 y39 y40 k67) x65 = .inl x65 from by unfold rget_m_b2; rw [if_neg hc78] <;> rfl)), (by first | omega | (simp; done) | (simp; omega) | (simp at *; omega)), rfl, hm72⟩
    refine wp_skip ?_
    refine then_n (hK76 _ _ ?_)
    refine wp_seq_k (fun K79 hK79 => ?_)
    refine wp_block ?_
    refine wp_seq_k (fun K80 hK80 => ?_)
    refine wp_region_lit ?_
    refine lvw 69 (.string (tx s)) rfl rfl (run_mv rfl rfl) ?_
    simp only [nz1, nz2, nz3]
    refine lvw 70 (.int .i64 ((x65 : Nat) : Int)) rfl rfl (run_mv rfl rfl) ?_
    simp only [nz1, nz2, nz3]
    refine lvw 71 (.int .u8 ((by' s x65 : Nat) : Int)) rfl rfl (t_char s x65 (by omega) Tryd.underlying9 rfl rfl rfl) ?_
    simp only [nz1, nz2, nz3]
    refine lvb 72 (¬ by' s x65 = 32) rfl rfl (r_neq (by' s x65) 32 rfl rfl rfl) (fun hs81 => ?_) (fun hs81 => ?_)
    rotate_left
    · simp only [nz1, nz2, nz3]
      refine lvw 73 (.bool false) rfl rfl (run_mv rfl rfl) ?_
      simp only [nz1, nz2, nz3]
      refine lst_skip 74 rfl rfl ?_
      simp only [nz1, nz2, nz3]
      refine lst_skip 75 rfl rfl ?_
      simp only [nz1, nz2, nz3]
      refine lst_skip 76 rfl rfl ?_
      simp only [nz1, nz2, nz3]
      refine lst_skip 77 rfl rfl ?_
      simp only [nz1, nz2, nz3]
      refine lvw 78 (.bool false) rfl rfl (run_pickf rfl rfl rfl) ?_
      simp only [nz1, nz2, nz3]
      refine wpList_nil ?_
      refine then_n (hK80 _ _ ?_)
      refine cond_f rfl ?_
      refine wp_skip ?_
      refine blk_n ?_
      refine then_n (hK79 _ _ ?_)
      refine wp_region_lit ?_
      refine lvw 67 (.int .i64 ((x65 : Nat) : Int)) rfl rfl (run_mv rfl rfl) ?_
      simp only [nz1, nz2, nz3]
      refine lvw 68 (.int .i64 (((x65 + 1) : Nat) : Int)) rfl rfl (r_add x65 1 (show (x65 + 1) < 9223372036854775808 from by omega) rfl rfl rfl) ?_
      simp only [nz1, nz2, nz3]
      refine lvw 7 (.int .i64 (((x65 + 1) : Nat) : Int)) rfl rfl (run_as rfl rfl) ?_
      simp only [nz1, nz2, nz3]
      refine wpList_nil ?_
      refine then_n (hR73 _ _ _ ⟨k67, (x65 + 1), (fun qq => List.getD [u2 0, u2 1, .int .i64 ((x65 : Nat) : Int), .string (tx s), .int .i64 ((s.length : Nat) : Int), .bool (decide (x65 < s.length)), .int .i64 ((x65 : Nat) : Int), .int .i64 (((x65 + 1) : Nat) : Int), .string (tx s), .int .i64 ((x65 : Nat) : Int), .int .u8 ((by' s x65 : Nat) : Int), .bool false, .bool false, undef, undef, undef, undef, .bool false] qq undef), rfl, (by first | omega | (simp; omega) | (simp at *; omega)), (hi68.trans (show rget_m_b2 s y16 y38 y39 y40 (rget_m_l2 s y16 y38 y39 y40 k67) x65 = rget_m_l2 s y16 y38 y39 y40 k67 (x65 + 1) from by unfold rget_m_b2; rw [if_pos hc78, if_neg hs81] <;> rfl)), (by first | omega | (simp; done) | (simp; omega) | (simp at *; omega)), rfl, hm72⟩ ?_)
      omega
    simp only [nz1, nz2, nz3]
    refine lvw 73 (.bool true) rfl rfl (run_mv rfl rfl) ?_
    simp only [nz1, nz2, nz3]
    refine lvw 74 (.string (tx s)) rfl rfl (run_mv rfl rfl) ?_
    simp only [nz1, nz2, nz3]
    refine lvw 75 (.int .i64 ((x65 : Nat) : Int)) rfl rfl (run_mv rfl rfl) ?_
    simp only [nz1, nz2, nz3]
    refine lvw 76 (.int .u8 ((by' s x65 : Nat) : Int)) rfl rfl (t_char s x65 (by omega) Tryd.underlying9 rfl rfl rfl) ?_
    simp only [nz1, nz2, nz3]
    refine lvw 77 (.bool (decide (¬ by' s x65 = 0))) rfl rfl (r_neq (by' s x65) 0 rfl rfl rfl) ?_
    simp only [nz1, nz2, nz3]
    refine lvw 78 (.bool (decide (¬ by' s x65 = 0))) rfl rfl (run_pick rfl rfl rfl) ?_
    simp only [nz1, nz2, nz3]
    refine wpList_nil ?_
    refine then_n (hK80 _ _ ?_)
    refine cond_d (¬ by' s x65 = 0) rfl (fun hc82 => ?_) (fun hc82 => ?_)
    rotate_left
    · refine wp_skip ?_
      refine blk_n ?_
      refine then_n (hK79 _ _ ?_)
      refine wp_region_lit ?_
      refine lvw 67 (.int .i64 ((x65 : Nat) : Int)) rfl rfl (run_mv rfl rfl) ?_
      simp only [nz1, nz2, nz3]
      refine lvw 68 (.int .i64 (((x65 + 1) : Nat) : Int)) rfl rfl (r_add x65 1 (show (x65 + 1) < 9223372036854775808 from by omega) rfl rfl rfl) ?_
      simp only [nz1, nz2, nz3]
      refine lvw 7 (.int .i64 (((x65 + 1) : Nat) : Int)) rfl rfl (run_as rfl rfl) ?_
      simp only [nz1, nz2, nz3]
      refine wpList_nil ?_
      refine then_n (hR73 _ _ _ ⟨k67, (x65 + 1), (fun qq => List.getD [u2 0, u2 1, .int .i64 ((x65 : Nat) : Int), .string (tx s), .int .i64 ((s.length : Nat) : Int), .bool (decide (x65 < s.length)), .int .i64 ((x65 : Nat) : Int), .int .i64 (((x65 + 1) : Nat) : Int), .string (tx s), .int .i64 ((x65 : Nat) : Int), .int .u8 ((by' s x65 : Nat) : Int), .bool true, .bool true, .string (tx s), .int .i64 ((x65 : Nat) : Int), .int .u8 ((by' s x65 : Nat) : Int), .bool (decide (¬ by' s x65 = 0)), .bool (decide (¬ by' s x65 = 0))] qq undef), rfl, (by first | omega | (simp; omega) | (simp at *; omega)), (hi68.trans (show rget_m_b2 s y16 y38 y39 y40 (rget_m_l2 s y16 y38 y39 y40 k67) x65 = rget_m_l2 s y16 y38 y39 y40 k67 (x65 + 1) from by unfold rget_m_b2; rw [if_pos hc78, if_pos hs81, if_neg hc82] <;> rfl)), (by first | omega | (simp; done) | (simp; omega) | (simp at *; omega)), rfl, hm72⟩ ?_)
      omega
    refine wp_seq_k (fun K83 hK83 => ?_)
    refine wp_region_lit ?_
    refine lvw 2 (.int .i64 0) rfl rfl (run_as rfl rfl) ?_
    simp only [nz1, nz2, nz3]
    refine lvw 3 (.int .i64 2) rfl rfl (run_as rfl rfl) ?_
    simp only [nz1, nz2, nz3]
    refine wpList_nil ?_
    refine then_n (hK83 _ _ ?_)
    refine wp_ret ?_
    refine blk_r ?_
    refine then_r ?_
    refine then_r ?_
    refine blk_r ?_
    refine then_r ?_
    refine then_r ?_
    have he84 : rget_m_l2 s y16 y38 y39 y40 ((s.length - y38) + 1) y38 = .inr (0, 2) := (hi68.trans (show rget_m_b2 s y16 y38 y39 y40 (rget_m_l2 s y16 y38 y39 y40 k67) x65 = .inr (0, 2) from by unfold rget_m_b2; rw [if_pos hc78, if_pos hs81, if_pos hc82] <;> rfl))
    have he85 : rget_m s = (0, 2) := (hq62.trans (show rget_m_k1 s y16 y38 y39 y40 = (0, 2) from by unfold rget_m_k1; rw [he84] <;> rfl))
    exact ⟨rfl, .tuple #[.int .i64 0, .int .i64 2], res_tt rfl rfl rfl, ⟨by (rw [he85]; try rfl), hm72.below⟩⟩
  rintro _ w86 ⟨y69, yu2, hx70, hga, rfl, hm87⟩
  have hq88 : rget_m s = rget_m_k2 s y16 y38 y39 y40 y69 := (hq62.trans (show rget_m_k1 s y16 y38 y39 y40 = rget_m_k2 s y16 y38 y39 y40 y69 from by unfold rget_m_k1; rw [hx70] <;> rfl))
  refine then_n (hK63 _ _ ?_)
  refine wp_seq_k (fun K89 hK89 => ?_)
  refine wp_seq_k (fun K90 hK90 => ?_)
  refine wp_region_lit ?_
  refine lvw 79 (.int .i64 ((y40 : Nat) : Int)) rfl rfl (run_mv rfl rfl) ?_
  simp only [nz1, nz2, nz3]
  refine lvw 80 (.bool (decide (y40 = 0))) rfl rfl (r_eql y40 0 rfl rfl rfl) ?_
  simp only [nz1, nz2, nz3]
  refine wpList_nil ?_
  refine then_n (hK90 _ _ ?_)
  refine cond_d (y40 = 0) rfl (fun hc91 => ?_) (fun hc91 => ?_)
  · refine wp_seq_k (fun K92 hK92 => ?_)
    refine wp_region_lit ?_
    refine lvw 2 (.int .i64 0) rfl rfl (run_as rfl rfl) ?_
    simp only [nz1, nz2, nz3]
    refine lvw 3 (.int .i64 2) rfl rfl (run_as rfl rfl) ?_
    simp only [nz1, nz2, nz3]
    refine wpList_nil ?_
    refine then_n (hK92 _ _ ?_)
    refine wp_ret ?_
    refine then_r ?_
    have he93 : rget_m s = (0, 2) := (hq88.trans (show rget_m_k2 s y16 y38 y39 y40 y69 = (0, 2) from by unfold rget_m_k2; rw [if_pos hc91] <;> rfl))
    exact ⟨rfl, .tuple #[.int .i64 0, .int .i64 2], res_tt rfl rfl rfl, ⟨by (rw [he93]; try rfl), hm87.below⟩⟩
  refine wp_skip ?_
  refine then_n (hK89 _ _ ?_)
  refine wp_seq_k (fun K94 hK94 => ?_)
  refine wp_region_lit ?_
  refine lvw 81 (.int .i64 ((y39 : Nat) : Int)) rfl rfl (run_mv rfl rfl) ?_
  simp only [nz1, nz2, nz3]
  refine lvw 2 (.int .i64 ((y39 : Nat) : Int)) rfl rfl (run_as rfl rfl) ?_
  simp only [nz1, nz2, nz3]
  refine lvw 3 (.int .i64 0) rfl rfl (run_as rfl rfl) ?_
  simp only [nz1, nz2, nz3]
  refine wpList_nil ?_
  refine then_n (hK94 _ _ ?_)
  refine wp_ret ?_
  have he95 : rget_m s = (((y39 : Nat) : Int), 0) := (hq88.trans (show rget_m_k2 s y16 y38 y39 y40 y69 = (((y39 : Nat) : Int), 0) from by unfold rget_m_k2; rw [if_neg hc91] <;> rfl))
  exact ⟨rfl, .tuple #[.int .i64 ((y39 : Nat) : Int), .int .i64 0], res_tt rfl rfl rfl, ⟨by (rw [he95]; try rfl), hm87.below⟩⟩
theorem run_rget {o : Oper} {a : Act} {w : World} {x0 : Operand} {v0 : Value} (ho : o.op = .call { callee := .value (.func 43), args := #[x0], argTypes := #[9] }) (h0 : a.eval x0 = v0) :
    (execOp a.eval o).run Tryd.prog w = .ok (.enter 43 #[v0]) w := by
  unfold execOp
  simp only [ho]
  have hf : a.eval (.func 43) = .func (.func 43) #[] #[] := rfl
  generalize a.eval = f at *
  go_simp
end Go.Proofs.YtglnifckngcpkaaDoor.Hd
