/- Layer 12: how versions stand. -/
import Derived.Test.YtpbenhfnebgbiaaDoorVeM
namespace Go.Proofs.YtpbenhfnebgbiaaDoor.Ve
open Go.RowKit
open Go.Proofs.YtpbenhfnebgbiaaDoor.Sym Go.Proofs.YtpbenhfnebgbiaaDoor.Mem
open Go.Proofs.YtpbenhfnebgbiaaDoor.Sx hiding Mm m_alloc m_store m_put m_call m_callx m_make m_append r_string r_ixS
set_option linter.unusedVariables false
open Go.Proofs.YtpbenhfnebgbiaaDoor.Pa
attribute [local irreducible] wpList Oper.wp

def compare_m_b0 (a : List UInt8) (b : List UInt8) (rec : (List UInt8) × (List UInt8) → Sum ((List UInt8) × (List UInt8)) (Int)) (x19 : List UInt8) (x20 : List UInt8) : Sum ((List UInt8) × (List UInt8)) (Int) :=
  if ¬ x19 = [] then
    if ¬ (vsigns_m (weights_m x19) (weights_m x20)) = 0 then
      .inr (vsigns_m (weights_m x19) (weights_m x20))
    else
      if ¬ (numbers_m ((x19.drop ((weights_m x19).length)).take ((digits_m (x19.drop ((weights_m x19).length))).toNat)) ((x20.drop ((weights_m x20).length)).take ((digits_m (x20.drop ((weights_m x20).length))).toNat))) = 0 then
        .inr (numbers_m ((x19.drop ((weights_m x19).length)).take ((digits_m (x19.drop ((weights_m x19).length))).toNat)) ((x20.drop ((weights_m x20).length)).take ((digits_m (x20.drop ((weights_m x20).length))).toNat)))
      else
        rec (((x19.drop ((weights_m x19).length)).drop ((digits_m (x19.drop ((weights_m x19).length))).toNat)), ((x20.drop ((weights_m x20).length)).drop ((digits_m (x20.drop ((weights_m x20).length))).toNat)))
  else
    if ¬ x20 = [] then
      if ¬ (vsigns_m (weights_m x19) (weights_m x20)) = 0 then
        .inr (vsigns_m (weights_m x19) (weights_m x20))
      else
        if ¬ (numbers_m ((x19.drop ((weights_m x19).length)).take ((digits_m (x19.drop ((weights_m x19).length))).toNat)) ((x20.drop ((weights_m x20).length)).take ((digits_m (x20.drop ((weights_m x20).length))).toNat))) = 0 then
          .inr (numbers_m ((x19.drop ((weights_m x19).length)).take ((digits_m (x19.drop ((weights_m x19).length))).toNat)) ((x20.drop ((weights_m x20).length)).take ((digits_m (x20.drop ((weights_m x20).length))).toNat)))
        else
          rec (((x19.drop ((weights_m x19).length)).drop ((digits_m (x19.drop ((weights_m x19).length))).toNat)), ((x20.drop ((weights_m x20).length)).drop ((digits_m (x20.drop ((weights_m x20).length))).toNat)))
    else
      .inl (x19, x20)
def compare_m_l0 (a : List UInt8) (b : List UInt8) : Nat → (List UInt8) × (List UInt8) → Sum ((List UInt8) × (List UInt8)) (Int)
  | 0, zz => .inl zz
  | nq + 1, zz => compare_m_b0 a b (compare_m_l0 a b nq) zz.1 zz.2

def compare_m_k0 (a : List UInt8) (b : List UInt8) (y24 : List UInt8) (y25 : List UInt8) : Int :=
  0

def compare_m (a : List UInt8) (b : List UInt8) : Int :=
  if (!(check_m a)) = true then
    (cmps_m a b)
  else
    if (!(check_m b)) = true then
      (cmps_m a b)
    else
      fin (compare_m_l0 a b ((a.length + b.length) + 1) (a, b)) (fun r => r) (fun zz => compare_m_k0 a b zz.1 zz.2)

set_option maxHeartbeats 4000000 in
set_option maxRecDepth 100000 in
theorem compare_any (a : List UInt8) (b : List UInt8) (w : World)   : Calls Tryd.prog 25 #[.string (tx a), .string (tx b)] w (fun e w' => e = .returned (.int .i64 ((compare_m a b))) ∧ Below w.heap.size w w') := by
  go_enter Tryd.func25, Tryd.ntmps25
  have hm00 := Mm.nil none (fun _ => True) w
  have hm0 := hm00
  refine wp_seq_k (fun K1 hK1 => ?_)
  refine wp_region_lit ?_
  refine lvw 4 (.int .i64 0) rfl rfl (run_as rfl rfl) ?_
  simp only [nz1, nz2, nz3]
  refine wpList_nil ?_
  refine then_n (hK1 _ _ ?_)
  refine wp_seq_k (fun K2 hK2 => ?_)
  refine wp_seq_k (fun K3 hK3 => ?_)
  refine wp_region_lit ?_
  refine lvw 10 (.string (tx a)) rfl rfl (run_mv rfl rfl) ?_
  simp only [nz1, nz2, nz3]
  refine lst rfl (m_call hm0 11 (.bool ((check_m a))) rfl (run_check rfl rfl) (check_any a  _  ) (fun w4 (hm5 : Mm none (fun _ => True) w w4 []) => ?_))
  simp only [nz1, nz2, nz3]
  refine lvB 12 (!(check_m a)) rfl rfl (r_not (check_m a) rfl rfl) (fun hs6 => ?_) (fun hs6 => ?_)
  · simp only [nz1, nz2, nz3]
    refine lvw 13 (.bool true) rfl rfl (run_mv rfl rfl) ?_
    simp only [nz1, nz2, nz3]
    refine lst_skip 14 rfl rfl ?_
    simp only [nz1, nz2, nz3]
    refine lst_skip 15 rfl rfl ?_
    simp only [nz1, nz2, nz3]
    refine lst_skip 16 rfl rfl ?_
    simp only [nz1, nz2, nz3]
    refine lvw 17 (.bool true) rfl rfl (run_pick rfl rfl rfl) ?_
    simp only [nz1, nz2, nz3]
    refine wpList_nil ?_
    refine then_n (hK3 _ _ ?_)
    refine cond_t rfl ?_
    refine wp_seq_k (fun K7 hK7 => ?_)
    refine wp_region_lit ?_
    refine lvw 18 (.string (tx a)) rfl rfl (run_mv rfl rfl) ?_
    simp only [nz1, nz2, nz3]
    refine lvw 19 (.string (tx b)) rfl rfl (run_mv rfl rfl) ?_
    simp only [nz1, nz2, nz3]
    refine lst rfl (m_call hm5 20 (.int .i64 ((cmps_m a b))) rfl (run_cmps rfl rfl rfl) (cmps_any a b  _  ) (fun w8 (hm9 : Mm none (fun _ => True) w w8 []) => ?_))
    simp only [nz1, nz2, nz3]
    refine lvw 4 (.int .i64 ((cmps_m a b))) rfl rfl (run_as rfl rfl) ?_
    simp only [nz1, nz2, nz3]
    refine wpList_nil ?_
    refine then_n (hK7 _ _ ?_)
    refine wp_ret ?_
    refine then_r ?_
    have he10 : compare_m a b = (cmps_m a b) := (show compare_m a b = (cmps_m a b) from by unfold compare_m; rw [if_pos hs6] <;> rfl)
    exact ⟨rfl, .int .i64 ((cmps_m a b)), res_t rfl rfl, ⟨by (rw [he10]; try rfl), hm9.below⟩⟩
  simp only [nz1, nz2, nz3]
  refine lvw 13 (.bool false) rfl rfl (run_mv rfl rfl) ?_
  simp only [nz1, nz2, nz3]
  refine lvw 14 (.string (tx b)) rfl rfl (run_mv rfl rfl) ?_
  simp only [nz1, nz2, nz3]
  refine lst rfl (m_call hm5 15 (.bool ((check_m b))) rfl (run_check rfl rfl) (check_any b  _  ) (fun w11 (hm12 : Mm none (fun _ => True) w w11 []) => ?_))
  simp only [nz1, nz2, nz3]
  refine lvw 16 (.bool (!(check_m b))) rfl rfl (r_not (check_m b) rfl rfl) ?_
  simp only [nz1, nz2, nz3]
  refine lvw 17 (.bool (!(check_m b))) rfl rfl (run_pickf rfl rfl rfl) ?_
  simp only [nz1, nz2, nz3]
  refine wpList_nil ?_
  refine then_n (hK3 _ _ ?_)
  refine cond_B (!(check_m b)) rfl (fun hc13 => ?_) (fun hc13 => ?_)
  · refine wp_seq_k (fun K14 hK14 => ?_)
    refine wp_region_lit ?_
    refine lvw 18 (.string (tx a)) rfl rfl (run_mv rfl rfl) ?_
    simp only [nz1, nz2, nz3]
    refine lvw 19 (.string (tx b)) rfl rfl (run_mv rfl rfl) ?_
    simp only [nz1, nz2, nz3]
    refine lst rfl (m_call hm12 20 (.int .i64 ((cmps_m a b))) rfl (run_cmps rfl rfl rfl) (cmps_any a b  _  ) (fun w15 (hm16 : Mm none (fun _ => True) w w15 []) => ?_))
    simp only [nz1, nz2, nz3]
    refine lvw 4 (.int .i64 ((cmps_m a b))) rfl rfl (run_as rfl rfl) ?_
    simp only [nz1, nz2, nz3]
    refine wpList_nil ?_
    refine then_n (hK14 _ _ ?_)
    refine wp_ret ?_
    refine then_r ?_
    have he17 : compare_m a b = (cmps_m a b) := (show compare_m a b = (cmps_m a b) from by unfold compare_m; rw [if_neg hs6, if_pos hc13] <;> rfl)
    exact ⟨rfl, .int .i64 ((cmps_m a b)), res_t rfl rfl, ⟨by (rw [he17]; try rfl), hm16.below⟩⟩
  refine wp_skip ?_
  refine then_n (hK2 _ _ ?_)
  refine wp_seq_k (fun K18 hK18 => ?_)
  refine wp_cutK (fun a' w' => ∃ (y24 : List UInt8) (y25 : List UInt8) (yu0 : Nat → Value), compare_m_l0 a b ((a.length + b.length) + 1) (a, b) = .inl (y24, y25) ∧ (y24.length ≤ 24 ∧ y25.length ≤ 24) ∧ a' = ⟨#[.string (tx y24), .string (tx y25), undef, undef, yu0 0, yu0 1, yu0 2, yu0 3, yu0 4, yu0 5, .string (tx a), .bool ((check_m a)), .bool false, .bool false, .string (tx b), .bool ((check_m b)), .bool (!(check_m b)), .bool (!(check_m b)), undef, undef, undef, yu0 6, yu0 7, yu0 8, yu0 9, yu0 10, yu0 11, yu0 12, yu0 13, yu0 14, yu0 15, yu0 16, yu0 17, yu0 18, yu0 19, yu0 20, yu0 21, yu0 22, yu0 23, yu0 24, yu0 25, yu0 26, yu0 27, yu0 28, yu0 29, yu0 30, yu0 31, yu0 32, yu0 33, yu0 34, yu0 35, yu0 36, yu0 37, yu0 38, yu0 39, yu0 40, yu0 41, yu0 42, yu0 43, yu0 44, yu0 45, yu0 46, yu0 47, yu0 48, yu0 49], []⟩ ∧ Mm none (fun _ => True) w w' []) ?_ ?_
  · refine wp_block ?_
    refine wp_loop_n (fun n' a' w' => ∃ (n21 : Nat) (x19 : List UInt8) (x20 : List UInt8) (u0 : Nat → Value), n' = n21 ∧ (x19.length + x20.length) < n21 ∧ compare_m_l0 a b ((a.length + b.length) + 1) (a, b) = compare_m_l0 a b n21 (x19, x20) ∧ (x19.length ≤ 24 ∧ x20.length ≤ 24) ∧ a' = ⟨#[.string (tx x19), .string (tx x20), undef, undef, u0 0, u0 1, u0 2, u0 3, u0 4, u0 5, .string (tx a), .bool ((check_m a)), .bool false, .bool false, .string (tx b), .bool ((check_m b)), .bool (!(check_m b)), .bool (!(check_m b)), undef, undef, undef, u0 6, u0 7, u0 8, u0 9, u0 10, u0 11, u0 12, u0 13, u0 14, u0 15, u0 16, u0 17, u0 18, u0 19, u0 20, u0 21, u0 22, u0 23, u0 24, u0 25, u0 26, u0 27, u0 28, u0 29, u0 30, u0 31, u0 32, u0 33, u0 34, u0 35, u0 36, u0 37, u0 38, u0 39, u0 40, u0 41, u0 42, u0 43, u0 44, u0 45, u0 46, u0 47, u0 48, u0 49], []⟩ ∧ Mm none (fun _ => True) w w' []) ⟨((a.length + b.length) + 1), a, b, (fun qq => bif Nat.blt qq 24 then List.getD [.int .i64 0, undef, undef, undef, undef, undef, undef, undef, undef, undef, undef, undef, undef, undef, undef, undef, undef, undef, undef, undef, undef, undef, undef, undef] qq undef else bif Nat.blt qq 48 then List.getD [undef, undef, undef, undef, undef, undef, undef, undef, undef, undef, undef, undef, undef, undef, undef, undef, undef, undef, undef, undef, undef, undef, undef, undef] (qq - 24) undef else List.getD [undef, undef] (qq - 48) undef), rfl, Nat.lt_succ_self _, rfl, ⟨check_len' (by assumption), check_len' (by assumption)⟩, rfl, hm12⟩ ?_
    rintro n21 _ w27 ⟨_, x19, x20, u0, rfl, hl31, hi23, hcl, rfl, hm28⟩ R29 hR29
    obtain ⟨k22, rfl⟩ : ∃ k, n21 = k + 1 := ⟨n21 - 1, by omega⟩
    refine wp_seq_k (fun K32 hK32 => ?_)
    refine wp_seq_k (fun K33 hK33 => ?_)
    refine wp_region_lit ?_
    refine lvw 21 (.string (tx x19)) rfl rfl (run_mv rfl rfl) ?_
    simp only [nz1, nz2, nz3]
    refine lvb 22 (¬ x19 = []) rfl rfl (t_neq x19 ([]) rfl rfl rfl) (fun hs34 => ?_) (fun hs34 => ?_)
    · simp only [nz1, nz2, nz3]
      refine lvw 23 (.bool true) rfl rfl (run_mv rfl rfl) ?_
      simp only [nz1, nz2, nz3]
      refine lst_skip 24 rfl rfl ?_
      simp only [nz1, nz2, nz3]
      refine lst_skip 25 rfl rfl ?_
      simp only [nz1, nz2, nz3]
      refine lvw 26 (.bool true) rfl rfl (run_pick rfl rfl rfl) ?_
      simp only [nz1, nz2, nz3]
      refine wpList_nil ?_
      refine then_n (hK33 _ _ ?_)
      refine cond_t rfl ?_
      refine wp_skip ?_
      refine then_n (hK32 _ _ ?_)
      refine wp_block ?_
      refine wp_seq_k (fun K35 hK35 => ?_)
      refine wp_region_lit ?_
      refine lvw 27 (.string (tx x19)) rfl rfl (run_mv rfl rfl) ?_
      simp only [nz1, nz2, nz3]
      refine lst rfl (m_callx hm28 28 rfl (run_weights rfl rfl) (weights_any x19  _  (by first | omega | assumption | (simp; done) | (simp; omega) | (simp only [List.length_append, List.length_cons, List.length_nil]; omega) | (simp only [List.length_append, List.length_cons, List.length_nil] at *; omega) | decide)) (fun v38 w36 hR40 hb41 hm37 => ?_))
      obtain ⟨_, rfl, ho43⟩ := hR40
      have hm42 : Mm none (fun _ => True) w w36 [.row v38 (weights_m x19).length ((weights_m x19).flatMap eI) 3 1] := hm28.gained hb41 ho43
      clear hm37
      have hf44 : (weights_m x19).length ≤ x19.length := weights_len x19
      simp only [nz1, nz2, nz3]
      refine lvw 29 (.string (tx x20)) rfl rfl (run_mv rfl rfl) ?_
      simp only [nz1, nz2, nz3]
      refine lst rfl (m_callx hm42 30 rfl (run_weights rfl rfl) (weights_any x20  _  (by first | omega | assumption | (simp; done) | (simp; omega) | (simp only [List.length_append, List.length_cons, List.length_nil]; omega) | (simp only [List.length_append, List.length_cons, List.length_nil] at *; omega) | decide)) (fun v47 w45 hR49 hb50 hm46 => ?_))
      obtain ⟨_, rfl, ho52⟩ := hR49
      have hm51 : Mm none (fun _ => True) w w45 [.row v38 (weights_m x19).length ((weights_m x19).flatMap eI) 3 1, .row v47 (weights_m x20).length ((weights_m x20).flatMap eI) 3 1] := hm42.gained hb50 ho52
      clear hm46
      have hf53 : (weights_m x20).length ≤ x20.length := weights_len x20
      simp only [nz1, nz2, nz3]
      refine lvw 5 (v38) rfl rfl (run_as rfl rfl) ?_
      simp only [nz1, nz2, nz3]
      refine lvw 6 (v47) rfl rfl (run_as rfl rfl) ?_
      simp only [nz1, nz2, nz3]
      refine wpList_nil ?_
      refine then_n (hK35 _ _ ?_)
      refine wp_seq_k (fun K54 hK54 => ?_)
      refine wp_region_lit ?_
      refine lvw 31 (v38) rfl rfl (run_mv rfl rfl) ?_
      simp only [nz1, nz2, nz3]
      refine lvw 32 (v47) rfl rfl (run_mv rfl rfl) ?_
      simp only [nz1, nz2, nz3]
      refine lst rfl (m_call hm51 33 (.int .i64 ((vsigns_m (weights_m x19) (weights_m x20)))) rfl (run_vsigns rfl rfl rfl) (vsigns_any (weights_m x19) (weights_m x20) v38 v47 _ (Rs.row (hm51.row 0 rfl)) (Rs.row (hm51.row 1 rfl)) (by first | omega | assumption | (simp; done) | (simp; omega) | (simp only [List.length_append, List.length_cons, List.length_nil]; omega) | (simp only [List.length_append, List.length_cons, List.length_nil] at *; omega) | decide) (by first | omega | assumption | (simp; done) | (simp; omega) | (simp only [List.length_append, List.length_cons, List.length_nil]; omega) | (simp only [List.length_append, List.length_cons, List.length_nil] at *; omega) | decide)) (fun w55 (hm56 : Mm none (fun _ => True) w w55 [.row v38 (weights_m x19).length ((weights_m x19).flatMap eI) 3 1, .row v47 (weights_m x20).length ((weights_m x20).flatMap eI) 3 1]) => ?_))
      simp only [nz1, nz2, nz3]
      refine lvw 7 (.int .i64 ((vsigns_m (weights_m x19) (weights_m x20)))) rfl rfl (run_as rfl rfl) ?_
      simp only [nz1, nz2, nz3]
      refine wpList_nil ?_
      refine then_n (hK54 _ _ ?_)
      refine wp_seq_k (fun K57 hK57 => ?_)
      refine wp_seq_k (fun K58 hK58 => ?_)
      refine wp_region_lit ?_
      refine lvw 34 (.int .i64 ((vsigns_m (weights_m x19) (weights_m x20)))) rfl rfl (run_mv rfl rfl) ?_
      simp only [nz1, nz2, nz3]
      refine lvw 35 (.bool (decide (¬ (vsigns_m (weights_m x19) (weights_m x20)) = 0))) rfl rfl (z_neq (vsigns_m (weights_m x19) (weights_m x20)) 0 rfl rfl rfl) ?_
      simp only [nz1, nz2, nz3]
      refine wpList_nil ?_
      refine then_n (hK58 _ _ ?_)
      refine cond_d (¬ (vsigns_m (weights_m x19) (weights_m x20)) = 0) rfl (fun hc59 => ?_) (fun hc59 => ?_)
      · refine wp_seq_k (fun K60 hK60 => ?_)
        refine wp_region_lit ?_
        refine lvw 36 (.int .i64 ((vsigns_m (weights_m x19) (weights_m x20)))) rfl rfl (run_mv rfl rfl) ?_
        simp only [nz1, nz2, nz3]
        refine lvw 4 (.int .i64 ((vsigns_m (weights_m x19) (weights_m x20)))) rfl rfl (run_as rfl rfl) ?_
        simp only [nz1, nz2, nz3]
        refine wpList_nil ?_
        refine then_n (hK60 _ _ ?_)
        refine wp_ret ?_
        refine then_r ?_
        refine blk_r ?_
        refine then_r ?_
        refine blk_r ?_
        refine then_r ?_
        refine then_r ?_
        have he61 : compare_m_l0 a b ((a.length + b.length) + 1) (a, b) = .inr (vsigns_m (weights_m x19) (weights_m x20)) := (hi23.trans (show compare_m_b0 a b (compare_m_l0 a b k22) x19 x20 = .inr (vsigns_m (weights_m x19) (weights_m x20)) from by unfold compare_m_b0; rw [if_pos hs34, if_pos hc59] <;> rfl))
        have he62 : compare_m a b = (vsigns_m (weights_m x19) (weights_m x20)) := (show compare_m a b = (vsigns_m (weights_m x19) (weights_m x20)) from by unfold compare_m; rw [if_neg hs6, if_neg hc13, he61] <;> rfl)
        exact ⟨rfl, .int .i64 ((vsigns_m (weights_m x19) (weights_m x20))), res_t rfl rfl, ⟨by (rw [he62]; try rfl), hm56.below⟩⟩
      refine wp_skip ?_
      refine then_n (hK57 _ _ ?_)
      refine wp_seq_k (fun K63 hK63 => ?_)
      have hm64 := hm56.drew
      refine wp_region_held_drew (S := fun w' => True) (by kernel_rfl) (trivial) (fun _ => ?_)
      generalize w55.drew = w65 at *
      refine tk 0 37 (.string (tx x19)) rfl rfl (fun _ hw => run_mv rfl rfl) trivial ?_
      simp only [nz1, nz2, nz3]
      refine tk 1 38 (v38) rfl rfl (fun _ hw => run_mv rfl rfl) trivial ?_
      simp only [nz1, nz2, nz3]
      refine tk 2 39 (.int .i64 (((weights_m x19).length : Nat) : Int)) rfl rfl (fun _ hw => s_len (Rs.row (hm64.row 0 rfl)) rfl Tryd.underlying49 rfl) trivial ?_
      simp only [nz1, nz2, nz3]
      refine tk 3 40 (.string (tx (x19.drop ((weights_m x19).length)))) rfl rfl (fun _ hw => t_from x19 ((weights_m x19).length) (by omega) Tryd.underlying9 rfl rfl rfl) trivial ?_
      simp only [nz1, nz2, nz3]
      refine tk 4 41 (.string (tx x20)) rfl rfl (fun _ hw => run_mv rfl rfl) trivial ?_
      simp only [nz1, nz2, nz3]
      refine tk 5 42 (v47) rfl rfl (fun _ hw => run_mv rfl rfl) trivial ?_
      simp only [nz1, nz2, nz3]
      refine tk 6 43 (.int .i64 (((weights_m x20).length : Nat) : Int)) rfl rfl (fun _ hw => s_len (Rs.row (hm64.row 1 rfl)) rfl Tryd.underlying49 rfl) trivial ?_
      simp only [nz1, nz2, nz3]
      refine tk 7 44 (.string (tx (x20.drop ((weights_m x20).length)))) rfl rfl (fun _ hw => t_from x20 ((weights_m x20).length) (by omega) Tryd.underlying9 rfl rfl rfl) trivial ?_
      simp only [nz1, nz2, nz3]
      refine one_ready 8 (by kernel_rfl) ?_
      refine opd rfl (wanted_none rfl) (w_value 0 (.string (tx (x19.drop ((weights_m x19).length)))) rfl (run_as rfl rfl) ⟨trivial, ?_⟩)
      simp only [nz1, nz2]
      refine one_ready 9 (by kernel_rfl) ?_
      refine opd rfl (wanted_none rfl) (w_value 1 (.string (tx (x20.drop ((weights_m x20).length)))) rfl (run_as rfl rfl) ⟨trivial, ?_⟩)
      simp only [nz1, nz2, nz3]
      refine wpAnyH_done (by kernel_rfl) ?_ _
      refine then_n (hK63 _ _ ?_)
      refine wp_seq_k (fun K66 hK66 => ?_)
      refine wp_region_lit ?_
      refine lvw 45 (.string (tx (x19.drop ((weights_m x19).length)))) rfl rfl (run_mv rfl rfl) ?_
      simp only [nz1, nz2, nz3]
      refine lst rfl (m_call hm64 46 (.int .i64 ((digits_m (x19.drop ((weights_m x19).length))))) rfl (run_digits rfl rfl) (digits_any (x19.drop ((weights_m x19).length))  _  ) (fun w67 (hm68 : Mm none (fun _ => True) w w67 [.row v38 (weights_m x19).length ((weights_m x19).flatMap eI) 3 1, .row v47 (weights_m x20).length ((weights_m x20).flatMap eI) 3 1]) => ?_))
      have hf69 : 0 ≤ (digits_m (x19.drop ((weights_m x19).length))) ∧ (digits_m (x19.drop ((weights_m x19).length))) ≤ (((x19.drop ((weights_m x19).length)).length : Nat) : Int) := digits_rng (x19.drop ((weights_m x19).length))
      simp only [nz1, nz2, nz3]
      refine lvw 47 (.string (tx (x20.drop ((weights_m x20).length)))) rfl rfl (run_mv rfl rfl) ?_
      simp only [nz1, nz2, nz3]
      refine lst rfl (m_call hm68 48 (.int .i64 ((digits_m (x20.drop ((weights_m x20).length))))) rfl (run_digits rfl rfl) (digits_any (x20.drop ((weights_m x20).length))  _  ) (fun w70 (hm71 : Mm none (fun _ => True) w w70 [.row v38 (weights_m x19).length ((weights_m x19).flatMap eI) 3 1, .row v47 (weights_m x20).length ((weights_m x20).flatMap eI) 3 1]) => ?_))
      have hf72 : 0 ≤ (digits_m (x20.drop ((weights_m x20).length))) ∧ (digits_m (x20.drop ((weights_m x20).length))) ≤ (((x20.drop ((weights_m x20).length)).length : Nat) : Int) := digits_rng (x20.drop ((weights_m x20).length))
      simp only [nz1, nz2, nz3]
      refine lvw 8 (.int .i64 ((digits_m (x19.drop ((weights_m x19).length))))) rfl rfl (run_as rfl rfl) ?_
      simp only [nz1, nz2, nz3]
      refine lvw 9 (.int .i64 ((digits_m (x20.drop ((weights_m x20).length))))) rfl rfl (run_as rfl rfl) ?_
      simp only [nz1, nz2, nz3]
      refine wpList_nil ?_
      refine then_n (hK66 _ _ ?_)
      refine wp_seq_k (fun K73 hK73 => ?_)
      have hm74 := hm71.drew
      refine wp_region_held_drew (S := fun w' => True) (by kernel_rfl) (trivial) (fun _ => ?_)
      generalize w70.drew = w75 at *
      refine tk 0 49 (.string (tx (x19.drop ((weights_m x19).length)))) rfl rfl (fun _ hw => run_mv rfl rfl) trivial ?_
      simp only [nz1, nz2, nz3]
      refine tk 1 50 (.int .i64 ((digits_m (x19.drop ((weights_m x19).length))))) rfl rfl (fun _ hw => run_mv rfl rfl) trivial ?_
      simp only [nz1, nz2, nz3]
      refine tk 2 51 (.string (tx ((x19.drop ((weights_m x19).length)).take ((digits_m (x19.drop ((weights_m x19).length))).toNat)))) rfl rfl (fun _ hw => t_to (x19.drop ((weights_m x19).length)) ((digits_m (x19.drop ((weights_m x19).length))).toNat) (by omega) Tryd.underlying9 rfl rfl (show (Value.int .i64 (digits_m (x19.drop ((weights_m x19).length)))) = .int .i64 (((digits_m (x19.drop ((weights_m x19).length))).toNat : Nat) : Int) from by congr 1; omega)) trivial ?_
      simp only [nz1, nz2, nz3]
      refine tk 3 52 (.string (tx (x20.drop ((weights_m x20).length)))) rfl rfl (fun _ hw => run_mv rfl rfl) trivial ?_
      simp only [nz1, nz2, nz3]
      refine tk 4 53 (.int .i64 ((digits_m (x20.drop ((weights_m x20).length))))) rfl rfl (fun _ hw => run_mv rfl rfl) trivial ?_
      simp only [nz1, nz2, nz3]
      refine tk 5 54 (.string (tx ((x20.drop ((weights_m x20).length)).take ((digits_m (x20.drop ((weights_m x20).length))).toNat)))) rfl rfl (fun _ hw => t_to (x20.drop ((weights_m x20).length)) ((digits_m (x20.drop ((weights_m x20).length))).toNat) (by omega) Tryd.underlying9 rfl rfl (show (Value.int .i64 (digits_m (x20.drop ((weights_m x20).length)))) = .int .i64 (((digits_m (x20.drop ((weights_m x20).length))).toNat : Nat) : Int) from by congr 1; omega)) trivial ?_
      simp only [nz1, nz2, nz3]
      refine one_ready 6 (by kernel_rfl) ?_
      refine opd rfl (wanted_none rfl) (m_call hm74 55 (.int .i64 ((numbers_m ((x19.drop ((weights_m x19).length)).take ((digits_m (x19.drop ((weights_m x19).length))).toNat)) ((x20.drop ((weights_m x20).length)).take ((digits_m (x20.drop ((weights_m x20).length))).toNat))))) rfl (run_numbers rfl rfl rfl) (numbers_any ((x19.drop ((weights_m x19).length)).take ((digits_m (x19.drop ((weights_m x19).length))).toNat)) ((x20.drop ((weights_m x20).length)).take ((digits_m (x20.drop ((weights_m x20).length))).toNat))  _  ) (fun w76 (hm77 : Mm none (fun _ => True) w w76 [.row v38 (weights_m x19).length ((weights_m x19).flatMap eI) 3 1, .row v47 (weights_m x20).length ((weights_m x20).flatMap eI) 3 1]) => ?_))
      refine ⟨trivial, ?_⟩
      simp only [nz1, nz2, nz3]
      refine one_ready 7 (by kernel_rfl) ?_
      refine opd rfl (wanted_none rfl) (w_value 7 (.int .i64 ((numbers_m ((x19.drop ((weights_m x19).length)).take ((digits_m (x19.drop ((weights_m x19).length))).toNat)) ((x20.drop ((weights_m x20).length)).take ((digits_m (x20.drop ((weights_m x20).length))).toNat))))) rfl (run_as rfl rfl) ⟨trivial, ?_⟩)
      simp only [nz1, nz2, nz3]
      refine wpAnyH_done (by kernel_rfl) ?_ _
      refine then_n (hK73 _ _ ?_)
      refine wp_seq_k (fun K78 hK78 => ?_)
      refine wp_seq_k (fun K79 hK79 => ?_)
      refine wp_region_lit ?_
      refine lvw 56 (.int .i64 ((numbers_m ((x19.drop ((weights_m x19).length)).take ((digits_m (x19.drop ((weights_m x19).length))).toNat)) ((x20.drop ((weights_m x20).length)).take ((digits_m (x20.drop ((weights_m x20).length))).toNat))))) rfl rfl (run_mv rfl rfl) ?_
      simp only [nz1, nz2, nz3]
      refine lvw 57 (.bool (decide (¬ (numbers_m ((x19.drop ((weights_m x19).length)).take ((digits_m (x19.drop ((weights_m x19).length))).toNat)) ((x20.drop ((weights_m x20).length)).take ((digits_m (x20.drop ((weights_m x20).length))).toNat))) = 0))) rfl rfl (z_neq (numbers_m ((x19.drop ((weights_m x19).length)).take ((digits_m (x19.drop ((weights_m x19).length))).toNat)) ((x20.drop ((weights_m x20).length)).take ((digits_m (x20.drop ((weights_m x20).length))).toNat))) 0 rfl rfl rfl) ?_
      simp only [nz1, nz2, nz3]
      refine wpList_nil ?_
      refine then_n (hK79 _ _ ?_)
      refine cond_d (¬ (numbers_m ((x19.drop ((weights_m x19).length)).take ((digits_m (x19.drop ((weights_m x19).length))).toNat)) ((x20.drop ((weights_m x20).length)).take ((digits_m (x20.drop ((weights_m x20).length))).toNat))) = 0) rfl (fun hc80 => ?_) (fun hc80 => ?_)
      · refine wp_seq_k (fun K81 hK81 => ?_)
        refine wp_region_lit ?_
        refine lvw 58 (.int .i64 ((numbers_m ((x19.drop ((weights_m x19).length)).take ((digits_m (x19.drop ((weights_m x19).length))).toNat)) ((x20.drop ((weights_m x20).length)).take ((digits_m (x20.drop ((weights_m x20).length))).toNat))))) rfl rfl (run_mv rfl rfl) ?_
        simp only [nz1, nz2, nz3]
        refine lvw 4 (.int .i64 ((numbers_m ((x19.drop ((weights_m x19).length)).take ((digits_m (x19.drop ((weights_m x19).length))).toNat)) ((x20.drop ((weights_m x20).length)).take ((digits_m (x20.drop ((weights_m x20).length))).toNat))))) rfl rfl (run_as rfl rfl) ?_
        simp only [nz1, nz2, nz3]
        refine wpList_nil ?_
        refine then_n (hK81 _ _ ?_)
        refine wp_ret ?_
        refine then_r ?_
        refine blk_r ?_
        refine then_r ?_
        refine blk_r ?_
        refine then_r ?_
        refine then_r ?_
        have he82 : compare_m_l0 a b ((a.length + b.length) + 1) (a, b) = .inr (numbers_m ((x19.drop ((weights_m x19).length)).take ((digits_m (x19.drop ((weights_m x19).length))).toNat)) ((x20.drop ((weights_m x20).length)).take ((digits_m (x20.drop ((weights_m x20).length))).toNat))) := (hi23.trans (show compare_m_b0 a b (compare_m_l0 a b k22) x19 x20 = .inr (numbers_m ((x19.drop ((weights_m x19).length)).take ((digits_m (x19.drop ((weights_m x19).length))).toNat)) ((x20.drop ((weights_m x20).length)).take ((digits_m (x20.drop ((weights_m x20).length))).toNat))) from by unfold compare_m_b0; rw [if_pos hs34, if_neg hc59, if_pos hc80] <;> rfl))
        have he83 : compare_m a b = (numbers_m ((x19.drop ((weights_m x19).length)).take ((digits_m (x19.drop ((weights_m x19).length))).toNat)) ((x20.drop ((weights_m x20).length)).take ((digits_m (x20.drop ((weights_m x20).length))).toNat))) := (show compare_m a b = (numbers_m ((x19.drop ((weights_m x19).length)).take ((digits_m (x19.drop ((weights_m x19).length))).toNat)) ((x20.drop ((weights_m x20).length)).take ((digits_m (x20.drop ((weights_m x20).length))).toNat))) from by unfold compare_m; rw [if_neg hs6, if_neg hc13, he82] <;> rfl)
        exact ⟨rfl, .int .i64 ((numbers_m ((x19.drop ((weights_m x19).length)).take ((digits_m (x19.drop ((weights_m x19).length))).toNat)) ((x20.drop ((weights_m x20).length)).take ((digits_m (x20.drop ((weights_m x20).length))).toNat)))), res_t rfl rfl, ⟨by (rw [he83]; try rfl), hm77.below⟩⟩
      refine wp_skip ?_
      refine then_n (hK78 _ _ ?_)
      have hm84 := hm77.drew
      refine wp_region_held_drew (S := fun w' => True) (by kernel_rfl) (trivial) (fun _ => ?_)
      generalize w76.drew = w85 at *
      refine tk 0 59 (.string (tx (x19.drop ((weights_m x19).length)))) rfl rfl (fun _ hw => run_mv rfl rfl) trivial ?_
      simp only [nz1, nz2, nz3]
      refine tk 1 60 (.int .i64 ((digits_m (x19.drop ((weights_m x19).length))))) rfl rfl (fun _ hw => run_mv rfl rfl) trivial ?_
      simp only [nz1, nz2, nz3]
      refine tk 2 61 (.string (tx ((x19.drop ((weights_m x19).length)).drop ((digits_m (x19.drop ((weights_m x19).length))).toNat)))) rfl rfl (fun _ hw => t_from (x19.drop ((weights_m x19).length)) ((digits_m (x19.drop ((weights_m x19).length))).toNat) (by omega) Tryd.underlying9 rfl rfl (show (Value.int .i64 (digits_m (x19.drop ((weights_m x19).length)))) = .int .i64 (((digits_m (x19.drop ((weights_m x19).length))).toNat : Nat) : Int) from by congr 1; omega)) trivial ?_
      simp only [nz1, nz2, nz3]
      refine tk 3 62 (.string (tx (x20.drop ((weights_m x20).length)))) rfl rfl (fun _ hw => run_mv rfl rfl) trivial ?_
      simp only [nz1, nz2, nz3]
      refine tk 4 63 (.int .i64 ((digits_m (x20.drop ((weights_m x20).length))))) rfl rfl (fun _ hw => run_mv rfl rfl) trivial ?_
      simp only [nz1, nz2, nz3]
      refine tk 5 64 (.string (tx ((x20.drop ((weights_m x20).length)).drop ((digits_m (x20.drop ((weights_m x20).length))).toNat)))) rfl rfl (fun _ hw => t_from (x20.drop ((weights_m x20).length)) ((digits_m (x20.drop ((weights_m x20).length))).toNat) (by omega) Tryd.underlying9 rfl rfl (show (Value.int .i64 (digits_m (x20.drop ((weights_m x20).length)))) = .int .i64 (((digits_m (x20.drop ((weights_m x20).length))).toNat : Nat) : Int) from by congr 1; omega)) trivial ?_
      simp only [nz1, nz2, nz3]
      refine one_ready 6 (by kernel_rfl) ?_
      refine opd rfl (wanted_none rfl) (w_value 0 (.string (tx ((x19.drop ((weights_m x19).length)).drop ((digits_m (x19.drop ((weights_m x19).length))).toNat)))) rfl (run_as rfl rfl) ⟨trivial, ?_⟩)
      simp only [nz1, nz2]
      refine one_ready 7 (by kernel_rfl) ?_
      refine opd rfl (wanted_none rfl) (w_value 1 (.string (tx ((x20.drop ((weights_m x20).length)).drop ((digits_m (x20.drop ((weights_m x20).length))).toNat)))) rfl (run_as rfl rfl) ⟨trivial, ?_⟩)
      simp only [nz1, nz2, nz3]
      refine wpAnyH_done (by kernel_rfl) ?_ _
      refine blk_n ?_
      refine then_n (hR29 _ _ _ ⟨k22, ((x19.drop ((weights_m x19).length)).drop ((digits_m (x19.drop ((weights_m x19).length))).toNat)), ((x20.drop ((weights_m x20).length)).drop ((digits_m (x20.drop ((weights_m x20).length))).toNat)), (fun qq => bif Nat.blt qq 24 then List.getD [u0 0, v38, v47, .int .i64 ((numbers_m ((x19.drop ((weights_m x19).length)).take ((digits_m (x19.drop ((weights_m x19).length))).toNat)) ((x20.drop ((weights_m x20).length)).take ((digits_m (x20.drop ((weights_m x20).length))).toNat)))), .int .i64 ((digits_m (x19.drop ((weights_m x19).length)))), .int .i64 ((digits_m (x20.drop ((weights_m x20).length)))), .string (tx x19), .bool true, .bool true, undef, undef, .bool true, .string (tx x19), v38, .string (tx x20), v47, v38, v47, .int .i64 ((vsigns_m (weights_m x19) (weights_m x20))), .int .i64 ((vsigns_m (weights_m x19) (weights_m x20))), .bool (decide (¬ (vsigns_m (weights_m x19) (weights_m x20)) = 0)), u0 21, .string (tx x19), v38] qq undef else bif Nat.blt qq 48 then List.getD [.int .i64 (((weights_m x19).length : Nat) : Int), .string (tx (x19.drop ((weights_m x19).length))), .string (tx x20), v47, .int .i64 (((weights_m x20).length : Nat) : Int), .string (tx (x20.drop ((weights_m x20).length))), .string (tx (x19.drop ((weights_m x19).length))), .int .i64 ((digits_m (x19.drop ((weights_m x19).length)))), .string (tx (x20.drop ((weights_m x20).length))), .int .i64 ((digits_m (x20.drop ((weights_m x20).length)))), .string (tx (x19.drop ((weights_m x19).length))), .int .i64 ((digits_m (x19.drop ((weights_m x19).length)))), .string (tx ((x19.drop ((weights_m x19).length)).take ((digits_m (x19.drop ((weights_m x19).length))).toNat))), .string (tx (x20.drop ((weights_m x20).length))), .int .i64 ((digits_m (x20.drop ((weights_m x20).length)))), .string (tx ((x20.drop ((weights_m x20).length)).take ((digits_m (x20.drop ((weights_m x20).length))).toNat))), .int .i64 ((numbers_m ((x19.drop ((weights_m x19).length)).take ((digits_m (x19.drop ((weights_m x19).length))).toNat)) ((x20.drop ((weights_m x20).length)).take ((digits_m (x20.drop ((weights_m x20).length))).toNat)))), .int .i64 ((numbers_m ((x19.drop ((weights_m x19).length)).take ((digits_m (x19.drop ((weights_m x19).length))).toNat)) ((x20.drop ((weights_m x20).length)).take ((digits_m (x20.drop ((weights_m x20).length))).toNat)))), .bool (decide (¬ (numbers_m ((x19.drop ((weights_m x19).length)).take ((digits_m (x19.drop ((weights_m x19).length))).toNat)) ((x20.drop ((weights_m x20).length)).take ((digits_m (x20.drop ((weights_m x20).length))).toNat))) = 0)), u0 43, .string (tx (x19.drop ((weights_m x19).length))), .int .i64 ((digits_m (x19.drop ((weights_m x19).length)))), .string (tx ((x19.drop ((weights_m x19).length)).drop ((digits_m (x19.drop ((weights_m x19).length))).toNat))), .string (tx (x20.drop ((weights_m x20).length)))] (qq - 24) undef else List.getD [.int .i64 ((digits_m (x20.drop ((weights_m x20).length)))), .string (tx ((x20.drop ((weights_m x20).length)).drop ((digits_m (x20.drop ((weights_m x20).length))).toNat)))] (qq - 48) undef), rfl, (by first | (have hp := progress x19 (by assumption); simp only [List.length_drop] at *; omega) | (have hp := progress x20 (by assumption); simp only [List.length_drop] at *; omega)), (hi23.trans (show compare_m_b0 a b (compare_m_l0 a b k22) x19 x20 = compare_m_l0 a b k22 (((x19.drop ((weights_m x19).length)).drop ((digits_m (x19.drop ((weights_m x19).length))).toNat)), ((x20.drop ((weights_m x20).length)).drop ((digits_m (x20.drop ((weights_m x20).length))).toNat))) from by unfold compare_m_b0; rw [if_pos hs34, if_neg hc59, if_neg hc80] <;> rfl)), (by simp only [List.length_drop]; omega), rfl, (Mm.reorder hm84 [] (by decide) rfl)⟩ ?_)
      omega
    simp only [nz1, nz2, nz3]
    refine lvw 23 (.bool false) rfl rfl (run_mv rfl rfl) ?_
    simp only [nz1, nz2, nz3]
    refine lvw 24 (.string (tx x20)) rfl rfl (run_mv rfl rfl) ?_
    simp only [nz1, nz2, nz3]
    refine lvw 25 (.bool (decide (¬ x20 = []))) rfl rfl (t_neq x20 ([]) rfl rfl rfl) ?_
    simp only [nz1, nz2, nz3]
    refine lvw 26 (.bool (decide (¬ x20 = []))) rfl rfl (run_pickf rfl rfl rfl) ?_
    simp only [nz1, nz2, nz3]
    refine wpList_nil ?_
    refine then_n (hK33 _ _ ?_)
    refine cond_d (¬ x20 = []) rfl (fun hc86 => ?_) (fun hc86 => ?_)
    rotate_left
    · refine wp_exit ?_
      refine then_x ?_
      refine then_x ?_
      refine blk_x ?_
      refine then_n ?_
      exact ⟨x19, x20, (fun qq => bif Nat.blt qq 24 then List.getD [u0 0, u0 1, u0 2, u0 3, u0 4, u0 5, .string (tx x19), .bool false, .bool false, .string (tx x20), .bool (decide (¬ x20 = [])), .bool (decide (¬ x20 = [])), u0 12, u0 13, u0 14, u0 15, u0 16, u0 17, u0 18, u0 19, u0 20, u0 21, u0 22, u0 23] qq undef else bif Nat.blt qq 48 then List.getD [u0 24, u0 25, u0 26, u0 27, u0 28, u0 29, u0 30, u0 31, u0 32, u0 33, u0 34, u0 35, u0 36, u0 37, u0 38, u0 39, u0 40, u0 41, u0 42, u0 43, u0 44, u0 45, u0 46, u0 47] (qq - 24) undef else List.getD [u0 48, u0 49] (qq - 48) undef), (hi23.trans (show compare_m_b0 a b (compare_m_l0 a b k22) x19 x20 = .inl (x19, x20) from by unfold compare_m_b0; rw [if_neg hs34, if_neg hc86] <;> rfl)), hcl, rfl, hm28⟩
    refine wp_skip ?_
    refine then_n (hK32 _ _ ?_)
    refine wp_block ?_
    refine wp_seq_k (fun K87 hK87 => ?_)
    refine wp_region_lit ?_
    refine lvw 27 (.string (tx x19)) rfl rfl (run_mv rfl rfl) ?_
    simp only [nz1, nz2, nz3]
    refine lst rfl (m_callx hm28 28 rfl (run_weights rfl rfl) (weights_any x19  _  (by first | omega | assumption | (simp; done) | (simp; omega) | (simp only [List.length_append, List.length_cons, List.length_nil]; omega) | (simp only [List.length_append, List.length_cons, List.length_nil] at *; omega) | decide)) (fun v90 w88 hR92 hb93 hm89 => ?_))
    obtain ⟨_, rfl, ho95⟩ := hR92
    have hm94 : Mm none (fun _ => True) w w88 [.row v90 (weights_m x19).length ((weights_m x19).flatMap eI) 3 1] := hm28.gained hb93 ho95
    clear hm89
    have hf96 : (weights_m x19).length ≤ x19.length := weights_len x19
    simp only [nz1, nz2, nz3]
    refine lvw 29 (.string (tx x20)) rfl rfl (run_mv rfl rfl) ?_
    simp only [nz1, nz2, nz3]
    refine lst rfl (m_callx hm94 30 rfl (run_weights rfl rfl) (weights_any x20  _  (by first | omega | assumption | (simp; done) | (simp; omega) | (simp only [List.length_append, List.length_cons, List.length_nil]; omega) | (simp only [List.length_append, List.length_cons, List.length_nil] at *; omega) | decide)) (fun v99 w97 hR101 hb102 hm98 => ?_))
    obtain ⟨_, rfl, ho104⟩ := hR101
    have hm103 : Mm none (fun _ => True) w w97 [.row v90 (weights_m x19).length ((weights_m x19).flatMap eI) 3 1, .row v99 (weights_m x20).length ((weights_m x20).flatMap eI) 3 1] := hm94.gained hb102 ho104
    clear hm98
    have hf105 : (weights_m x20).length ≤ x20.length := weights_len x20
    simp only [nz1, nz2, nz3]
    refine lvw 5 (v90) rfl rfl (run_as rfl rfl) ?_
    simp only [nz1, nz2, nz3]
    refine lvw 6 (v99) rfl rfl (run_as rfl rfl) ?_
    simp only [nz1, nz2, nz3]
    refine wpList_nil ?_
    refine then_n (hK87 _ _ ?_)
    refine wp_seq_k (fun K106 hK106 => ?_)
    refine wp_region_lit ?_
    refine lvw 31 (v90) rfl rfl (run_mv rfl rfl) ?_
    simp only [nz1, nz2, nz3]
    refine lvw 32 (v99) rfl rfl (run_mv rfl rfl) ?_
    simp only [nz1, nz2, nz3]
    refine lst rfl (m_call hm103 33 (.int .i64 ((vsigns_m (weights_m x19) (weights_m x20)))) rfl (run_vsigns rfl rfl rfl) (vsigns_any (weights_m x19) (weights_m x20) v90 v99 _ (Rs.row (hm103.row 0 rfl)) (Rs.row (hm103.row 1 rfl)) (by first | omega | assumption | (simp; done) | (simp; omega) | (simp only [List.length_append, List.length_cons, List.length_nil]; omega) | (simp only [List.length_append, List.length_cons, List.length_nil] at *; omega) | decide) (by first | omega | assumption | (simp; done) | (simp; omega) | (simp only [List.length_append, List.length_cons, List.length_nil]; omega) | (simp only [List.length_append, List.length_cons, List.length_nil] at *; omega) | decide)) (fun w107 (hm108 : Mm none (fun _ => True) w w107 [.row v90 (weights_m x19).length ((weights_m x19).flatMap eI) 3 1, .row v99 (weights_m x20).length ((weights_m x20).flatMap eI) 3 1]) => ?_))
    simp only [nz1, nz2, nz3]
    refine lvw 7 (.int .i64 ((vsigns_m (weights_m x19) (weights_m x20)))) rfl rfl (run_as rfl rfl) ?_
    simp only [nz1, nz2, nz3]
    refine wpList_nil ?_
    refine then_n (hK106 _ _ ?_)
    refine wp_seq_k (fun K109 hK109 => ?_)
    refine wp_seq_k (fun K110 hK110 => ?_)
    refine wp_region_lit ?_
    refine lvw 34 (.int .i64 ((vsigns_m (weights_m x19) (weights_m x20)))) rfl rfl (run_mv rfl rfl) ?_
    simp only [nz1, nz2, nz3]
    refine lvw 35 (.bool (decide (¬ (vsigns_m (weights_m x19) (weights_m x20)) = 0))) rfl rfl (z_neq (vsigns_m (weights_m x19) (weights_m x20)) 0 rfl rfl rfl) ?_
    simp only [nz1, nz2, nz3]
    refine wpList_nil ?_
    refine then_n (hK110 _ _ ?_)
    refine cond_d (¬ (vsigns_m (weights_m x19) (weights_m x20)) = 0) rfl (fun hc111 => ?_) (fun hc111 => ?_)
    · refine wp_seq_k (fun K112 hK112 => ?_)
      refine wp_region_lit ?_
      refine lvw 36 (.int .i64 ((vsigns_m (weights_m x19) (weights_m x20)))) rfl rfl (run_mv rfl rfl) ?_
      simp only [nz1, nz2, nz3]
      refine lvw 4 (.int .i64 ((vsigns_m (weights_m x19) (weights_m x20)))) rfl rfl (run_as rfl rfl) ?_
      simp only [nz1, nz2, nz3]
      refine wpList_nil ?_
      refine then_n (hK112 _ _ ?_)
      refine wp_ret ?_
      refine then_r ?_
      refine blk_r ?_
      refine then_r ?_
      refine blk_r ?_
      refine then_r ?_
      refine then_r ?_
      have he113 : compare_m_l0 a b ((a.length + b.length) + 1) (a, b) = .inr (vsigns_m (weights_m x19) (weights_m x20)) := (hi23.trans (show compare_m_b0 a b (compare_m_l0 a b k22) x19 x20 = .inr (vsigns_m (weights_m x19) (weights_m x20)) from by unfold compare_m_b0; rw [if_neg hs34, if_pos hc86, if_pos hc111] <;> rfl))
      have he114 : compare_m a b = (vsigns_m (weights_m x19) (weights_m x20)) := (show compare_m a b = (vsigns_m (weights_m x19) (weights_m x20)) from by unfold compare_m; rw [if_neg hs6, if_neg hc13, he113] <;> rfl)
      exact ⟨rfl, .int .i64 ((vsigns_m (weights_m x19) (weights_m x20))), res_t rfl rfl, ⟨by (rw [he114]; try rfl), hm108.below⟩⟩
    refine wp_skip ?_
    refine then_n (hK109 _ _ ?_)
    refine wp_seq_k (fun K115 hK115 => ?_)
    have hm116 := hm108.drew
    refine wp_region_held_drew (S := fun w' => True) (by kernel_rfl) (trivial) (fun _ => ?_)
    generalize w107.drew = w117 at *
    refine tk 0 37 (.string (tx x19)) rfl rfl (fun _ hw => run_mv rfl rfl) trivial ?_
    simp only [nz1, nz2, nz3]
    refine tk 1 38 (v90) rfl rfl (fun _ hw => run_mv rfl rfl) trivial ?_
    simp only [nz1, nz2, nz3]
    refine tk 2 39 (.int .i64 (((weights_m x19).length : Nat) : Int)) rfl rfl (fun _ hw => s_len (Rs.row (hm116.row 0 rfl)) rfl Tryd.underlying49 rfl) trivial ?_
    simp only [nz1, nz2, nz3]
    refine tk 3 40 (.string (tx (x19.drop ((weights_m x19).length)))) rfl rfl (fun _ hw => t_from x19 ((weights_m x19).length) (by omega) Tryd.underlying9 rfl rfl rfl) trivial ?_
    simp only [nz1, nz2, nz3]
    refine tk 4 41 (.string (tx x20)) rfl rfl (fun _ hw => run_mv rfl rfl) trivial ?_
    simp only [nz1, nz2, nz3]
    refine tk 5 42 (v99) rfl rfl (fun _ hw => run_mv rfl rfl) trivial ?_
    simp only [nz1, nz2, nz3]
    refine tk 6 43 (.int .i64 (((weights_m x20).length : Nat) : Int)) rfl rfl (fun _ hw => s_len (Rs.row (hm116.row 1 rfl)) rfl Tryd.underlying49 rfl) trivial ?_
    simp only [nz1, nz2, nz3]
    refine tk 7 44 (.string (tx (x20.drop ((weights_m x20).length)))) rfl rfl (fun _ hw => t_from x20 ((weights_m x20).length) (by omega) Tryd.underlying9 rfl rfl rfl) trivial ?_
    simp only [nz1, nz2, nz3]
    refine one_ready 8 (by kernel_rfl) ?_
    refine opd rfl (wanted_none rfl) (w_value 0 (.string (tx (x19.drop ((weights_m x19).length)))) rfl (run_as rfl rfl) ⟨trivial, ?_⟩)
    simp only [nz1, nz2]
    refine one_ready 9 (by kernel_rfl) ?_
    refine opd rfl (wanted_none rfl) (w_value 1 (.string (tx (x20.drop ((weights_m x20).length)))) rfl (run_as rfl rfl) ⟨trivial, ?_⟩)
    simp only [nz1, nz2, nz3]
    refine wpAnyH_done (by kernel_rfl) ?_ _
    refine then_n (hK115 _ _ ?_)
    refine wp_seq_k (fun K118 hK118 => ?_)
    refine wp_region_lit ?_
    refine lvw 45 (.string (tx (x19.drop ((weights_m x19).length)))) rfl rfl (run_mv rfl rfl) ?_
    simp only [nz1, nz2, nz3]
    refine lst rfl (m_call hm116 46 (.int .i64 ((digits_m (x19.drop ((weights_m x19).length))))) rfl (run_digits rfl rfl) (digits_any (x19.drop ((weights_m x19).length))  _  ) (fun w119 (hm120 : Mm none (fun _ => True) w w119 [.row v90 (weights_m x19).length ((weights_m x19).flatMap eI) 3 1, .row v99 (weights_m x20).length ((weights_m x20).flatMap eI) 3 1]) => ?_))
    have hf121 : 0 ≤ (digits_m (x19.drop ((weights_m x19).length))) ∧ (digits_m (x19.drop ((weights_m x19).length))) ≤ (((x19.drop ((weights_m x19).length)).length : Nat) : Int) := digits_rng (x19.drop ((weights_m x19).length))
    simp only [nz1, nz2, nz3]
    refine lvw 47 (.string (tx (x20.drop ((weights_m x20).length)))) rfl rfl (run_mv rfl rfl) ?_
    simp only [nz1, nz2, nz3]
    refine lst rfl (m_call hm120 48 (.int .i64 ((digits_m (x20.drop ((weights_m x20).length))))) rfl (run_digits rfl rfl) (digits_any (x20.drop ((weights_m x20).length))  _  ) (fun w122 (hm123 : Mm none (fun _ => True) w w122 [.row v90 (weights_m x19).length ((weights_m x19).flatMap eI) 3 1, .row v99 (weights_m x20).length ((weights_m x20).flatMap eI) 3 1]) => ?_))
    have hf124 : 0 ≤ (digits_m (x20.drop ((weights_m x20).length))) ∧ (digits_m (x20.drop ((weights_m x20).length))) ≤ (((x20.drop ((weights_m x20).length)).length : Nat) : Int) := digits_rng (x20.drop ((weights_m x20).length))
    simp only [nz1, nz2, nz3]
    refine lvw 8 (.int .i64 ((digits_m (x19.drop ((weights_m x19).length))))) rfl rfl (run_as rfl rfl) ?_
    simp only [nz1, nz2, nz3]
    refine lvw 9 (.int .i64 ((digits_m (x20.drop ((weights_m x20).length))))) rfl rfl (run_as rfl rfl) ?_
    simp only [nz1, nz2, nz3]
    refine wpList_nil ?_
    refine then_n (hK118 _ _ ?_)
    refine wp_seq_k (fun K125 hK125 => ?_)
    have hm126 := hm123.drew
    refine wp_region_held_drew (S := fun w' => True) (by kernel_rfl) (trivial) (fun _ => ?_)
    generalize w122.drew = w127 at *
    refine tk 0 49 (.string (tx (x19.drop ((weights_m x19).length)))) rfl rfl (fun _ hw => run_mv rfl rfl) trivial ?_
    simp only [nz1, nz2, nz3]
    refine tk 1 50 (.int .i64 ((digits_m (x19.drop ((weights_m x19).length))))) rfl rfl (fun _ hw => run_mv rfl rfl) trivial ?_
    simp only [nz1, nz2, nz3]
    refine tk 2 51 (.string (tx ((x19.drop ((weights_m x19).length)).take ((digits_m (x19.drop ((weights_m x19).length))).toNat)))) rfl rfl (fun _ hw => t_to (x19.drop ((weights_m x19).length)) ((digits_m (x19.drop ((weights_m x19).length))).toNat) (by omega) Tryd.underlying9 rfl rfl (show (Value.int .i64 (digits_m (x19.drop ((weights_m x19).length)))) = .int .i64 (((digits_m (x19.drop ((weights_m x19).length))).toNat : Nat) : Int) from by congr 1; omega)) trivial ?_
    simp only [nz1, nz2, nz3]
    refine tk 3 52 (.string (tx (x20.drop ((weights_m x20).length)))) rfl rfl (fun _ hw => run_mv rfl rfl) trivial ?_
    simp only [nz1, nz2, nz3]
    refine tk 4 53 (.int .i64 ((digits_m (x20.drop ((weights_m x20).length))))) rfl rfl (fun _ hw => run_mv rfl rfl) trivial ?_
    simp only [nz1, nz2, nz3]
    refine tk 5 54 (.string (tx ((x20.drop ((weights_m x20).length)).take ((digits_m (x20.drop ((weights_m x20).length))).toNat)))) rfl rfl (fun _ hw => t_to (x20.drop ((weights_m x20).length)) ((digits_m (x20.drop ((weights_m x20).length))).toNat) (by omega) Tryd.underlying9 rfl rfl (show (Value.int .i64 (digits_m (x20.drop ((weights_m x20).length)))) = .int .i64 (((digits_m (x20.drop ((weights_m x20).length))).toNat : Nat) : Int) from by congr 1; omega)) trivial ?_
    simp only [nz1, nz2, nz3]
    refine one_ready 6 (by kernel_rfl) ?_
    refine opd rfl (wanted_none rfl) (m_call hm126 55 (.int .i64 ((numbers_m ((x19.drop ((weights_m x19).length)).take ((digits_m (x19.drop ((weights_m x19).length))).toNat)) ((x20.drop ((weights_m x20).length)).take ((digits_m (x20.drop ((weights_m x20).length))).toNat))))) rfl (run_numbers rfl rfl rfl) (numbers_any ((x19.drop ((weights_m x19).length)).take ((digits_m (x19.drop ((weights_m x19).length))).toNat)) ((x20.drop ((weights_m x20).length)).take ((digits_m (x20.drop ((weights_m x20).length))).toNat))  _  ) (fun w128 (hm129 : Mm none (fun _ => True) w w128 [.row v90 (weights_m x19).length ((weights_m x19).flatMap eI) 3 1, .row v99 (weights_m x20).length ((weights_m x20).flatMap eI) 3 1]) => ?_))
    refine ⟨trivial, ?_⟩
    simp only [nz1, nz2, nz3]
    refine one_ready 7 (by kernel_rfl) ?_
    refine opd rfl (wanted_none rfl) (w_value 7 (.int .i64 ((numbers_m ((x19.drop ((weights_m x19).length)).take ((digits_m (x19.drop ((weights_m x19).length))).toNat)) ((x20.drop ((weights_m x20).length)).take ((digits_m (x20.drop ((weights_m x20).length))).toNat))))) rfl (run_as rfl rfl) ⟨trivial, ?_⟩)
    simp only [nz1, nz2, nz3]
    refine wpAnyH_done (by kernel_rfl) ?_ _
    refine then_n (hK125 _ _ ?_)
    refine wp_seq_k (fun K130 hK130 => ?_)
    refine wp_seq_k (fun K131 hK131 => ?_)
    refine wp_region_lit ?_
    refine lvw 56 (.int .i64 ((numbers_m ((x19.drop ((weights_m x19).length)).take ((digits_m (x19.drop ((weights_m x19).length))).toNat)) ((x20.drop ((weights_m x20).length)).take ((digits_m (x20.drop ((weights_m x20).length))).toNat))))) rfl rfl (run_mv rfl rfl) ?_
    simp only [nz1, nz2, nz3]
    refine lvw 57 (.bool (decide (¬ (numbers_m ((x19.drop ((weights_m x19).length)).take ((digits_m (x19.drop ((weights_m x19).length))).toNat)) ((x20.drop ((weights_m x20).length)).take ((digits_m (x20.drop ((weights_m x20).length))).toNat))) = 0))) rfl rfl (z_neq (numbers_m ((x19.drop ((weights_m x19).length)).take ((digits_m (x19.drop ((weights_m x19).length))).toNat)) ((x20.drop ((weights_m x20).length)).take ((digits_m (x20.drop ((weights_m x20).length))).toNat))) 0 rfl rfl rfl) ?_
    simp only [nz1, nz2, nz3]
    refine wpList_nil ?_
    refine then_n (hK131 _ _ ?_)
    refine cond_d (¬ (numbers_m ((x19.drop ((weights_m x19).length)).take ((digits_m (x19.drop ((weights_m x19).length))).toNat)) ((x20.drop ((weights_m x20).length)).take ((digits_m (x20.drop ((weights_m x20).length))).toNat))) = 0) rfl (fun hc132 => ?_) (fun hc132 => ?_)
    · refine wp_seq_k (fun K133 hK133 => ?_)
      refine wp_region_lit ?_
      refine lvw 58 (.int .i64 ((numbers_m ((x19.drop ((weights_m x19).length)).take ((digits_m (x19.drop ((weights_m x19).length))).toNat)) ((x20.drop ((weights_m x20).length)).take ((digits_m (x20.drop ((weights_m x20).length))).toNat))))) rfl rfl (run_mv rfl rfl) ?_
      simp only [nz1, nz2, nz3]
      refine lvw 4 (.int .i64 ((numbers_m ((x19.drop ((weights_m x19).length)).take ((digits_m (x19.drop ((weights_m x19).length))).toNat)) ((x20.drop ((weights_m x20).length)).take ((digits_m (x20.drop ((weights_m x20).length))).toNat))))) rfl rfl (run_as rfl rfl) ?_
      simp only [nz1, nz2, nz3]
      refine wpList_nil ?_
      refine then_n (hK133 _ _ ?_)
      refine wp_ret ?_
      refine then_r ?_
      refine blk_r ?_
      refine then_r ?_
      refine blk_r ?_
      refine then_r ?_
      refine then_r ?_
      have he134 : compare_m_l0 a b ((a.length + b.length) + 1) (a, b) = .inr (numbers_m ((x19.drop ((weights_m x19).length)).take ((digits_m (x19.drop ((weights_m x19).length))).toNat)) ((x20.drop ((weights_m x20).length)).take ((digits_m (x20.drop ((weights_m x20).length))).toNat))) := (hi23.trans (show compare_m_b0 a b (compare_m_l0 a b k22) x19 x20 = .inr (numbers_m ((x19.drop ((weights_m x19).length)).take ((digits_m (x19.drop ((weights_m x19).length))).toNat)) ((x20.drop ((weights_m x20).length)).take ((digits_m (x20.drop ((weights_m x20).length))).toNat))) from by unfold compare_m_b0; rw [if_neg hs34, if_pos hc86, if_neg hc111, if_pos hc132] <;> rfl))
      have he135 : compare_m a b = (numbers_m ((x19.drop ((weights_m x19).length)).take ((digits_m (x19.drop ((weights_m x19).length))).toNat)) ((x20.drop ((weights_m x20).length)).take ((digits_m (x20.drop ((weights_m x20).length))).toNat))) := (show compare_m a b = (numbers_m ((x19.drop ((weights_m x19).length)).take ((digits_m (x19.drop ((weights_m x19).length))).toNat)) ((x20.drop ((weights_m x20).length)).take ((digits_m (x20.drop ((weights_m x20).length))).toNat))) from by unfold compare_m; rw [if_neg hs6, if_neg hc13, he134] <;> rfl)
      exact ⟨rfl, .int .i64 ((numbers_m ((x19.drop ((weights_m x19).length)).take ((digits_m (x19.drop ((weights_m x19).length))).toNat)) ((x20.drop ((weights_m x20).length)).take ((digits_m (x20.drop ((weights_m x20).length))).toNat)))), res_t rfl rfl, ⟨by (rw [he135]; try rfl), hm129.below⟩⟩
    refine wp_skip ?_
    refine then_n (hK130 _ _ ?_)
    have hm136 := hm129.drew
    refine wp_region_held_drew (S := fun w' => True) (by kernel_rfl) (trivial) (fun _ => ?_)
    generalize w128.drew = w137 at *
    refine tk 0 59 (.string (tx (x19.drop ((weights_m x19).length)))) rfl rfl (fun _ hw => run_mv rfl rfl) trivial ?_
    simp only [nz1, nz2, nz3]
    refine tk 1 60 (.int .i64 ((digits_m (x19.drop ((weights_m x19).length))))) rfl rfl (fun _ hw => run_mv rfl rfl) trivial ?_
    simp only [nz1, nz2, nz3]
    refine tk 2 61 (.string (tx ((x19.drop ((weights_m x19).length)).drop ((digits_m (x19.drop ((weights_m x19).length))).toNat)))) rfl rfl (fun _ hw => t_from (x19.drop ((weights_m x19).length)) ((digits_m (x19.drop ((weights_m x19).length))).toNat) (by omega) Tryd.underlying9 rfl rfl (show (Value.int .i64 (digits_m (x19.drop ((weights_m x19).length)))) = .int .i64 (((digits_m (x19.drop ((weights_m x19).length))).toNat : Nat) : Int) from by congr 1; omega)) trivial ?_
    simp only [nz1, nz2, nz3]
    refine tk 3 62 (.string (tx (x20.drop ((weights_m x20).length)))) rfl rfl (fun _ hw => run_mv rfl rfl) trivial ?_
    simp only [nz1, nz2, nz3]
    refine tk 4 63 (.int .i64 ((digits_m (x20.drop ((weights_m x20).length))))) rfl rfl (fun _ hw => run_mv rfl rfl) trivial ?_
    simp only [nz1, nz2, nz3]
    refine tk 5 64 (.string (tx ((x20.drop ((weights_m x20).length)).drop ((digits_m (x20.drop ((weights_m x20).length))).toNat)))) rfl rfl (fun _ hw => t_from (x20.drop ((weights_m x20).length)) ((digits_m (x20.drop ((weights_m x20).length))).toNat) (by omega) Tryd.underlying9 rfl rfl (show (Value.int .i64 (digits_m (x20.drop ((weights_m x20).length)))) = .int .i64 (((digits_m (x20.drop ((weights_m x20).length))).toNat : Nat) : Int) from by congr 1; omega)) trivial ?_
    simp only [nz1, nz2, nz3]
    refine one_ready 6 (by kernel_rfl) ?_
    refine opd rfl (wanted_none rfl) (w_value 0 (.string (tx ((x19.drop ((weights_m x19).length)).drop ((digits_m (x19.drop ((weights_m x19).length))).toNat)))) rfl (run_as rfl rfl) ⟨trivial, ?_⟩)
    simp only [nz1, nz2]
    refine one_ready 7 (by kernel_rfl) ?_
    refine opd rfl (wanted_none rfl) (w_value 1 (.string (tx ((x20.drop ((weights_m x20).length)).drop ((digits_m (x20.drop ((weights_m x20).length))).toNat)))) rfl (run_as rfl rfl) ⟨trivial, ?_⟩)
    simp only [nz1, nz2, nz3]
    refine wpAnyH_done (by kernel_rfl) ?_ _
    refine blk_n ?_
    refine then_n (hR29 _ _ _ ⟨k22, ((x19.drop ((weights_m x19).length)).drop ((digits_m (x19.drop ((weights_m x19).length))).toNat)), ((x20.drop ((weights_m x20).length)).drop ((digits_m (x20.drop ((weights_m x20).length))).toNat)), (fun qq => bif Nat.blt qq 24 then List.getD [u0 0, v90, v99, .int .i64 ((numbers_m ((x19.drop ((weights_m x19).length)).take ((digits_m (x19.drop ((weights_m x19).length))).toNat)) ((x20.drop ((weights_m x20).length)).take ((digits_m (x20.drop ((weights_m x20).length))).toNat)))), .int .i64 ((digits_m (x19.drop ((weights_m x19).length)))), .int .i64 ((digits_m (x20.drop ((weights_m x20).length)))), .string (tx x19), .bool false, .bool false, .string (tx x20), .bool (decide (¬ x20 = [])), .bool (decide (¬ x20 = [])), .string (tx x19), v90, .string (tx x20), v99, v90, v99, .int .i64 ((vsigns_m (weights_m x19) (weights_m x20))), .int .i64 ((vsigns_m (weights_m x19) (weights_m x20))), .bool (decide (¬ (vsigns_m (weights_m x19) (weights_m x20)) = 0)), u0 21, .string (tx x19), v90] qq undef else bif Nat.blt qq 48 then List.getD [.int .i64 (((weights_m x19).length : Nat) : Int), .string (tx (x19.drop ((weights_m x19).length))), .string (tx x20), v99, .int .i64 (((weights_m x20).length : Nat) : Int), .string (tx (x20.drop ((weights_m x20).length))), .string (tx (x19.drop ((weights_m x19).length))), .int .i64 ((digits_m (x19.drop ((weights_m x19).length)))), .string (tx (x20.drop ((weights_m x20).length))), .int .i64 ((digits_m (x20.drop ((weights_m x20).length)))), .string (tx (x19.drop ((weights_m x19).length))), .int .i64 ((digits_m (x19.drop ((weights_m x19).length)))), .string (tx ((x19.drop ((weights_m x19).length)).take ((digits_m (x19.drop ((weights_m x19).length))).toNat))), .string (tx (x20.drop ((weights_m x20).length))), .int .i64 ((digits_m (x20.drop ((weights_m x20).length)))), .string (tx ((x20.drop ((weights_m x20).length)).take ((digits_m (x20.drop ((weights_m x20).length))).toNat))), .int .i64 ((numbers_m ((x19.drop ((weights_m x19).length)).take ((digits_m (x19.drop ((weights_m x19).length))).toNat)) ((x20.drop ((weights_m x20).length)).take ((digits_m (x20.drop ((weights_m x20).length))).toNat)))), .int .i64 ((numbers_m ((x19.drop ((weights_m x19).length)).take ((digits_m (x19.drop ((weights_m x19).length))).toNat)) ((x20.drop ((weights_m x20).length)).take ((digits_m (x20.drop ((weights_m x20).length))).toNat)))), .bool (decide (¬ (numbers_m ((x19.drop ((weights_m x19).length)).take ((digits_m (x19.drop ((weights_m x19).length))).toNat)) ((x20.drop ((weights_m x20).length)).take ((digits_m (x20.drop ((weights_m x20).length))).toNat))) = 0)), u0 43, .string (tx (x19.drop ((weights_m x19).length))), .int .i64 ((digits_m (x19.drop ((weights_m x19).length)))), .string (tx ((x19.drop ((weights_m x19).length)).drop ((digits_m (x19.drop ((weights_m x19).length))).toNat))), .string (tx (x20.drop ((weights_m x20).length)))] (qq - 24) undef else List.getD [.int .i64 ((digits_m (x20.drop ((weights_m x20).length)))), .string (tx ((x20.drop ((weights_m x20).length)).drop ((digits_m (x20.drop ((weights_m x20).length))).toNat)))] (qq - 48) undef), rfl, (by first | (have hp := progress x19 (by assumption); simp only [List.length_drop] at *; omega) | (have hp := progress x20 (by assumption); simp only [List.length_drop] at *; omega)), (hi23.trans (show compare_m_b0 a b (compare_m_l0 a b k22) x19 x20 = compare_m_l0 a b k22 (((x19.drop ((weights_m x19).length)).drop ((digits_m (x19.drop ((weights_m x19).length))).toNat)), ((x20.drop ((weights_m x20).length)).drop ((digits_m (x20.drop ((weights_m x20).length))).toNat))) from by unfold compare_m_b0; rw [if_neg hs34, if_pos hc86, if_neg hc111, if_neg hc132] <;> rfl)), (by simp only [List.length_drop]; omega), rfl, (Mm.reorder hm136 [] (by decide) rfl)⟩ ?_)
    omega
  rintro _ w138 ⟨y24, y25, yu0, hx26, hcl, rfl, hm139⟩
  have hq140 : compare_m a b = compare_m_k0 a b y24 y25 := (show compare_m a b = compare_m_k0 a b y24 y25 from by unfold compare_m; rw [if_neg hs6, if_neg hc13, hx26] <;> rfl)
  refine then_n (hK18 _ _ ?_)
  refine wp_seq_k (fun K141 hK141 => ?_)
  refine wp_region_lit ?_
  refine lvw 4 (.int .i64 0) rfl rfl (run_as rfl rfl) ?_
  simp only [nz1, nz2, nz3]
  refine wpList_nil ?_
  refine then_n (hK141 _ _ ?_)
  refine wp_ret ?_
  have he142 : compare_m a b = 0 := (hq140.trans (show compare_m_k0 a b y24 y25 = 0 from by unfold compare_m_k0; rfl))
  exact ⟨rfl, .int .i64 0, res_t rfl rfl, ⟨by (rw [he142]; try rfl), hm139.below⟩⟩
theorem run_compare {o : Oper} {a : Act} {w : World} {x0 x1 : Operand} {v0 v1 : Value} (ho : o.op = .call { callee := .value (.func 25), args := #[x0, x1], argTypes := #[9, 9] }) (h0 : a.eval x0 = v0) (h1 : a.eval x1 = v1) :
    (execOp a.eval o).run Tryd.prog w = .ok (.enter 25 #[v0, v1]) w := by
  unfold execOp
  simp only [ho]
  have hf : a.eval (.func 25) = .func (.func 25) #[] #[] := rfl
  generalize a.eval = f at *
  go_simp
end Go.Proofs.YtpbenhfnebgbiaaDoor.Ve
