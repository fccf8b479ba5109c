/- Layer 10: the document's record. -/
import Derived.Test.YtglnifckngcpkaaDoorPxE
namespace Go.Proofs.YtglnifckngcpkaaDoor.Px
open Go.RowKit
open Go.Proofs.YtglnifckngcpkaaDoor.Sym Go.Proofs.YtglnifckngcpkaaDoor.Mem
open Go.Proofs.YtglnifckngcpkaaDoor.Sx hiding Mm m_alloc m_store m_put m_call m_callx m_make m_append r_string r_ixS
set_option linter.unusedVariables false
attribute [local irreducible] rdig_m
attribute [local irreducible] wpList Oper.wp

def rone_m_b0 (p : Par) (rec : Nat → Sum (Nat) ((List UInt8))) (x8 : Nat) : Sum (Nat) ((List UInt8)) :=
  if ¬ (((rdig_m ((x8 : Nat) : Int)).length) + (((((([32] ++ p.key) ++ [61]) ++ p.value) ++ [10]) : List UInt8).length)) = x8 then
    rec (x8 + 1)
  else
    .inl x8
def rone_m_l0 (p : Par) : Nat → Nat → Sum (Nat) ((List UInt8))
  | 0, zz => .inl zz
  | nq + 1, zz => rone_m_b0 p (rone_m_l0 p nq) zz

def rone_m_k0 (p : Par) (y12 : Nat) : (List UInt8) :=
  ((rdig_m ((y12 : Nat) : Int)) ++ (((([32] ++ p.key) ++ [61]) ++ p.value) ++ [10]))

def rone_m (p : Par) : (List UInt8) :=
  fin (rone_m_l0 p ((((((([32] ++ p.key) ++ [61]) ++ p.value) ++ [10] : List UInt8).length) + 10 - ((((((([32] ++ p.key) ++ [61]) ++ p.value) ++ [10]) : List UInt8).length) + 1)) + 1) ((((((([32] ++ p.key) ++ [61]) ++ p.value) ++ [10]) : List UInt8).length) + 1)) (fun r => r) (fun zz => rone_m_k0 p zz)

set_option maxHeartbeats 4000000 in
set_option maxRecDepth 100000 in
theorem rone_any (p : Par) (w : World)  (hp0 : p.key.length ≤ 1048576) (hp1 : p.value.length ≤ 1048576) : Calls Tryd.prog 46 #[.agg #[.string (tx p.key), .string (tx p.value)]] w (fun e w' => e = .returned (.string (tx (rone_m p))) ∧ Below w.heap.size w w') := by
  have hrl0 := rst_len p
  unfold rst at hrl0
  go_enter Tryd.func46, Tryd.ntmps46
  have hm00 := Mm.nil none (fun _ => True) w
  have hm0 := hm00
  refine wp_seq_k (fun K1 hK1 => ?_)
  refine wp_region_lit ?_
  refine lst rfl (m_alloc (c := #[.string (tx p.key), .string (tx p.value)]) (T := 47) hm0 1 rfl (run_box rfl rfl) (fun g4 w2 (hm3 : Mm none (fun _ => True) w w2 [.blk g4 #[.string (tx p.key), .string (tx p.value)] 47]) => ?_))
  simp only [nz1, nz2, nz3]
  refine lvw 2 (.string (tx ([]))) rfl rfl (run_as rfl rfl) ?_
  simp only [nz1, nz2, nz3]
  refine wpList_nil ?_
  refine then_n (hK1 _ _ ?_)
  refine wp_seq_k (fun K5 hK5 => ?_)
  refine wp_region_lit ?_
  refine lvw 5 (.pointer (some ⟨g4, 0, none⟩)) rfl rfl (r_fa47_0 g4 0 rfl rfl) ?_
  simp only [nz1, nz2, nz3]
  refine lvw 6 (.string (tx p.key)) rfl rfl (r_load (hm3.at 0 rfl) rfl Tryd.underlying9 rfl rfl rfl) ?_
  simp only [nz1, nz2, nz3]
  refine lvw 7 (.string (tx ([32] ++ p.key))) rfl rfl (t_cat ([32]) p.key (by first | omega | (simp; omega) | (have h2 := rst_len p; unfold rst at h2; omega)) rfl rfl rfl) ?_
  simp only [nz1, nz2, nz3]
  refine lvw 8 (.string (tx (([32] ++ p.key) ++ [61]))) rfl rfl (t_cat ([32] ++ p.key) ([61]) (by first | omega | (simp; omega) | (have h2 := rst_len p; unfold rst at h2; omega)) rfl rfl rfl) ?_
  simp only [nz1, nz2, nz3]
  refine lvw 9 (.pointer (some ⟨g4, 1, none⟩)) rfl rfl (r_fa47_1 g4 0 rfl rfl) ?_
  simp only [nz1, nz2, nz3]
  refine lvw 10 (.string (tx p.value)) rfl rfl (r_load (hm3.at 0 rfl) rfl Tryd.underlying9 rfl rfl rfl) ?_
  simp only [nz1, nz2, nz3]
  refine lvw 11 (.string (tx ((([32] ++ p.key) ++ [61]) ++ p.value))) rfl rfl (t_cat (([32] ++ p.key) ++ [61]) p.value (by first | omega | (simp; omega) | (have h2 := rst_len p; unfold rst at h2; omega)) rfl rfl rfl) ?_
  simp only [nz1, nz2, nz3]
  refine lvw 12 (.string (tx (((([32] ++ p.key) ++ [61]) ++ p.value) ++ [10]))) rfl rfl (t_cat ((([32] ++ p.key) ++ [61]) ++ p.value) ([10]) (by first | omega | (simp; omega) | (have h2 := rst_len p; unfold rst at h2; omega)) rfl rfl rfl) ?_
  simp only [nz1, nz2, nz3]
  refine lvw 3 (.string (tx (((([32] ++ p.key) ++ [61]) ++ p.value) ++ [10]))) rfl rfl (run_as rfl rfl) ?_
  simp only [nz1, nz2, nz3]
  refine wpList_nil ?_
  refine then_n (hK5 _ _ ?_)
  refine wp_seq_k (fun K6 hK6 => ?_)
  refine wp_region_lit ?_
  refine lvw 13 (.string (tx (((([32] ++ p.key) ++ [61]) ++ p.value) ++ [10]))) rfl rfl (run_mv rfl rfl) ?_
  simp only [nz1, nz2, nz3]
  refine lvw 14 (.int .i64 ((((((([32] ++ p.key) ++ [61]) ++ p.value) ++ [10]) : List UInt8).length : Nat) : Int)) rfl rfl (t_len rfl Tryd.underlying9 rfl) ?_
  simp only [nz1, nz2, nz3]
  refine lvw 15 (.int .i64 ((((((((([32] ++ p.key) ++ [61]) ++ p.value) ++ [10]) : List UInt8).length) + 1) : Nat) : Int)) rfl rfl (r_add (((((([32] ++ p.key) ++ [61]) ++ p.value) ++ [10]) : List UInt8).length) 1 (show ((((((([32] ++ p.key) ++ [61]) ++ p.value) ++ [10]) : List UInt8).length) + 1) < 9223372036854775808 from by omega) rfl rfl rfl) ?_
  simp only [nz1, nz2, nz3]
  refine lvw 4 (.int .i64 ((((((((([32] ++ p.key) ++ [61]) ++ p.value) ++ [10]) : List UInt8).length) + 1) : Nat) : Int)) rfl rfl (run_as rfl rfl) ?_
  simp only [nz1, nz2, nz3]
  refine wpList_nil ?_
  refine then_n (hK6 _ _ ?_)
  refine wp_seq_k (fun K7 hK7 => ?_)
  refine wp_cutK (fun a' w' => ∃ (y12 : Nat) (yu0 : Nat → Value), rone_m_l0 p ((((((([32] ++ p.key) ++ [61]) ++ p.value) ++ [10] : List UInt8).length) + 10 - ((((((([32] ++ p.key) ++ [61]) ++ p.value) ++ [10]) : List UInt8).length) + 1)) + 1) ((((((([32] ++ p.key) ++ [61]) ++ p.value) ++ [10]) : List UInt8).length) + 1) = .inl y12 ∧ (((((([32] ++ p.key) ++ [61]) ++ p.value) ++ [10] : List UInt8).length) + 1 ≤ y12 ∧ y12 ≤ ((((([32] ++ p.key) ++ [61]) ++ p.value) ++ [10] : List UInt8).length) + (rdig_m ((y12 : Nat) : Int)).length ∧ (rdig_m ((y12 : Nat) : Int)).length ≤ 9) ∧ a' = ⟨#[.agg #[.string (tx p.key), .string (tx p.value)], .pointer (some ⟨g4, 0, none⟩), .string (tx ([])), .string (tx (((([32] ++ p.key) ++ [61]) ++ p.value) ++ [10])), .int .i64 ((y12 : Nat) : Int), .pointer (some ⟨g4, 0, none⟩), .string (tx p.key), .string (tx ([32] ++ p.key)), .string (tx (([32] ++ p.key) ++ [61])), .pointer (some ⟨g4, 1, none⟩), .string (tx p.value), .string (tx ((([32] ++ p.key) ++ [61]) ++ p.value)), .string (tx (((([32] ++ p.key) ++ [61]) ++ p.value) ++ [10])), .string (tx (((([32] ++ p.key) ++ [61]) ++ p.value) ++ [10])), .int .i64 ((((((([32] ++ p.key) ++ [61]) ++ p.value) ++ [10]) : List UInt8).length : Nat) : Int), .int .i64 ((((((((([32] ++ p.key) ++ [61]) ++ p.value) ++ [10]) : List UInt8).length) + 1) : Nat) : Int), yu0 0, yu0 1, yu0 2, yu0 3, yu0 4, yu0 5, yu0 6, yu0 7, yu0 8, yu0 9, undef, undef, undef, undef], []⟩ ∧ Mm none (fun _ => True) w w' [.blk g4 #[.string (tx p.key), .string (tx p.value)] 47]) ?_ ?_
  · refine wp_block ?_
    refine wp_loop_n (fun n' a' w' => ∃ (n9 : Nat) (x8 : Nat) (u0 : Nat → Value), n' = n9 ∧ (((((([32] ++ p.key) ++ [61]) ++ p.value) ++ [10] : List UInt8).length) + 10 - x8) < n9 ∧ rone_m_l0 p ((((((([32] ++ p.key) ++ [61]) ++ p.value) ++ [10] : List UInt8).length) + 10 - ((((((([32] ++ p.key) ++ [61]) ++ p.value) ++ [10]) : List UInt8).length) + 1)) + 1) ((((((([32] ++ p.key) ++ [61]) ++ p.value) ++ [10]) : List UInt8).length) + 1) = rone_m_l0 p n9 x8 ∧ (((((([32] ++ p.key) ++ [61]) ++ p.value) ++ [10] : List UInt8).length) + 1 ≤ x8 ∧ x8 ≤ ((((([32] ++ p.key) ++ [61]) ++ p.value) ++ [10] : List UInt8).length) + (rdig_m ((x8 : Nat) : Int)).length ∧ (rdig_m ((x8 : Nat) : Int)).length ≤ 9) ∧ a' = ⟨#[.agg #[.string (tx p.key), .string (tx p.value)], .pointer (some ⟨g4, 0, none⟩), .string (tx ([])), .string (tx (((([32] ++ p.key) ++ [61]) ++ p.value) ++ [10])), .int .i64 ((x8 : Nat) : Int), .pointer (some ⟨g4, 0, none⟩), .string (tx p.key), .string (tx ([32] ++ p.key)), .string (tx (([32] ++ p.key) ++ [61])), .pointer (some ⟨g4, 1, none⟩), .string (tx p.value), .string (tx ((([32] ++ p.key) ++ [61]) ++ p.value)), .string (tx (((([32] ++ p.key) ++ [61]) ++ p.value) ++ [10])), .string (tx (((([32] ++ p.key) ++ [61]) ++ p.value) ++ [10])), .int .i64 ((((((([32] ++ p.key) ++ [61]) ++ p.value) ++ [10]) : List UInt8).length : Nat) : Int), .int .i64 ((((((((([32] ++ p.key) ++ [61]) ++ p.value) ++ [10]) : List UInt8).length) + 1) : Nat) : Int), u0 0, u0 1, u0 2, u0 3, u0 4, u0 5, u0 6, u0 7, u0 8, u0 9, undef, undef, undef, undef], []⟩ ∧ Mm none (fun _ => True) w w' [.blk g4 #[.string (tx p.key), .string (tx p.value)] 47]) ⟨((((((([32] ++ p.key) ++ [61]) ++ p.value) ++ [10] : List UInt8).length) + 10 - ((((((([32] ++ p.key) ++ [61]) ++ p.value) ++ [10]) : List UInt8).length) + 1)) + 1), ((((((([32] ++ p.key) ++ [61]) ++ p.value) ++ [10]) : List UInt8).length) + 1), (fun qq => List.getD [undef, undef, undef, undef, undef, undef, undef, undef, undef, undef] qq undef), rfl, Nat.lt_succ_self _, rfl, (by have h1 := rdig_len ((((((([32] ++ p.key) ++ [61]) ++ p.value) ++ [10] : List UInt8).length) + 1 : Nat) : Int) (by have h2 := rst_len p; unfold rst at h2; omega) (by have h2 := rst_len p; unfold rst at h2; omega); have h2 := rst_len p; exact ⟨Nat.le_refl _, by omega, h1.2⟩), rfl, hm3⟩ ?_
    rintro n9 _ w14 ⟨_, x8, u0, rfl, hl18, hi11, hro, rfl, hm15⟩ R16 hR16
    obtain ⟨k10, rfl⟩ : ∃ k, n9 = k + 1 := ⟨n9 - 1, by omega⟩
    refine wp_seq_k (fun K19 hK19 => ?_)
    refine wp_seq_k (fun K20 hK20 => ?_)
    refine wp_region_lit ?_
    refine lvw 16 (.int .i64 ((x8 : Nat) : Int)) rfl rfl (run_mv rfl rfl) ?_
    simp only [nz1, nz2, nz3]
    refine lst rfl (m_call hm15 17 (.string (tx (rdig_m ((x8 : Nat) : Int)))) rfl (run_rdig rfl rfl) (rdig_any ((x8 : Nat) : Int)  _  (by first | omega | assumption | (have h2 := rst_len p; unfold rst at h2; omega) | (simp; done) | (simp; omega) | (simp only [List.length_append, List.length_cons, List.length_nil]; omega) | (simp only [List.length_append, List.length_cons, List.length_nil] at *; omega) | decide) (by first | omega | assumption | (have h2 := rst_len p; unfold rst at h2; omega) | (simp; done) | (simp; omega) | (simp only [List.length_append, List.length_cons, List.length_nil]; omega) | (simp only [List.length_append, List.length_cons, List.length_nil] at *; omega) | decide)) (fun w21 (hm22 : Mm none (fun _ => True) w w21 [.blk g4 #[.string (tx p.key), .string (tx p.value)] 47]) => ?_))
    have hf23 : 1 ≤ (rdig_m ((x8 : Nat) : Int)).length ∧ (rdig_m ((x8 : Nat) : Int)).length ≤ 9 := rdig_len ((x8 : Nat) : Int) (by first | omega | (have h2 := rst_len p; unfold rst at h2; omega)) (by first | omega | (have h2 := rst_len p; unfold rst at h2; omega))
    simp only [nz1, nz2, nz3]
    refine lvw 18 (.int .i64 (((rdig_m ((x8 : Nat) : Int)).length : Nat) : Int)) rfl rfl (t_len rfl Tryd.underlying9 rfl) ?_
    simp only [nz1, nz2, nz3]
    refine lvw 19 (.string (tx (((([32] ++ p.key) ++ [61]) ++ p.value) ++ [10]))) rfl rfl (run_mv rfl rfl) ?_
    simp only [nz1, nz2, nz3]
    refine lvw 20 (.int .i64 ((((((([32] ++ p.key) ++ [61]) ++ p.value) ++ [10]) : List UInt8).length : Nat) : Int)) rfl rfl (t_len rfl Tryd.underlying9 rfl) ?_
    simp only [nz1, nz2, nz3]
    refine lvw 21 (.int .i64 (((((rdig_m ((x8 : Nat) : Int)).length) + (((((([32] ++ p.key) ++ [61]) ++ p.value) ++ [10]) : List UInt8).length)) : Nat) : Int)) rfl rfl (r_add ((rdig_m ((x8 : Nat) : Int)).length) (((((([32] ++ p.key) ++ [61]) ++ p.value) ++ [10]) : List UInt8).length) (show (((rdig_m ((x8 : Nat) : Int)).length) + (((((([32] ++ p.key) ++ [61]) ++ p.value) ++ [10]) : List UInt8).length)) < 9223372036854775808 from by omega) rfl rfl rfl) ?_
    simp only [nz1, nz2, nz3]
    refine lvw 22 (.int .i64 ((x8 : Nat) : Int)) rfl rfl (run_mv rfl rfl) ?_
    simp only [nz1, nz2, nz3]
    refine lvw 23 (.bool (decide (¬ (((rdig_m ((x8 : Nat) : Int)).length) + (((((([32] ++ p.key) ++ [61]) ++ p.value) ++ [10]) : List UInt8).length)) = x8))) rfl rfl (r_neq (((rdig_m ((x8 : Nat) : Int)).length) + (((((([32] ++ p.key) ++ [61]) ++ p.value) ++ [10]) : List UInt8).length)) x8 rfl rfl rfl) ?_
    simp only [nz1, nz2, nz3]
    refine wpList_nil ?_
    refine then_n (hK20 _ _ ?_)
    refine cond_d (¬ (((rdig_m ((x8 : Nat) : Int)).length) + (((((([32] ++ p.key) ++ [61]) ++ p.value) ++ [10]) : List UInt8).length)) = x8) rfl (fun hc24 => ?_) (fun hc24 => ?_)
    rotate_left
    · refine wp_exit ?_
      refine then_x ?_
      refine then_x ?_
      refine blk_x ?_
      refine then_n ?_
      exact ⟨x8, (fun qq => List.getD [.int .i64 ((x8 : Nat) : Int), .string (tx (rdig_m ((x8 : Nat) : Int))), .int .i64 (((rdig_m ((x8 : Nat) : Int)).length : Nat) : Int), .string (tx (((([32] ++ p.key) ++ [61]) ++ p.value) ++ [10])), .int .i64 ((((((([32] ++ p.key) ++ [61]) ++ p.value) ++ [10]) : List UInt8).length : Nat) : Int), .int .i64 (((((rdig_m ((x8 : Nat) : Int)).length) + (((((([32] ++ p.key) ++ [61]) ++ p.value) ++ [10]) : List UInt8).length)) : Nat) : Int), .int .i64 ((x8 : Nat) : Int), .bool (decide (¬ (((rdig_m ((x8 : Nat) : Int)).length) + (((((([32] ++ p.key) ++ [61]) ++ p.value) ++ [10]) : List UInt8).length)) = x8)), u0 8, u0 9] qq undef), (hi11.trans (show rone_m_b0 p (rone_m_l0 p k10) x8 = .inl x8 from by unfold rone_m_b0; rw [if_neg hc24] <;> rfl)), (by first | omega | (simp; done) | (simp; omega) | (simp at *; omega)), rfl, hm22⟩
    refine wp_skip ?_
    refine then_n (hK19 _ _ ?_)
    refine wp_block ?_
    refine wp_region_lit ?_
    refine lvw 24 (.int .i64 ((x8 : Nat) : Int)) rfl rfl (run_mv rfl rfl) ?_
    simp only [nz1, nz2, nz3]
    refine lvw 25 (.int .i64 (((x8 + 1) : Nat) : Int)) rfl rfl (r_add x8 1 (show (x8 + 1) < 9223372036854775808 from by omega) rfl rfl rfl) ?_
    simp only [nz1, nz2, nz3]
    refine lvw 4 (.int .i64 (((x8 + 1) : Nat) : Int)) rfl rfl (run_as rfl rfl) ?_
    simp only [nz1, nz2, nz3]
    refine wpList_nil ?_
    refine blk_n ?_
    refine then_n (hR16 _ _ _ ⟨k10, (x8 + 1), (fun qq => List.getD [.int .i64 ((x8 : Nat) : Int), .string (tx (rdig_m ((x8 : Nat) : Int))), .int .i64 (((rdig_m ((x8 : Nat) : Int)).length : Nat) : Int), .string (tx (((([32] ++ p.key) ++ [61]) ++ p.value) ++ [10])), .int .i64 ((((((([32] ++ p.key) ++ [61]) ++ p.value) ++ [10]) : List UInt8).length : Nat) : Int), .int .i64 (((((rdig_m ((x8 : Nat) : Int)).length) + (((((([32] ++ p.key) ++ [61]) ++ p.value) ++ [10]) : List UInt8).length)) : Nat) : Int), .int .i64 ((x8 : Nat) : Int), .bool (decide (¬ (((rdig_m ((x8 : Nat) : Int)).length) + (((((([32] ++ p.key) ++ [61]) ++ p.value) ++ [10]) : List UInt8).length)) = x8)), .int .i64 ((x8 : Nat) : Int), .int .i64 (((x8 + 1) : Nat) : Int)] qq undef), rfl, (by first | omega | (simp; omega) | (simp at *; omega)), (hi11.trans (show rone_m_b0 p (rone_m_l0 p k10) x8 = rone_m_l0 p k10 (x8 + 1) from by unfold rone_m_b0; rw [if_pos hc24] <;> rfl)), (by have h2 := rst_len p; unfold rst at h2; have h1 := rdig_mono ((x8 : Nat) : Int) ((x8 + 1 : Nat) : Int) (by omega) (by omega) (by omega); have h3 := rdig_len ((x8 + 1 : Nat) : Int) (by omega) (by omega); omega), rfl, hm22⟩ ?_)
    omega
  rintro _ w25 ⟨y12, yu0, hx13, hro, rfl, hm26⟩
  have hq27 : rone_m p = rone_m_k0 p y12 := (show rone_m p = rone_m_k0 p y12 from by unfold rone_m; rw [hx13] <;> rfl)
  refine then_n (hK7 _ _ ?_)
  refine wp_seq_k (fun K28 hK28 => ?_)
  refine wp_region_lit ?_
  refine lvw 26 (.int .i64 ((y12 : Nat) : Int)) rfl rfl (run_mv rfl rfl) ?_
  simp only [nz1, nz2, nz3]
  refine lst rfl (m_call hm26 27 (.string (tx (rdig_m ((y12 : Nat) : Int)))) rfl (run_rdig rfl rfl) (rdig_any ((y12 : Nat) : Int)  _  (by first | omega | assumption | (have h2 := rst_len p; unfold rst at h2; omega) | (simp; done) | (simp; omega) | (simp only [List.length_append, List.length_cons, List.length_nil]; omega) | (simp only [List.length_append, List.length_cons, List.length_nil] at *; omega) | decide) (by first | omega | assumption | (have h2 := rst_len p; unfold rst at h2; omega) | (simp; done) | (simp; omega) | (simp only [List.length_append, List.length_cons, List.length_nil]; omega) | (simp only [List.length_append, List.length_cons, List.length_nil] at *; omega) | decide)) (fun w29 (hm30 : Mm none (fun _ => True) w w29 [.blk g4 #[.string (tx p.key), .string (tx p.value)] 47]) => ?_))
  have hf31 : 1 ≤ (rdig_m ((y12 : Nat) : Int)).length ∧ (rdig_m ((y12 : Nat) : Int)).length ≤ 9 := rdig_len ((y12 : Nat) : Int) (by first | omega | (have h2 := rst_len p; unfold rst at h2; omega)) (by first | omega | (have h2 := rst_len p; unfold rst at h2; omega))
  simp only [nz1, nz2, nz3]
  refine lvw 28 (.string (tx (((([32] ++ p.key) ++ [61]) ++ p.value) ++ [10]))) rfl rfl (run_mv rfl rfl) ?_
  simp only [nz1, nz2, nz3]
  refine lvw 29 (.string (tx ((rdig_m ((y12 : Nat) : Int)) ++ (((([32] ++ p.key) ++ [61]) ++ p.value) ++ [10])))) rfl rfl (t_cat (rdig_m ((y12 : Nat) : Int)) (((([32] ++ p.key) ++ [61]) ++ p.value) ++ [10]) (by first | omega | (simp; omega) | (have h2 := rst_len p; unfold rst at h2; omega)) rfl rfl rfl) ?_
  simp only [nz1, nz2, nz3]
  refine lvw 2 (.string (tx ((rdig_m ((y12 : Nat) : Int)) ++ (((([32] ++ p.key) ++ [61]) ++ p.value) ++ [10])))) rfl rfl (run_as rfl rfl) ?_
  simp only [nz1, nz2, nz3]
  refine wpList_nil ?_
  refine then_n (hK28 _ _ ?_)
  refine wp_ret ?_
  have he32 : rone_m p = ((rdig_m ((y12 : Nat) : Int)) ++ (((([32] ++ p.key) ++ [61]) ++ p.value) ++ [10])) := (hq27.trans (show rone_m_k0 p y12 = ((rdig_m ((y12 : Nat) : Int)) ++ (((([32] ++ p.key) ++ [61]) ++ p.value) ++ [10])) from by unfold rone_m_k0; rfl))
  exact ⟨rfl, .string (tx ((rdig_m ((y12 : Nat) : Int)) ++ (((([32] ++ p.key) ++ [61]) ++ p.value) ++ [10]))), res_t rfl rfl, ⟨by rw [he32], hm30.below⟩⟩
theorem run_rone {o : Oper} {a : Act} {w : World} {x0 : Operand} {v0 : Value} (ho : o.op = .call { callee := .value (.func 46), args := #[x0], argTypes := #[47] }) (h0 : a.eval x0 = v0) :
    (execOp a.eval o).run Tryd.prog w = .ok (.enter 46 #[v0]) w := by
  unfold execOp
  simp only [ho]
  have hf : a.eval (.func 46) = .func (.func 46) #[] #[] := rfl
  generalize a.eval = f at *
  go_simp
end Go.Proofs.YtglnifckngcpkaaDoor.Px
