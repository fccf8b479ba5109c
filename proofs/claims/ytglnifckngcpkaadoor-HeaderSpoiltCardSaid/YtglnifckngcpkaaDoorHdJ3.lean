/- Layer 9: texts, blanks as the document says. -/
import Derived.Test.YtglnifckngcpkaaDoorHdK
namespace Go.Proofs.YtglnifckngcpkaaDoor.Hd
open Go.RowKit
open Go.Proofs.YtglnifckngcpkaaDoor.Sym Go.Proofs.YtglnifckngcpkaaDoor.Mem
open Go.Proofs.YtglnifckngcpkaaDoor.Sx hiding Mm m_alloc m_store m_put m_call m_callx m_make m_append r_string r_ixS
set_option linter.unusedVariables false
attribute [local irreducible] wpList Oper.wp

def rtext_m_b0 (s : List UInt8) (rec : Nat → Sum (Nat) ((List UInt8))) (x4 : Nat) : Sum (Nat) ((List UInt8)) :=
  if x4 < s.length then
    if by' s x4 = 0 then
      .inr (s.take x4)
    else
      rec (x4 + 1)
  else
    .inl x4
def rtext_m_l0 (s : List UInt8) : Nat → Nat → Sum (Nat) ((List UInt8))
  | 0, zz => .inl zz
  | nq + 1, zz => rtext_m_b0 s (rtext_m_l0 s nq) zz

def rtext_m_k0 (s : List UInt8) (y8 : Nat) : (List UInt8) :=
  s

def rtext_m (s : List UInt8) : (List UInt8) :=
  fin (rtext_m_l0 s ((s.length - 0) + 1) 0) (fun r => r) (fun zz => rtext_m_k0 s zz)

set_option maxHeartbeats 4000000 in
set_option maxRecDepth 100000 in
theorem rtext_any (s : List UInt8) (w : World)  (hp0 : s.length ≤ 1048576) : Calls Tryd.prog 44 #[.string (tx s)] w (fun e w' => e = .returned (.string (tx (rtext_m s))) ∧ Below w.heap.size w w') := by
  go_enter Tryd.func44, Tryd.ntmps44
  have hm00 := Mm.nil none (fun _ => True) w
  have hm0 := hm00
  refine wp_seq_k (fun K1 hK1 => ?_)
  refine wp_region_lit ?_
  refine lvw 2 (.string (tx ([]))) rfl rfl (run_as rfl rfl) ?_
  simp only [nz1, nz2, nz3]
  refine wpList_nil ?_
  refine then_n (hK1 _ _ ?_)
  refine wp_seq_k (fun K2 hK2 => ?_)
  refine wp_seq_k (fun K3 hK3 => ?_)
  refine wp_region_lit ?_
  refine lvw 3 (.int .i64 0) rfl rfl (run_as rfl rfl) ?_
  simp only [nz1, nz2, nz3]
  refine wpList_nil ?_
  refine then_n (hK3 _ _ ?_)
  refine wp_cutK (fun a' w' => ∃ (y8 : Nat) (yu0 : Nat → Value), rtext_m_l0 s ((s.length - 0) + 1) 0 = .inl y8 ∧ (y8 ≤ s.length) ∧ a' = ⟨#[.string (tx s), undef, yu0 0, .int .i64 ((y8 : Nat) : Int), yu0 1, yu0 2, yu0 3, yu0 4, yu0 5, yu0 6, yu0 7, yu0 8, yu0 9, yu0 10, yu0 11, yu0 12, yu0 13, undef], []⟩ ∧ Mm none (fun _ => True) w w' []) ?_ ?_
  · refine wp_block ?_
    refine wp_loop_n (fun n' a' w' => ∃ (n5 : Nat) (x4 : Nat) (u0 : Nat → Value), n' = n5 ∧ (s.length - x4) < n5 ∧ rtext_m_l0 s ((s.length - 0) + 1) 0 = rtext_m_l0 s n5 x4 ∧ (x4 ≤ s.length) ∧ a' = ⟨#[.string (tx s), undef, u0 0, .int .i64 ((x4 : Nat) : Int), u0 1, u0 2, u0 3, u0 4, u0 5, u0 6, u0 7, u0 8, u0 9, u0 10, u0 11, u0 12, u0 13, undef], []⟩ ∧ Mm none (fun _ => True) w w' []) ⟨((s.length - 0) + 1), 0, (fun qq => List.getD [.string (tx ([])), undef, undef, undef, undef, undef, undef, undef, undef, undef, undef, undef, undef, undef] qq undef), rfl, Nat.lt_succ_self _, rfl, (by first | omega | (simp; done) | (simp; omega) | (simp at *; omega)), rfl, hm0⟩ ?_
    rintro n5 _ w10 ⟨_, x4, u0, rfl, hl14, hi7, hga, rfl, hm11⟩ R12 hR12
    obtain ⟨k6, rfl⟩ : ∃ k, n5 = k + 1 := ⟨n5 - 1, by omega⟩
    refine wp_seq_k (fun K15 hK15 => ?_)
    refine wp_seq_k (fun K16 hK16 => ?_)
    refine wp_region_lit ?_
    refine lvw 4 (.int .i64 ((x4 : Nat) : Int)) rfl rfl (run_mv rfl rfl) ?_
    simp only [nz1, nz2, nz3]
    refine lvw 5 (.string (tx s)) rfl rfl (run_mv rfl rfl) ?_
    simp only [nz1, nz2, nz3]
    refine lvw 6 (.int .i64 ((s.length : Nat) : Int)) rfl rfl (t_len rfl Tryd.underlying9 rfl) ?_
    simp only [nz1, nz2, nz3]
    refine lvw 7 (.bool (decide (x4 < s.length))) rfl rfl (r_lss x4 s.length rfl rfl rfl) ?_
    simp only [nz1, nz2, nz3]
    refine wpList_nil ?_
    refine then_n (hK16 _ _ ?_)
    refine cond_d (x4 < s.length) rfl (fun hc17 => ?_) (fun hc17 => ?_)
    rotate_left
    · refine wp_exit ?_
      refine then_x ?_
      refine then_x ?_
      refine blk_x ?_
      refine then_n ?_
      exact ⟨x4, (fun qq => List.getD [u0 0, .int .i64 ((x4 : Nat) : Int), .string (tx s), .int .i64 ((s.length : Nat) : Int), .bool (decide (x4 < s.length)), u0 5, u0 6, u0 7, u0 8, u0 9, u0 10, u0 11, u0 12, u0 13] qq undef), (hi7.trans (show rtext_m_b0 s (rtext_m_l0 s k6) x4 = .inl x4 from by unfold rtext_m_b0; rw [if_neg hc17] <;> rfl)), (by first | omega | (simp; done) | (simp; omega) | (simp at *; omega)), rfl, hm11⟩
    refine wp_skip ?_
    refine then_n (hK15 _ _ ?_)
    refine wp_seq_k (fun K18 hK18 => ?_)
    refine wp_block ?_
    refine wp_seq_k (fun K19 hK19 => ?_)
    refine wp_region_lit ?_
    refine lvw 10 (.string (tx s)) rfl rfl (run_mv rfl rfl) ?_
    simp only [nz1, nz2, nz3]
    refine lvw 11 (.int .i64 ((x4 : Nat) : Int)) rfl rfl (run_mv rfl rfl) ?_
    simp only [nz1, nz2, nz3]
    refine lvw 12 (.int .u8 ((by' s x4 : Nat) : Int)) rfl rfl (t_char s x4 (by omega) Tryd.underlying9 rfl rfl rfl) ?_
    simp only [nz1, nz2, nz3]
    refine lvw 13 (.bool (decide (by' s x4 = 0))) rfl rfl (r_eql (by' s x4) 0 rfl rfl rfl) ?_
    simp only [nz1, nz2, nz3]
    refine wpList_nil ?_
    refine then_n (hK19 _ _ ?_)
    refine cond_d (by' s x4 = 0) rfl (fun hc20 => ?_) (fun hc20 => ?_)
    rotate_left
    · refine wp_skip ?_
      refine blk_n ?_
      refine then_n (hK18 _ _ ?_)
      refine wp_region_lit ?_
      refine lvw 8 (.int .i64 ((x4 : Nat) : Int)) rfl rfl (run_mv rfl rfl) ?_
      simp only [nz1, nz2, nz3]
      refine lvw 9 (.int .i64 (((x4 + 1) : Nat) : Int)) rfl rfl (r_add x4 1 (show (x4 + 1) < 9223372036854775808 from by omega) rfl rfl rfl) ?_
      simp only [nz1, nz2, nz3]
      refine lvw 3 (.int .i64 (((x4 + 1) : Nat) : Int)) rfl rfl (run_as rfl rfl) ?_
      simp only [nz1, nz2, nz3]
      refine wpList_nil ?_
      refine then_n (hR12 _ _ _ ⟨k6, (x4 + 1), (fun qq => List.getD [u0 0, .int .i64 ((x4 : Nat) : Int), .string (tx s), .int .i64 ((s.length : Nat) : Int), .bool (decide (x4 < s.length)), .int .i64 ((x4 : Nat) : Int), .int .i64 (((x4 + 1) : Nat) : Int), .string (tx s), .int .i64 ((x4 : Nat) : Int), .int .u8 ((by' s x4 : Nat) : Int), .bool (decide (by' s x4 = 0)), u0 11, u0 12, u0 13] qq undef), rfl, (by first | omega | (simp; omega) | (simp at *; omega)), (hi7.trans (show rtext_m_b0 s (rtext_m_l0 s k6) x4 = rtext_m_l0 s k6 (x4 + 1) from by unfold rtext_m_b0; rw [if_pos hc17, if_neg hc20] <;> rfl)), (by first | omega | (simp; done) | (simp; omega) | (simp at *; omega)), rfl, hm11⟩ ?_)
      omega
    refine wp_seq_k (fun K21 hK21 => ?_)
    refine wp_region_lit ?_
    refine lvw 14 (.string (tx s)) rfl rfl (run_mv rfl rfl) ?_
    simp only [nz1, nz2, nz3]
    refine lvw 15 (.int .i64 ((x4 : Nat) : Int)) rfl rfl (run_mv rfl rfl) ?_
    simp only [nz1, nz2, nz3]
    refine lvw 16 (.string (tx (s.take x4))) rfl rfl (t_to s x4 (by omega) Tryd.underlying9 rfl rfl rfl) ?_
    simp only [nz1, nz2, nz3]
    refine lvw 2 (.string (tx (s.take x4))) rfl rfl (run_as rfl rfl) ?_
    simp only [nz1, nz2, nz3]
    refine wpList_nil ?_
    refine then_n (hK21 _ _ ?_)
    refine wp_ret ?_
    refine blk_r ?_
    refine then_r ?_
    refine then_r ?_
    refine blk_r ?_
    refine then_r ?_
    refine then_r ?_
    have he22 : rtext_m_l0 s ((s.length - 0) + 1) 0 = .inr (s.take x4) := (hi7.trans (show rtext_m_b0 s (rtext_m_l0 s k6) x4 = .inr (s.take x4) from by unfold rtext_m_b0; rw [if_pos hc17, if_pos hc20] <;> rfl))
    have he23 : rtext_m s = (s.take x4) := (show rtext_m s = (s.take x4) from by unfold rtext_m; rw [he22] <;> rfl)
    exact ⟨rfl, .string (tx (s.take x4)), res_t rfl rfl, ⟨by (rw [he23]; try rfl), hm11.below⟩⟩
  rintro _ w24 ⟨y8, yu0, hx9, hga, rfl, hm25⟩
  have hq26 : rtext_m s = rtext_m_k0 s y8 := (show rtext_m s = rtext_m_k0 s y8 from by unfold rtext_m; rw [hx9] <;> rfl)
  refine then_n (hK2 _ _ ?_)
  refine wp_seq_k (fun K27 hK27 => ?_)
  refine wp_region_lit ?_
  refine lvw 17 (.string (tx s)) rfl rfl (run_mv rfl rfl) ?_
  simp only [nz1, nz2, nz3]
  refine lvw 2 (.string (tx s)) rfl rfl (run_as rfl rfl) ?_
  simp only [nz1, nz2, nz3]
  refine wpList_nil ?_
  refine then_n (hK27 _ _ ?_)
  refine wp_ret ?_
  have he28 : rtext_m s = s := (hq26.trans (show rtext_m_k0 s y8 = s from by unfold rtext_m_k0; rfl))
  exact ⟨rfl, .string (tx s), res_t rfl rfl, ⟨by (rw [he28]; try rfl), hm25.below⟩⟩
theorem run_rtext {o : Oper} {a : Act} {w : World} {x0 : Operand} {v0 : Value} (ho : o.op = .call { callee := .value (.func 44), args := #[x0], argTypes := #[9] }) (h0 : a.eval x0 = v0) :
    (execOp a.eval o).run Tryd.prog w = .ok (.enter 44 #[v0]) w := by
  unfold execOp
  simp only [ho]
  have hf : a.eval (.func 44) = .func (.func 44) #[] #[] := rfl
  generalize a.eval = f at *
  go_simp
def rblank_m_b0 (s : List UInt8) (rec : Nat → Sum (Nat) (Bool)) (x4 : Nat) : Sum (Nat) (Bool) :=
  if x4 < s.length then
    if ¬ by' s x4 = 0 then
      .inr false
    else
      rec (x4 + 1)
  else
    .inl x4
def rblank_m_l0 (s : List UInt8) : Nat → Nat → Sum (Nat) (Bool)
  | 0, zz => .inl zz
  | nq + 1, zz => rblank_m_b0 s (rblank_m_l0 s nq) zz

def rblank_m_k0 (s : List UInt8) (y8 : Nat) : Bool :=
  (decide (s.length = 512))

def rblank_m (s : List UInt8) : Bool :=
  fin (rblank_m_l0 s ((s.length - 0) + 1) 0) (fun r => r) (fun zz => rblank_m_k0 s zz)

set_option maxHeartbeats 4000000 in
set_option maxRecDepth 100000 in
theorem rblank_any (s : List UInt8) (w : World)  (hp0 : s.length ≤ 1048576) : Calls Tryd.prog 22 #[.string (tx s)] w (fun e w' => e = .returned (.bool ((rblank_m s))) ∧ Below w.heap.size w w') := by
  go_enter Tryd.func22, Tryd.ntmps22
  have hm00 := Mm.nil none (fun _ => True) w
  have hm0 := hm00
  refine wp_seq_k (fun K1 hK1 => ?_)
  refine wp_region_lit ?_
  refine lvw 2 (.bool false) rfl rfl (run_as rfl rfl) ?_
  simp only [nz1, nz2, nz3]
  refine wpList_nil ?_
  refine then_n (hK1 _ _ ?_)
  refine wp_seq_k (fun K2 hK2 => ?_)
  refine wp_seq_k (fun K3 hK3 => ?_)
  refine wp_region_lit ?_
  refine lvw 3 (.int .i64 0) rfl rfl (run_as rfl rfl) ?_
  simp only [nz1, nz2, nz3]
  refine wpList_nil ?_
  refine then_n (hK3 _ _ ?_)
  refine wp_cutK (fun a' w' => ∃ (y8 : Nat) (yu0 : Nat → Value), rblank_m_l0 s ((s.length - 0) + 1) 0 = .inl y8 ∧ (y8 ≤ s.length) ∧ a' = ⟨#[.string (tx s), undef, yu0 0, .int .i64 ((y8 : Nat) : Int), yu0 1, yu0 2, yu0 3, yu0 4, yu0 5, yu0 6, yu0 7, yu0 8, yu0 9, yu0 10, undef, undef, undef], []⟩ ∧ Mm none (fun _ => True) w w' []) ?_ ?_
  · refine wp_block ?_
    refine wp_loop_n (fun n' a' w' => ∃ (n5 : Nat) (x4 : Nat) (u0 : Nat → Value), n' = n5 ∧ (s.length - x4) < n5 ∧ rblank_m_l0 s ((s.length - 0) + 1) 0 = rblank_m_l0 s n5 x4 ∧ (x4 ≤ s.length) ∧ a' = ⟨#[.string (tx s), undef, u0 0, .int .i64 ((x4 : Nat) : Int), u0 1, u0 2, u0 3, u0 4, u0 5, u0 6, u0 7, u0 8, u0 9, u0 10, undef, undef, undef], []⟩ ∧ Mm none (fun _ => True) w w' []) ⟨((s.length - 0) + 1), 0, (fun qq => List.getD [.bool false, undef, undef, undef, undef, undef, undef, undef, undef, undef, undef] qq undef), rfl, Nat.lt_succ_self _, rfl, (by first | omega | (simp; done) | (simp; omega) | (simp at *; omega)), rfl, hm0⟩ ?_
    rintro n5 _ w10 ⟨_, x4, u0, rfl, hl14, hi7, hga, rfl, hm11⟩ R12 hR12
    obtain ⟨k6, rfl⟩ : ∃ k, n5 = k + 1 := ⟨n5 - 1, by omega⟩
    refine wp_seq_k (fun K15 hK15 => ?_)
    refine wp_seq_k (fun K16 hK16 => ?_)
    refine wp_region_lit ?_
    refine lvw 4 (.int .i64 ((x4 : Nat) : Int)) rfl rfl (run_mv rfl rfl) ?_
    simp only [nz1, nz2, nz3]
    refine lvw 5 (.string (tx s)) rfl rfl (run_mv rfl rfl) ?_
    simp only [nz1, nz2, nz3]
    refine lvw 6 (.int .i64 ((s.length : Nat) : Int)) rfl rfl (t_len rfl Tryd.underlying9 rfl) ?_
    simp only [nz1, nz2, nz3]
    refine lvw 7 (.bool (decide (x4 < s.length))) rfl rfl (r_lss x4 s.length rfl rfl rfl) ?_
    simp only [nz1, nz2, nz3]
    refine wpList_nil ?_
    refine then_n (hK16 _ _ ?_)
    refine cond_d (x4 < s.length) rfl (fun hc17 => ?_) (fun hc17 => ?_)
    rotate_left
    · refine wp_exit ?_
      refine then_x ?_
      refine then_x ?_
      refine blk_x ?_
      refine then_n ?_
      exact ⟨x4, (fun qq => List.getD [u0 0, .int .i64 ((x4 : Nat) : Int), .string (tx s), .int .i64 ((s.length : Nat) : Int), .bool (decide (x4 < s.length)), u0 5, u0 6, u0 7, u0 8, u0 9, u0 10] qq undef), (hi7.trans (show rblank_m_b0 s (rblank_m_l0 s k6) x4 = .inl x4 from by unfold rblank_m_b0; rw [if_neg hc17] <;> rfl)), (by first | omega | (simp; done) | (simp; omega) | (simp at *; omega)), rfl, hm11⟩
    refine wp_skip ?_
    refine then_n (hK15 _ _ ?_)
    refine wp_seq_k (fun K18 hK18 => ?_)
    refine wp_block ?_
    refine wp_seq_k (fun K19 hK19 => ?_)
    refine wp_region_lit ?_
    refine lvw 10 (.string (tx s)) rfl rfl (run_mv rfl rfl) ?_
    simp only [nz1, nz2, nz3]
    refine lvw 11 (.int .i64 ((x4 : Nat) : Int)) rfl rfl (run_mv rfl rfl) ?_
    simp only [nz1, nz2, nz3]
    refine lvw 12 (.int .u8 ((by' s x4 : Nat) : Int)) rfl rfl (t_char s x4 (by omega) Tryd.underlying9 rfl rfl rfl) ?_
    simp only [nz1, nz2, nz3]
    refine lvw 13 (.bool (decide (¬ by' s x4 = 0))) rfl rfl (r_neq (by' s x4) 0 rfl rfl rfl) ?_
    simp only [nz1, nz2, nz3]
    refine wpList_nil ?_
    refine then_n (hK19 _ _ ?_)
    refine cond_d (¬ by' s x4 = 0) rfl (fun hc20 => ?_) (fun hc20 => ?_)
    rotate_left
    · refine wp_skip ?_
      refine blk_n ?_
      refine then_n (hK18 _ _ ?_)
      refine wp_region_lit ?_
      refine lvw 8 (.int .i64 ((x4 : Nat) : Int)) rfl rfl (run_mv rfl rfl) ?_
      simp only [nz1, nz2, nz3]
      refine lvw 9 (.int .i64 (((x4 + 1) : Nat) : Int)) rfl rfl (r_add x4 1 (show (x4 + 1) < 9223372036854775808 from by omega) rfl rfl rfl) ?_
      simp only [nz1, nz2, nz3]
      refine lvw 3 (.int .i64 (((x4 + 1) : Nat) : Int)) rfl rfl (run_as rfl rfl) ?_
      simp only [nz1, nz2, nz3]
      refine wpList_nil ?_
      refine then_n (hR12 _ _ _ ⟨k6, (x4 + 1), (fun qq => List.getD [u0 0, .int .i64 ((x4 : Nat) : Int), .string (tx s), .int .i64 ((s.length : Nat) : Int), .bool (decide (x4 < s.length)), .int .i64 ((x4 : Nat) : Int), .int .i64 (((x4 + 1) : Nat) : Int), .string (tx s), .int .i64 ((x4 : Nat) : Int), .int .u8 ((by' s x4 : Nat) : Int), .bool (decide (¬ by' s x4 = 0))] qq undef), rfl, (by first | omega | (simp; omega) | (simp at *; omega)), (hi7.trans (show rblank_m_b0 s (rblank_m_l0 s k6) x4 = rblank_m_l0 s k6 (x4 + 1) from by unfold rblank_m_b0; rw [if_pos hc17, if_neg hc20] <;> rfl)), (by first | omega | (simp; done) | (simp; omega) | (simp at *; omega)), rfl, hm11⟩ ?_)
      omega
    refine wp_seq_k (fun K21 hK21 => ?_)
    refine wp_region_lit ?_
    refine lvw 2 (.bool false) rfl rfl (run_as rfl rfl) ?_
    simp only [nz1, nz2, nz3]
    refine wpList_nil ?_
    refine then_n (hK21 _ _ ?_)
    refine wp_ret ?_
    refine blk_r ?_
    refine then_r ?_
    refine then_r ?_
    refine blk_r ?_
    refine then_r ?_
    refine then_r ?_
    have he22 : rblank_m_l0 s ((s.length - 0) + 1) 0 = .inr false := (hi7.trans (show rblank_m_b0 s (rblank_m_l0 s k6) x4 = .inr false from by unfold rblank_m_b0; rw [if_pos hc17, if_pos hc20] <;> rfl))
    have he23 : rblank_m s = false := (show rblank_m s = false from by unfold rblank_m; rw [he22] <;> rfl)
    exact ⟨rfl, .bool false, res_t rfl rfl, ⟨by (rw [he23]; try rfl), hm11.below⟩⟩
  rintro _ w24 ⟨y8, yu0, hx9, hga, rfl, hm25⟩
  have hq26 : rblank_m s = rblank_m_k0 s y8 := (show rblank_m s = rblank_m_k0 s y8 from by unfold rblank_m; rw [hx9] <;> rfl)
  refine then_n (hK2 _ _ ?_)
  refine wp_seq_k (fun K27 hK27 => ?_)
  refine wp_region_lit ?_
  refine lvw 14 (.string (tx s)) rfl rfl (run_mv rfl rfl) ?_
  simp only [nz1, nz2, nz3]
  refine lvw 15 (.int .i64 ((s.length : Nat) : Int)) rfl rfl (t_len rfl Tryd.underlying9 rfl) ?_
  simp only [nz1, nz2, nz3]
  refine lvw 16 (.bool (decide (s.length = 512))) rfl rfl (r_eql s.length 512 rfl rfl rfl) ?_
  simp only [nz1, nz2, nz3]
  refine lvw 2 (.bool (decide (s.length = 512))) rfl rfl (run_as rfl rfl) ?_
  simp only [nz1, nz2, nz3]
  refine wpList_nil ?_
  refine then_n (hK27 _ _ ?_)
  refine wp_ret ?_
  have he28 : rblank_m s = (decide (s.length = 512)) := (hq26.trans (show rblank_m_k0 s y8 = (decide (s.length = 512)) from by unfold rblank_m_k0; rfl))
  exact ⟨rfl, .bool (decide (s.length = 512)), res_t rfl rfl, ⟨by (rw [he28]; try rfl), hm25.below⟩⟩
theorem run_rblank {o : Oper} {a : Act} {w : World} {x0 : Operand} {v0 : Value} (ho : o.op = .call { callee := .value (.func 22), args := #[x0], argTypes := #[9] }) (h0 : a.eval x0 = v0) :
    (execOp a.eval o).run Tryd.prog w = .ok (.enter 22 #[v0]) w := by
  unfold execOp
  simp only [ho]
  have hf : a.eval (.func 22) = .func (.func 22) #[] #[] := rfl
  generalize a.eval = f at *
  go_simp
end Go.Proofs.YtglnifckngcpkaaDoor.Hd
