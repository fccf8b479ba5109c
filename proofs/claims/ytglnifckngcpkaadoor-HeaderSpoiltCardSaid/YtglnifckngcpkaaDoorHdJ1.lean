/- Layer 9: a field as the document says. -/
import Derived.Test.YtglnifckngcpkaaDoorHdK
namespace Go.Proofs.YtglnifckngcpkaaDoor.Hd
open Go.RowKit
open Go.Proofs.YtglnifckngcpkaaDoor.Sym Go.Proofs.YtglnifckngcpkaaDoor.Mem
open Go.Proofs.YtglnifckngcpkaaDoor.Sx hiding Mm m_alloc m_store m_put m_call m_callx m_make m_append r_string r_ixS
set_option linter.unusedVariables false
attribute [local irreducible] wpList Oper.wp

def rfield_m_b0 (s : List UInt8) (width : Int) (rec : Nat → Sum (Nat) ((List UInt8) × Bool)) (x9 : Nat) : Sum (Nat) ((List UInt8) × Bool) :=
  if x9 < s.length then
    if by' s x9 = 0 then
      .inr (([]), false)
    else
      rec (x9 + 1)
  else
    .inl x9
def rfield_m_l0 (s : List UInt8) (width : Int) : Nat → Nat → Sum (Nat) ((List UInt8) × Bool)
  | 0, zz => .inl zz
  | nq + 1, zz => rfield_m_b0 s width (rfield_m_l0 s width nq) zz

def rfield_m_b1 (s : List UInt8) (width : Int) (y13 : Nat) (rec : (List UInt8) → Sum ((List UInt8)) ((List UInt8) × Bool)) (x33 : List UInt8) : Sum ((List UInt8)) ((List UInt8) × Bool) :=
  if ((x33.length : Nat) : Int) < width then
    rec (x33 ++ [0])
  else
    .inl x33
def rfield_m_l1 (s : List UInt8) (width : Int) (y13 : Nat) : Nat → (List UInt8) → Sum ((List UInt8)) ((List UInt8) × Bool)
  | 0, zz => .inl zz
  | nq + 1, zz => rfield_m_b1 s width y13 (rfield_m_l1 s width y13 nq) zz

def rfield_m_k1 (s : List UInt8) (width : Int) (y13 : Nat) (y37 : List UInt8) : (List UInt8) × Bool :=
  (y37, true)

def rfield_m_k0 (s : List UInt8) (width : Int) (y13 : Nat) : (List UInt8) × Bool :=
  fin (rfield_m_l1 s width y13 ((width - (((s : List UInt8).length : Nat) : Int)).toNat + 1) s) (fun r => r) (fun zz => rfield_m_k1 s width y13 zz)

def rfield_m (s : List UInt8) (width : Int) : (List UInt8) × Bool :=
  if width < ((s.length : Nat) : Int) then
    (([]), false)
  else
    fin (rfield_m_l0 s width ((s.length - 0) + 1) 0) (fun r => r) (fun zz => rfield_m_k0 s width zz)

set_option maxHeartbeats 4000000 in
set_option maxRecDepth 100000 in
theorem rfield_any (s : List UInt8) (width : Int) (w : World)  (hp0 : width ≤ 1048576) : Calls Tryd.prog 38 #[.string (tx s), .int .i64 (width)] w (fun e w' => e = .returned (.tuple #[.string (tx ((rfield_m s width).1)), .bool ((rfield_m s width).2)]) ∧ Below w.heap.size w w') := by
  go_enter Tryd.func38, Tryd.ntmps38
  have hm00 := Mm.nil none (fun _ => True) w
  have hm0 := hm00
  refine wp_seq_k (fun K1 hK1 => ?_)
  refine wp_region_lit ?_
  refine lvw 4 (.string (tx ([]))) rfl rfl (run_as rfl rfl) ?_
  simp only [nz1, nz2, nz3]
  refine lvw 5 (.bool false) rfl rfl (run_as rfl rfl) ?_
  simp only [nz1, nz2, nz3]
  refine wpList_nil ?_
  refine then_n (hK1 _ _ ?_)
  refine wp_seq_k (fun K2 hK2 => ?_)
  refine wp_seq_k (fun K3 hK3 => ?_)
  refine wp_region_lit ?_
  refine lvw 7 (.string (tx s)) rfl rfl (run_mv rfl rfl) ?_
  simp only [nz1, nz2, nz3]
  refine lvw 8 (.int .i64 ((s.length : Nat) : Int)) rfl rfl (t_len rfl Tryd.underlying9 rfl) ?_
  simp only [nz1, nz2, nz3]
  refine lvw 9 (.int .i64 (width)) rfl rfl (run_mv rfl rfl) ?_
  simp only [nz1, nz2, nz3]
  refine lvw 10 (.bool (decide (width < ((s.length : Nat) : Int)))) rfl rfl (z_gtr ((s.length : Nat) : Int) width rfl rfl rfl) ?_
  simp only [nz1, nz2, nz3]
  refine wpList_nil ?_
  refine then_n (hK3 _ _ ?_)
  refine cond_d (width < ((s.length : Nat) : Int)) rfl (fun hc4 => ?_) (fun hc4 => ?_)
  · refine wp_seq_k (fun K5 hK5 => ?_)
    refine wp_region_lit ?_
    refine lvw 4 (.string (tx ([]))) rfl rfl (run_as rfl rfl) ?_
    simp only [nz1, nz2, nz3]
    refine lvw 5 (.bool false) rfl rfl (run_as rfl rfl) ?_
    simp only [nz1, nz2, nz3]
    refine wpList_nil ?_
    refine then_n (hK5 _ _ ?_)
    refine wp_ret ?_
    refine then_r ?_
    have he6 : rfield_m s width = (([]), false) := (show rfield_m s width = (([]), false) from by unfold rfield_m; rw [if_pos hc4] <;> rfl)
    exact ⟨rfl, .tuple #[.string (tx ([])), .bool false], res_tt rfl rfl rfl, ⟨by (rw [he6]; try rfl), hm0.below⟩⟩
  refine wp_skip ?_
  refine then_n (hK2 _ _ ?_)
  refine wp_seq_k (fun K7 hK7 => ?_)
  refine wp_seq_k (fun K8 hK8 => ?_)
  refine wp_region_lit ?_
  refine lvw 6 (.int .i64 0) rfl rfl (run_as rfl rfl) ?_
  simp only [nz1, nz2, nz3]
  refine wpList_nil ?_
  refine then_n (hK8 _ _ ?_)
  refine wp_cutK (fun a' w' => ∃ (y13 : Nat) (yu0 : Nat → Value), rfield_m_l0 s width ((s.length - 0) + 1) 0 = .inl y13 ∧ (y13 ≤ s.length) ∧ a' = ⟨#[.string (tx s), .int .i64 (width), undef, undef, yu0 0, yu0 1, .int .i64 ((y13 : Nat) : Int), .string (tx s), .int .i64 ((s.length : Nat) : Int), .int .i64 (width), .bool (decide (width < ((s.length : Nat) : Int))), yu0 2, yu0 3, yu0 4, yu0 5, yu0 6, yu0 7, yu0 8, yu0 9, yu0 10, yu0 11, undef, undef, undef, undef, undef, undef, undef], []⟩ ∧ Mm none (fun _ => True) w w' []) ?_ ?_
  · refine wp_block ?_
    refine wp_loop_n (fun n' a' w' => ∃ (n10 : Nat) (x9 : Nat) (u0 : Nat → Value), n' = n10 ∧ (s.length - x9) < n10 ∧ rfield_m_l0 s width ((s.length - 0) + 1) 0 = rfield_m_l0 s width n10 x9 ∧ (x9 ≤ s.length) ∧ a' = ⟨#[.string (tx s), .int .i64 (width), undef, undef, u0 0, u0 1, .int .i64 ((x9 : Nat) : Int), .string (tx s), .int .i64 ((s.length : Nat) : Int), .int .i64 (width), .bool (decide (width < ((s.length : Nat) : Int))), u0 2, u0 3, u0 4, u0 5, u0 6, u0 7, u0 8, u0 9, u0 10, u0 11, undef, undef, undef, undef, undef, undef, undef], []⟩ ∧ Mm none (fun _ => True) w w' []) ⟨((s.length - 0) + 1), 0, (fun qq => List.getD [.string (tx ([])), .bool false, undef, undef, undef, undef, undef, undef, undef, undef, undef, undef] qq undef), rfl, Nat.lt_succ_self _, rfl, (by first | omega | (simp; done) | (simp; omega) | (simp at *; omega)), rfl, hm0⟩ ?_
    rintro n10 _ w15 ⟨_, x9, u0, rfl, hl19, hi12, hga, rfl, hm16⟩ R17 hR17
    obtain ⟨k11, rfl⟩ : ∃ k, n10 = k + 1 := ⟨n10 - 1, by omega⟩
    refine wp_seq_k (fun K20 hK20 => ?_)
    refine wp_seq_k (fun K21 hK21 => ?_)
    refine wp_region_lit ?_
    refine lvw 11 (.int .i64 ((x9 : Nat) : Int)) rfl rfl (run_mv rfl rfl) ?_
    simp only [nz1, nz2, nz3]
    refine lvw 12 (.string (tx s)) rfl rfl (run_mv rfl rfl) ?_
    simp only [nz1, nz2, nz3]
    refine lvw 13 (.int .i64 ((s.length : Nat) : Int)) rfl rfl (t_len rfl Tryd.underlying9 rfl) ?_
    simp only [nz1, nz2, nz3]
    refine lvw 14 (.bool (decide (x9 < s.length))) rfl rfl (r_lss x9 s.length rfl rfl rfl) ?_
    simp only [nz1, nz2, nz3]
    refine wpList_nil ?_
    refine then_n (hK21 _ _ ?_)
    refine cond_d (x9 < s.length) rfl (fun hc22 => ?_) (fun hc22 => ?_)
    rotate_left
    · refine wp_exit ?_
      refine then_x ?_
      refine then_x ?_
      refine blk_x ?_
      refine then_n ?_
      exact ⟨x9, (fun qq => List.getD [u0 0, u0 1, .int .i64 ((x9 : Nat) : Int), .string (tx s), .int .i64 ((s.length : Nat) : Int), .bool (decide (x9 < s.length)), u0 6, u0 7, u0 8, u0 9, u0 10, u0 11] qq undef), (hi12.trans (show rfield_m_b0 s width (rfield_m_l0 s width k11) x9 = .inl x9 from by unfold rfield_m_b0; rw [if_neg hc22] <;> rfl)), (by first | omega | (simp; done) | (simp; omega) | (simp at *; omega)), rfl, hm16⟩
    refine wp_skip ?_
    refine then_n (hK20 _ _ ?_)
    refine wp_seq_k (fun K23 hK23 => ?_)
    refine wp_block ?_
    refine wp_seq_k (fun K24 hK24 => ?_)
    refine wp_region_lit ?_
    refine lvw 17 (.string (tx s)) rfl rfl (run_mv rfl rfl) ?_
    simp only [nz1, nz2, nz3]
    refine lvw 18 (.int .i64 ((x9 : Nat) : Int)) rfl rfl (run_mv rfl rfl) ?_
    simp only [nz1, nz2, nz3]
    refine lvw 19 (.int .u8 ((by' s x9 : Nat) : Int)) rfl rfl (t_char s x9 (by omega) Tryd.underlying9 rfl rfl rfl) ?_
    simp only [nz1, nz2, nz3]
    refine lvw 20 (.bool (decide (by' s x9 = 0))) rfl rfl (r_eql (by' s x9) 0 rfl rfl rfl) ?_
    simp only [nz1, nz2, nz3]
    refine wpList_nil ?_
    refine then_n (hK24 _ _ ?_)
    refine cond_d (by' s x9 = 0) rfl (fun hc25 => ?_) (fun hc25 => ?_)
    rotate_left
    · refine wp_skip ?_
      refine blk_n ?_
      refine then_n (hK23 _ _ ?_)
      refine wp_region_lit ?_
      refine lvw 15 (.int .i64 ((x9 : Nat) : Int)) rfl rfl (run_mv rfl rfl) ?_
      simp only [nz1, nz2, nz3]
      refine lvw 16 (.int .i64 (((x9 + 1) : Nat) : Int)) rfl rfl (r_add x9 1 (show (x9 + 1) < 9223372036854775808 from by omega) rfl rfl rfl) ?_
      simp only [nz1, nz2, nz3]
      refine lvw 6 (.int .i64 (((x9 + 1) : Nat) : Int)) rfl rfl (run_as rfl rfl) ?_
      simp only [nz1, nz2, nz3]
      refine wpList_nil ?_
      refine then_n (hR17 _ _ _ ⟨k11, (x9 + 1), (fun qq => List.getD [u0 0, u0 1, .int .i64 ((x9 : Nat) : Int), .string (tx s), .int .i64 ((s.length : Nat) : Int), .bool (decide (x9 < s.length)), .int .i64 ((x9 : Nat) : Int), .int .i64 (((x9 + 1) : Nat) : Int), .string (tx s), .int .i64 ((x9 : Nat) : Int), .int .u8 ((by' s x9 : Nat) : Int), .bool (decide (by' s x9 = 0))] qq undef), rfl, (by first | omega | (simp; omega) | (simp at *; omega)), (hi12.trans (show rfield_m_b0 s width (rfield_m_l0 s width k11) x9 = rfield_m_l0 s width k11 (x9 + 1) from by unfold rfield_m_b0; rw [if_pos hc22, if_neg hc25] <;> rfl)), (by first | omega | (simp; done) | (simp; omega) | (simp at *; omega)), rfl, hm16⟩ ?_)
      omega
    refine wp_seq_k (fun K26 hK26 => ?_)
    refine wp_region_lit ?_
    refine lvw 4 (.string (tx ([]))) rfl rfl (run_as rfl rfl) ?_
    simp only [nz1, nz2, nz3]
    refine lvw 5 (.bool false) rfl rfl (run_as rfl rfl) ?_
    simp only [nz1, nz2, nz3]
    refine wpList_nil ?_
    refine then_n (hK26 _ _ ?_)
    refine wp_ret ?_
    refine blk_r ?_
    refine then_r ?_
    refine then_r ?_
    refine blk_r ?_
    refine then_r ?_
    refine then_r ?_
    have he27 : rfield_m_l0 s width ((s.length - 0) + 1) 0 = .inr (([]), false) := (hi12.trans (show rfield_m_b0 s width (rfield_m_l0 s width k11) x9 = .inr (([]), false) from by unfold rfield_m_b0; rw [if_pos hc22, if_pos hc25] <;> rfl))
    have he28 : rfield_m s width = (([]), false) := (show rfield_m s width = (([]), false) from by unfold rfield_m; rw [if_neg hc4, he27] <;> rfl)
    exact ⟨rfl, .tuple #[.string (tx ([])), .bool false], res_tt rfl rfl rfl, ⟨by (rw [he28]; try rfl), hm16.below⟩⟩
  rintro _ w29 ⟨y13, yu0, hx14, hga, rfl, hm30⟩
  have hq31 : rfield_m s width = rfield_m_k0 s width y13 := (show rfield_m s width = rfield_m_k0 s width y13 from by unfold rfield_m; rw [if_neg hc4, hx14] <;> rfl)
  refine then_n (hK7 _ _ ?_)
  refine wp_seq_k (fun K32 hK32 => ?_)
  refine wp_cutK (fun a' w' => ∃ (y37 : List UInt8) (yu1 : Nat → Value), rfield_m_l1 s width y13 ((width - (((s : List UInt8).length : Nat) : Int)).toNat + 1) s = .inl y37 ∧ (((y37 : List UInt8).length : Int) ≤ width) ∧ a' = ⟨#[.string (tx y37), .int .i64 (width), undef, undef, yu0 0, yu0 1, .int .i64 ((y13 : Nat) : Int), .string (tx s), .int .i64 ((s.length : Nat) : Int), .int .i64 (width), .bool (decide (width < ((s.length : Nat) : Int))), yu0 2, yu0 3, yu0 4, yu0 5, yu0 6, yu0 7, yu0 8, yu0 9, yu0 10, yu0 11, yu1 0, yu1 1, yu1 2, yu1 3, yu1 4, yu1 5, undef], []⟩ ∧ Mm none (fun _ => True) w w' []) ?_ ?_
  · refine wp_block ?_
    refine wp_loop_n (fun n' a' w' => ∃ (n34 : Nat) (x33 : List UInt8) (u1 : Nat → Value), n' = n34 ∧ (width - (((x33 : List UInt8).length : Nat) : Int)).toNat < n34 ∧ rfield_m_l1 s width y13 ((width - (((s : List UInt8).length : Nat) : Int)).toNat + 1) s = rfield_m_l1 s width y13 n34 x33 ∧ (((x33 : List UInt8).length : Int) ≤ width) ∧ a' = ⟨#[.string (tx x33), .int .i64 (width), undef, undef, yu0 0, yu0 1, .int .i64 ((y13 : Nat) : Int), .string (tx s), .int .i64 ((s.length : Nat) : Int), .int .i64 (width), .bool (decide (width < ((s.length : Nat) : Int))), yu0 2, yu0 3, yu0 4, yu0 5, yu0 6, yu0 7, yu0 8, yu0 9, yu0 10, yu0 11, u1 0, u1 1, u1 2, u1 3, u1 4, u1 5, undef], []⟩ ∧ Mm none (fun _ => True) w w' []) ⟨((width - (((s : List UInt8).length : Nat) : Int)).toNat + 1), s, (fun qq => List.getD [undef, undef, undef, undef, undef, undef] qq undef), rfl, Nat.lt_succ_self _, rfl, (by first | omega | (simp; done) | (simp; omega) | (simp at *; omega)), rfl, hm30⟩ ?_
    rintro n34 _ w39 ⟨_, x33, u1, rfl, hl43, hi36, hfl, rfl, hm40⟩ R41 hR41
    obtain ⟨k35, rfl⟩ : ∃ k, n34 = k + 1 := ⟨n34 - 1, by omega⟩
    refine wp_seq_k (fun K44 hK44 => ?_)
    refine wp_seq_k (fun K45 hK45 => ?_)
    refine wp_region_lit ?_
    refine lvw 21 (.string (tx x33)) rfl rfl (run_mv rfl rfl) ?_
    simp only [nz1, nz2, nz3]
    refine lvw 22 (.int .i64 ((x33.length : Nat) : Int)) rfl rfl (t_len rfl Tryd.underlying9 rfl) ?_
    simp only [nz1, nz2, nz3]
    refine lvw 23 (.int .i64 (width)) rfl rfl (run_mv rfl rfl) ?_
    simp only [nz1, nz2, nz3]
    refine lvw 24 (.bool (decide (((x33.length : Nat) : Int) < width))) rfl rfl (z_lss ((x33.length : Nat) : Int) width rfl rfl rfl) ?_
    simp only [nz1, nz2, nz3]
    refine wpList_nil ?_
    refine then_n (hK45 _ _ ?_)
    refine cond_d (((x33.length : Nat) : Int) < width) rfl (fun hc46 => ?_) (fun hc46 => ?_)
    rotate_left
    · refine wp_exit ?_
      refine then_x ?_
      refine then_x ?_
      refine blk_x ?_
      refine then_n ?_
      exact ⟨x33, (fun qq => List.getD [.string (tx x33), .int .i64 ((x33.length : Nat) : Int), .int .i64 (width), .bool (decide (((x33.length : Nat) : Int) < width)), u1 4, u1 5] qq undef), (hi36.trans (show rfield_m_b1 s width y13 (rfield_m_l1 s width y13 k35) x33 = .inl x33 from by unfold rfield_m_b1; rw [if_neg hc46] <;> rfl)), (by first | omega | (simp; done) | (simp; omega) | (simp at *; omega)), rfl, hm40⟩
    refine wp_skip ?_
    refine then_n (hK44 _ _ ?_)
    refine wp_block ?_
    refine wp_region_lit ?_
    refine lvw 25 (.string (tx x33)) rfl rfl (run_mv rfl rfl) ?_
    simp only [nz1, nz2, nz3]
    refine lvw 26 (.string (tx (x33 ++ [0]))) rfl rfl (t_cat x33 ([0]) (by first | omega | (simp; omega) | (simp only [List.length_append, List.length_cons, List.length_nil] at *; omega)) rfl rfl rfl) ?_
    simp only [nz1, nz2, nz3]
    refine lvw 0 (.string (tx (x33 ++ [0]))) rfl rfl (run_as rfl rfl) ?_
    simp only [nz1, nz2]
    refine wpList_nil ?_
    refine blk_n ?_
    refine then_n (hR41 _ _ _ ⟨k35, (x33 ++ [0]), (fun qq => List.getD [.string (tx x33), .int .i64 ((x33.length : Nat) : Int), .int .i64 (width), .bool (decide (((x33.length : Nat) : Int) < width)), .string (tx x33), .string (tx (x33 ++ [0]))] qq undef), rfl, (by first | omega | (simp; omega) | (simp at *; omega)), (hi36.trans (show rfield_m_b1 s width y13 (rfield_m_l1 s width y13 k35) x33 = rfield_m_l1 s width y13 k35 (x33 ++ [0]) from by unfold rfield_m_b1; rw [if_pos hc46] <;> rfl)), (by first | omega | (simp; omega) | (simp only [List.length_append, List.length_cons, List.length_nil] at *; omega)), rfl, hm40⟩ ?_)
    omega
  rintro _ w47 ⟨y37, yu1, hx38, hfl, rfl, hm48⟩
  have hq49 : rfield_m s width = rfield_m_k1 s width y13 y37 := (hq31.trans (show rfield_m_k0 s width y13 = rfield_m_k1 s width y13 y37 from by unfold rfield_m_k0; rw [hx38] <;> rfl))
  refine then_n (hK32 _ _ ?_)
  refine wp_seq_k (fun K50 hK50 => ?_)
  refine wp_region_lit ?_
  refine lvw 27 (.string (tx y37)) rfl rfl (run_mv rfl rfl) ?_
  simp only [nz1, nz2, nz3]
  refine lvw 4 (.string (tx y37)) rfl rfl (run_as rfl rfl) ?_
  simp only [nz1, nz2, nz3]
  refine lvw 5 (.bool true) rfl rfl (run_as rfl rfl) ?_
  simp only [nz1, nz2, nz3]
  refine wpList_nil ?_
  refine then_n (hK50 _ _ ?_)
  refine wp_ret ?_
  have he51 : rfield_m s width = (y37, true) := (hq49.trans (show rfield_m_k1 s width y13 y37 = (y37, true) from by unfold rfield_m_k1; rfl))
  exact ⟨rfl, .tuple #[.string (tx y37), .bool true], res_tt rfl rfl rfl, ⟨by (rw [he51]; try rfl), hm48.below⟩⟩
theorem run_rfield {o : Oper} {a : Act} {w : World} {x0 x1 : Operand} {v0 v1 : Value} (ho : o.op = .call { callee := .value (.func 38), args := #[x0, x1], argTypes := #[9, 3] }) (h0 : a.eval x0 = v0) (h1 : a.eval x1 = v1) :
    (execOp a.eval o).run Tryd.prog w = .ok (.enter 38 #[v0, v1]) w := by
  unfold execOp
  simp only [ho]
  have hf : a.eval (.func 38) = .func (.func 38) #[] #[] := rfl
  generalize a.eval = f at *
  go_simp
end Go.Proofs.YtglnifckngcpkaaDoor.Hd
