/- Layer 16: the document's numbers and sectors. Layer 16: the document's numbers and sectors are the program's. Layer 16: the document's log. Layer 16: the document's log is the program's: beginnings, epochs, what stands behind the log. -/
import Derived.Test.YtnmaaijeamlplaaDoorReH
import Derived.Test.YtnmaaijeamlplaaDoorReG
namespace Go.Proofs.YtnmaaijeamlplaaDoor.Bk
open Go.RowKit
open Go.Proofs.YtnmaaijeamlplaaDoor.Sym Go.Proofs.YtnmaaijeamlplaaDoor.Mem
open Go.Proofs.YtnmaaijeamlplaaDoor.Sx hiding Mm m_alloc m_store m_put m_call m_callx m_make m_append r_string r_ixS
set_option linter.unusedVariables false
attribute [local irreducible] right_m rright_m ready_m rready_m copied_m burn_m put_m get_m flush_m spent_m rput_m rget_m rflush_m wrote_m blank_m rnew_m same_m
attribute [local irreducible] number_m value_m fill_m beginning_m log_m fits_m lists_m epoch_m
attribute [local irreducible] home_m putall_m
attribute [local irreducible] putfl_m body_m rise_m sized_m current_m join_m sum_m
attribute [local irreducible] format_m rend_m bring_m
attribute [local irreducible] commit_m
attribute [local irreducible] wpList Oper.wp

def rlog_m (d : Dk) : Int :=
  (((d.safe.length / 4) : Nat) : Int)

set_option maxHeartbeats 4000000 in
set_option maxRecDepth 100000 in
theorem rlog_any (d : Dk) (dv0 : Value) (dv1 : Value) (w : World) (hd : DkR d dv0 dv1 w) (hp0 : d.safe.length ≤ 8796093022208) (hp1 : d.loose.length ≤ 5864062014804) : Calls Tryd.prog 14 #[.agg #[dv0, dv1, .int .i64 (d.fuse), .bool (d.down)]] w (fun e w' => e = .returned (.int .i64 ((rlog_m d))) ∧ Below w.heap.size w w') := by
  go_enter Tryd.func14, Tryd.ntmps14
  have hm00 := Mm.nil none (fun _ => True) w
  obtain ⟨Fd, hm01⟩ : ∃ Fd, Mm none (fun _ => True) w w [.see (DkR d dv0 dv1) Fd] := hm00.come (DkR_all hd)
  have hm0 := hm01
  refine wp_seq_k (fun K1 hK1 => ?_)
  refine wp_region_lit ?_
  refine lst rfl (m_alloc (c := #[dv0, dv1, .int .i64 (d.fuse), .bool (d.down)]) (T := 25) hm0 1 rfl (run_box rfl rfl) (fun g4 w2 (hm3 : Mm none (fun _ => True) w w2 [.see (DkR d dv0 dv1) Fd, .blk g4 #[dv0, dv1, .int .i64 (d.fuse), .bool (d.down)] 25]) => ?_))
  simp only [nz1, nz2, nz3]
  refine lvw 2 (.int .i64 0) rfl rfl (run_as rfl rfl) ?_
  simp only [nz1, nz2, nz3]
  refine wpList_nil ?_
  refine then_n (hK1 _ _ ?_)
  refine wp_seq_k (fun K5 hK5 => ?_)
  refine wp_region_lit ?_
  refine lvw 3 (.pointer (some ⟨g4, 0, none⟩)) rfl rfl (r_fa25_0 g4 0 rfl rfl) ?_
  simp only [nz1, nz2, nz3]
  refine lvw 4 (dv0) rfl rfl (r_load (hm3.at 1 rfl) rfl Tryd.underlying22 rfl rfl rfl) ?_
  simp only [nz1, nz2, nz3]
  refine lvw 5 (.int .i64 ((d.safe.length : Nat) : Int)) rfl rfl (s_len ((hm3.see 0 rfl).1) rfl Tryd.underlying22 rfl) ?_
  simp only [nz1, nz2, nz3]
  refine lvw 6 (.int .i64 (((d.safe.length / 4) : Nat) : Int)) rfl rfl (r_quo d.safe.length 4 (show d.safe.length < 9223372036854775808 from by omega) (by decide) rfl rfl rfl) ?_
  simp only [nz1, nz2, nz3]
  refine lvw 2 (.int .i64 (((d.safe.length / 4) : Nat) : Int)) rfl rfl (run_as rfl rfl) ?_
  simp only [nz1, nz2, nz3]
  refine wpList_nil ?_
  refine then_n (hK5 _ _ ?_)
  refine wp_ret ?_
  have he6 : rlog_m d = (((d.safe.length / 4) : Nat) : Int) := (show rlog_m d = (((d.safe.length / 4) : Nat) : Int) from by unfold rlog_m; rfl)
  exact ⟨rfl, .int .i64 (((d.safe.length / 4) : Nat) : Int), res_t rfl rfl, ⟨by (rw [he6]; try rfl), hm3.below⟩⟩
theorem run_rlog {o : Oper} {a : Act} {w : World} {x0 : Operand} {v0 : Value} (ho : o.op = .call { callee := .value (.func 14), args := #[x0], argTypes := #[25] }) (h0 : a.eval x0 = v0) :
    (execOp a.eval o).run Tryd.prog w = .ok (.enter 14 #[v0]) w := by
  unfold execOp
  simp only [ho]
  have hf : a.eval (.func 14) = .func (.func 14) #[] #[] := rfl
  generalize a.eval = f at *
  go_simp
def four_m (n : Int) : (List UInt8) :=
  ([(UInt8.ofNat ((n / 16777216) % 256).toNat), (UInt8.ofNat ((n / 65536) % 256).toNat), (UInt8.ofNat ((n / 256) % 256).toNat), (UInt8.ofNat (n % 256).toNat)] : List UInt8)

set_option maxHeartbeats 4000000 in
set_option maxRecDepth 100000 in
theorem four_any (n : Int) (w : World)   : Calls Tryd.prog 73 #[.int .i64 (n)] w (fun e w' => e = .returned (.string (tx (four_m n))) ∧ Below w.heap.size w w') := by
  go_enter Tryd.func73, Tryd.ntmps73
  have hm00 := Mm.nil none (fun _ => True) w
  have hm0 := hm00
  refine wp_seq_k (fun K1 hK1 => ?_)
  refine wp_region_lit ?_
  refine lvw 2 (.string (tx ([]))) rfl rfl (run_as rfl rfl) ?_
  simp only [nz1, nz2, nz3]
  refine wpList_nil ?_
  refine then_n (hK1 _ _ ?_)
  refine wp_seq_k (fun K2 hK2 => ?_)
  refine wp_region_lit ?_
  refine lvw 3 (.int .i64 (n)) rfl rfl (run_mv rfl rfl) ?_
  simp only [nz1, nz2, nz3]
  refine lvw 4 (.int .i64 ((n / 16777216))) rfl rfl (z_shrA n 24 _ (by decide) rfl rfl rfl rfl) ?_
  simp only [nz1, nz2, nz3]
  refine lvw 5 (.int .u8 (((UInt8.ofNat ((n / 16777216) % 256).toNat).toNat : Nat) : Int)) rfl rfl (z_conv (k' := .u8) (n / 16777216) (((UInt8.ofNat ((n / 16777216) % 256).toNat).toNat : Nat) : Int) some_3 Tryd.underlying5 (u8_wrapA _) rfl rfl) ?_
  simp only [nz1, nz2, nz3]
  refine lvw 6 (.int .i64 (n)) rfl rfl (run_mv rfl rfl) ?_
  simp only [nz1, nz2, nz3]
  refine lvw 7 (.int .i64 ((n / 65536))) rfl rfl (z_shrA n 16 _ (by decide) rfl rfl rfl rfl) ?_
  simp only [nz1, nz2, nz3]
  refine lvw 8 (.int .u8 (((UInt8.ofNat ((n / 65536) % 256).toNat).toNat : Nat) : Int)) rfl rfl (z_conv (k' := .u8) (n / 65536) (((UInt8.ofNat ((n / 65536) % 256).toNat).toNat : Nat) : Int) some_3 Tryd.underlying5 (u8_wrapA _) rfl rfl) ?_
  simp only [nz1, nz2, nz3]
  refine lvw 9 (.int .i64 (n)) rfl rfl (run_mv rfl rfl) ?_
  simp only [nz1, nz2, nz3]
  refine lvw 10 (.int .i64 ((n / 256))) rfl rfl (z_shrA n 8 _ (by decide) rfl rfl rfl rfl) ?_
  simp only [nz1, nz2, nz3]
  refine lvw 11 (.int .u8 (((UInt8.ofNat ((n / 256) % 256).toNat).toNat : Nat) : Int)) rfl rfl (z_conv (k' := .u8) (n / 256) (((UInt8.ofNat ((n / 256) % 256).toNat).toNat : Nat) : Int) some_3 Tryd.underlying5 (u8_wrapA _) rfl rfl) ?_
  simp only [nz1, nz2, nz3]
  refine lvw 12 (.int .i64 (n)) rfl rfl (run_mv rfl rfl) ?_
  simp only [nz1, nz2, nz3]
  refine lvw 13 (.int .u8 (((UInt8.ofNat (n % 256).toNat).toNat : Nat) : Int)) rfl rfl (z_conv (k' := .u8) n (((UInt8.ofNat (n % 256).toNat).toNat : Nat) : Int) some_3 Tryd.underlying5 (u8_wrapA _) rfl rfl) ?_
  simp only [nz1, nz2, nz3]
  refine lst rfl (m_make (c := #[.int .u8 (((UInt8.ofNat ((n / 16777216) % 256).toNat).toNat : Nat) : Int), .int .u8 (((UInt8.ofNat ((n / 65536) % 256).toNat).toNat : Nat) : Int), .int .u8 (((UInt8.ofNat ((n / 256) % 256).toNat).toNat : Nat) : Int), .int .u8 (((UInt8.ofNat (n % 256).toNat).toNat : Nat) : Int)]) (T := 5) (fun g => .slice (some ⟨g, 0, none⟩) 4 4) hm0 14 rfl (by unfold execOp; go_simp; try rfl) (fun g5 w3 (hm4 : Mm none (fun _ => True) w w3 [.blk g5 #[.int .u8 (((UInt8.ofNat ((n / 16777216) % 256).toNat).toNat : Nat) : Int), .int .u8 (((UInt8.ofNat ((n / 65536) % 256).toNat).toNat : Nat) : Int), .int .u8 (((UInt8.ofNat ((n / 256) % 256).toNat).toNat : Nat) : Int), .int .u8 (((UInt8.ofNat (n % 256).toNat).toNat : Nat) : Int)] 5]) => ?_))
  simp only [nz1, nz2, nz3]
  refine lvw 15 (.string (tx ([(UInt8.ofNat ((n / 16777216) % 256).toNat), (UInt8.ofNat ((n / 65536) % 256).toNat), (UInt8.ofNat ((n / 256) % 256).toNat), (UInt8.ofNat (n % 256).toNat)] : List UInt8))) rfl rfl (r_stringR ([(UInt8.ofNat ((n / 16777216) % 256).toNat), (UInt8.ofNat ((n / 65536) % 256).toNat), (UInt8.ofNat ((n / 256) % 256).toNat), (UInt8.ofNat (n % 256).toNat)]) (by have h := Rs.blk (enc := eB) (l := ([(UInt8.ofNat ((n / 16777216) % 256).toNat), (UInt8.ofNat ((n / 65536) % 256).toNat), (UInt8.ofNat ((n / 256) % 256).toNat), (UInt8.ofNat (n % 256).toNat)] : List UInt8)) (hm4.at 0 rfl) rfl rfl eB_len (Nat.le_refl _); unfold Rs at h; rw [eB_map] at h; exact h) Tryd.underlying43 Tryd.underlying5 Tryd.underlying9 rfl rfl) ?_
  simp only [nz1, nz2, nz3]
  refine lvw 2 (.string (tx ([(UInt8.ofNat ((n / 16777216) % 256).toNat), (UInt8.ofNat ((n / 65536) % 256).toNat), (UInt8.ofNat ((n / 256) % 256).toNat), (UInt8.ofNat (n % 256).toNat)] : List UInt8))) rfl rfl (run_as rfl rfl) ?_
  simp only [nz1, nz2, nz3]
  refine wpList_nil ?_
  refine then_n (hK2 _ _ ?_)
  refine wp_ret ?_
  have he6 : four_m n = ([(UInt8.ofNat ((n / 16777216) % 256).toNat), (UInt8.ofNat ((n / 65536) % 256).toNat), (UInt8.ofNat ((n / 256) % 256).toNat), (UInt8.ofNat (n % 256).toNat)] : List UInt8) := (show four_m n = ([(UInt8.ofNat ((n / 16777216) % 256).toNat), (UInt8.ofNat ((n / 65536) % 256).toNat), (UInt8.ofNat ((n / 256) % 256).toNat), (UInt8.ofNat (n % 256).toNat)] : List UInt8) from by unfold four_m; rfl)
  exact ⟨rfl, .string (tx ([(UInt8.ofNat ((n / 16777216) % 256).toNat), (UInt8.ofNat ((n / 65536) % 256).toNat), (UInt8.ofNat ((n / 256) % 256).toNat), (UInt8.ofNat (n % 256).toNat)] : List UInt8)), res_t rfl rfl, ⟨by (rw [he6]; try rfl), hm4.below⟩⟩
theorem run_four {o : Oper} {a : Act} {w : World} {x0 : Operand} {v0 : Value} (ho : o.op = .call { callee := .value (.func 73), args := #[x0], argTypes := #[3] }) (h0 : a.eval x0 = v0) :
    (execOp a.eval o).run Tryd.prog w = .ok (.enter 73 #[v0]) w := by
  unfold execOp
  simp only [ho]
  have hf : a.eval (.func 73) = .func (.func 73) #[] #[] := rfl
  generalize a.eval = f at *
  go_simp
def eight_m (n : Int) : (List UInt8) :=
  ((four_m (n / 4294967296)) ++ (four_m n))

set_option maxHeartbeats 4000000 in
set_option maxRecDepth 100000 in
theorem eight_any (n : Int) (w : World)   : Calls Tryd.prog 62 #[.int .i64 (n)] w (fun e w' => e = .returned (.string (tx (eight_m n))) ∧ Below w.heap.size w w') := by
  go_enter Tryd.func62, Tryd.ntmps62
  have hm00 := Mm.nil none (fun _ => True) w
  have hm0 := hm00
  refine wp_seq_k (fun K1 hK1 => ?_)
  refine wp_region_lit ?_
  refine lvw 2 (.string (tx ([]))) rfl rfl (run_as rfl rfl) ?_
  simp only [nz1, nz2, nz3]
  refine wpList_nil ?_
  refine then_n (hK1 _ _ ?_)
  refine wp_seq_k (fun K2 hK2 => ?_)
  refine wp_region_lit ?_
  refine lvw 3 (.int .i64 (n)) rfl rfl (run_mv rfl rfl) ?_
  simp only [nz1, nz2, nz3]
  refine lvw 4 (.int .i64 ((n / 4294967296))) rfl rfl (z_shrA n 32 _ (by decide) rfl rfl rfl rfl) ?_
  simp only [nz1, nz2, nz3]
  refine lst rfl (m_call hm0 5 (.string (tx (four_m (n / 4294967296)))) rfl (run_four rfl rfl) (four_any (n / 4294967296)  _  ) (fun w3 (hm4 : Mm none (fun _ => True) w w3 []) => ?_))
  have hf5 : (four_m (n / 4294967296)).length = 4 := rfl
  simp only [nz1, nz2, nz3]
  refine lvw 6 (.int .i64 (n)) rfl rfl (run_mv rfl rfl) ?_
  simp only [nz1, nz2, nz3]
  refine lst rfl (m_call hm4 7 (.string (tx (four_m n))) rfl (run_four rfl rfl) (four_any n  _  ) (fun w6 (hm7 : Mm none (fun _ => True) w w6 []) => ?_))
  have hf8 : (four_m n).length = 4 := rfl
  simp only [nz1, nz2, nz3]
  refine lvw 8 (.string (tx ((four_m (n / 4294967296)) ++ (four_m n)))) rfl rfl (t_cat (four_m (n / 4294967296)) (four_m n) (by first | omega | (simp; omega) | (simp only [List.length_append, List.length_cons, List.length_nil] at *; omega)) rfl rfl rfl) ?_
  simp only [nz1, nz2, nz3]
  refine lvw 2 (.string (tx ((four_m (n / 4294967296)) ++ (four_m n)))) rfl rfl (run_as rfl rfl) ?_
  simp only [nz1, nz2, nz3]
  refine wpList_nil ?_
  refine then_n (hK2 _ _ ?_)
  refine wp_ret ?_
  have he9 : eight_m n = ((four_m (n / 4294967296)) ++ (four_m n)) := (show eight_m n = ((four_m (n / 4294967296)) ++ (four_m n)) from by unfold eight_m; rfl)
  exact ⟨rfl, .string (tx ((four_m (n / 4294967296)) ++ (four_m n))), res_t rfl rfl, ⟨by (rw [he9]; try rfl), hm7.below⟩⟩
theorem run_eight {o : Oper} {a : Act} {w : World} {x0 : Operand} {v0 : Value} (ho : o.op = .call { callee := .value (.func 62), args := #[x0], argTypes := #[3] }) (h0 : a.eval x0 = v0) :
    (execOp a.eval o).run Tryd.prog w = .ok (.enter 62 #[v0]) w := by
  unfold execOp
  simp only [ho]
  have hf : a.eval (.func 62) = .func (.func 62) #[] #[] := rfl
  generalize a.eval = f at *
  go_simp
def rread_m_b0 (s : List UInt8) (rec : Int × Nat → Sum (Int × Nat) (Int)) (x5 : Int) (x6 : Nat) : Sum (Int × Nat) (Int) :=
  if x6 < s.length then
    rec (((w64 (x5 * 256)) + ((by' s x6 : Nat) : Int)), (x6 + 1))
  else
    .inl (x5, x6)
def rread_m_l0 (s : List UInt8) : Nat → Int × Nat → Sum (Int × Nat) (Int)
  | 0, zz => .inl zz
  | nq + 1, zz => rread_m_b0 s (rread_m_l0 s nq) zz.1 zz.2

def rread_m_k0 (s : List UInt8) (y10 : Int) (y11 : Nat) : Int :=
  y10

def rread_m (s : List UInt8) : Int :=
  fin (rread_m_l0 s ((s.length - 0) + 1) (0, 0)) (fun r => r) (fun zz => rread_m_k0 s zz.1 zz.2)

set_option maxHeartbeats 4000000 in
set_option maxRecDepth 100000 in
theorem rread_any (s : List UInt8) (w : World)  (hp0 : s.length ≤ 1048576) : Calls Tryd.prog 33 #[.string (tx s)] w (fun e w' => e = .returned (.int .i64 ((rread_m s))) ∧ Below w.heap.size w w') := by
  go_enter Tryd.func33, Tryd.ntmps33
  have hm00 := Mm.nil none (fun _ => True) w
  have hm0 := hm00
  refine wp_seq_k (fun K1 hK1 => ?_)
  refine wp_region_lit ?_
  refine lvw 2 (.int .i64 0) rfl rfl (run_as rfl rfl) ?_
  simp only [nz1, nz2, nz3]
  refine wpList_nil ?_
  refine then_n (hK1 _ _ ?_)
  refine wp_seq_k (fun K2 hK2 => ?_)
  refine wp_region_lit ?_
  refine lvw 3 (.int .i64 0) rfl rfl (run_as rfl rfl) ?_
  simp only [nz1, nz2, nz3]
  refine wpList_nil ?_
  refine then_n (hK2 _ _ ?_)
  refine wp_seq_k (fun K3 hK3 => ?_)
  refine wp_seq_k (fun K4 hK4 => ?_)
  refine wp_region_lit ?_
  refine lvw 4 (.int .i64 0) rfl rfl (run_as rfl rfl) ?_
  simp only [nz1, nz2, nz3]
  refine wpList_nil ?_
  refine then_n (hK4 _ _ ?_)
  refine wp_cutK (fun a' w' => ∃ (y10 : Int) (y11 : Nat) (yu0 : Nat → Value), rread_m_l0 s ((s.length - 0) + 1) (0, 0) = .inl (y10, y11) ∧ a' = ⟨#[.string (tx s), undef, .int .i64 0, .int .i64 (y10), .int .i64 ((y11 : Nat) : Int), yu0 0, yu0 1, yu0 2, yu0 3, yu0 4, yu0 5, yu0 6, yu0 7, yu0 8, yu0 9, yu0 10, yu0 11, yu0 12, undef], []⟩ ∧ Mm none (fun _ => True) w w' []) ?_ ?_
  · refine wp_block ?_
    refine wp_loop_n (fun n' a' w' => ∃ (n7 : Nat) (x5 : Int) (x6 : Nat) (u0 : Nat → Value), n' = n7 ∧ (s.length - x6) < n7 ∧ rread_m_l0 s ((s.length - 0) + 1) (0, 0) = rread_m_l0 s n7 (x5, x6) ∧ a' = ⟨#[.string (tx s), undef, .int .i64 0, .int .i64 (x5), .int .i64 ((x6 : Nat) : Int), u0 0, u0 1, u0 2, u0 3, u0 4, u0 5, u0 6, u0 7, u0 8, u0 9, u0 10, u0 11, u0 12, undef], []⟩ ∧ Mm none (fun _ => True) w w' []) ⟨((s.length - 0) + 1), 0, 0, (fun qq => List.getD [undef, undef, undef, undef, undef, undef, undef, undef, undef, undef, undef, undef, undef] qq undef), rfl, Nat.lt_succ_self _, rfl, rfl, hm0⟩ ?_
    rintro n7 _ w13 ⟨_, x5, x6, u0, rfl, hl17, hi9, rfl, hm14⟩ R15 hR15
    obtain ⟨k8, rfl⟩ : ∃ k, n7 = k + 1 := ⟨n7 - 1, by omega⟩
    refine wp_seq_k (fun K18 hK18 => ?_)
    refine wp_seq_k (fun K19 hK19 => ?_)
    refine wp_region_lit ?_
    refine lvw 5 (.int .i64 ((x6 : Nat) : Int)) rfl rfl (run_mv rfl rfl) ?_
    simp only [nz1, nz2, nz3]
    refine lvw 6 (.string (tx s)) rfl rfl (run_mv rfl rfl) ?_
    simp only [nz1, nz2, nz3]
    refine lvw 7 (.int .i64 ((s.length : Nat) : Int)) rfl rfl (t_len rfl Tryd.underlying9 rfl) ?_
    simp only [nz1, nz2, nz3]
    refine lvw 8 (.bool (decide (x6 < s.length))) rfl rfl (r_lss x6 s.length rfl rfl rfl) ?_
    simp only [nz1, nz2, nz3]
    refine wpList_nil ?_
    refine then_n (hK19 _ _ ?_)
    refine cond_d (x6 < s.length) rfl (fun hc20 => ?_) (fun hc20 => ?_)
    rotate_left
    · refine wp_exit ?_
      refine then_x ?_
      refine then_x ?_
      refine blk_x ?_
      refine then_n ?_
      exact ⟨x5, x6, (fun qq => List.getD [.int .i64 ((x6 : Nat) : Int), .string (tx s), .int .i64 ((s.length : Nat) : Int), .bool (decide (x6 < s.length)), u0 4, u0 5, u0 6, u0 7, u0 8, u0 9, u0 10, u0 11, u0 12] qq undef), (hi9.trans (show rread_m_b0 s (rread_m_l0 s k8) x5 x6 = .inl (x5, x6) from by unfold rread_m_b0; rw [if_neg hc20] <;> rfl)), rfl, hm14⟩
    refine wp_skip ?_
    refine then_n (hK18 _ _ ?_)
    refine wp_seq_k (fun K21 hK21 => ?_)
    refine wp_block ?_
    refine wp_region_lit ?_
    refine lvw 11 (.int .i64 (x5)) rfl rfl (run_mv rfl rfl) ?_
    simp only [nz1, nz2, nz3]
    refine lvw 12 (.int .i64 ((w64 (x5 * 256)))) rfl rfl (z_shl8 x5 rfl rfl rfl) ?_
    simp only [nz1, nz2, nz3]
    refine lvw 13 (.string (tx s)) rfl rfl (run_mv rfl rfl) ?_
    simp only [nz1, nz2, nz3]
    refine lvw 14 (.int .i64 ((x6 : Nat) : Int)) rfl rfl (run_mv rfl rfl) ?_
    simp only [nz1, nz2, nz3]
    refine lvw 15 (.int .u8 ((by' s x6 : Nat) : Int)) rfl rfl (t_char s x6 (by omega) Tryd.underlying9 rfl rfl rfl) ?_
    simp only [nz1, nz2, nz3]
    refine lvw 16 (.int .i64 ((by' s x6 : Nat) : Int)) rfl rfl (r_conv (k' := .i64) (by' s x6) (by' s x6) some_5 Tryd.underlying3 (wrap_nat (by have := by_lt s x6; show _ < 9223372036854775808; omega)) rfl rfl) ?_
    simp only [nz1, nz2, nz3]
    refine lvw 17 (.int .i64 (((w64 (x5 * 256)) + ((by' s x6 : Nat) : Int)))) rfl rfl (z_or8 (w64 (x5 * 256)) (by' s x6) (w64_low x5).1 (w64_low x5).2.1 (w64_low x5).2.2 (by_lt _ _) rfl rfl rfl) ?_
    simp only [nz1, nz2, nz3]
    refine lvw 3 (.int .i64 (((w64 (x5 * 256)) + ((by' s x6 : Nat) : Int)))) rfl rfl (run_as rfl rfl) ?_
    simp only [nz1, nz2, nz3]
    refine wpList_nil ?_
    refine blk_n ?_
    refine then_n (hK21 _ _ ?_)
    refine wp_region_lit ?_
    refine lvw 9 (.int .i64 ((x6 : Nat) : Int)) rfl rfl (run_mv rfl rfl) ?_
    simp only [nz1, nz2, nz3]
    refine lvw 10 (.int .i64 (((x6 + 1) : Nat) : Int)) rfl rfl (r_add x6 1 (show (x6 + 1) < 9223372036854775808 from by omega) rfl rfl rfl) ?_
    simp only [nz1, nz2, nz3]
    refine lvw 4 (.int .i64 (((x6 + 1) : Nat) : Int)) rfl rfl (run_as rfl rfl) ?_
    simp only [nz1, nz2, nz3]
    refine wpList_nil ?_
    refine then_n (hR15 _ _ _ ⟨k8, ((w64 (x5 * 256)) + ((by' s x6 : Nat) : Int)), (x6 + 1), (fun qq => List.getD [.int .i64 ((x6 : Nat) : Int), .string (tx s), .int .i64 ((s.length : Nat) : Int), .bool (decide (x6 < s.length)), .int .i64 ((x6 : Nat) : Int), .int .i64 (((x6 + 1) : Nat) : Int), .int .i64 (x5), .int .i64 ((w64 (x5 * 256))), .string (tx s), .int .i64 ((x6 : Nat) : Int), .int .u8 ((by' s x6 : Nat) : Int), .int .i64 ((by' s x6 : Nat) : Int), .int .i64 (((w64 (x5 * 256)) + ((by' s x6 : Nat) : Int)))] qq undef), rfl, (by first | omega | (simp; omega) | (simp at *; omega)), (hi9.trans (show rread_m_b0 s (rread_m_l0 s k8) x5 x6 = rread_m_l0 s k8 (((w64 (x5 * 256)) + ((by' s x6 : Nat) : Int)), (x6 + 1)) from by unfold rread_m_b0; rw [if_pos hc20] <;> rfl)), rfl, hm14⟩ ?_)
    omega
  rintro _ w22 ⟨y10, y11, yu0, hx12, rfl, hm23⟩
  have hq24 : rread_m s = rread_m_k0 s y10 y11 := (show rread_m s = rread_m_k0 s y10 y11 from by unfold rread_m; rw [hx12] <;> rfl)
  refine then_n (hK3 _ _ ?_)
  refine wp_seq_k (fun K25 hK25 => ?_)
  refine wp_region_lit ?_
  refine lvw 18 (.int .i64 (y10)) rfl rfl (run_mv rfl rfl) ?_
  simp only [nz1, nz2, nz3]
  refine lvw 2 (.int .i64 (y10)) rfl rfl (run_as rfl rfl) ?_
  simp only [nz1, nz2, nz3]
  refine wpList_nil ?_
  refine then_n (hK25 _ _ ?_)
  refine wp_ret ?_
  have he26 : rread_m s = y10 := (hq24.trans (show rread_m_k0 s y10 y11 = y10 from by unfold rread_m_k0; rfl))
  exact ⟨rfl, .int .i64 (y10), res_t rfl rfl, ⟨by (rw [he26]; try rfl), hm23.below⟩⟩
theorem run_rread {o : Oper} {a : Act} {w : World} {x0 : Operand} {v0 : Value} (ho : o.op = .call { callee := .value (.func 33), args := #[x0], argTypes := #[9] }) (h0 : a.eval x0 = v0) :
    (execOp a.eval o).run Tryd.prog w = .ok (.enter 33 #[v0]) w := by
  unfold execOp
  simp only [ho]
  have hf : a.eval (.func 33) = .func (.func 33) #[] #[] := rfl
  generalize a.eval = f at *
  go_simp
def rfull_m_b0 (s : List UInt8) (rec : (List UInt8) → Sum ((List UInt8)) ((List UInt8))) (x3 : List UInt8) : Sum ((List UInt8)) ((List UInt8)) :=
  if x3.length < 256 then
    rec (x3 ++ [0])
  else
    .inl x3
def rfull_m_l0 (s : List UInt8) : Nat → (List UInt8) → Sum ((List UInt8)) ((List UInt8))
  | 0, zz => .inl zz
  | nq + 1, zz => rfull_m_b0 s (rfull_m_l0 s nq) zz

def rfull_m_k0 (s : List UInt8) (y7 : List UInt8) : (List UInt8) :=
  y7

def rfull_m (s : List UInt8) : (List UInt8) :=
  fin (rfull_m_l0 s ((256 - s.length) + 1) s) (fun r => r) (fun zz => rfull_m_k0 s zz)

set_option maxHeartbeats 4000000 in
set_option maxRecDepth 100000 in
theorem rfull_any (s : List UInt8) (w : World)  (hp0 : s.length ≤ 256) : Calls Tryd.prog 42 #[.string (tx s)] w (fun e w' => e = .returned (.string (tx (rfull_m s))) ∧ Below w.heap.size w w') := by
  go_enter Tryd.func42, Tryd.ntmps42
  have hm00 := Mm.nil none (fun _ => True) w
  have hm0 := hm00
  refine wp_seq_k (fun K1 hK1 => ?_)
  refine wp_region_lit ?_
  refine lvw 2 (.string (tx ([]))) rfl rfl (run_as rfl rfl) ?_
  simp only [nz1, nz2, nz3]
  refine wpList_nil ?_
  refine then_n (hK1 _ _ ?_)
  refine wp_seq_k (fun K2 hK2 => ?_)
  refine wp_cutK (fun a' w' => ∃ (y7 : List UInt8) (yu0 : Nat → Value), rfull_m_l0 s ((256 - s.length) + 1) s = .inl y7 ∧ (y7.length ≤ 256) ∧ a' = ⟨#[.string (tx y7), undef, .string (tx ([])), yu0 0, yu0 1, yu0 2, yu0 3, yu0 4, undef], []⟩ ∧ Mm none (fun _ => True) w w' []) ?_ ?_
  · refine wp_block ?_
    refine wp_loop_n (fun n' a' w' => ∃ (n4 : Nat) (x3 : List UInt8) (u0 : Nat → Value), n' = n4 ∧ (256 - x3.length) < n4 ∧ rfull_m_l0 s ((256 - s.length) + 1) s = rfull_m_l0 s n4 x3 ∧ (x3.length ≤ 256) ∧ a' = ⟨#[.string (tx x3), undef, .string (tx ([])), u0 0, u0 1, u0 2, u0 3, u0 4, undef], []⟩ ∧ Mm none (fun _ => True) w w' []) ⟨((256 - s.length) + 1), s, (fun qq => List.getD [undef, undef, undef, undef, undef] qq undef), rfl, Nat.lt_succ_self _, rfl, (by omega), rfl, hm0⟩ ?_
    rintro n4 _ w9 ⟨_, x3, u0, rfl, hl13, hi6, hbl, rfl, hm10⟩ R11 hR11
    obtain ⟨k5, rfl⟩ : ∃ k, n4 = k + 1 := ⟨n4 - 1, by omega⟩
    refine wp_seq_k (fun K14 hK14 => ?_)
    refine wp_seq_k (fun K15 hK15 => ?_)
    refine wp_region_lit ?_
    refine lvw 3 (.string (tx x3)) rfl rfl (run_mv rfl rfl) ?_
    simp only [nz1, nz2, nz3]
    refine lvw 4 (.int .i64 ((x3.length : Nat) : Int)) rfl rfl (t_len rfl Tryd.underlying9 rfl) ?_
    simp only [nz1, nz2, nz3]
    refine lvw 5 (.bool (decide (x3.length < 256))) rfl rfl (r_lss x3.length 256 rfl rfl rfl) ?_
    simp only [nz1, nz2, nz3]
    refine wpList_nil ?_
    refine then_n (hK15 _ _ ?_)
    refine cond_d (x3.length < 256) rfl (fun hc16 => ?_) (fun hc16 => ?_)
    rotate_left
    · refine wp_exit ?_
      refine then_x ?_
      refine then_x ?_
      refine blk_x ?_
      refine then_n ?_
      exact ⟨x3, (fun qq => List.getD [.string (tx x3), .int .i64 ((x3.length : Nat) : Int), .bool (decide (x3.length < 256)), u0 3, u0 4] qq undef), (hi6.trans (show rfull_m_b0 s (rfull_m_l0 s k5) x3 = .inl x3 from by unfold rfull_m_b0; rw [if_neg hc16] <;> rfl)), hbl, rfl, hm10⟩
    refine wp_skip ?_
    refine then_n (hK14 _ _ ?_)
    refine wp_block ?_
    refine wp_region_lit ?_
    refine lvw 6 (.string (tx x3)) rfl rfl (run_mv rfl rfl) ?_
    simp only [nz1, nz2, nz3]
    refine lvw 7 (.string (tx (x3 ++ [0]))) rfl rfl (t_cat x3 ([0]) (by first | omega | (simp; omega)) rfl rfl rfl) ?_
    simp only [nz1, nz2, nz3]
    refine lvw 0 (.string (tx (x3 ++ [0]))) rfl rfl (run_as rfl rfl) ?_
    simp only [nz1, nz2]
    refine wpList_nil ?_
    refine blk_n ?_
    refine then_n (hR11 _ _ _ ⟨k5, (x3 ++ [0]), (fun qq => List.getD [.string (tx x3), .int .i64 ((x3.length : Nat) : Int), .bool (decide (x3.length < 256)), .string (tx x3), .string (tx (x3 ++ [0]))] qq undef), rfl, (by rw [List.length_append, List.length_singleton]; omega), (hi6.trans (show rfull_m_b0 s (rfull_m_l0 s k5) x3 = rfull_m_l0 s k5 (x3 ++ [0]) from by unfold rfull_m_b0; rw [if_pos hc16] <;> rfl)), (by rw [List.length_append, List.length_singleton]; omega), rfl, hm10⟩ ?_)
    omega
  rintro _ w17 ⟨y7, yu0, hx8, hbl, rfl, hm18⟩
  have hq19 : rfull_m s = rfull_m_k0 s y7 := (show rfull_m s = rfull_m_k0 s y7 from by unfold rfull_m; rw [hx8] <;> rfl)
  refine then_n (hK2 _ _ ?_)
  refine wp_seq_k (fun K20 hK20 => ?_)
  refine wp_region_lit ?_
  refine lvw 8 (.string (tx y7)) rfl rfl (run_mv rfl rfl) ?_
  simp only [nz1, nz2, nz3]
  refine lvw 2 (.string (tx y7)) rfl rfl (run_as rfl rfl) ?_
  simp only [nz1, nz2, nz3]
  refine wpList_nil ?_
  refine then_n (hK20 _ _ ?_)
  refine wp_ret ?_
  have he21 : rfull_m s = y7 := (hq19.trans (show rfull_m_k0 s y7 = y7 from by unfold rfull_m_k0; rfl))
  exact ⟨rfl, .string (tx y7), res_t rfl rfl, ⟨by (rw [he21]; try rfl), hm18.below⟩⟩
theorem run_rfull {o : Oper} {a : Act} {w : World} {x0 : Operand} {v0 : Value} (ho : o.op = .call { callee := .value (.func 42), args := #[x0], argTypes := #[9] }) (h0 : a.eval x0 = v0) :
    (execOp a.eval o).run Tryd.prog w = .ok (.enter 42 #[v0]) w := by
  unfold execOp
  simp only [ho]
  have hf : a.eval (.func 42) = .func (.func 42) #[] #[] := rfl
  generalize a.eval = f at *
  go_simp
end Go.Proofs.YtnmaaijeamlplaaDoor.Bk

set_option linter.unusedVariables false
namespace Go.Proofs.YtnmaaijeamlplaaDoor.Bk
open Go.RowKit Go.Proofs.YtnmaaijeamlplaaDoor.Mem
theorem four_is (n : Int) : four_m n = number_m n 4 := by
  have h1 : n / 16777216 = n / 256 / 256 / 256 := by omega
  have h2 : n / 65536 = n / 256 / 256 := by omega
  unfold four_m number_m
  rw [h1, h2]
  rfl
theorem eight_is (n : Int) : eight_m n = number_m n 8 := by
  have h1 : n / 4294967296 / 16777216 = n / 256 / 256 / 256 / 256 / 256 / 256 / 256 := by omega
  have h2 : n / 4294967296 / 65536 = n / 256 / 256 / 256 / 256 / 256 / 256 := by omega
  have h3 : n / 4294967296 / 256 = n / 256 / 256 / 256 / 256 / 256 := by omega
  have h4 : n / 4294967296 = n / 256 / 256 / 256 / 256 := by omega
  have h5 : n / 16777216 = n / 256 / 256 / 256 := by omega
  have h6 : n / 65536 = n / 256 / 256 := by omega
  unfold eight_m four_m number_m
  rw [h1, h2, h3, h4, h5, h6]
  rfl
theorem rread_is (s : List UInt8) : rread_m s = value_m s := by
  have a : ∀ k z, rread_m_l0 s k z = value_m_l0 s k z := by
    intro k
    induction k with
    | zero => intro z; rfl
    | succ k ih =>
      intro z
      show rread_m_b0 s _ z.1 z.2 = value_m_b0 s _ z.1 z.2
      unfold rread_m_b0 value_m_b0
      split
      · exact ih _
      · rfl
  unfold rread_m value_m
  rw [a]
  rfl
theorem rfull_l (s : List UInt8) : ∀ k (x : List UInt8), 256 ≤ x.length + k → x.length ≤ 256 → fin (rfull_m_l0 s (k + 1) x) (fun r => r) (fun zz => rfull_m_k0 s zz) = x ++ List.replicate (256 - x.length) 0
  | k, x, h, hx => by
    show fin (rfull_m_b0 s (rfull_m_l0 s k) x) _ _ = _
    unfold rfull_m_b0
    by_cases h1 : x.length < 256
    · rw [if_pos h1]
      match k, h with
      | 0, h => omega
      | k + 1, h =>
        rw [rfull_l s k _ (by rw [List.length_append, List.length_singleton]; omega) (by rw [List.length_append, List.length_singleton]; omega), List.length_append, List.length_singleton, show 256 - x.length = (256 - (x.length + 1)) + 1 by omega, List.replicate_succ, List.append_assoc]
        rfl
    · rw [if_neg h1, show 256 - x.length = 0 by omega]
      show x = x ++ []
      rw [List.append_nil]
theorem rep0_is (n : Int) : rep_m [0] n = List.replicate n.toNat 0 := by
  have key : ∀ k : Nat, Lib.repeatL ([0] : List UInt8) k = List.replicate k 0 := by
    intro k
    induction k with
    | zero => rfl
    | succ k ih =>
      show ([0] ++ Lib.repeatL [0] k) = _
      rw [ih]
      rfl
  unfold rep_m
  exact key _
theorem rfull_is (s : List UInt8) (h : s.length ≤ 256) : rfull_m s = fill_m s := by
  unfold rfull_m
  rw [rfull_l s (256 - s.length) s (by omega) h]
  unfold fill_m
  rw [rep0_is (256 - ((s.length : Nat) : Int))]
  congr 2
  omega
theorem rfull_len (s : List UInt8) (h : s.length ≤ 256) : (rfull_m s).length = 256 := by rw [rfull_is s h]; exact rfill_len s h
theorem eight_len (n : Int) : (eight_m n).length = 8 := rfl
theorem rget_len (d : Dk) (at_ : Int) : ¬ (rget_m d at_).2 = 0 ∨ (rget_m d at_).1.length = 256 := by
  rw [← get_eq]
  exact get_len d at_
theorem rlog_is (d : Dk) : rlog_m d = log_m d := rfl
theorem rlog_len (d : Dk) : rlog_m d = (((d.safe.length / 4 : Nat)) : Int) := (rlog_is d).trans (log_is d)
theorem four_len (n : Int) : (four_m n).length = 4 := rfl
end Go.Proofs.YtnmaaijeamlplaaDoor.Bk

namespace Go.Proofs.YtnmaaijeamlplaaDoor.Bk
open Go.RowKit
open Go.Proofs.YtnmaaijeamlplaaDoor.Sym Go.Proofs.YtnmaaijeamlplaaDoor.Mem
open Go.Proofs.YtnmaaijeamlplaaDoor.Sx hiding Mm m_alloc m_store m_put m_call m_callx m_make m_append r_string r_ixS
set_option linter.unusedVariables false
attribute [local irreducible] right_m rright_m ready_m rready_m copied_m burn_m put_m get_m flush_m spent_m rput_m rget_m rflush_m wrote_m blank_m rnew_m same_m
attribute [local irreducible] number_m value_m fill_m beginning_m log_m fits_m lists_m epoch_m
attribute [local irreducible] home_m putall_m
attribute [local irreducible] putfl_m body_m rise_m sized_m current_m join_m sum_m
attribute [local irreducible] format_m rend_m bring_m
attribute [local irreducible] commit_m
attribute [local irreducible] rlog_m four_m eight_m rread_m rfull_m
attribute [local irreducible] wpList Oper.wp

def rhead_m (epoch : Int) : (List UInt8) :=
  (rfull_m ([72, 76, 79, 71] ++ (eight_m epoch)))

set_option maxHeartbeats 4000000 in
set_option maxRecDepth 100000 in
theorem rhead_any (epoch : Int) (w : World)   : Calls Tryd.prog 34 #[.int .i64 (epoch)] w (fun e w' => e = .returned (.string (tx (rhead_m epoch))) ∧ Below w.heap.size w w') := by
  go_enter Tryd.func34, Tryd.ntmps34
  have hm00 := Mm.nil none (fun _ => True) w
  have hm0 := hm00
  refine wp_seq_k (fun K1 hK1 => ?_)
  refine wp_region_lit ?_
  refine lvw 2 (.string (tx ([]))) rfl rfl (run_as rfl rfl) ?_
  simp only [nz1, nz2, nz3]
  refine wpList_nil ?_
  refine then_n (hK1 _ _ ?_)
  refine wp_seq_k (fun K2 hK2 => ?_)
  refine wp_region_lit ?_
  refine lvw 3 (.int .i64 (epoch)) rfl rfl (run_mv rfl rfl) ?_
  simp only [nz1, nz2, nz3]
  refine lst rfl (m_call hm0 4 (.string (tx (eight_m epoch))) rfl (run_eight rfl rfl) (eight_any epoch  _  ) (fun w3 (hm4 : Mm none (fun _ => True) w w3 []) => ?_))
  have hf5 : (eight_m epoch).length = 8 := eight_len epoch
  simp only [nz1, nz2, nz3]
  refine lvw 5 (.string (tx ([72, 76, 79, 71] ++ (eight_m epoch)))) rfl rfl (t_cat ([72, 76, 79, 71]) (eight_m epoch) (by first | omega | (simp; omega) | (simp only [List.length_append, List.length_cons, List.length_nil] at *; omega)) rfl rfl rfl) ?_
  simp only [nz1, nz2, nz3]
  refine lst rfl (m_call hm4 6 (.string (tx (rfull_m ([72, 76, 79, 71] ++ (eight_m epoch))))) rfl (run_rfull rfl rfl) (rfull_any ([72, 76, 79, 71] ++ (eight_m epoch))  _  (by first | omega | assumption | (simp; done) | (simp; omega) | (simp only [List.length_append, List.length_cons, List.length_nil]; omega) | (simp only [List.length_append, List.length_cons, List.length_nil] at *; omega) | decide)) (fun w6 (hm7 : Mm none (fun _ => True) w w6 []) => ?_))
  have hf8 : (rfull_m ([72, 76, 79, 71] ++ (eight_m epoch))).length = 256 := rfull_len ([72, 76, 79, 71] ++ (eight_m epoch)) (by first | omega | (simp; done) | (simp; omega) | (simp only [List.length_append, List.length_cons, List.length_nil] at *; omega))
  simp only [nz1, nz2, nz3]
  refine lvw 2 (.string (tx (rfull_m ([72, 76, 79, 71] ++ (eight_m epoch))))) rfl rfl (run_as rfl rfl) ?_
  simp only [nz1, nz2, nz3]
  refine wpList_nil ?_
  refine then_n (hK2 _ _ ?_)
  refine wp_ret ?_
  have he9 : rhead_m epoch = (rfull_m ([72, 76, 79, 71] ++ (eight_m epoch))) := (show rhead_m epoch = (rfull_m ([72, 76, 79, 71] ++ (eight_m epoch))) from by unfold rhead_m; rfl)
  exact ⟨rfl, .string (tx (rfull_m ([72, 76, 79, 71] ++ (eight_m epoch)))), res_t rfl rfl, ⟨by (rw [he9]; try rfl), hm7.below⟩⟩
theorem run_rhead {o : Oper} {a : Act} {w : World} {x0 : Operand} {v0 : Value} (ho : o.op = .call { callee := .value (.func 34), args := #[x0], argTypes := #[3] }) (h0 : a.eval x0 = v0) :
    (execOp a.eval o).run Tryd.prog w = .ok (.enter 34 #[v0]) w := by
  unfold execOp
  simp only [ho]
  have hf : a.eval (.func 34) = .func (.func 34) #[] #[] := rfl
  generalize a.eval = f at *
  go_simp
def rlists_m (n : Int) : Int :=
  (((n + (61 : Int)) - (1 : Int)) / (61 : Int))

set_option maxHeartbeats 4000000 in
set_option maxRecDepth 100000 in
theorem rlists_any (n : Int) (w : World)  (hp0 : 0 ≤ n) (hp1 : n ≤ 8796093022208) : Calls Tryd.prog 39 #[.int .i64 (n)] w (fun e w' => e = .returned (.int .i64 ((rlists_m n))) ∧ Below w.heap.size w w') := by
  go_enter Tryd.func39, Tryd.ntmps39
  have hm00 := Mm.nil none (fun _ => True) w
  have hm0 := hm00
  refine wp_seq_k (fun K1 hK1 => ?_)
  refine wp_region_lit ?_
  refine lvw 2 (.int .i64 0) rfl rfl (run_as rfl rfl) ?_
  simp only [nz1, nz2, nz3]
  refine wpList_nil ?_
  refine then_n (hK1 _ _ ?_)
  refine wp_seq_k (fun K2 hK2 => ?_)
  refine wp_region_lit ?_
  refine lvw 3 (.int .i64 (n)) rfl rfl (run_mv rfl rfl) ?_
  simp only [nz1, nz2, nz3]
  refine lvw 4 (.int .i64 ((n + (61 : Int)))) rfl rfl (z_add n (61 : Int) _ (by rw [IntKind.wrap_i64]; omega) rfl rfl rfl) ?_
  simp only [nz1, nz2, nz3]
  refine lvw 5 (.int .i64 (((n + (61 : Int)) - (1 : Int)))) rfl rfl (z_sub (n + (61 : Int)) (1 : Int) _ (by rw [IntKind.wrap_i64]; omega) rfl rfl rfl) ?_
  simp only [nz1, nz2, nz3]
  refine lvw 6 (.int .i64 ((((n + (61 : Int)) - (1 : Int)) / (61 : Int)))) rfl rfl (z_quo ((n + (61 : Int)) - (1 : Int)) (61 : Int) (((n + (61 : Int)) - (1 : Int)) / (61 : Int)) (by omega) (by rw [IntKind.wrap_i64, Int.tdiv_eq_ediv_of_nonneg (by omega)]; omega) rfl rfl rfl) ?_
  simp only [nz1, nz2, nz3]
  refine lvw 2 (.int .i64 ((((n + (61 : Int)) - (1 : Int)) / (61 : Int)))) rfl rfl (run_as rfl rfl) ?_
  simp only [nz1, nz2, nz3]
  refine wpList_nil ?_
  refine then_n (hK2 _ _ ?_)
  refine wp_ret ?_
  have he3 : rlists_m n = (((n + (61 : Int)) - (1 : Int)) / (61 : Int)) := (show rlists_m n = (((n + (61 : Int)) - (1 : Int)) / (61 : Int)) from by unfold rlists_m; rfl)
  exact ⟨rfl, .int .i64 ((((n + (61 : Int)) - (1 : Int)) / (61 : Int))), res_t rfl rfl, ⟨by (rw [he3]; try rfl), hm0.below⟩⟩
theorem run_rlists {o : Oper} {a : Act} {w : World} {x0 : Operand} {v0 : Value} (ho : o.op = .call { callee := .value (.func 39), args := #[x0], argTypes := #[3] }) (h0 : a.eval x0 = v0) :
    (execOp a.eval o).run Tryd.prog w = .ok (.enter 39 #[v0]) w := by
  unfold execOp
  simp only [ho]
  have hf : a.eval (.func 39) = .func (.func 39) #[] #[] := rfl
  generalize a.eval = f at *
  go_simp
theorem rlists_is (n : Int) : rlists_m n = (n + 60) / 61 := by
  unfold rlists_m
  omega
def rfits_m (d : Dk) (n : Int) : Bool :=
  if 0 ≤ n then
    if n ≤ ((d.safe.length : Nat) : Int) then
      (decide ((((rlists_m n) + n) + (2 : Int)) ≤ (rlog_m d)))
    else
      false
  else
    false

set_option maxHeartbeats 4000000 in
set_option maxRecDepth 100000 in
theorem rfits_any (d : Dk) (n : Int) (dv0 : Value) (dv1 : Value) (w : World) (hd : DkR d dv0 dv1 w) (hp0 : d.safe.length ≤ 8796093022208) (hp1 : d.loose.length ≤ 5864062014804) : Calls Tryd.prog 16 #[.agg #[dv0, dv1, .int .i64 (d.fuse), .bool (d.down)], .int .i64 (n)] w (fun e w' => e = .returned (.bool ((rfits_m d n))) ∧ Below w.heap.size w w') := by
  go_enter Tryd.func16, Tryd.ntmps16
  have hm00 := Mm.nil none (fun _ => True) w
  obtain ⟨Fd, hm01⟩ : ∃ Fd, Mm none (fun _ => True) w w [.see (DkR d dv0 dv1) Fd] := hm00.come (DkR_all hd)
  have hm0 := hm01
  refine wp_seq_k (fun K1 hK1 => ?_)
  refine wp_region_lit ?_
  refine lst rfl (m_alloc (c := #[dv0, dv1, .int .i64 (d.fuse), .bool (d.down)]) (T := 25) hm0 2 rfl (run_box rfl rfl) (fun g4 w2 (hm3 : Mm none (fun _ => True) w w2 [.see (DkR d dv0 dv1) Fd, .blk g4 #[dv0, dv1, .int .i64 (d.fuse), .bool (d.down)] 25]) => ?_))
  simp only [nz1, nz2, nz3]
  refine lvw 4 (.bool false) rfl rfl (run_as rfl rfl) ?_
  simp only [nz1, nz2, nz3]
  refine wpList_nil ?_
  refine then_n (hK1 _ _ ?_)
  refine wp_seq_k (fun K5 hK5 => ?_)
  have hm6 := hm3.drew
  refine wp_region_held_drew (S := fun w' => Mem.Blk w' g4 (#[dv0, dv1, .int .i64 (d.fuse), .bool (d.down)]) 25) (by kernel_rfl) (hm6.at 1 rfl) (fun _ => ?_)
  generalize w2.drew = w7 at *
  refine tk 0 5 (.int .i64 (n)) rfl rfl (fun _ hw => run_mv rfl rfl) (hm6.at 1 rfl) ?_
  simp only [nz1, nz2, nz3]
  refine tkb 1 6 (0 ≤ n) rfl rfl rfl (fun _ hw => z_geq n 0 rfl rfl rfl) (hm6.at 1 rfl) (fun hs8 => ?_) (fun hs8 => ?_)
  rotate_left
  · simp only [nz1, nz2, nz3]
    refine tk 2 7 (.bool false) rfl rfl (fun _ hw => run_mv rfl rfl) (hm6.at 1 rfl) ?_
    simp only [nz1, nz2, nz3]
    refine skx 3 8 rfl rfl rfl (hm6.at 1 rfl) ?_
    simp only [nz1, nz2, nz3]
    refine skx 4 9 rfl rfl rfl (hm6.at 1 rfl) ?_
    simp only [nz1, nz2, nz3]
    refine skx 5 10 rfl rfl rfl (hm6.at 1 rfl) ?_
    simp only [nz1, nz2, nz3]
    refine skx 6 11 rfl rfl rfl (hm6.at 1 rfl) ?_
    simp only [nz1, nz2, nz3]
    refine skx 7 12 rfl rfl rfl (hm6.at 1 rfl) ?_
    simp only [nz1, nz2, nz3]
    refine tk 8 13 (.bool false) rfl rfl (fun _ hw => run_pickf rfl rfl rfl) (hm6.at 1 rfl) ?_
    simp only [nz1, nz2, nz3]
    refine tk 9 14 (.bool false) rfl rfl (fun _ hw => run_mv rfl rfl) (hm6.at 1 rfl) ?_
    simp only [nz1, nz2, nz3]
    refine skx 10 15 rfl rfl rfl (hm6.at 1 rfl) ?_
    simp only [nz1, nz2, nz3]
    refine skx 11 16 rfl rfl rfl (hm6.at 1 rfl) ?_
    simp only [nz1, nz2, nz3]
    refine skx 12 17 rfl rfl rfl (hm6.at 1 rfl) ?_
    simp only [nz1, nz2, nz3]
    refine skx 13 18 rfl rfl rfl (hm6.at 1 rfl) ?_
    simp only [nz1, nz2, nz3]
    refine skx 14 19 rfl rfl rfl (hm6.at 1 rfl) ?_
    simp only [nz1, nz2, nz3]
    refine skx 15 20 rfl rfl rfl (hm6.at 1 rfl) ?_
    simp only [nz1, nz2, nz3]
    refine skx 16 21 rfl rfl rfl (hm6.at 1 rfl) ?_
    simp only [nz1, nz2, nz3]
    refine skx 17 22 rfl rfl rfl (hm6.at 1 rfl) ?_
    simp only [nz1, nz2, nz3]
    refine tk 18 23 (.bool false) rfl rfl (fun _ hw => run_pickf rfl rfl rfl) (hm6.at 1 rfl) ?_
    simp only [nz1, nz2, nz3]
    refine one_ready 19 (by kernel_rfl) ?_
    refine opd rfl (wanted_none rfl) (w_value 4 (.bool false) rfl (run_as rfl rfl) ⟨hm6.at 1 rfl, ?_⟩)
    simp only [nz1, nz2, nz3]
    refine wpAnyH_done (by kernel_rfl) ?_ _
    refine then_n (hK5 _ _ ?_)
    refine wp_ret ?_
    have he18 : rfits_m d n = false := (show rfits_m d n = false from by unfold rfits_m; rw [if_neg hs8] <;> rfl)
    exact ⟨rfl, .bool false, res_t rfl rfl, ⟨by (rw [he18]; try rfl), hm6.below⟩⟩
  simp only [nz1, nz2, nz3]
  refine tk 2 7 (.bool true) rfl rfl (fun _ hw => run_mv rfl rfl) (hm6.at 1 rfl) ?_
  simp only [nz1, nz2, nz3]
  refine Sym.take_at 3 8 (.int .i64 (n)) rfl rfl (by kernel_rfl) (by kernel_rfl) (by kernel_rfl) (fun _ _ _ h => h) rfl (fun _ hw => run_mv rfl rfl) (hm6.at 1 rfl) ?_
  simp only [nz1, nz2, nz3]
  refine Sym.take_at 4 9 (.pointer (some ⟨g4, 0, none⟩)) rfl rfl (by kernel_rfl) (by kernel_rfl) (by kernel_rfl) (fun _ _ _ h => h) rfl (fun _ hw => r_fa25_0 g4 0 rfl rfl) (hm6.at 1 rfl) ?_
  simp only [nz1, nz2, nz3]
  refine Sym.take_at 5 10 (dv0) rfl rfl (by kernel_rfl) (by kernel_rfl) (by kernel_rfl) (fun _ _ _ h => h) rfl (fun _ hw => r_load hw rfl Tryd.underlying22 rfl rfl rfl) (hm6.at 1 rfl) ?_
  simp only [nz1, nz2, nz3]
  refine Sym.take_at 6 11 (.int .i64 ((d.safe.length : Nat) : Int)) rfl rfl (by kernel_rfl) (by kernel_rfl) (by kernel_rfl) (fun _ _ _ h => h) rfl (fun _ hw => s_len ((hm6.see 0 rfl).1) rfl Tryd.underlying22 rfl) (hm6.at 1 rfl) ?_
  simp only [nz1, nz2, nz3]
  refine tkb 7 12 (n ≤ ((d.safe.length : Nat) : Int)) rfl rfl rfl (fun _ hw => z_leq n ((d.safe.length : Nat) : Int) rfl rfl rfl) (hm6.at 1 rfl) (fun hs9 => ?_) (fun hs9 => ?_)
  rotate_left
  · simp only [nz1, nz2, nz3]
    refine tk 8 13 (.bool false) rfl rfl (fun _ hw => run_pick rfl rfl rfl) (hm6.at 1 rfl) ?_
    simp only [nz1, nz2, nz3]
    refine tk 9 14 (.bool false) rfl rfl (fun _ hw => run_mv rfl rfl) (hm6.at 1 rfl) ?_
    simp only [nz1, nz2, nz3]
    refine skx 10 15 rfl rfl rfl (hm6.at 1 rfl) ?_
    simp only [nz1, nz2, nz3]
    refine skx 11 16 rfl rfl rfl (hm6.at 1 rfl) ?_
    simp only [nz1, nz2, nz3]
    refine skx 12 17 rfl rfl rfl (hm6.at 1 rfl) ?_
    simp only [nz1, nz2, nz3]
    refine skx 13 18 rfl rfl rfl (hm6.at 1 rfl) ?_
    simp only [nz1, nz2, nz3]
    refine skx 14 19 rfl rfl rfl (hm6.at 1 rfl) ?_
    simp only [nz1, nz2, nz3]
    refine skx 15 20 rfl rfl rfl (hm6.at 1 rfl) ?_
    simp only [nz1, nz2, nz3]
    refine skx 16 21 rfl rfl rfl (hm6.at 1 rfl) ?_
    simp only [nz1, nz2, nz3]
    refine skx 17 22 rfl rfl rfl (hm6.at 1 rfl) ?_
    simp only [nz1, nz2, nz3]
    refine tk 18 23 (.bool false) rfl rfl (fun _ hw => run_pickf rfl rfl rfl) (hm6.at 1 rfl) ?_
    simp only [nz1, nz2, nz3]
    refine one_ready 19 (by kernel_rfl) ?_
    refine opd rfl (wanted_none rfl) (w_value 4 (.bool false) rfl (run_as rfl rfl) ⟨hm6.at 1 rfl, ?_⟩)
    simp only [nz1, nz2, nz3]
    refine wpAnyH_done (by kernel_rfl) ?_ _
    refine then_n (hK5 _ _ ?_)
    refine wp_ret ?_
    have he17 : rfits_m d n = false := (show rfits_m d n = false from by unfold rfits_m; rw [if_pos hs8, if_neg hs9] <;> rfl)
    exact ⟨rfl, .bool false, res_t rfl rfl, ⟨by (rw [he17]; try rfl), hm6.below⟩⟩
  simp only [nz1, nz2, nz3]
  refine tk 8 13 (.bool true) rfl rfl (fun _ hw => run_pick rfl rfl rfl) (hm6.at 1 rfl) ?_
  simp only [nz1, nz2, nz3]
  refine tk 9 14 (.bool true) rfl rfl (fun _ hw => run_mv rfl rfl) (hm6.at 1 rfl) ?_
  simp only [nz1, nz2, nz3]
  refine Sym.take_at 10 15 (.int .i64 (n)) rfl rfl (by kernel_rfl) (by kernel_rfl) (by kernel_rfl) (fun _ _ _ h => h) rfl (fun _ hw => run_mv rfl rfl) (hm6.at 1 rfl) ?_
  simp only [nz1, nz2, nz3]
  refine Sym.take_at 12 17 (.int .i64 (n)) rfl rfl (by kernel_rfl) (by kernel_rfl) (by kernel_rfl) (fun _ _ _ h => h) rfl (fun _ hw => run_mv rfl rfl) (hm6.at 1 rfl) ?_
  simp only [nz1, nz2, nz3]
  refine Sym.take_at 15 20 (.agg #[dv0, dv1, .int .i64 (d.fuse), .bool (d.down)]) rfl rfl (by kernel_rfl) (by kernel_rfl) (by kernel_rfl) (fun _ _ _ h => h) rfl (fun _ hw => r_whole hw Tryd.underlying25 rfl (by exact sz_25) rfl rfl) (hm6.at 1 rfl) ?_
  simp only [nz1, nz2, nz3]
  refine one_ready 11 (by kernel_rfl) ?_
  refine opd rfl rfl (m_call hm6 16 (.int .i64 ((rlists_m n))) rfl (run_rlists rfl rfl) (rlists_any n  _  (by first | omega | assumption | (simp; done) | (simp; omega) | (simp only [List.length_append, List.length_cons, List.length_nil]; omega) | (simp only [List.length_append, List.length_cons, List.length_nil] at *; omega) | decide) (by first | omega | assumption | (simp; done) | (simp; omega) | (simp only [List.length_append, List.length_cons, List.length_nil]; omega) | (simp only [List.length_append, List.length_cons, List.length_nil] at *; omega) | decide)) (fun w10 (hm11 : Mm none (fun _ => True) w w10 [.see (DkR d dv0 dv1) Fd, .blk g4 #[dv0, dv1, .int .i64 (d.fuse), .bool (d.down)] 25]) => ?_))
  have hf12 : (rlists_m n) = (n + 60) / 61 := rlists_is n
  refine ⟨hm11.at 1 rfl, ?_⟩
  simp only [nz1, nz2, nz3]
  refine Sym.take_at 13 18 (.int .i64 (((rlists_m n) + n))) rfl rfl (by kernel_rfl) (by kernel_rfl) (by kernel_rfl) (fun _ _ _ h => h) rfl (fun _ hw => z_add (rlists_m n) n _ (by rw [IntKind.wrap_i64]; omega) rfl rfl rfl) (hm11.at 1 rfl) ?_
  simp only [nz1, nz2, nz3]
  refine Sym.take_at 14 19 (.int .i64 ((((rlists_m n) + n) + (2 : Int)))) rfl rfl (by kernel_rfl) (by kernel_rfl) (by kernel_rfl) (fun _ _ _ h => h) rfl (fun _ hw => z_add ((rlists_m n) + n) (2 : Int) _ (by rw [IntKind.wrap_i64]; omega) rfl rfl rfl) (hm11.at 1 rfl) ?_
  simp only [nz1, nz2, nz3]
  refine one_ready 16 (by kernel_rfl) ?_
  refine opd rfl rfl (m_call hm11 21 (.int .i64 ((rlog_m d))) rfl (run_rlog rfl rfl) (rlog_any d dv0 dv1 _ (hm11.see 0 rfl) (by first | omega | assumption | (simp; done) | (simp; omega) | (simp only [List.length_append, List.length_cons, List.length_nil]; omega) | (simp only [List.length_append, List.length_cons, List.length_nil] at *; omega) | decide) (by first | omega | assumption | (simp; done) | (simp; omega) | (simp only [List.length_append, List.length_cons, List.length_nil]; omega) | (simp only [List.length_append, List.length_cons, List.length_nil] at *; omega) | decide)) (fun w13 (hm14 : Mm none (fun _ => True) w w13 [.see (DkR d dv0 dv1) Fd, .blk g4 #[dv0, dv1, .int .i64 (d.fuse), .bool (d.down)] 25]) => ?_))
  have hf15 : (rlog_m d) = (((d.safe.length / 4 : Nat)) : Int) := rlog_len d
  refine ⟨hm14.at 1 rfl, ?_⟩
  simp only [nz1, nz2, nz3]
  refine Sym.take_at 17 22 (.bool (decide ((((rlists_m n) + n) + (2 : Int)) ≤ (rlog_m d)))) rfl rfl (by kernel_rfl) (by kernel_rfl) (by kernel_rfl) (fun _ _ _ h => h) rfl (fun _ hw => z_leq (((rlists_m n) + n) + (2 : Int)) (rlog_m d) rfl rfl rfl) (hm14.at 1 rfl) ?_
  simp only [nz1, nz2, nz3]
  refine tk 18 23 (.bool (decide ((((rlists_m n) + n) + (2 : Int)) ≤ (rlog_m d)))) rfl rfl (fun _ hw => run_pick rfl rfl rfl) (hm14.at 1 rfl) ?_
  simp only [nz1, nz2, nz3]
  refine one_ready 19 (by kernel_rfl) ?_
  refine opd rfl (wanted_none rfl) (w_value 4 (.bool (decide ((((rlists_m n) + n) + (2 : Int)) ≤ (rlog_m d)))) rfl (run_as rfl rfl) ⟨hm14.at 1 rfl, ?_⟩)
  simp only [nz1, nz2, nz3]
  refine wpAnyH_done (by kernel_rfl) ?_ _
  refine then_n (hK5 _ _ ?_)
  refine wp_ret ?_
  have he16 : rfits_m d n = (decide ((((rlists_m n) + n) + (2 : Int)) ≤ (rlog_m d))) := (show rfits_m d n = (decide ((((rlists_m n) + n) + (2 : Int)) ≤ (rlog_m d))) from by unfold rfits_m; rw [if_pos hs8, if_pos hs9] <;> rfl)
  exact ⟨rfl, .bool (decide ((((rlists_m n) + n) + (2 : Int)) ≤ (rlog_m d))), res_t rfl rfl, ⟨by (rw [he16]; try rfl), hm14.below⟩⟩
theorem run_rfits {o : Oper} {a : Act} {w : World} {x0 x1 : Operand} {v0 v1 : Value} (ho : o.op = .call { callee := .value (.func 16), args := #[x0, x1], argTypes := #[25, 3] }) (h0 : a.eval x0 = v0) (h1 : a.eval x1 = v1) :
    (execOp a.eval o).run Tryd.prog w = .ok (.enter 16 #[v0, v1]) w := by
  unfold execOp
  simp only [ho]
  have hf : a.eval (.func 16) = .func (.func 16) #[] #[] := rfl
  generalize a.eval = f at *
  go_simp
def repoch_m (d : Dk) : Int × Bool :=
  if ¬ (rget_m d 0).2 = 0 then
    (0, false)
  else
    if ¬ (((rget_m d 0).1).take 4) = [72, 76, 79, 71] then
      (0, false)
    else
      if 1 ≤ (rread_m ((((rget_m d 0).1).take 12).drop 4)) then
        ((rread_m ((((rget_m d 0).1).take 12).drop 4)), (decide ((rget_m d 0).1 = (rhead_m (rread_m ((((rget_m d 0).1).take 12).drop 4))))))
      else
        ((rread_m ((((rget_m d 0).1).take 12).drop 4)), false)

set_option maxHeartbeats 4000000 in
set_option maxRecDepth 100000 in
theorem repoch_any (d : Dk) (dv0 : Value) (dv1 : Value) (w : World) (hd : DkR d dv0 dv1 w) (hp0 : d.safe.length ≤ 8796093022208) (hp1 : d.loose.length ≤ 5864062014804) : Calls Tryd.prog 9 #[.agg #[dv0, dv1, .int .i64 (d.fuse), .bool (d.down)]] w (fun e w' => e = .returned (.tuple #[.int .i64 ((repoch_m d).1), .bool ((repoch_m d).2)]) ∧ Below w.heap.size w w') := by
  go_enter Tryd.func9, Tryd.ntmps9
  have hm00 := Mm.nil none (fun _ => True) w
  obtain ⟨Fd, hm01⟩ : ∃ Fd, Mm none (fun _ => True) w w [.see (DkR d dv0 dv1) Fd] := hm00.come (DkR_all hd)
  have hm0 := hm01
  refine wp_seq_k (fun K1 hK1 => ?_)
  refine wp_region_lit ?_
  refine lst rfl (m_alloc (c := #[dv0, dv1, .int .i64 (d.fuse), .bool (d.down)]) (T := 25) hm0 1 rfl (run_box rfl rfl) (fun g4 w2 (hm3 : Mm none (fun _ => True) w w2 [.see (DkR d dv0 dv1) Fd, .blk g4 #[dv0, dv1, .int .i64 (d.fuse), .bool (d.down)] 25]) => ?_))
  simp only [nz1, nz2, nz3]
  refine lvw 2 (.int .i64 0) rfl rfl (run_as rfl rfl) ?_
  simp only [nz1, nz2, nz3]
  refine lvw 3 (.bool false) rfl rfl (run_as rfl rfl) ?_
  simp only [nz1, nz2, nz3]
  refine wpList_nil ?_
  refine then_n (hK1 _ _ ?_)
  refine wp_seq_k (fun K5 hK5 => ?_)
  refine wp_region_lit ?_
  refine lvw 8 (.agg #[dv0, dv1, .int .i64 (d.fuse), .bool (d.down)]) rfl rfl (r_whole (hm3.at 1 rfl) Tryd.underlying25 rfl (by exact sz_25) rfl rfl) ?_
  simp only [nz1, nz2, nz3]
  refine lst rfl (m_call hm3 9 (.tuple #[.string (tx ((rget_m d 0).1)), .int .i64 ((rget_m d 0).2)]) rfl (run_rget rfl rfl rfl) (rget_any d 0 dv0 dv1 _ (hm3.see 0 rfl) (by first | omega | assumption | (rw [List.length_drop, List.length_take]; omega) | (simp; done) | (simp; omega) | (simp only [List.length_append, List.length_cons, List.length_nil]; omega) | (simp only [List.length_append, List.length_cons, List.length_nil] at *; omega) | decide) (by first | omega | assumption | (rw [List.length_drop, List.length_take]; omega) | (simp; done) | (simp; omega) | (simp only [List.length_append, List.length_cons, List.length_nil]; omega) | (simp only [List.length_append, List.length_cons, List.length_nil] at *; omega) | decide)) (fun w6 (hm7 : Mm none (fun _ => True) w w6 [.see (DkR d dv0 dv1) Fd, .blk g4 #[dv0, dv1, .int .i64 (d.fuse), .bool (d.down)] 25]) => ?_))
  have hf8 : ¬ (rget_m d 0).2 = 0 ∨ (rget_m d 0).1.length = 256 := rget_len d 0
  simp only [nz1, nz2, nz3]
  refine lvw 7 (.tuple #[.string (tx ((rget_m d 0).1)), .int .i64 ((rget_m d 0).2)]) rfl rfl (run_mv rfl rfl) ?_
  simp only [nz1, nz2, nz3]
  refine lvw 10 (.string (tx ((rget_m d 0).1))) rfl rfl (run_ex rfl rfl rfl) ?_
  simp only [nz1, nz2, nz3]
  refine lvw 11 (.int .i64 ((rget_m d 0).2)) rfl rfl (run_ex rfl rfl rfl) ?_
  simp only [nz1, nz2, nz3]
  refine lvw 4 (.string (tx ((rget_m d 0).1))) rfl rfl (run_as rfl rfl) ?_
  simp only [nz1, nz2, nz3]
  refine lvw 5 (.int .i64 ((rget_m d 0).2)) rfl rfl (run_as rfl rfl) ?_
  simp only [nz1, nz2, nz3]
  refine wpList_nil ?_
  refine then_n (hK5 _ _ ?_)
  refine wp_seq_k (fun K9 hK9 => ?_)
  refine wp_seq_k (fun K10 hK10 => ?_)
  refine wp_region_lit ?_
  refine lvw 12 (.int .i64 ((rget_m d 0).2)) rfl rfl (run_mv rfl rfl) ?_
  simp only [nz1, nz2, nz3]
  refine lvb 13 (¬ (rget_m d 0).2 = 0) rfl rfl (z_neq ((rget_m d 0).2) 0 rfl rfl rfl) (fun hs11 => ?_) (fun hs11 => ?_)
  · simp only [nz1, nz2, nz3]
    refine lvw 14 (.bool true) rfl rfl (run_mv rfl rfl) ?_
    simp only [nz1, nz2, nz3]
    refine lst_skip 15 rfl rfl ?_
    simp only [nz1, nz2, nz3]
    refine lst_skip 16 rfl rfl ?_
    simp only [nz1, nz2, nz3]
    refine lst_skip 17 rfl rfl ?_
    simp only [nz1, nz2, nz3]
    refine lvw 18 (.bool true) rfl rfl (run_pick rfl rfl rfl) ?_
    simp only [nz1, nz2, nz3]
    refine wpList_nil ?_
    refine then_n (hK10 _ _ ?_)
    refine cond_t rfl ?_
    refine wp_seq_k (fun K12 hK12 => ?_)
    refine wp_region_lit ?_
    refine lvw 2 (.int .i64 0) rfl rfl (run_as rfl rfl) ?_
    simp only [nz1, nz2, nz3]
    refine lvw 3 (.bool false) rfl rfl (run_as rfl rfl) ?_
    simp only [nz1, nz2, nz3]
    refine wpList_nil ?_
    refine then_n (hK12 _ _ ?_)
    refine wp_ret ?_
    refine then_r ?_
    have he13 : repoch_m d = (0, false) := (show repoch_m d = (0, false) from by unfold repoch_m; rw [if_pos hs11] <;> rfl)
    exact ⟨rfl, .tuple #[.int .i64 0, .bool false], res_tt rfl rfl rfl, ⟨by (rw [he13]; try rfl), hm7.below⟩⟩
  simp only [nz1, nz2, nz3]
  refine lvw 14 (.bool false) rfl rfl (run_mv rfl rfl) ?_
  simp only [nz1, nz2, nz3]
  refine lvw 15 (.string (tx ((rget_m d 0).1))) rfl rfl (run_mv rfl rfl) ?_
  simp only [nz1, nz2, nz3]
  refine lvw 16 (.string (tx (((rget_m d 0).1).take 4))) rfl rfl (t_to ((rget_m d 0).1) 4 (by omega) Tryd.underlying9 rfl rfl rfl) ?_
  simp only [nz1, nz2, nz3]
  refine lvw 17 (.bool (decide (¬ (((rget_m d 0).1).take 4) = [72, 76, 79, 71]))) rfl rfl (t_neq (((rget_m d 0).1).take 4) ([72, 76, 79, 71]) rfl rfl rfl) ?_
  simp only [nz1, nz2, nz3]
  refine lvw 18 (.bool (decide (¬ (((rget_m d 0).1).take 4) = [72, 76, 79, 71]))) rfl rfl (run_pickf rfl rfl rfl) ?_
  simp only [nz1, nz2, nz3]
  refine wpList_nil ?_
  refine then_n (hK10 _ _ ?_)
  refine cond_d (¬ (((rget_m d 0).1).take 4) = [72, 76, 79, 71]) rfl (fun hc14 => ?_) (fun hc14 => ?_)
  · refine wp_seq_k (fun K15 hK15 => ?_)
    refine wp_region_lit ?_
    refine lvw 2 (.int .i64 0) rfl rfl (run_as rfl rfl) ?_
    simp only [nz1, nz2, nz3]
    refine lvw 3 (.bool false) rfl rfl (run_as rfl rfl) ?_
    simp only [nz1, nz2, nz3]
    refine wpList_nil ?_
    refine then_n (hK15 _ _ ?_)
    refine wp_ret ?_
    refine then_r ?_
    have he16 : repoch_m d = (0, false) := (show repoch_m d = (0, false) from by unfold repoch_m; rw [if_neg hs11, if_pos hc14] <;> rfl)
    exact ⟨rfl, .tuple #[.int .i64 0, .bool false], res_tt rfl rfl rfl, ⟨by (rw [he16]; try rfl), hm7.below⟩⟩
  refine wp_skip ?_
  refine then_n (hK9 _ _ ?_)
  refine wp_seq_k (fun K17 hK17 => ?_)
  refine wp_region_lit ?_
  refine lvw 19 (.string (tx ((rget_m d 0).1))) rfl rfl (run_mv rfl rfl) ?_
  simp only [nz1, nz2, nz3]
  refine lvw 20 (.string (tx ((((rget_m d 0).1).take 12).drop 4))) rfl rfl (t_cut ((rget_m d 0).1) 4 12 (by omega) (by omega) Tryd.underlying9 rfl rfl rfl rfl) ?_
  simp only [nz1, nz2, nz3]
  refine lst rfl (m_call hm7 21 (.int .i64 ((rread_m ((((rget_m d 0).1).take 12).drop 4)))) rfl (run_rread rfl rfl) (rread_any ((((rget_m d 0).1).take 12).drop 4)  _  (by first | omega | assumption | (rw [List.length_drop, List.length_take]; omega) | (simp; done) | (simp; omega) | (simp only [List.length_append, List.length_cons, List.length_nil]; omega) | (simp only [List.length_append, List.length_cons, List.length_nil] at *; omega) | decide)) (fun w18 (hm19 : Mm none (fun _ => True) w w18 [.see (DkR d dv0 dv1) Fd, .blk g4 #[dv0, dv1, .int .i64 (d.fuse), .bool (d.down)] 25]) => ?_))
  simp only [nz1, nz2, nz3]
  refine lvw 6 (.int .i64 ((rread_m ((((rget_m d 0).1).take 12).drop 4)))) rfl rfl (run_as rfl rfl) ?_
  simp only [nz1, nz2, nz3]
  refine wpList_nil ?_
  refine then_n (hK17 _ _ ?_)
  refine wp_seq_k (fun K20 hK20 => ?_)
  refine wp_region_lit ?_
  refine lvw 22 (.int .i64 ((rread_m ((((rget_m d 0).1).take 12).drop 4)))) rfl rfl (run_mv rfl rfl) ?_
  simp only [nz1, nz2, nz3]
  refine lvw 23 (.int .i64 ((rread_m ((((rget_m d 0).1).take 12).drop 4)))) rfl rfl (run_mv rfl rfl) ?_
  simp only [nz1, nz2, nz3]
  refine lvb 24 (1 ≤ (rread_m ((((rget_m d 0).1).take 12).drop 4))) rfl rfl (z_geq (rread_m ((((rget_m d 0).1).take 12).drop 4)) 1 rfl rfl rfl) (fun hs21 => ?_) (fun hs21 => ?_)
  · simp only [nz1, nz2, nz3]
    refine lvw 25 (.bool true) rfl rfl (run_mv rfl rfl) ?_
    simp only [nz1, nz2, nz3]
    refine lvw 26 (.string (tx ((rget_m d 0).1))) rfl rfl (run_mv rfl rfl) ?_
    simp only [nz1, nz2, nz3]
    refine lvw 27 (.int .i64 ((rread_m ((((rget_m d 0).1).take 12).drop 4)))) rfl rfl (run_mv rfl rfl) ?_
    simp only [nz1, nz2, nz3]
    refine lst rfl (m_call hm19 28 (.string (tx (rhead_m (rread_m ((((rget_m d 0).1).take 12).drop 4))))) rfl (run_rhead rfl rfl) (rhead_any (rread_m ((((rget_m d 0).1).take 12).drop 4))  _  ) (fun w22 (hm23 : Mm none (fun _ => True) w w22 [.see (DkR d dv0 dv1) Fd, .blk g4 #[dv0, dv1, .int .i64 (d.fuse), .bool (d.down)] 25]) => ?_))
    simp only [nz1, nz2, nz3]
    refine lvw 29 (.bool (decide ((rget_m d 0).1 = (rhead_m (rread_m ((((rget_m d 0).1).take 12).drop 4)))))) rfl rfl (t_eql ((rget_m d 0).1) (rhead_m (rread_m ((((rget_m d 0).1).take 12).drop 4))) rfl rfl rfl) ?_
    simp only [nz1, nz2, nz3]
    refine lvw 30 (.bool (decide ((rget_m d 0).1 = (rhead_m (rread_m ((((rget_m d 0).1).take 12).drop 4)))))) rfl rfl (run_pick rfl rfl rfl) ?_
    simp only [nz1, nz2, nz3]
    refine lvw 2 (.int .i64 ((rread_m ((((rget_m d 0).1).take 12).drop 4)))) rfl rfl (run_as rfl rfl) ?_
    simp only [nz1, nz2, nz3]
    refine lvw 3 (.bool (decide ((rget_m d 0).1 = (rhead_m (rread_m ((((rget_m d 0).1).take 12).drop 4)))))) rfl rfl (run_as rfl rfl) ?_
    simp only [nz1, nz2, nz3]
    refine wpList_nil ?_
    refine then_n (hK20 _ _ ?_)
    refine wp_ret ?_
    have he24 : repoch_m d = ((rread_m ((((rget_m d 0).1).take 12).drop 4)), (decide ((rget_m d 0).1 = (rhead_m (rread_m ((((rget_m d 0).1).take 12).drop 4)))))) := (show repoch_m d = ((rread_m ((((rget_m d 0).1).take 12).drop 4)), (decide ((rget_m d 0).1 = (rhead_m (rread_m ((((rget_m d 0).1).take 12).drop 4)))))) from by unfold repoch_m; rw [if_neg hs11, if_neg hc14, if_pos hs21] <;> rfl)
    exact ⟨rfl, .tuple #[.int .i64 ((rread_m ((((rget_m d 0).1).take 12).drop 4))), .bool (decide ((rget_m d 0).1 = (rhead_m (rread_m ((((rget_m d 0).1).take 12).drop 4)))))], res_tt rfl rfl rfl, ⟨by (rw [he24]; try rfl), hm23.below⟩⟩
  simp only [nz1, nz2, nz3]
  refine lvw 25 (.bool false) rfl rfl (run_mv rfl rfl) ?_
  simp only [nz1, nz2, nz3]
  refine lst_skip 26 rfl rfl ?_
  simp only [nz1, nz2, nz3]
  refine lst_skip 27 rfl rfl ?_
  simp only [nz1, nz2, nz3]
  refine lst_skip 28 rfl rfl ?_
  simp only [nz1, nz2, nz3]
  refine lst_skip 29 rfl rfl ?_
  simp only [nz1, nz2, nz3]
  refine lvw 30 (.bool false) rfl rfl (run_pickf rfl rfl rfl) ?_
  simp only [nz1, nz2, nz3]
  refine lvw 2 (.int .i64 ((rread_m ((((rget_m d 0).1).take 12).drop 4)))) rfl rfl (run_as rfl rfl) ?_
  simp only [nz1, nz2, nz3]
  refine lvw 3 (.bool false) rfl rfl (run_as rfl rfl) ?_
  simp only [nz1, nz2, nz3]
  refine wpList_nil ?_
  refine then_n (hK20 _ _ ?_)
  refine wp_ret ?_
  have he25 : repoch_m d = ((rread_m ((((rget_m d 0).1).take 12).drop 4)), false) := (show repoch_m d = ((rread_m ((((rget_m d 0).1).take 12).drop 4)), false) from by unfold repoch_m; rw [if_neg hs11, if_neg hc14, if_neg hs21] <;> rfl)
  exact ⟨rfl, .tuple #[.int .i64 ((rread_m ((((rget_m d 0).1).take 12).drop 4))), .bool false], res_tt rfl rfl rfl, ⟨by (rw [he25]; try rfl), hm19.below⟩⟩
theorem run_repoch {o : Oper} {a : Act} {w : World} {x0 : Operand} {v0 : Value} (ho : o.op = .call { callee := .value (.func 9), args := #[x0], argTypes := #[25] }) (h0 : a.eval x0 = v0) :
    (execOp a.eval o).run Tryd.prog w = .ok (.enter 9 #[v0]) w := by
  unfold execOp
  simp only [ho]
  have hf : a.eval (.func 9) = .func (.func 9) #[] #[] := rfl
  generalize a.eval = f at *
  go_simp
def rhome_m_b0 (d : Dk) (rec : (List (List UInt8)) × Int → Sum ((List (List UInt8)) × Int) ((List (List UInt8)) × Int)) (l20 : List (List UInt8)) (x22 : Int) : Sum ((List (List UInt8)) × Int) ((List (List UInt8)) × Int) :=
  if x22 < ((d.safe.length : Nat) : Int) then
    if ¬ (rget_m d x22).2 = 0 then
      .inr (([] : List (List UInt8)), (rget_m d x22).2)
    else
      rec ((l20 ++ [((rget_m d x22).1)]), (x22 + (1 : Int)))
  else
    .inl (l20, x22)
def rhome_m_l0 (d : Dk) : Nat → (List (List UInt8)) × Int → Sum ((List (List UInt8)) × Int) ((List (List UInt8)) × Int)
  | 0, zz => .inl zz
  | nq + 1, zz => rhome_m_b0 d (rhome_m_l0 d nq) zz.1 zz.2

def rhome_m_k0 (d : Dk) (y26 : List (List UInt8)) (y28 : Int) : (List (List UInt8)) × Int :=
  (y26, 0)

def rhome_m (d : Dk) : (List (List UInt8)) × Int :=
  if (!(rright_m d)) = true then
    (([] : List (List UInt8)), 1)
  else
    fin (rhome_m_l0 d ((((d.safe.length : Nat) : Int) - (rlog_m d)).toNat + 1) (([] : List (List UInt8)), (rlog_m d))) (fun r => r) (fun zz => rhome_m_k0 d zz.1 zz.2)

set_option maxHeartbeats 4000000 in
set_option maxRecDepth 100000 in
theorem rhome_any (d : Dk) (dv0 : Value) (dv1 : Value) (S : Nat → Prop) (w : World) (hd : From S (DkR d dv0 dv1) w) (hp0 : d.safe.length ≤ 8796093022208) (hp1 : d.loose.length ≤ 5864062014804) : Calls Tryd.prog 11 #[.agg #[dv0, dv1, .int .i64 (d.fuse), .bool (d.down)]] w (fun e w' => (∃ v, e = .returned v ∧ ∃ (o0 : Value), v = .tuple #[o0, .int .i64 ((rhome_m d).2)] ∧ Gives w w' S (Rs eS 1 ((rhome_m d).1) o0)) ∧ Below w.heap.size w w') := by
  go_enter Tryd.func11, Tryd.ntmps11
  have hm00 := Mm.nil none S w
  obtain ⟨Fd, hm01⟩ : ∃ Fd, Mm none S w w [.see (DkR d dv0 dv1) Fd] := hm00.come hd
  have hm0 := hm01
  refine wp_seq_k (fun K1 hK1 => ?_)
  refine wp_region_lit ?_
  refine lst rfl (m_alloc (c := #[dv0, dv1, .int .i64 (d.fuse), .bool (d.down)]) (T := 25) hm0 1 rfl (run_box rfl rfl) (fun g4 w2 (hm3 : Mm none S w w2 [.see (DkR d dv0 dv1) Fd, .blk g4 #[dv0, dv1, .int .i64 (d.fuse), .bool (d.down)] 25]) => ?_))
  simp only [nz1, nz2, nz3]
  refine lvw 2 (.slice none 0 0) rfl rfl (run_as rfl rfl) ?_
  simp only [nz1, nz2, nz3]
  refine lvw 3 (.int .i64 0) rfl rfl (run_as rfl rfl) ?_
  simp only [nz1, nz2, nz3]
  refine wpList_nil ?_
  refine then_n (hK1 _ _ ?_)
  refine wp_seq_k (fun K5 hK5 => ?_)
  refine wp_seq_k (fun K6 hK6 => ?_)
  refine wp_region_lit ?_
  refine lvw 8 (.agg #[dv0, dv1, .int .i64 (d.fuse), .bool (d.down)]) rfl rfl (r_whole (hm3.at 1 rfl) Tryd.underlying25 rfl (by exact sz_25) rfl rfl) ?_
  simp only [nz1, nz2, nz3]
  refine lst rfl (m_call hm3 9 (.bool ((rright_m d))) rfl (run_rright rfl rfl) (rright_any d dv0 dv1 _ (hm3.see 0 rfl) (by first | omega | assumption | (simp; done) | (simp; omega) | (simp only [List.length_append, List.length_cons, List.length_nil]; omega) | (simp only [List.length_append, List.length_cons, List.length_nil] at *; omega) | decide)) (fun w7 (hm8 : Mm none S w w7 [.see (DkR d dv0 dv1) Fd, .blk g4 #[dv0, dv1, .int .i64 (d.fuse), .bool (d.down)] 25]) => ?_))
  simp only [nz1, nz2, nz3]
  refine lvw 10 (.bool (!(rright_m d))) rfl rfl (r_not (rright_m d) rfl rfl) ?_
  simp only [nz1, nz2, nz3]
  refine wpList_nil ?_
  refine then_n (hK6 _ _ ?_)
  refine cond_B (!(rright_m d)) rfl (fun hc9 => ?_) (fun hc9 => ?_)
  · refine wp_seq_k (fun K10 hK10 => ?_)
    refine wp_region_lit ?_
    refine lvw 2 (.slice none 0 0) rfl rfl (run_as rfl rfl) ?_
    simp only [nz1, nz2, nz3]
    refine lvw 3 (.int .i64 1) rfl rfl (run_as rfl rfl) ?_
    simp only [nz1, nz2, nz3]
    refine wpList_nil ?_
    refine then_n (hK10 _ _ ?_)
    refine wp_ret ?_
    refine then_r ?_
    have he11 : rhome_m d = (([] : List (List UInt8)), 1) := (show rhome_m d = (([] : List (List UInt8)), 1) from by unfold rhome_m; rw [if_pos hc9] <;> rfl)
    exact ⟨rfl, .tuple #[.slice none 0 0, .int .i64 1], res_tt rfl rfl rfl, ⟨⟨_, rfl, (.slice none 0 0), (by first | rfl | rw [he11]), by rw [he11]; exact hm8.give (From.pure (fun W => Rs.nil eS 1 W))⟩, hm8.below⟩⟩
  refine wp_skip ?_
  refine then_n (hK5 _ _ ?_)
  refine wp_seq_k (fun K12 hK12 => ?_)
  refine wp_region_lit ?_
  refine lvw 4 (.slice none 0 0) rfl rfl (run_as rfl rfl) ?_
  simp only [nz1, nz2, nz3]
  refine wpList_nil ?_
  refine then_n (hK12 _ _ ?_)
  refine wp_seq_k (fun K13 hK13 => ?_)
  refine wp_seq_k (fun K14 hK14 => ?_)
  refine wp_region_lit ?_
  refine lvw 11 (.agg #[dv0, dv1, .int .i64 (d.fuse), .bool (d.down)]) rfl rfl (r_whole (hm8.at 1 rfl) Tryd.underlying25 rfl (by exact sz_25) rfl rfl) ?_
  simp only [nz1, nz2, nz3]
  refine lst rfl (m_call hm8 12 (.int .i64 ((rlog_m d))) rfl (run_rlog rfl rfl) (rlog_any d dv0 dv1 _ (hm8.see 0 rfl) (by first | omega | assumption | (simp; done) | (simp; omega) | (simp only [List.length_append, List.length_cons, List.length_nil]; omega) | (simp only [List.length_append, List.length_cons, List.length_nil] at *; omega) | decide) (by first | omega | assumption | (simp; done) | (simp; omega) | (simp only [List.length_append, List.length_cons, List.length_nil]; omega) | (simp only [List.length_append, List.length_cons, List.length_nil] at *; omega) | decide)) (fun w15 (hm16 : Mm none S w w15 [.see (DkR d dv0 dv1) Fd, .blk g4 #[dv0, dv1, .int .i64 (d.fuse), .bool (d.down)] 25]) => ?_))
  have hf17 : (rlog_m d) = (((d.safe.length / 4 : Nat)) : Int) := rlog_len d
  simp only [nz1, nz2, nz3]
  refine lvw 5 (.int .i64 ((rlog_m d))) rfl rfl (run_as rfl rfl) ?_
  simp only [nz1, nz2, nz3]
  refine wpList_nil ?_
  refine then_n (hK14 _ _ ?_)
  have hm19 : Mm none S w w15 [.see (DkR d dv0 dv1) Fd, .blk g4 #[dv0, dv1, .int .i64 (d.fuse), .bool (d.down)] 25, .row (.slice none 0 0) ([] : List (List UInt8)).length (([] : List (List UInt8)).flatMap eS) 9 1] := hm16.nilrow 9 1
  refine wp_cutK (fun a' w' => ∃ (y26 : List (List UInt8)) (y28 : Int) (v27 : Value) (yu0 : Nat → Value), rhome_m_l0 d ((((d.safe.length : Nat) : Int) - (rlog_m d)).toNat + 1) (([] : List (List UInt8)), (rlog_m d)) = .inl (y26, y28) ∧ (y26.length ≤ y28 ∧ y28 ≤ d.safe.length) ∧ a' = ⟨#[.agg #[dv0, dv1, .int .i64 (d.fuse), .bool (d.down)], .pointer (some ⟨g4, 0, none⟩), yu0 0, yu0 1, v27, .int .i64 (y28), yu0 2, yu0 3, .agg #[dv0, dv1, .int .i64 (d.fuse), .bool (d.down)], .bool ((rright_m d)), .bool (!(rright_m d)), .agg #[dv0, dv1, .int .i64 (d.fuse), .bool (d.down)], .int .i64 ((rlog_m d)), yu0 4, yu0 5, yu0 6, yu0 7, yu0 8, yu0 9, yu0 10, yu0 11, yu0 12, yu0 13, yu0 14, yu0 15, yu0 16, yu0 17, yu0 18, yu0 19, yu0 20, yu0 21, yu0 22, yu0 23, undef], []⟩ ∧ Mm none S w w' [.see (DkR d dv0 dv1) Fd, .blk g4 #[dv0, dv1, .int .i64 (d.fuse), .bool (d.down)] 25, .row v27 y26.length (y26.flatMap eS) 9 1]) ?_ ?_
  · refine wp_block ?_
    refine wp_loop_n (fun n' a' w' => ∃ (n23 : Nat) (l20 : List (List UInt8)) (x22 : Int) (v21 : Value) (u0 : Nat → Value), n' = n23 ∧ (((d.safe.length : Nat) : Int) - x22).toNat < n23 ∧ rhome_m_l0 d ((((d.safe.length : Nat) : Int) - (rlog_m d)).toNat + 1) (([] : List (List UInt8)), (rlog_m d)) = rhome_m_l0 d n23 (l20, x22) ∧ (l20.length ≤ x22 ∧ x22 ≤ d.safe.length) ∧ a' = ⟨#[.agg #[dv0, dv1, .int .i64 (d.fuse), .bool (d.down)], .pointer (some ⟨g4, 0, none⟩), u0 0, u0 1, v21, .int .i64 (x22), u0 2, u0 3, .agg #[dv0, dv1, .int .i64 (d.fuse), .bool (d.down)], .bool ((rright_m d)), .bool (!(rright_m d)), .agg #[dv0, dv1, .int .i64 (d.fuse), .bool (d.down)], .int .i64 ((rlog_m d)), u0 4, u0 5, u0 6, u0 7, u0 8, u0 9, u0 10, u0 11, u0 12, u0 13, u0 14, u0 15, u0 16, u0 17, u0 18, u0 19, u0 20, u0 21, u0 22, u0 23, undef], []⟩ ∧ Mm none S w w' [.see (DkR d dv0 dv1) Fd, .blk g4 #[dv0, dv1, .int .i64 (d.fuse), .bool (d.down)] 25, .row v21 l20.length (l20.flatMap eS) 9 1]) ⟨((((d.safe.length : Nat) : Int) - (rlog_m d)).toNat + 1), ([] : List (List UInt8)), (rlog_m d), .slice none 0 0, (fun qq => List.getD [.slice none 0 0, .int .i64 0, undef, undef, undef, undef, undef, undef, undef, undef, undef, undef, undef, undef, undef, undef, undef, undef, undef, undef, undef, undef, undef, undef] qq undef), rfl, Nat.lt_succ_self _, rfl, (by first | omega | (simp; done) | (simp; omega) | (simp at *; omega)), rfl, hm19⟩ ?_
    rintro n23 _ w30 ⟨_, l20, x22, v21, u0, rfl, hl34, hi25, hho, rfl, hm31⟩ R32 hR32
    obtain ⟨k24, rfl⟩ : ∃ k, n23 = k + 1 := ⟨n23 - 1, by omega⟩
    refine wp_seq_k (fun K35 hK35 => ?_)
    refine wp_seq_k (fun K36 hK36 => ?_)
    refine wp_region_lit ?_
    refine lvw 13 (.int .i64 (x22)) rfl rfl (run_mv rfl rfl) ?_
    simp only [nz1, nz2, nz3]
    refine lvw 14 (.pointer (some ⟨g4, 0, none⟩)) rfl rfl (r_fa25_0 g4 0 rfl rfl) ?_
    simp only [nz1, nz2, nz3]
    refine lvw 15 (dv0) rfl rfl (r_load (hm31.at 1 rfl) rfl Tryd.underlying22 rfl rfl rfl) ?_
    simp only [nz1, nz2, nz3]
    refine lvw 16 (.int .i64 ((d.safe.length : Nat) : Int)) rfl rfl (s_len ((hm31.see 0 rfl).1) rfl Tryd.underlying22 rfl) ?_
    simp only [nz1, nz2, nz3]
    refine lvw 17 (.bool (decide (x22 < ((d.safe.length : Nat) : Int)))) rfl rfl (z_lss x22 ((d.safe.length : Nat) : Int) rfl rfl rfl) ?_
    simp only [nz1, nz2, nz3]
    refine wpList_nil ?_
    refine then_n (hK36 _ _ ?_)
    refine cond_d (x22 < ((d.safe.length : Nat) : Int)) rfl (fun hc37 => ?_) (fun hc37 => ?_)
    rotate_left
    · refine wp_exit ?_
      refine then_x ?_
      refine then_x ?_
      refine blk_x ?_
      refine then_n ?_
      exact ⟨l20, x22, v21, (fun qq => List.getD [u0 0, u0 1, u0 2, u0 3, .int .i64 (x22), .pointer (some ⟨g4, 0, none⟩), dv0, .int .i64 ((d.safe.length : Nat) : Int), .bool (decide (x22 < ((d.safe.length : Nat) : Int))), u0 9, u0 10, u0 11, u0 12, u0 13, u0 14, u0 15, u0 16, u0 17, u0 18, u0 19, u0 20, u0 21, u0 22, u0 23] qq undef), (hi25.trans (show rhome_m_b0 d (rhome_m_l0 d k24) l20 x22 = .inl (l20, x22) from by unfold rhome_m_b0; rw [if_neg hc37] <;> rfl)), (by first | omega | (simp; done) | (simp; omega) | (simp at *; omega)), rfl, hm31⟩
    refine wp_skip ?_
    refine then_n (hK35 _ _ ?_)
    refine wp_seq_k (fun K38 hK38 => ?_)
    refine wp_block ?_
    refine wp_seq_k (fun K39 hK39 => ?_)
    refine wp_region_lit ?_
    refine lvw 21 (.agg #[dv0, dv1, .int .i64 (d.fuse), .bool (d.down)]) rfl rfl (r_whole (hm31.at 1 rfl) Tryd.underlying25 rfl (by exact sz_25) rfl rfl) ?_
    simp only [nz1, nz2, nz3]
    refine lvw 22 (.int .i64 (x22)) rfl rfl (run_mv rfl rfl) ?_
    simp only [nz1, nz2, nz3]
    refine lst rfl (m_call hm31 23 (.tuple #[.string (tx ((rget_m d x22).1)), .int .i64 ((rget_m d x22).2)]) rfl (run_rget rfl rfl rfl) (rget_any d x22 dv0 dv1 _ (hm31.see 0 rfl) (by first | omega | assumption | (simp; done) | (simp; omega) | (simp only [List.length_append, List.length_cons, List.length_nil]; omega) | (simp only [List.length_append, List.length_cons, List.length_nil] at *; omega) | decide) (by first | omega | assumption | (simp; done) | (simp; omega) | (simp only [List.length_append, List.length_cons, List.length_nil]; omega) | (simp only [List.length_append, List.length_cons, List.length_nil] at *; omega) | decide)) (fun w40 (hm41 : Mm none S w w40 [.see (DkR d dv0 dv1) Fd, .blk g4 #[dv0, dv1, .int .i64 (d.fuse), .bool (d.down)] 25, .row v21 l20.length (l20.flatMap eS) 9 1]) => ?_))
    have hf42 : ¬ (rget_m d x22).2 = 0 ∨ (rget_m d x22).1.length = 256 := rget_len d x22
    simp only [nz1, nz2, nz3]
    refine lvw 20 (.tuple #[.string (tx ((rget_m d x22).1)), .int .i64 ((rget_m d x22).2)]) rfl rfl (run_mv rfl rfl) ?_
    simp only [nz1, nz2, nz3]
    refine lvw 24 (.string (tx ((rget_m d x22).1))) rfl rfl (run_ex rfl rfl rfl) ?_
    simp only [nz1, nz2, nz3]
    refine lvw 25 (.int .i64 ((rget_m d x22).2)) rfl rfl (run_ex rfl rfl rfl) ?_
    simp only [nz1, nz2, nz3]
    refine lvw 6 (.string (tx ((rget_m d x22).1))) rfl rfl (run_as rfl rfl) ?_
    simp only [nz1, nz2, nz3]
    refine lvw 7 (.int .i64 ((rget_m d x22).2)) rfl rfl (run_as rfl rfl) ?_
    simp only [nz1, nz2, nz3]
    refine wpList_nil ?_
    refine then_n (hK39 _ _ ?_)
    refine wp_seq_k (fun K43 hK43 => ?_)
    refine wp_seq_k (fun K44 hK44 => ?_)
    refine wp_region_lit ?_
    refine lvw 26 (.int .i64 ((rget_m d x22).2)) rfl rfl (run_mv rfl rfl) ?_
    simp only [nz1, nz2, nz3]
    refine lvw 27 (.bool (decide (¬ (rget_m d x22).2 = 0))) rfl rfl (z_neq ((rget_m d x22).2) 0 rfl rfl rfl) ?_
    simp only [nz1, nz2, nz3]
    refine wpList_nil ?_
    refine then_n (hK44 _ _ ?_)
    refine cond_d (¬ (rget_m d x22).2 = 0) rfl (fun hc45 => ?_) (fun hc45 => ?_)
    · refine wp_seq_k (fun K46 hK46 => ?_)
      refine wp_region_lit ?_
      refine lvw 28 (.int .i64 ((rget_m d x22).2)) rfl rfl (run_mv rfl rfl) ?_
      simp only [nz1, nz2, nz3]
      refine lvw 2 (.slice none 0 0) rfl rfl (run_as rfl rfl) ?_
      simp only [nz1, nz2, nz3]
      refine lvw 3 (.int .i64 ((rget_m d x22).2)) rfl rfl (run_as rfl rfl) ?_
      simp only [nz1, nz2, nz3]
      refine wpList_nil ?_
      refine then_n (hK46 _ _ ?_)
      refine wp_ret ?_
      refine then_r ?_
      refine blk_r ?_
      refine then_r ?_
      refine then_r ?_
      refine blk_r ?_
      refine then_r ?_
      refine then_r ?_
      have he47 : rhome_m_l0 d ((((d.safe.length : Nat) : Int) - (rlog_m d)).toNat + 1) (([] : List (List UInt8)), (rlog_m d)) = .inr (([] : List (List UInt8)), (rget_m d x22).2) := (hi25.trans (show rhome_m_b0 d (rhome_m_l0 d k24) l20 x22 = .inr (([] : List (List UInt8)), (rget_m d x22).2) from by unfold rhome_m_b0; rw [if_pos hc37, if_pos hc45] <;> rfl))
      have he48 : rhome_m d = (([] : List (List UInt8)), (rget_m d x22).2) := (show rhome_m d = (([] : List (List UInt8)), (rget_m d x22).2) from by unfold rhome_m; rw [if_neg hc9, he47] <;> rfl)
      exact ⟨rfl, .tuple #[.slice none 0 0, .int .i64 ((rget_m d x22).2)], res_tt rfl rfl rfl, ⟨⟨_, rfl, (.slice none 0 0), (by first | rfl | rw [he48]), by rw [he48]; exact hm41.give (From.pure (fun W => Rs.nil eS 1 W))⟩, hm41.below⟩⟩
    refine wp_skip ?_
    refine then_n (hK43 _ _ ?_)
    refine wp_region_lit ?_
    refine lvw 29 (v21) rfl rfl (run_mv rfl rfl) ?_
    simp only [nz1, nz2, nz3]
    refine lvw 30 (.string (tx ((rget_m d x22).1))) rfl rfl (run_mv rfl rfl) ?_
    simp only [nz1, nz2, nz3]
    refine lst rfl (m_make (c := #[.string (tx ((rget_m d x22).1))]) (T := 9) (fun g => .slice (some ⟨g, 0, none⟩) 1 1) hm41 31 rfl (by unfold execOp; go_simp; try rfl) (fun g51 w49 (hm50 : Mm none S w w49 [.see (DkR d dv0 dv1) Fd, .blk g4 #[dv0, dv1, .int .i64 (d.fuse), .bool (d.down)] 25, .row v21 l20.length (l20.flatMap eS) 9 1, .blk g51 #[.string (tx ((rget_m d x22).1))] 9]) => ?_))
    simp only [nz1, nz2, nz3]
    obtain ⟨iq, hiq, hz1, hz2, hz3⟩ := inf_9
    refine lst rfl (m_appendR 2 (l := l20) (l2 := [((rget_m d x22).1)]) iq _ _ _ (.slice (some ⟨g51, 0, none⟩) 1 1) hm50 rfl 32 rfl rfl Tryd.underlying22 hiq hz1 hz2 hz3 eS_len eS_one rfl (by decide) rfl rfl (Rs.blk (l := [((rget_m d x22).1)]) (hm50.at 3 rfl) rfl rfl eS_len (Nat.le_refl _)) (by first | omega | (simp; omega)) (by first | omega | (simp; omega)) (fun v54 w52 (hm53 : Mm none S w w52 [.see (DkR d dv0 dv1) Fd, .blk g4 #[dv0, dv1, .int .i64 (d.fuse), .bool (d.down)] 25, .row v54 (l20 ++ [((rget_m d x22).1)]).length ((l20 ++ [((rget_m d x22).1)]).flatMap eS) 9 1, .blk g51 #[.string (tx ((rget_m d x22).1))] 9]) => ?_))
    simp only [nz1, nz2, nz3]
    refine lvw 4 (v54) rfl rfl (run_as rfl rfl) ?_
    simp only [nz1, nz2, nz3]
    refine wpList_nil ?_
    refine blk_n ?_
    refine then_n (hK38 _ _ ?_)
    refine wp_region_lit ?_
    refine lvw 18 (.int .i64 (x22)) rfl rfl (run_mv rfl rfl) ?_
    simp only [nz1, nz2, nz3]
    refine lvw 19 (.int .i64 ((x22 + (1 : Int)))) rfl rfl (z_add x22 (1 : Int) _ (by rw [IntKind.wrap_i64]; omega) rfl rfl rfl) ?_
    simp only [nz1, nz2, nz3]
    refine lvw 5 (.int .i64 ((x22 + (1 : Int)))) rfl rfl (run_as rfl rfl) ?_
    simp only [nz1, nz2, nz3]
    refine wpList_nil ?_
    refine then_n (hR32 _ _ _ ⟨k24, (l20 ++ [((rget_m d x22).1)]), (x22 + (1 : Int)), v54, (fun qq => List.getD [u0 0, u0 1, .string (tx ((rget_m d x22).1)), .int .i64 ((rget_m d x22).2), .int .i64 (x22), .pointer (some ⟨g4, 0, none⟩), dv0, .int .i64 ((d.safe.length : Nat) : Int), .bool (decide (x22 < ((d.safe.length : Nat) : Int))), .int .i64 (x22), .int .i64 ((x22 + (1 : Int))), .tuple #[.string (tx ((rget_m d x22).1)), .int .i64 ((rget_m d x22).2)], .agg #[dv0, dv1, .int .i64 (d.fuse), .bool (d.down)], .int .i64 (x22), .tuple #[.string (tx ((rget_m d x22).1)), .int .i64 ((rget_m d x22).2)], .string (tx ((rget_m d x22).1)), .int .i64 ((rget_m d x22).2), .int .i64 ((rget_m d x22).2), .bool (decide (¬ (rget_m d x22).2 = 0)), u0 19, v21, .string (tx ((rget_m d x22).1)), .slice (some ⟨g51, 0, none⟩) 1 1, v54] qq undef), rfl, (by first | omega | (simp; omega) | (simp at *; omega)), (hi25.trans (show rhome_m_b0 d (rhome_m_l0 d k24) l20 x22 = rhome_m_l0 d k24 ((l20 ++ [((rget_m d x22).1)]), (x22 + (1 : Int))) from by unfold rhome_m_b0; rw [if_pos hc37, if_neg hc45] <;> rfl)), (by first | omega | (rw [List.length_append, List.length_singleton]; omega)), rfl, (Mm.reorder hm53 [0, 1, 2] (by decide) rfl)⟩ ?_)
    omega
  rintro _ w55 ⟨y26, y28, v27, yu0, hx29, hho, rfl, hm56⟩
  have hq57 : rhome_m d = rhome_m_k0 d y26 y28 := (show rhome_m d = rhome_m_k0 d y26 y28 from by unfold rhome_m; rw [if_neg hc9, hx29] <;> rfl)
  refine then_n (hK13 _ _ ?_)
  refine wp_seq_k (fun K58 hK58 => ?_)
  refine wp_region_lit ?_
  refine lvw 33 (v27) rfl rfl (run_mv rfl rfl) ?_
  simp only [nz1, nz2, nz3]
  refine lvw 2 (v27) rfl rfl (run_as rfl rfl) ?_
  simp only [nz1, nz2, nz3]
  refine lvw 3 (.int .i64 0) rfl rfl (run_as rfl rfl) ?_
  simp only [nz1, nz2, nz3]
  refine wpList_nil ?_
  refine then_n (hK58 _ _ ?_)
  refine wp_ret ?_
  have hm59 : Mm none S w w55 [.see (DkR d dv0 dv1) Fd, .blk g4 #[dv0, dv1, .int .i64 (d.fuse), .bool (d.down)] 25, .see (Rs eS 1 y26 v27) (fp v27 (y26.flatMap eS))] := hm56.freeze 2 rfl
  have he60 : rhome_m d = (y26, 0) := (hq57.trans (show rhome_m_k0 d y26 y28 = (y26, 0) from by unfold rhome_m_k0; rfl))
  exact ⟨rfl, .tuple #[v27, .int .i64 0], res_tt rfl rfl rfl, ⟨⟨_, rfl, v27, (by first | rfl | rw [he60]), by rw [he60]; exact hm59.give (hm59.from 2 rfl)⟩, hm59.below⟩⟩
theorem run_rhome {o : Oper} {a : Act} {w : World} {x0 : Operand} {v0 : Value} (ho : o.op = .call { callee := .value (.func 11), args := #[x0], argTypes := #[25] }) (h0 : a.eval x0 = v0) :
    (execOp a.eval o).run Tryd.prog w = .ok (.enter 11 #[v0]) w := by
  unfold execOp
  simp only [ho]
  have hf : a.eval (.func 11) = .func (.func 11) #[] #[] := rfl
  generalize a.eval = f at *
  go_simp
end Go.Proofs.YtnmaaijeamlplaaDoor.Bk

set_option linter.unusedVariables false
namespace Go.Proofs.YtnmaaijeamlplaaDoor.Bk
open Go.RowKit Go.Proofs.YtnmaaijeamlplaaDoor.Mem
theorem rhead_is (n : Int) : rhead_m n = beginning_m n := by
  have h := number_len n 8 (by decide) (by decide)
  unfold rhead_m beginning_m
  rw [eight_is, rfull_is _ (by rw [List.length_append]; simp only [List.length_cons, List.length_nil]; omega)]
theorem rfew_of {d : Dk} (h : ¬ (!(rright_m d)) = true) : d.safe.length ≤ 2048 := few_of (by rwa [rright_eq] at h)
theorem reight_of {d : Dk} (h : ¬ (!(rright_m d)) = true) : 8 ≤ d.safe.length := eight_of (by rwa [rright_eq] at h)
theorem rhead_len (n : Int) : (rhead_m n).length = 256 := by rw [rhead_is]; exact beginning_len n
theorem rlists_eq (n : Int) : rlists_m n = lists_m n := (rlists_is n).trans (lists_is n).symm
theorem rfits_eq (d : Dk) (n : Int) : rfits_m d n = fits_m d n := by
  unfold rfits_m fits_m
  rw [rlists_eq, rlog_is]
theorem repoch_eq (d : Dk) : repoch_m d = epoch_m d := by
  unfold repoch_m epoch_m
  rw [← get_eq, rread_is, rhead_is]
theorem rhome_eq (d : Dk) : rhome_m d = home_m d := by
  have a : ∀ k z, rhome_m_l0 d k z = home_m_l0 d k z := by
    intro k
    induction k with
    | zero => intro z; rfl
    | succ k ih =>
      intro z
      show rhome_m_b0 d _ z.1 z.2 = home_m_b0 d _ z.1 z.2
      unfold rhome_m_b0 home_m_b0
      rw [← get_eq, ih]
  unfold rhome_m home_m
  rw [a, rright_eq, rlog_is]
  rfl
end Go.Proofs.YtnmaaijeamlplaaDoor.Bk
