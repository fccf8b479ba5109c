/- Layer 7: the document's paths. -/
import Derived.Test.YtdohmmdfenafnaaDoorPaC
import Derived.Test.YtdohmmdfenafnaaDoorAl
namespace Go.Proofs.YtdohmmdfenafnaaDoor.Pa
open Go.RowKit
open Go.Proofs.YtdohmmdfenafnaaDoor.Sym Go.Proofs.YtdohmmdfenafnaaDoor.Mem
open Go.Proofs.YtdohmmdfenafnaaDoor.Sx hiding Mm m_alloc m_store m_put m_call m_callx m_make m_append r_string r_ixS
set_option linter.unusedVariables false
attribute [local irreducible] wpList Oper.wp

def rsplit_m_b0 (s : List UInt8) (rec : (List (List UInt8)) × Nat × Nat → Sum ((List (List UInt8)) × Nat × Nat) ((List (List UInt8)))) (l8 : List (List UInt8)) (x10 : Nat) (x11 : Nat) : Sum ((List (List UInt8)) × Nat × Nat) ((List (List UInt8))) :=
  if x11 ≤ s.length then
    if x11 = s.length then
      rec ((l8 ++ [((s.take x11).drop x10)]), (x11 + 1), (x11 + 1))
    else
      if by' s x11 = 47 then
        rec ((l8 ++ [((s.take x11).drop x10)]), (x11 + 1), (x11 + 1))
      else
        rec (l8, x10, (x11 + 1))
  else
    .inl (l8, x10, x11)
def rsplit_m_l0 (s : List UInt8) : Nat → (List (List UInt8)) × Nat × Nat → Sum ((List (List UInt8)) × Nat × Nat) ((List (List UInt8)))
  | 0, zz => .inl zz
  | nq + 1, zz => rsplit_m_b0 s (rsplit_m_l0 s nq) zz.1 zz.2.1 zz.2.2

def rsplit_m_k0 (s : List UInt8) (y15 : List (List UInt8)) (y17 : Nat) (y18 : Nat) : (List (List UInt8)) :=
  y15

def rsplit_m (s : List UInt8) : (List (List UInt8)) :=
  fin (rsplit_m_l0 s ((s.length + 1 - 0) + 1) (([] : List (List UInt8)), 0, 0)) (fun r => r) (fun zz => rsplit_m_k0 s zz.1 zz.2.1 zz.2.2)

set_option maxHeartbeats 4000000 in
set_option maxRecDepth 100000 in
theorem rsplit_any (s : List UInt8) (w : World)  (hp0 : s.length ≤ 8796093022206) : Calls Tryd.prog 40 #[.string (tx s)] w (fun e w' => (∃ v, e = .returned v ∧ ∃ o0 : Value, v = o0 ∧ w'.ownsRow w.heap.size 9 1 o0 (rsplit_m s).length ((rsplit_m s).flatMap eS)) ∧ Below w.heap.size w w') := by
  go_enter Tryd.func40, Tryd.ntmps40
  have hm00 := Mm.nil none (fun _ => True) w
  have hm0 := hm00
  refine wp_seq_k (fun K1 hK1 => ?_)
  refine wp_region_lit ?_
  refine lvw 2 (.slice none 0 0) rfl rfl (run_as rfl rfl) ?_
  simp only [nz1, nz2, nz3]
  refine wpList_nil ?_
  refine then_n (hK1 _ _ ?_)
  refine wp_seq_k (fun K2 hK2 => ?_)
  refine wp_region_lit ?_
  refine lvw 3 (.slice none 0 0) rfl rfl (run_as rfl rfl) ?_
  simp only [nz1, nz2, nz3]
  refine wpList_nil ?_
  refine then_n (hK2 _ _ ?_)
  refine wp_seq_k (fun K3 hK3 => ?_)
  refine wp_region_lit ?_
  refine lvw 4 (.int .i64 0) rfl rfl (run_as rfl rfl) ?_
  simp only [nz1, nz2, nz3]
  refine wpList_nil ?_
  refine then_n (hK3 _ _ ?_)
  refine wp_seq_k (fun K4 hK4 => ?_)
  refine wp_seq_k (fun K5 hK5 => ?_)
  refine wp_region_lit ?_
  refine lvw 5 (.int .i64 0) rfl rfl (run_as rfl rfl) ?_
  simp only [nz1, nz2, nz3]
  refine wpList_nil ?_
  refine then_n (hK5 _ _ ?_)
  have hm7 : Mm none (fun _ => True) w w [.row (.slice none 0 0) ([] : List (List UInt8)).length (([] : List (List UInt8)).flatMap eS) 9 1] := hm0.nilrow 9 1
  refine wp_cutK (fun a' w' => ∃ (y15 : List (List UInt8)) (y17 : Nat) (y18 : Nat) (v16 : Value) (yu0 : Nat → Value), rsplit_m_l0 s ((s.length + 1 - 0) + 1) (([] : List (List UInt8)), 0, 0) = .inl (y15, y17, y18) ∧ (y15.length ≤ y18 ∧ y17 ≤ y18 ∧ y18 ≤ s.length + 1) ∧ a' = ⟨#[.string (tx s), undef, .slice none 0 0, v16, .int .i64 ((y17 : Nat) : Int), .int .i64 ((y18 : Nat) : Int), yu0 0, yu0 1, yu0 2, yu0 3, yu0 4, yu0 5, yu0 6, yu0 7, yu0 8, yu0 9, yu0 10, yu0 11, yu0 12, yu0 13, yu0 14, yu0 15, yu0 16, yu0 17, yu0 18, yu0 19, yu0 20, yu0 21, yu0 22, yu0 23, yu0 24, undef], []⟩ ∧ Mm none (fun _ => True) w w' [.row v16 y15.length (y15.flatMap eS) 9 1]) ?_ ?_
  · refine wp_block ?_
    refine wp_loop_n (fun n' a' w' => ∃ (n12 : Nat) (l8 : List (List UInt8)) (x10 : Nat) (x11 : Nat) (v9 : Value) (u0 : Nat → Value), n' = n12 ∧ (s.length + 1 - x11) < n12 ∧ rsplit_m_l0 s ((s.length + 1 - 0) + 1) (([] : List (List UInt8)), 0, 0) = rsplit_m_l0 s n12 (l8, x10, x11) ∧ (l8.length ≤ x11 ∧ x10 ≤ x11 ∧ x11 ≤ s.length + 1) ∧ a' = ⟨#[.string (tx s), undef, .slice none 0 0, v9, .int .i64 ((x10 : Nat) : Int), .int .i64 ((x11 : Nat) : Int), u0 0, u0 1, u0 2, u0 3, u0 4, u0 5, u0 6, u0 7, u0 8, u0 9, u0 10, u0 11, u0 12, u0 13, u0 14, u0 15, u0 16, u0 17, u0 18, u0 19, u0 20, u0 21, u0 22, u0 23, u0 24, undef], []⟩ ∧ Mm none (fun _ => True) w w' [.row v9 l8.length (l8.flatMap eS) 9 1]) ⟨((s.length + 1 - 0) + 1), ([] : List (List UInt8)), 0, 0, .slice none 0 0, (fun qq => bif Nat.blt qq 24 then List.getD [undef, undef, undef, undef, undef, undef, undef, undef, undef, undef, undef, undef, undef, undef, undef, undef, undef, undef, undef, undef, undef, undef, undef, undef] qq undef else List.getD [undef] (qq - 24) undef), rfl, Nat.lt_succ_self _, rfl, (by first | omega | (simp; done) | (simp; omega) | (simp at *; omega)), rfl, hm7⟩ ?_
    rintro n12 _ w20 ⟨_, l8, x10, x11, v9, u0, rfl, hl24, hi14, hsp, rfl, hm21⟩ R22 hR22
    obtain ⟨k13, rfl⟩ : ∃ k, n12 = k + 1 := ⟨n12 - 1, by omega⟩
    refine wp_seq_k (fun K25 hK25 => ?_)
    refine wp_seq_k (fun K26 hK26 => ?_)
    refine wp_region_lit ?_
    refine lvw 6 (.int .i64 ((x11 : Nat) : Int)) rfl rfl (run_mv rfl rfl) ?_
    simp only [nz1, nz2, nz3]
    refine lvw 7 (.string (tx s)) rfl rfl (run_mv rfl rfl) ?_
    simp only [nz1, nz2, nz3]
    refine lvw 8 (.int .i64 ((s.length : Nat) : Int)) rfl rfl (t_len rfl Tryd.underlying9 rfl) ?_
    simp only [nz1, nz2, nz3]
    refine lvw 9 (.bool (decide (x11 ≤ s.length))) rfl rfl (r_leq x11 s.length rfl rfl rfl) ?_
    simp only [nz1, nz2, nz3]
    refine wpList_nil ?_
    refine then_n (hK26 _ _ ?_)
    refine cond_d (x11 ≤ s.length) rfl (fun hc27 => ?_) (fun hc27 => ?_)
    rotate_left
    · refine wp_exit ?_
      refine then_x ?_
      refine then_x ?_
      refine blk_x ?_
      refine then_n ?_
      exact ⟨l8, x10, x11, v9, (fun qq => bif Nat.blt qq 24 then List.getD [.int .i64 ((x11 : Nat) : Int), .string (tx s), .int .i64 ((s.length : Nat) : Int), .bool (decide (x11 ≤ s.length)), u0 4, u0 5, u0 6, u0 7, u0 8, u0 9, u0 10, u0 11, u0 12, u0 13, u0 14, u0 15, u0 16, u0 17, u0 18, u0 19, u0 20, u0 21, u0 22, u0 23] qq undef else List.getD [u0 24] (qq - 24) undef), (hi14.trans (show rsplit_m_b0 s (rsplit_m_l0 s k13) l8 x10 x11 = .inl (l8, x10, x11) from by unfold rsplit_m_b0; rw [if_neg hc27] <;> rfl)), (by first | omega | (simp; done) | (simp; omega) | (simp at *; omega)), rfl, hm21⟩
    refine wp_skip ?_
    refine then_n (hK25 _ _ ?_)
    refine wp_seq_k (fun K28 hK28 => ?_)
    refine wp_block ?_
    refine wp_seq_k (fun K29 hK29 => ?_)
    refine wp_region_lit ?_
    refine lvw 12 (.int .i64 ((x11 : Nat) : Int)) rfl rfl (run_mv rfl rfl) ?_
    simp only [nz1, nz2, nz3]
    refine lvw 13 (.string (tx s)) rfl rfl (run_mv rfl rfl) ?_
    simp only [nz1, nz2, nz3]
    refine lvw 14 (.int .i64 ((s.length : Nat) : Int)) rfl rfl (t_len rfl Tryd.underlying9 rfl) ?_
    simp only [nz1, nz2, nz3]
    refine lvb 15 (x11 = s.length) rfl rfl (r_eql x11 s.length rfl rfl rfl) (fun hs30 => ?_) (fun hs30 => ?_)
    · simp only [nz1, nz2, nz3]
      refine lvw 16 (.bool true) rfl rfl (run_mv rfl rfl) ?_
      simp only [nz1, nz2, nz3]
      refine lst_skip 17 rfl rfl ?_
      simp only [nz1, nz2, nz3]
      refine lst_skip 18 rfl rfl ?_
      simp only [nz1, nz2, nz3]
      refine lst_skip 19 rfl rfl ?_
      simp only [nz1, nz2, nz3]
      refine lst_skip 20 rfl rfl ?_
      simp only [nz1, nz2, nz3]
      refine lvw 21 (.bool true) rfl rfl (run_pick rfl rfl rfl) ?_
      simp only [nz1, nz2, nz3]
      refine wpList_nil ?_
      refine then_n (hK29 _ _ ?_)
      refine cond_t rfl ?_
      refine wp_seq_k (fun K31 hK31 => ?_)
      refine wp_region_lit ?_
      refine lvw 22 (v9) rfl rfl (run_mv rfl rfl) ?_
      simp only [nz1, nz2, nz3]
      refine lvw 23 (.string (tx s)) rfl rfl (run_mv rfl rfl) ?_
      simp only [nz1, nz2, nz3]
      refine lvw 24 (.int .i64 ((x10 : Nat) : Int)) rfl rfl (run_mv rfl rfl) ?_
      simp only [nz1, nz2, nz3]
      refine lvw 25 (.int .i64 ((x11 : Nat) : Int)) rfl rfl (run_mv rfl rfl) ?_
      simp only [nz1, nz2, nz3]
      refine lvw 26 (.string (tx ((s.take x11).drop x10))) rfl rfl (t_cut s x10 x11 (by omega) (by omega) Tryd.underlying9 rfl rfl rfl rfl) ?_
      simp only [nz1, nz2, nz3]
      refine lst rfl (m_make (c := #[.string (tx ((s.take x11).drop x10))]) (T := 9) (fun g => .slice (some ⟨g, 0, none⟩) 1 1) hm21 27 rfl (by unfold execOp; go_simp; try rfl) (fun g34 w32 (hm33 : Mm none (fun _ => True) w w32 [.row v9 l8.length (l8.flatMap eS) 9 1, .blk g34 #[.string (tx ((s.take x11).drop x10))] 9]) => ?_))
      simp only [nz1, nz2, nz3]
      obtain ⟨iq, hiq, hz1, hz2, hz3⟩ := inf_9
      refine lst rfl (m_appendR 0 (l := l8) (l2 := [((s.take x11).drop x10)]) iq _ _ _ (.slice (some ⟨g34, 0, none⟩) 1 1) hm33 rfl 28 rfl rfl Tryd.underlying22 hiq hz1 hz2 hz3 eS_len eS_one rfl (by decide) rfl rfl (Rs.blk (l := [((s.take x11).drop x10)]) (hm33.at 1 rfl) rfl rfl eS_len) (by first | omega | (simp; omega)) (by first | omega | (simp; omega)) (fun v37 w35 (hm36 : Mm none (fun _ => True) w w35 [.row v37 (l8 ++ [((s.take x11).drop x10)]).length ((l8 ++ [((s.take x11).drop x10)]).flatMap eS) 9 1, .blk g34 #[.string (tx ((s.take x11).drop x10))] 9]) => ?_))
      simp only [nz1, nz2, nz3]
      refine lvw 3 (v37) rfl rfl (run_as rfl rfl) ?_
      simp only [nz1, nz2, nz3]
      refine wpList_nil ?_
      refine then_n (hK31 _ _ ?_)
      refine wp_region_lit ?_
      refine lvw 29 (.int .i64 ((x11 : Nat) : Int)) rfl rfl (run_mv rfl rfl) ?_
      simp only [nz1, nz2, nz3]
      refine lvw 30 (.int .i64 (((x11 + 1) : Nat) : Int)) rfl rfl (r_add x11 1 (show (x11 + 1) < 9223372036854775808 from by omega) rfl rfl rfl) ?_
      simp only [nz1, nz2, nz3]
      refine lvw 4 (.int .i64 (((x11 + 1) : Nat) : Int)) rfl rfl (run_as rfl rfl) ?_
      simp only [nz1, nz2, nz3]
      refine wpList_nil ?_
      refine blk_n ?_
      refine then_n (hK28 _ _ ?_)
      refine wp_region_lit ?_
      refine lvw 10 (.int .i64 ((x11 : Nat) : Int)) rfl rfl (run_mv rfl rfl) ?_
      simp only [nz1, nz2, nz3]
      refine lvw 11 (.int .i64 (((x11 + 1) : Nat) : Int)) rfl rfl (r_add x11 1 (show (x11 + 1) < 9223372036854775808 from by omega) rfl rfl rfl) ?_
      simp only [nz1, nz2, nz3]
      refine lvw 5 (.int .i64 (((x11 + 1) : Nat) : Int)) rfl rfl (run_as rfl rfl) ?_
      simp only [nz1, nz2, nz3]
      refine wpList_nil ?_
      refine then_n (hR22 _ _ _ ⟨k13, (l8 ++ [((s.take x11).drop x10)]), (x11 + 1), (x11 + 1), v37, (fun qq => bif Nat.blt qq 24 then List.getD [.int .i64 ((x11 : Nat) : Int), .string (tx s), .int .i64 ((s.length : Nat) : Int), .bool (decide (x11 ≤ s.length)), .int .i64 ((x11 : Nat) : Int), .int .i64 (((x11 + 1) : Nat) : Int), .int .i64 ((x11 : Nat) : Int), .string (tx s), .int .i64 ((s.length : Nat) : Int), .bool true, .bool true, undef, undef, undef, undef, .bool true, v9, .string (tx s), .int .i64 ((x10 : Nat) : Int), .int .i64 ((x11 : Nat) : Int), .string (tx ((s.take x11).drop x10)), .slice (some ⟨g34, 0, none⟩) 1 1, v37, .int .i64 ((x11 : Nat) : Int)] qq undef else List.getD [.int .i64 (((x11 + 1) : Nat) : Int)] (qq - 24) undef), rfl, (by first | omega | (simp; omega) | (simp at *; omega)), (hi14.trans (show rsplit_m_b0 s (rsplit_m_l0 s k13) l8 x10 x11 = rsplit_m_l0 s k13 ((l8 ++ [((s.take x11).drop x10)]), (x11 + 1), (x11 + 1)) from by unfold rsplit_m_b0; rw [if_pos hc27, if_pos hs30] <;> rfl)), (by first | omega | (simp; done) | (simp; omega) | (simp at *; omega)), rfl, (Mm.reorder hm36 [0] (by decide) rfl)⟩ ?_)
      omega
    simp only [nz1, nz2, nz3]
    refine lvw 16 (.bool false) rfl rfl (run_mv rfl rfl) ?_
    simp only [nz1, nz2, nz3]
    refine lvw 17 (.string (tx s)) rfl rfl (run_mv rfl rfl) ?_
    simp only [nz1, nz2, nz3]
    refine lvw 18 (.int .i64 ((x11 : Nat) : Int)) rfl rfl (run_mv rfl rfl) ?_
    simp only [nz1, nz2, nz3]
    refine lvw 19 (.int .u8 ((by' s x11 : Nat) : Int)) rfl rfl (t_char s x11 (by omega) Tryd.underlying9 rfl rfl rfl) ?_
    simp only [nz1, nz2, nz3]
    refine lvw 20 (.bool (decide (by' s x11 = 47))) rfl rfl (r_eql (by' s x11) 47 rfl rfl rfl) ?_
    simp only [nz1, nz2, nz3]
    refine lvw 21 (.bool (decide (by' s x11 = 47))) rfl rfl (run_pickf rfl rfl rfl) ?_
    simp only [nz1, nz2, nz3]
    refine wpList_nil ?_
    refine then_n (hK29 _ _ ?_)
    refine cond_d (by' s x11 = 47) rfl (fun hc38 => ?_) (fun hc38 => ?_)
    rotate_left
    · refine wp_skip ?_
      refine blk_n ?_
      refine then_n (hK28 _ _ ?_)
      refine wp_region_lit ?_
      refine lvw 10 (.int .i64 ((x11 : Nat) : Int)) rfl rfl (run_mv rfl rfl) ?_
      simp only [nz1, nz2, nz3]
      refine lvw 11 (.int .i64 (((x11 + 1) : Nat) : Int)) rfl rfl (r_add x11 1 (show (x11 + 1) < 9223372036854775808 from by omega) rfl rfl rfl) ?_
      simp only [nz1, nz2, nz3]
      refine lvw 5 (.int .i64 (((x11 + 1) : Nat) : Int)) rfl rfl (run_as rfl rfl) ?_
      simp only [nz1, nz2, nz3]
      refine wpList_nil ?_
      refine then_n (hR22 _ _ _ ⟨k13, l8, x10, (x11 + 1), v9, (fun qq => bif Nat.blt qq 24 then List.getD [.int .i64 ((x11 : Nat) : Int), .string (tx s), .int .i64 ((s.length : Nat) : Int), .bool (decide (x11 ≤ s.length)), .int .i64 ((x11 : Nat) : Int), .int .i64 (((x11 + 1) : Nat) : Int), .int .i64 ((x11 : Nat) : Int), .string (tx s), .int .i64 ((s.length : Nat) : Int), .bool false, .bool false, .string (tx s), .int .i64 ((x11 : Nat) : Int), .int .u8 ((by' s x11 : Nat) : Int), .bool (decide (by' s x11 = 47)), .bool (decide (by' s x11 = 47)), u0 16, u0 17, u0 18, u0 19, u0 20, u0 21, u0 22, u0 23] qq undef else List.getD [u0 24] (qq - 24) undef), rfl, (by first | omega | (simp; omega) | (simp at *; omega)), (hi14.trans (show rsplit_m_b0 s (rsplit_m_l0 s k13) l8 x10 x11 = rsplit_m_l0 s k13 (l8, x10, (x11 + 1)) from by unfold rsplit_m_b0; rw [if_pos hc27, if_neg hs30, if_neg hc38] <;> rfl)), (by first | omega | (simp; done) | (simp; omega) | (simp at *; omega)), rfl, hm21⟩ ?_)
      omega
    refine wp_seq_k (fun K39 hK39 => ?_)
    refine wp_region_lit ?_
    refine lvw 22 (v9) rfl rfl (run_mv rfl rfl) ?_
    simp only [nz1, nz2, nz3]
    refine lvw 23 (.string (tx s)) rfl rfl (run_mv rfl rfl) ?_
    simp only [nz1, nz2, nz3]
    refine lvw 24 (.int .i64 ((x10 : Nat) : Int)) rfl rfl (run_mv rfl rfl) ?_
    simp only [nz1, nz2, nz3]
    refine lvw 25 (.int .i64 ((x11 : Nat) : Int)) rfl rfl (run_mv rfl rfl) ?_
    simp only [nz1, nz2, nz3]
    refine lvw 26 (.string (tx ((s.take x11).drop x10))) rfl rfl (t_cut s x10 x11 (by omega) (by omega) Tryd.underlying9 rfl rfl rfl rfl) ?_
    simp only [nz1, nz2, nz3]
    refine lst rfl (m_make (c := #[.string (tx ((s.take x11).drop x10))]) (T := 9) (fun g => .slice (some ⟨g, 0, none⟩) 1 1) hm21 27 rfl (by unfold execOp; go_simp; try rfl) (fun g42 w40 (hm41 : Mm none (fun _ => True) w w40 [.row v9 l8.length (l8.flatMap eS) 9 1, .blk g42 #[.string (tx ((s.take x11).drop x10))] 9]) => ?_))
    simp only [nz1, nz2, nz3]
    obtain ⟨iq, hiq, hz1, hz2, hz3⟩ := inf_9
    refine lst rfl (m_appendR 0 (l := l8) (l2 := [((s.take x11).drop x10)]) iq _ _ _ (.slice (some ⟨g42, 0, none⟩) 1 1) hm41 rfl 28 rfl rfl Tryd.underlying22 hiq hz1 hz2 hz3 eS_len eS_one rfl (by decide) rfl rfl (Rs.blk (l := [((s.take x11).drop x10)]) (hm41.at 1 rfl) rfl rfl eS_len) (by first | omega | (simp; omega)) (by first | omega | (simp; omega)) (fun v45 w43 (hm44 : Mm none (fun _ => True) w w43 [.row v45 (l8 ++ [((s.take x11).drop x10)]).length ((l8 ++ [((s.take x11).drop x10)]).flatMap eS) 9 1, .blk g42 #[.string (tx ((s.take x11).drop x10))] 9]) => ?_))
    simp only [nz1, nz2, nz3]
    refine lvw 3 (v45) rfl rfl (run_as rfl rfl) ?_
    simp only [nz1, nz2, nz3]
    refine wpList_nil ?_
    refine then_n (hK39 _ _ ?_)
    refine wp_region_lit ?_
    refine lvw 29 (.int .i64 ((x11 : Nat) : Int)) rfl rfl (run_mv rfl rfl) ?_
    simp only [nz1, nz2, nz3]
    refine lvw 30 (.int .i64 (((x11 + 1) : Nat) : Int)) rfl rfl (r_add x11 1 (show (x11 + 1) < 9223372036854775808 from by omega) rfl rfl rfl) ?_
    simp only [nz1, nz2, nz3]
    refine lvw 4 (.int .i64 (((x11 + 1) : Nat) : Int)) rfl rfl (run_as rfl rfl) ?_
    simp only [nz1, nz2, nz3]
    refine wpList_nil ?_
    refine blk_n ?_
    refine then_n (hK28 _ _ ?_)
    refine wp_region_lit ?_
    refine lvw 10 (.int .i64 ((x11 : Nat) : Int)) rfl rfl (run_mv rfl rfl) ?_
    simp only [nz1, nz2, nz3]
    refine lvw 11 (.int .i64 (((x11 + 1) : Nat) : Int)) rfl rfl (r_add x11 1 (show (x11 + 1) < 9223372036854775808 from by omega) rfl rfl rfl) ?_
    simp only [nz1, nz2, nz3]
    refine lvw 5 (.int .i64 (((x11 + 1) : Nat) : Int)) rfl rfl (run_as rfl rfl) ?_
    simp only [nz1, nz2, nz3]
    refine wpList_nil ?_
    refine then_n (hR22 _ _ _ ⟨k13, (l8 ++ [((s.take x11).drop x10)]), (x11 + 1), (x11 + 1), v45, (fun qq => bif Nat.blt qq 24 then List.getD [.int .i64 ((x11 : Nat) : Int), .string (tx s), .int .i64 ((s.length : Nat) : Int), .bool (decide (x11 ≤ s.length)), .int .i64 ((x11 : Nat) : Int), .int .i64 (((x11 + 1) : Nat) : Int), .int .i64 ((x11 : Nat) : Int), .string (tx s), .int .i64 ((s.length : Nat) : Int), .bool false, .bool false, .string (tx s), .int .i64 ((x11 : Nat) : Int), .int .u8 ((by' s x11 : Nat) : Int), .bool (decide (by' s x11 = 47)), .bool (decide (by' s x11 = 47)), v9, .string (tx s), .int .i64 ((x10 : Nat) : Int), .int .i64 ((x11 : Nat) : Int), .string (tx ((s.take x11).drop x10)), .slice (some ⟨g42, 0, none⟩) 1 1, v45, .int .i64 ((x11 : Nat) : Int)] qq undef else List.getD [.int .i64 (((x11 + 1) : Nat) : Int)] (qq - 24) undef), rfl, (by first | omega | (simp; omega) | (simp at *; omega)), (hi14.trans (show rsplit_m_b0 s (rsplit_m_l0 s k13) l8 x10 x11 = rsplit_m_l0 s k13 ((l8 ++ [((s.take x11).drop x10)]), (x11 + 1), (x11 + 1)) from by unfold rsplit_m_b0; rw [if_pos hc27, if_neg hs30, if_pos hc38] <;> rfl)), (by first | omega | (simp; done) | (simp; omega) | (simp at *; omega)), rfl, (Mm.reorder hm44 [0] (by decide) rfl)⟩ ?_)
    omega
  rintro _ w46 ⟨y15, y17, y18, v16, yu0, hx19, hsp, rfl, hm47⟩
  have hq48 : rsplit_m s = rsplit_m_k0 s y15 y17 y18 := (show rsplit_m s = rsplit_m_k0 s y15 y17 y18 from by unfold rsplit_m; rw [hx19] <;> rfl)
  refine then_n (hK4 _ _ ?_)
  refine wp_seq_k (fun K49 hK49 => ?_)
  refine wp_region_lit ?_
  refine lvw 31 (v16) rfl rfl (run_mv rfl rfl) ?_
  simp only [nz1, nz2, nz3]
  refine lvw 2 (v16) rfl rfl (run_as rfl rfl) ?_
  simp only [nz1, nz2, nz3]
  refine wpList_nil ?_
  refine then_n (hK49 _ _ ?_)
  refine wp_ret ?_
  have he50 : rsplit_m s = y15 := (hq48.trans (show rsplit_m_k0 s y15 y17 y18 = y15 from by unfold rsplit_m_k0; rfl))
  exact ⟨rfl, v16, res_t rfl rfl, ⟨⟨_, rfl, v16, (by first | rfl | rw [he50]), by rw [he50]; exact hm47.gives 0 rfl⟩, hm47.below⟩⟩
theorem run_rsplit {o : Oper} {a : Act} {w : World} {x0 : Operand} {v0 : Value} (ho : o.op = .call { callee := .value (.func 40), args := #[x0], argTypes := #[9] }) (h0 : a.eval x0 = v0) :
    (execOp a.eval o).run Tryd.prog w = .ok (.enter 40 #[v0]) w := by
  unfold execOp
  simp only [ho]
  have hf : a.eval (.func 40) = .func (.func 40) #[] #[] := rfl
  generalize a.eval = f at *
  go_simp
theorem mh_nil (l : List (List UInt8)) : l.modifyHead (fun y => [] ++ y) = l := by cases l <;> simp
theorem by_byte (s : List UInt8) (i : Nat) (c : UInt8) : by' s i = c.toNat ↔ s.getD i 0 = c := by
  unfold by'
  constructor
  · intro h; exact UInt8.toNat_inj.1 h
  · intro h; rw [h]
theorem rsplit_loop (s : List UInt8) : ∀ n l x i, i ≤ s.length + 1 → x ≤ i → (i ≤ s.length → True) → s.length + 1 - i < n → ∃ y z, rsplit_m_l0 s n (l, x, i) = .inl (l ++ (if i ≤ s.length then (sp 47 (s.drop i)).modifyHead ((s.take i).drop x ++ ·) else []), y, z)
  | 0, l, x, i, _, _, _, h => by omega
  | n + 1, l, x, i, hi, hx, _, h => by
    have E : rsplit_m_l0 s (n + 1) (l, x, i) = rsplit_m_b0 s (rsplit_m_l0 s n) l x i := rfl
    rw [E]
    unfold rsplit_m_b0
    by_cases h1 : i ≤ s.length
    · rw [if_pos h1, if_pos h1]
      by_cases h2 : i = s.length
      · rw [if_pos h2]
        obtain ⟨y, z, h3⟩ := rsplit_loop s n (l ++ [((s.take i).drop x)]) (i + 1) (i + 1) (by omega) (Nat.le_refl _) (fun _ => trivial) (by omega)
        refine ⟨y, z, ?_⟩
        rw [h3, if_neg (by omega), List.append_nil, h2, List.drop_length]
        simp [sp]
      · rw [if_neg h2]
        have hlt : i < s.length := by omega
        have hd : s.drop i = s.getD i 0 :: s.drop (i + 1) := by
          rw [List.getD_eq_getElem?_getD, List.getElem?_eq_getElem hlt, List.drop_eq_getElem_cons hlt]; rfl
        by_cases h4 : by' s i = 47
        · rw [if_pos h4]
          obtain ⟨y, z, h3⟩ := rsplit_loop s n (l ++ [((s.take i).drop x)]) (i + 1) (i + 1) (by omega) (Nat.le_refl _) (fun _ => trivial) (by omega)
          refine ⟨y, z, ?_⟩
          rw [h3, if_pos (by omega), hd]
          have e : s.getD i 0 = 47 := (by_byte s i 47).1 h4
          conv => rhs; unfold sp
          rw [if_pos e, (List.drop_eq_nil_of_le (by rw [List.length_take]; omega) : (s.take (i + 1)).drop (i + 1) = []), mh_nil]
          simp
        · rw [if_neg h4]
          obtain ⟨y, z, h3⟩ := rsplit_loop s n l x (i + 1) (by omega) (by omega) (fun _ => trivial) (by omega)
          refine ⟨y, z, ?_⟩
          rw [h3, if_pos (by omega), hd]
          have e : ¬ s.getD i 0 = 47 := fun e => h4 ((by_byte s i 47).2 e)
          conv => rhs; unfold sp
          rw [if_neg e, take_snoc s i hlt 0, List.drop_append_of_le_length (by rw [List.length_take]; omega)]
          cases hs : sp 47 (s.drop (i + 1)) with
          | nil => exact absurd hs (sp_ne 47 _)
          | cons x r => simp
    · rw [if_neg h1, if_neg h1, List.append_nil]
      exact ⟨x, i, rfl⟩
theorem rsplit_is (s : List UInt8) : rsplit_m s = sp 47 s := by
  unfold rsplit_m
  obtain ⟨y, z, h⟩ := rsplit_loop s ((s.length + 1 - 0) + 1) [] 0 0 (by omega) (by omega) (fun _ => trivial) (by omega)
  rw [h, if_pos (by omega), List.nil_append]
  dsimp only [fin]
  unfold rsplit_m_k0
  simp only [List.drop_zero, List.take_zero, mh_nil]
theorem sp_len (c : UInt8) : ∀ s : List UInt8, (sp c s).length ≤ s.length + 1 ∧ 1 ≤ (sp c s).length
  | [] => by simp [sp]
  | x :: r => by
    have h := sp_len c r
    unfold sp
    split
    · simp; omega
    · simp; omega
/-- How many bytes the texts have. -/
def tot (l : List (List UInt8)) : Nat := (l.map List.length).sum
theorem tot_step (l : List (List UInt8)) (i : Nat) (h : i < l.length) : tot (l.take (i + 1)) = tot (l.take i) + (l.getD i []).length := by
  unfold tot
  rw [take_snoc l i h [], List.map_append, List.sum_append]
  rfl
theorem tot_le (l : List (List UInt8)) (i : Nat) : tot (l.take i) ≤ tot l := by
  have h : tot l = tot (l.take i) + tot (l.drop i) := by
    unfold tot
    rw [← List.sum_append, ← List.map_append, List.take_append_drop]
  omega
theorem tot_nil : tot [] = 0 := rfl
theorem tot_cons (x : List UInt8) (l : List (List UInt8)) : tot (x :: l) = x.length + tot l := rfl
theorem tot_sp (c : UInt8) : ∀ s : List UInt8, tot (sp c s) ≤ s.length
  | [] => by simp [sp, tot]
  | x :: r => by
    have h := tot_sp c r
    unfold sp
    split
    · rw [tot_cons]; simp; omega
    · cases hs : sp c r with
      | nil => exact absurd hs (sp_ne c r)
      | cons y t =>
        rw [hs, tot_cons] at h
        rw [tot_cons]
        simp
        omega
theorem rsplit_len (s : List UInt8) : (rsplit_m s).length ≤ s.length + 1 ∧ 1 ≤ (rsplit_m s).length ∧ tot (rsplit_m s) ≤ s.length := by rw [rsplit_is]; exact ⟨(sp_len 47 s).1, (sp_len 47 s).2, tot_sp 47 s⟩
def rparts_m_b0 (s : List UInt8) (rec : Nat → Sum (Nat) ((List (List UInt8)) × Int)) (x19 : Nat) : Sum (Nat) ((List (List UInt8)) × Int) :=
  if x19 < (rsplit_m s).length then
    if (!(rpart_m ((rsplit_m s).getD x19 []))) = true then
      .inr (([] : List (List UInt8)), 4)
    else
      rec (x19 + 1)
  else
    .inl x19
def rparts_m_l0 (s : List UInt8) : Nat → Nat → Sum (Nat) ((List (List UInt8)) × Int)
  | 0, zz => .inl zz
  | nq + 1, zz => rparts_m_b0 s (rparts_m_l0 s nq) zz

def rparts_m_k0 (s : List UInt8) (y23 : Nat) : (List (List UInt8)) × Int :=
  if 16 < (rsplit_m s).length then
    (([] : List (List UInt8)), 3)
  else
    ((rsplit_m s), 0)

def rparts_m (s : List UInt8) : (List (List UInt8)) × Int :=
  if 200 < s.length then
    (([] : List (List UInt8)), 3)
  else
    fin (rparts_m_l0 s (((rsplit_m s).length - 0) + 1) 0) (fun r => r) (fun zz => rparts_m_k0 s zz)

set_option maxHeartbeats 4000000 in
set_option maxRecDepth 100000 in
theorem rparts_any (s : List UInt8) (S : Nat → Prop) (w : World)   : Calls Tryd.prog 16 #[.string (tx s)] w (fun e w' => (∃ v, e = .returned v ∧ ∃ o0 : Value, v = .tuple #[o0, .int .i64 ((rparts_m s).2)] ∧ Gives w w' S (Rs eS 1 ((rparts_m s).1) o0)) ∧ Below w.heap.size w w') := by
  go_enter Tryd.func16, Tryd.ntmps16
  have hm00 := Mm.nil none S w
  have hm0 := hm00
  refine wp_seq_k (fun K1 hK1 => ?_)
  refine wp_region_lit ?_
  refine lvw 2 (.slice none 0 0) rfl rfl (run_as rfl rfl) ?_
  simp only [nz1, nz2, nz3]
  refine lvw 3 (.int .i64 0) rfl rfl (run_as rfl rfl) ?_
  simp only [nz1, nz2, nz3]
  refine wpList_nil ?_
  refine then_n (hK1 _ _ ?_)
  refine wp_seq_k (fun K2 hK2 => ?_)
  refine wp_seq_k (fun K3 hK3 => ?_)
  refine wp_region_lit ?_
  refine lvw 6 (.string (tx s)) rfl rfl (run_mv rfl rfl) ?_
  simp only [nz1, nz2, nz3]
  refine lvw 7 (.int .i64 ((s.length : Nat) : Int)) rfl rfl (t_len rfl Tryd.underlying9 rfl) ?_
  simp only [nz1, nz2, nz3]
  refine lvw 8 (.bool (decide (200 < s.length))) rfl rfl (r_gtr s.length 200 rfl rfl rfl) ?_
  simp only [nz1, nz2, nz3]
  refine wpList_nil ?_
  refine then_n (hK3 _ _ ?_)
  refine cond_d (200 < s.length) rfl (fun hc4 => ?_) (fun hc4 => ?_)
  · refine wp_seq_k (fun K5 hK5 => ?_)
    refine wp_region_lit ?_
    refine lvw 2 (.slice none 0 0) rfl rfl (run_as rfl rfl) ?_
    simp only [nz1, nz2, nz3]
    refine lvw 3 (.int .i64 3) rfl rfl (run_as rfl rfl) ?_
    simp only [nz1, nz2, nz3]
    refine wpList_nil ?_
    refine then_n (hK5 _ _ ?_)
    refine wp_ret ?_
    refine then_r ?_
    have he6 : rparts_m s = (([] : List (List UInt8)), 3) := (show rparts_m s = (([] : List (List UInt8)), 3) from by unfold rparts_m; rw [if_pos hc4] <;> rfl)
    exact ⟨rfl, .tuple #[.slice none 0 0, .int .i64 3], res_tt rfl rfl rfl, ⟨⟨_, rfl, (.slice none 0 0), (by first | rfl | rw [he6]), by rw [he6]; exact hm0.give (From.pure (fun W => Rs.nil eS 1 W))⟩, hm0.below⟩⟩
  refine wp_skip ?_
  refine then_n (hK2 _ _ ?_)
  refine wp_seq_k (fun K7 hK7 => ?_)
  refine wp_region_lit ?_
  refine lvw 9 (.string (tx s)) rfl rfl (run_mv rfl rfl) ?_
  simp only [nz1, nz2, nz3]
  refine lst rfl (m_callx hm0 10 rfl (run_rsplit rfl rfl) (rsplit_any s  _  (by first | omega | assumption | decide | (simp; done) | (simp; omega))) (fun v10 w8 hR12 hb13 hm9 => ?_))
  obtain ⟨_, rfl, ho15⟩ := hR12
  have hm14 : Mm none S w w8 [.row v10 (rsplit_m s).length ((rsplit_m s).flatMap eS) 9 1] := hm0.gained hb13 ho15
  clear hm9
  have hf16 : (rsplit_m s).length ≤ s.length + 1 ∧ 1 ≤ (rsplit_m s).length ∧ tot (rsplit_m s) ≤ s.length := rsplit_len s
  simp only [nz1, nz2, nz3]
  refine lvw 4 (v10) rfl rfl (run_as rfl rfl) ?_
  simp only [nz1, nz2, nz3]
  refine wpList_nil ?_
  refine then_n (hK7 _ _ ?_)
  refine wp_seq_k (fun K17 hK17 => ?_)
  refine wp_seq_k (fun K18 hK18 => ?_)
  refine wp_region_lit ?_
  refine lvw 5 (.int .i64 0) rfl rfl (run_as rfl rfl) ?_
  simp only [nz1, nz2, nz3]
  refine wpList_nil ?_
  refine then_n (hK18 _ _ ?_)
  refine wp_cutK (fun a' w' => ∃ (y23 : Nat) (yu0 : Nat → Value), rparts_m_l0 s (((rsplit_m s).length - 0) + 1) 0 = .inl y23 ∧ a' = ⟨#[.string (tx s), undef, yu0 0, yu0 1, v10, .int .i64 ((y23 : Nat) : Int), .string (tx s), .int .i64 ((s.length : Nat) : Int), .bool (decide (200 < s.length)), .string (tx s), v10, yu0 2, yu0 3, yu0 4, yu0 5, yu0 6, yu0 7, yu0 8, yu0 9, yu0 10, yu0 11, yu0 12, yu0 13, undef, undef, undef, undef], []⟩ ∧ Mm none S w w' [.row v10 (rsplit_m s).length ((rsplit_m s).flatMap eS) 9 1]) ?_ ?_
  · refine wp_block ?_
    refine wp_loop_n (fun n' a' w' => ∃ (n20 : Nat) (x19 : Nat) (u0 : Nat → Value), n' = n20 ∧ ((rsplit_m s).length - x19) < n20 ∧ rparts_m_l0 s (((rsplit_m s).length - 0) + 1) 0 = rparts_m_l0 s n20 x19 ∧ a' = ⟨#[.string (tx s), undef, u0 0, u0 1, v10, .int .i64 ((x19 : Nat) : Int), .string (tx s), .int .i64 ((s.length : Nat) : Int), .bool (decide (200 < s.length)), .string (tx s), v10, u0 2, u0 3, u0 4, u0 5, u0 6, u0 7, u0 8, u0 9, u0 10, u0 11, u0 12, u0 13, undef, undef, undef, undef], []⟩ ∧ Mm none S w w' [.row v10 (rsplit_m s).length ((rsplit_m s).flatMap eS) 9 1]) ⟨(((rsplit_m s).length - 0) + 1), 0, (fun qq => List.getD [.slice none 0 0, .int .i64 0, undef, undef, undef, undef, undef, undef, undef, undef, undef, undef, undef, undef] qq undef), rfl, Nat.lt_succ_self _, rfl, rfl, hm14⟩ ?_
    rintro n20 _ w25 ⟨_, x19, u0, rfl, hl29, hi22, rfl, hm26⟩ R27 hR27
    obtain ⟨k21, rfl⟩ : ∃ k, n20 = k + 1 := ⟨n20 - 1, by omega⟩
    refine wp_seq_k (fun K30 hK30 => ?_)
    refine wp_seq_k (fun K31 hK31 => ?_)
    refine wp_region_lit ?_
    refine lvw 11 (.int .i64 ((x19 : Nat) : Int)) rfl rfl (run_mv rfl rfl) ?_
    simp only [nz1, nz2, nz3]
    refine lvw 12 (v10) rfl rfl (run_mv rfl rfl) ?_
    simp only [nz1, nz2, nz3]
    refine lvw 13 (.int .i64 (((rsplit_m s).length : Nat) : Int)) rfl rfl (s_len (Rs.row (hm26.row 0 rfl)) rfl Tryd.underlying22 rfl) ?_
    simp only [nz1, nz2, nz3]
    refine lvw 14 (.bool (decide (x19 < (rsplit_m s).length))) rfl rfl (r_lss x19 ((rsplit_m s).length) rfl rfl rfl) ?_
    simp only [nz1, nz2, nz3]
    refine wpList_nil ?_
    refine then_n (hK31 _ _ ?_)
    refine cond_d (x19 < (rsplit_m s).length) rfl (fun hc32 => ?_) (fun hc32 => ?_)
    rotate_left
    · refine wp_exit ?_
      refine then_x ?_
      refine then_x ?_
      refine blk_x ?_
      refine then_n ?_
      exact ⟨x19, (fun qq => List.getD [u0 0, u0 1, .int .i64 ((x19 : Nat) : Int), v10, .int .i64 (((rsplit_m s).length : Nat) : Int), .bool (decide (x19 < (rsplit_m s).length)), u0 6, u0 7, u0 8, u0 9, u0 10, u0 11, u0 12, u0 13] qq undef), (hi22.trans (show rparts_m_b0 s (rparts_m_l0 s k21) x19 = .inl x19 from by unfold rparts_m_b0; rw [if_neg hc32] <;> rfl)), rfl, hm26⟩
    refine wp_skip ?_
    refine then_n (hK30 _ _ ?_)
    refine wp_seq_k (fun K33 hK33 => ?_)
    refine wp_block ?_
    refine wp_seq_k (fun K34 hK34 => ?_)
    refine wp_region_lit ?_
    refine lvw 17 (v10) rfl rfl (run_mv rfl rfl) ?_
    simp only [nz1, nz2, nz3]
    refine lvw 18 (.int .i64 ((x19 : Nat) : Int)) rfl rfl (run_mv rfl rfl) ?_
    simp only [nz1, nz2, nz3]
    refine lvw 19 (.pointer (some ⟨(bk v10), (po v10 + x19 * 1), none⟩)) rfl rfl (r_ixv (Rs.row (hm26.row 0 rfl)) x19 (by omega) Tryd.underlying22 sz_9 rfl rfl rfl) ?_
    simp only [nz1, nz2, nz3]
    refine lvw 20 (.string (tx ((rsplit_m s).getD x19 []))) rfl rfl (r_cellw (Rs.cell (Rs.row (hm26.row 0 rfl)) eS_len [] x19 (by omega) 0 _ rfl) Tryd.underlying9 rfl rfl rfl) ?_
    simp only [nz1, nz2, nz3]
    refine lst rfl (m_call hm26 21 (.bool ((rpart_m ((rsplit_m s).getD x19 [])))) rfl (run_rpart rfl rfl) (rpart_any ((rsplit_m s).getD x19 [])  _  ) (fun w35 (hm36 : Mm none S w w35 [.row v10 (rsplit_m s).length ((rsplit_m s).flatMap eS) 9 1]) => ?_))
    simp only [nz1, nz2, nz3]
    refine lvw 22 (.bool (!(rpart_m ((rsplit_m s).getD x19 [])))) rfl rfl (r_not (rpart_m ((rsplit_m s).getD x19 [])) rfl rfl) ?_
    simp only [nz1, nz2, nz3]
    refine wpList_nil ?_
    refine then_n (hK34 _ _ ?_)
    refine cond_B (!(rpart_m ((rsplit_m s).getD x19 []))) rfl (fun hc37 => ?_) (fun hc37 => ?_)
    rotate_left
    · refine wp_skip ?_
      refine blk_n ?_
      refine then_n (hK33 _ _ ?_)
      refine wp_region_lit ?_
      refine lvw 15 (.int .i64 ((x19 : Nat) : Int)) rfl rfl (run_mv rfl rfl) ?_
      simp only [nz1, nz2, nz3]
      refine lvw 16 (.int .i64 (((x19 + 1) : Nat) : Int)) rfl rfl (r_add x19 1 (show (x19 + 1) < 9223372036854775808 from by omega) rfl rfl rfl) ?_
      simp only [nz1, nz2, nz3]
      refine lvw 5 (.int .i64 (((x19 + 1) : Nat) : Int)) rfl rfl (run_as rfl rfl) ?_
      simp only [nz1, nz2, nz3]
      refine wpList_nil ?_
      refine then_n (hR27 _ _ _ ⟨k21, (x19 + 1), (fun qq => List.getD [u0 0, u0 1, .int .i64 ((x19 : Nat) : Int), v10, .int .i64 (((rsplit_m s).length : Nat) : Int), .bool (decide (x19 < (rsplit_m s).length)), .int .i64 ((x19 : Nat) : Int), .int .i64 (((x19 + 1) : Nat) : Int), v10, .int .i64 ((x19 : Nat) : Int), .pointer (some ⟨(bk v10), (po v10 + x19 * 1), none⟩), .string (tx ((rsplit_m s).getD x19 [])), .bool ((rpart_m ((rsplit_m s).getD x19 []))), .bool (!(rpart_m ((rsplit_m s).getD x19 [])))] qq undef), rfl, (by first | omega | (simp; omega) | (simp at *; omega)), (hi22.trans (show rparts_m_b0 s (rparts_m_l0 s k21) x19 = rparts_m_l0 s k21 (x19 + 1) from by unfold rparts_m_b0; rw [if_pos hc32, if_neg hc37] <;> rfl)), rfl, hm36⟩ ?_)
      omega
    refine wp_seq_k (fun K38 hK38 => ?_)
    refine wp_region_lit ?_
    refine lvw 2 (.slice none 0 0) rfl rfl (run_as rfl rfl) ?_
    simp only [nz1, nz2, nz3]
    refine lvw 3 (.int .i64 4) rfl rfl (run_as rfl rfl) ?_
    simp only [nz1, nz2, nz3]
    refine wpList_nil ?_
    refine then_n (hK38 _ _ ?_)
    refine wp_ret ?_
    refine blk_r ?_
    refine then_r ?_
    refine then_r ?_
    refine blk_r ?_
    refine then_r ?_
    refine then_r ?_
    have he39 : rparts_m_l0 s (((rsplit_m s).length - 0) + 1) 0 = .inr (([] : List (List UInt8)), 4) := (hi22.trans (show rparts_m_b0 s (rparts_m_l0 s k21) x19 = .inr (([] : List (List UInt8)), 4) from by unfold rparts_m_b0; rw [if_pos hc32, if_pos hc37] <;> rfl))
    have he40 : rparts_m s = (([] : List (List UInt8)), 4) := (show rparts_m s = (([] : List (List UInt8)), 4) from by unfold rparts_m; rw [if_neg hc4, he39] <;> rfl)
    exact ⟨rfl, .tuple #[.slice none 0 0, .int .i64 4], res_tt rfl rfl rfl, ⟨⟨_, rfl, (.slice none 0 0), (by first | rfl | rw [he40]), by rw [he40]; exact hm36.give (From.pure (fun W => Rs.nil eS 1 W))⟩, hm36.below⟩⟩
  rintro _ w41 ⟨y23, yu0, hx24, rfl, hm42⟩
  have hq43 : rparts_m s = rparts_m_k0 s y23 := (show rparts_m s = rparts_m_k0 s y23 from by unfold rparts_m; rw [if_neg hc4, hx24] <;> rfl)
  refine then_n (hK17 _ _ ?_)
  refine wp_seq_k (fun K44 hK44 => ?_)
  refine wp_seq_k (fun K45 hK45 => ?_)
  refine wp_region_lit ?_
  refine lvw 23 (v10) rfl rfl (run_mv rfl rfl) ?_
  simp only [nz1, nz2, nz3]
  refine lvw 24 (.int .i64 (((rsplit_m s).length : Nat) : Int)) rfl rfl (s_len (Rs.row (hm42.row 0 rfl)) rfl Tryd.underlying22 rfl) ?_
  simp only [nz1, nz2, nz3]
  refine lvw 25 (.bool (decide (16 < (rsplit_m s).length))) rfl rfl (r_gtr ((rsplit_m s).length) 16 rfl rfl rfl) ?_
  simp only [nz1, nz2, nz3]
  refine wpList_nil ?_
  refine then_n (hK45 _ _ ?_)
  refine cond_d (16 < (rsplit_m s).length) rfl (fun hc46 => ?_) (fun hc46 => ?_)
  · refine wp_seq_k (fun K47 hK47 => ?_)
    refine wp_region_lit ?_
    refine lvw 2 (.slice none 0 0) rfl rfl (run_as rfl rfl) ?_
    simp only [nz1, nz2, nz3]
    refine lvw 3 (.int .i64 3) rfl rfl (run_as rfl rfl) ?_
    simp only [nz1, nz2, nz3]
    refine wpList_nil ?_
    refine then_n (hK47 _ _ ?_)
    refine wp_ret ?_
    refine then_r ?_
    have he48 : rparts_m s = (([] : List (List UInt8)), 3) := (hq43.trans (show rparts_m_k0 s y23 = (([] : List (List UInt8)), 3) from by unfold rparts_m_k0; rw [if_pos hc46] <;> rfl))
    exact ⟨rfl, .tuple #[.slice none 0 0, .int .i64 3], res_tt rfl rfl rfl, ⟨⟨_, rfl, (.slice none 0 0), (by first | rfl | rw [he48]), by rw [he48]; exact hm42.give (From.pure (fun W => Rs.nil eS 1 W))⟩, hm42.below⟩⟩
  refine wp_skip ?_
  refine then_n (hK44 _ _ ?_)
  refine wp_seq_k (fun K49 hK49 => ?_)
  refine wp_region_lit ?_
  refine lvw 26 (v10) rfl rfl (run_mv rfl rfl) ?_
  simp only [nz1, nz2, nz3]
  refine lvw 2 (v10) rfl rfl (run_as rfl rfl) ?_
  simp only [nz1, nz2, nz3]
  refine lvw 3 (.int .i64 0) rfl rfl (run_as rfl rfl) ?_
  simp only [nz1, nz2, nz3]
  refine wpList_nil ?_
  refine then_n (hK49 _ _ ?_)
  refine wp_ret ?_
  have hm50 : Mm none S w w41 [.see (Rs eS 1 (rsplit_m s) v10) (fp v10 ((rsplit_m s).flatMap eS))] := hm42.freeze 0 rfl
  have he51 : rparts_m s = ((rsplit_m s), 0) := (hq43.trans (show rparts_m_k0 s y23 = ((rsplit_m s), 0) from by unfold rparts_m_k0; rw [if_neg hc46] <;> rfl))
  exact ⟨rfl, .tuple #[v10, .int .i64 0], res_tt rfl rfl rfl, ⟨⟨_, rfl, v10, (by first | rfl | rw [he51]), by rw [he51]; exact hm50.give (hm50.from 0 rfl)⟩, hm50.below⟩⟩
theorem run_rparts {o : Oper} {a : Act} {w : World} {x0 : Operand} {v0 : Value} (ho : o.op = .call { callee := .value (.func 16), args := #[x0], argTypes := #[9] }) (h0 : a.eval x0 = v0) :
    (execOp a.eval o).run Tryd.prog w = .ok (.enter 16 #[v0]) w := by
  unfold execOp
  simp only [ho]
  have hf : a.eval (.func 16) = .func (.func 16) #[] #[] := rfl
  generalize a.eval = f at *
  go_simp
def rjoin_m_b0 (l : List (List UInt8)) (rec : (List UInt8) × Nat → Sum ((List UInt8) × Nat) ((List UInt8))) (x5 : List UInt8) (x6 : Nat) : Sum ((List UInt8) × Nat) ((List UInt8)) :=
  if x6 < l.length then
    if 0 < x6 then
      rec (((x5 ++ [47]) ++ (l.getD x6 [])), (x6 + 1))
    else
      rec ((x5 ++ (l.getD x6 [])), (x6 + 1))
  else
    .inl (x5, x6)
def rjoin_m_l0 (l : List (List UInt8)) : Nat → (List UInt8) × Nat → Sum ((List UInt8) × Nat) ((List UInt8))
  | 0, zz => .inl zz
  | nq + 1, zz => rjoin_m_b0 l (rjoin_m_l0 l nq) zz.1 zz.2

def rjoin_m_k0 (l : List (List UInt8)) (y10 : List UInt8) (y11 : Nat) : (List UInt8) :=
  y10

def rjoin_m (l : List (List UInt8)) : (List UInt8) :=
  fin (rjoin_m_l0 l ((l.length - 0) + 1) (([]), 0)) (fun r => r) (fun zz => rjoin_m_k0 l zz.1 zz.2)

set_option maxHeartbeats 4000000 in
set_option maxRecDepth 100000 in
theorem rjoin_any (l : List (List UInt8)) (lv0 : Value) (w : World) (hl : Rs eS 1 l lv0 w) (hp0 : l.length ≤ 8796093022207) (hp1 : tot l ≤ 140737488355328) : Calls Tryd.prog 30 #[lv0] w (fun e w' => e = .returned (.string (tx (rjoin_m l))) ∧ Below w.heap.size w w') := by
  go_enter Tryd.func30, Tryd.ntmps30
  have hm00 := Mm.nil none (fun _ => True) w
  obtain ⟨Fl, hm01⟩ : ∃ Fl, Mm none (fun _ => True) w w [.see (Rs eS 1 l lv0) Fl] := hm00.come (Rs.all hl)
  have hm0 := hm01
  refine wp_seq_k (fun K1 hK1 => ?_)
  refine wp_region_lit ?_
  refine lvw 2 (.string (tx ([]))) rfl rfl (run_as rfl rfl) ?_
  simp only [nz1, nz2, nz3]
  refine wpList_nil ?_
  refine then_n (hK1 _ _ ?_)
  refine wp_seq_k (fun K2 hK2 => ?_)
  refine wp_region_lit ?_
  refine lvw 3 (.string (tx ([]))) rfl rfl (run_as rfl rfl) ?_
  simp only [nz1, nz2, nz3]
  refine wpList_nil ?_
  refine then_n (hK2 _ _ ?_)
  refine wp_seq_k (fun K3 hK3 => ?_)
  refine wp_seq_k (fun K4 hK4 => ?_)
  refine wp_region_lit ?_
  refine lvw 4 (.int .i64 0) rfl rfl (run_as rfl rfl) ?_
  simp only [nz1, nz2, nz3]
  refine wpList_nil ?_
  refine then_n (hK4 _ _ ?_)
  refine wp_cutK (fun a' w' => ∃ (y10 : List UInt8) (y11 : Nat) (yu0 : Nat → Value), rjoin_m_l0 l ((l.length - 0) + 1) (([]), 0) = .inl (y10, y11) ∧ (y10.length ≤ tot (l.take y11) + y11 ∧ y11 ≤ l.length) ∧ a' = ⟨#[lv0, undef, .string (tx ([])), .string (tx y10), .int .i64 ((y11 : Nat) : Int), yu0 0, yu0 1, yu0 2, yu0 3, yu0 4, yu0 5, yu0 6, yu0 7, yu0 8, yu0 9, yu0 10, yu0 11, yu0 12, yu0 13, yu0 14, yu0 15, undef], []⟩ ∧ Mm none (fun _ => True) w w' [.see (Rs eS 1 l lv0) Fl]) ?_ ?_
  · refine wp_block ?_
    refine wp_loop_n (fun n' a' w' => ∃ (n7 : Nat) (x5 : List UInt8) (x6 : Nat) (u0 : Nat → Value), n' = n7 ∧ (l.length - x6) < n7 ∧ rjoin_m_l0 l ((l.length - 0) + 1) (([]), 0) = rjoin_m_l0 l n7 (x5, x6) ∧ (x5.length ≤ tot (l.take x6) + x6 ∧ x6 ≤ l.length) ∧ a' = ⟨#[lv0, undef, .string (tx ([])), .string (tx x5), .int .i64 ((x6 : Nat) : Int), u0 0, u0 1, u0 2, u0 3, u0 4, u0 5, u0 6, u0 7, u0 8, u0 9, u0 10, u0 11, u0 12, u0 13, u0 14, u0 15, undef], []⟩ ∧ Mm none (fun _ => True) w w' [.see (Rs eS 1 l lv0) Fl]) ⟨((l.length - 0) + 1), ([]), 0, (fun qq => List.getD [undef, undef, undef, undef, undef, undef, undef, undef, undef, undef, undef, undef, undef, undef, undef, undef] qq undef), rfl, Nat.lt_succ_self _, rfl, (by simp [tot_nil]), rfl, hm0⟩ ?_
    rintro n7 _ w13 ⟨_, x5, x6, u0, rfl, hl17, hi9, hjn, rfl, hm14⟩ R15 hR15
    obtain ⟨k8, rfl⟩ : ∃ k, n7 = k + 1 := ⟨n7 - 1, by omega⟩
    refine wp_seq_k (fun K18 hK18 => ?_)
    refine wp_seq_k (fun K19 hK19 => ?_)
    refine wp_region_lit ?_
    refine lvw 5 (.int .i64 ((x6 : Nat) : Int)) rfl rfl (run_mv rfl rfl) ?_
    simp only [nz1, nz2, nz3]
    refine lvw 6 (lv0) rfl rfl (run_mv rfl rfl) ?_
    simp only [nz1, nz2, nz3]
    refine lvw 7 (.int .i64 ((l.length : Nat) : Int)) rfl rfl (s_len ((hm14.see 0 rfl)) rfl Tryd.underlying22 rfl) ?_
    simp only [nz1, nz2, nz3]
    refine lvw 8 (.bool (decide (x6 < l.length))) rfl rfl (r_lss x6 l.length rfl rfl rfl) ?_
    simp only [nz1, nz2, nz3]
    refine wpList_nil ?_
    refine then_n (hK19 _ _ ?_)
    refine cond_d (x6 < l.length) rfl (fun hc20 => ?_) (fun hc20 => ?_)
    rotate_left
    · refine wp_exit ?_
      refine then_x ?_
      refine then_x ?_
      refine blk_x ?_
      refine then_n ?_
      exact ⟨x5, x6, (fun qq => List.getD [.int .i64 ((x6 : Nat) : Int), lv0, .int .i64 ((l.length : Nat) : Int), .bool (decide (x6 < l.length)), u0 4, u0 5, u0 6, u0 7, u0 8, u0 9, u0 10, u0 11, u0 12, u0 13, u0 14, u0 15] qq undef), (hi9.trans (show rjoin_m_b0 l (rjoin_m_l0 l k8) x5 x6 = .inl (x5, x6) from by unfold rjoin_m_b0; rw [if_neg hc20] <;> rfl)), (by first | omega | (simp; done) | (simp; omega) | (simp at *; omega)), rfl, hm14⟩
    refine wp_skip ?_
    refine then_n (hK18 _ _ ?_)
    refine wp_seq_k (fun K21 hK21 => ?_)
    refine wp_block ?_
    refine wp_seq_k (fun K22 hK22 => ?_)
    refine wp_seq_k (fun K23 hK23 => ?_)
    refine wp_region_lit ?_
    refine lvw 11 (.int .i64 ((x6 : Nat) : Int)) rfl rfl (run_mv rfl rfl) ?_
    simp only [nz1, nz2, nz3]
    refine lvw 12 (.bool (decide (0 < x6))) rfl rfl (r_gtr x6 0 rfl rfl rfl) ?_
    simp only [nz1, nz2, nz3]
    refine wpList_nil ?_
    refine then_n (hK23 _ _ ?_)
    refine cond_d (0 < x6) rfl (fun hc24 => ?_) (fun hc24 => ?_)
    rotate_left
    · refine wp_skip ?_
      refine then_n (hK22 _ _ ?_)
      refine wp_region_lit ?_
      refine lvw 15 (.string (tx x5)) rfl rfl (run_mv rfl rfl) ?_
      simp only [nz1, nz2, nz3]
      refine lvw 16 (lv0) rfl rfl (run_mv rfl rfl) ?_
      simp only [nz1, nz2, nz3]
      refine lvw 17 (.int .i64 ((x6 : Nat) : Int)) rfl rfl (run_mv rfl rfl) ?_
      simp only [nz1, nz2, nz3]
      refine lvw 18 (.pointer (some ⟨(bk lv0), (po lv0 + x6 * 1), none⟩)) rfl rfl (r_ixv ((hm14.see 0 rfl)) x6 (by omega) Tryd.underlying22 sz_9 rfl rfl rfl) ?_
      simp only [nz1, nz2, nz3]
      refine lvw 19 (.string (tx (l.getD x6 []))) rfl rfl (r_cellw (Rs.cell ((hm14.see 0 rfl)) eS_len [] x6 (by omega) 0 _ rfl) Tryd.underlying9 rfl rfl rfl) ?_
      simp only [nz1, nz2, nz3]
      refine lvw 20 (.string (tx (x5 ++ (l.getD x6 [])))) rfl rfl (t_cat x5 (l.getD x6 []) (by have h1 := tot_step l x6 (by omega); have h2 := tot_le l (x6 + 1); (repeat rw [List.length_append]); (try rw [List.length_singleton]); omega) rfl rfl rfl) ?_
      simp only [nz1, nz2, nz3]
      refine lvw 3 (.string (tx (x5 ++ (l.getD x6 [])))) rfl rfl (run_as rfl rfl) ?_
      simp only [nz1, nz2, nz3]
      refine wpList_nil ?_
      refine blk_n ?_
      refine then_n (hK21 _ _ ?_)
      refine wp_region_lit ?_
      refine lvw 9 (.int .i64 ((x6 : Nat) : Int)) rfl rfl (run_mv rfl rfl) ?_
      simp only [nz1, nz2, nz3]
      refine lvw 10 (.int .i64 (((x6 + 1) : Nat) : Int)) rfl rfl (r_add x6 1 (show (x6 + 1) < 9223372036854775808 from by omega) rfl rfl rfl) ?_
      simp only [nz1, nz2, nz3]
      refine lvw 4 (.int .i64 (((x6 + 1) : Nat) : Int)) rfl rfl (run_as rfl rfl) ?_
      simp only [nz1, nz2, nz3]
      refine wpList_nil ?_
      refine then_n (hR15 _ _ _ ⟨k8, (x5 ++ (l.getD x6 [])), (x6 + 1), (fun qq => List.getD [.int .i64 ((x6 : Nat) : Int), lv0, .int .i64 ((l.length : Nat) : Int), .bool (decide (x6 < l.length)), .int .i64 ((x6 : Nat) : Int), .int .i64 (((x6 + 1) : Nat) : Int), .int .i64 ((x6 : Nat) : Int), .bool (decide (0 < x6)), u0 8, u0 9, .string (tx x5), lv0, .int .i64 ((x6 : Nat) : Int), .pointer (some ⟨(bk lv0), (po lv0 + x6 * 1), none⟩), .string (tx (l.getD x6 [])), .string (tx (x5 ++ (l.getD x6 [])))] qq undef), rfl, (by first | omega | (simp; omega) | (simp at *; omega)), (hi9.trans (show rjoin_m_b0 l (rjoin_m_l0 l k8) x5 x6 = rjoin_m_l0 l k8 ((x5 ++ (l.getD x6 [])), (x6 + 1)) from by unfold rjoin_m_b0; rw [if_pos hc20, if_neg hc24] <;> rfl)), (by have h1 := tot_step l x6 (by omega); (repeat rw [List.length_append]); (try rw [List.length_singleton]); omega), rfl, hm14⟩ ?_)
      omega
    refine wp_region_lit ?_
    refine lvw 13 (.string (tx x5)) rfl rfl (run_mv rfl rfl) ?_
    simp only [nz1, nz2, nz3]
    refine lvw 14 (.string (tx (x5 ++ [47]))) rfl rfl (t_cat x5 ([47]) (by have h1 := tot_step l x6 (by omega); have h2 := tot_le l (x6 + 1); (repeat rw [List.length_append]); (try rw [List.length_singleton]); omega) rfl rfl rfl) ?_
    simp only [nz1, nz2, nz3]
    refine lvw 3 (.string (tx (x5 ++ [47]))) rfl rfl (run_as rfl rfl) ?_
    simp only [nz1, nz2, nz3]
    refine wpList_nil ?_
    refine then_n (hK22 _ _ ?_)
    refine wp_region_lit ?_
    refine lvw 15 (.string (tx (x5 ++ [47]))) rfl rfl (run_mv rfl rfl) ?_
    simp only [nz1, nz2, nz3]
    refine lvw 16 (lv0) rfl rfl (run_mv rfl rfl) ?_
    simp only [nz1, nz2, nz3]
    refine lvw 17 (.int .i64 ((x6 : Nat) : Int)) rfl rfl (run_mv rfl rfl) ?_
    simp only [nz1, nz2, nz3]
    refine lvw 18 (.pointer (some ⟨(bk lv0), (po lv0 + x6 * 1), none⟩)) rfl rfl (r_ixv ((hm14.see 0 rfl)) x6 (by omega) Tryd.underlying22 sz_9 rfl rfl rfl) ?_
    simp only [nz1, nz2, nz3]
    refine lvw 19 (.string (tx (l.getD x6 []))) rfl rfl (r_cellw (Rs.cell ((hm14.see 0 rfl)) eS_len [] x6 (by omega) 0 _ rfl) Tryd.underlying9 rfl rfl rfl) ?_
    simp only [nz1, nz2, nz3]
    refine lvw 20 (.string (tx ((x5 ++ [47]) ++ (l.getD x6 [])))) rfl rfl (t_cat (x5 ++ [47]) (l.getD x6 []) (by have h1 := tot_step l x6 (by omega); have h2 := tot_le l (x6 + 1); (repeat rw [List.length_append]); (try rw [List.length_singleton]); omega) rfl rfl rfl) ?_
    simp only [nz1, nz2, nz3]
    refine lvw 3 (.string (tx ((x5 ++ [47]) ++ (l.getD x6 [])))) rfl rfl (run_as rfl rfl) ?_
    simp only [nz1, nz2, nz3]
    refine wpList_nil ?_
    refine blk_n ?_
    refine then_n (hK21 _ _ ?_)
    refine wp_region_lit ?_
    refine lvw 9 (.int .i64 ((x6 : Nat) : Int)) rfl rfl (run_mv rfl rfl) ?_
    simp only [nz1, nz2, nz3]
    refine lvw 10 (.int .i64 (((x6 + 1) : Nat) : Int)) rfl rfl (r_add x6 1 (show (x6 + 1) < 9223372036854775808 from by omega) rfl rfl rfl) ?_
    simp only [nz1, nz2, nz3]
    refine lvw 4 (.int .i64 (((x6 + 1) : Nat) : Int)) rfl rfl (run_as rfl rfl) ?_
    simp only [nz1, nz2, nz3]
    refine wpList_nil ?_
    refine then_n (hR15 _ _ _ ⟨k8, ((x5 ++ [47]) ++ (l.getD x6 [])), (x6 + 1), (fun qq => List.getD [.int .i64 ((x6 : Nat) : Int), lv0, .int .i64 ((l.length : Nat) : Int), .bool (decide (x6 < l.length)), .int .i64 ((x6 : Nat) : Int), .int .i64 (((x6 + 1) : Nat) : Int), .int .i64 ((x6 : Nat) : Int), .bool (decide (0 < x6)), .string (tx x5), .string (tx (x5 ++ [47])), .string (tx (x5 ++ [47])), lv0, .int .i64 ((x6 : Nat) : Int), .pointer (some ⟨(bk lv0), (po lv0 + x6 * 1), none⟩), .string (tx (l.getD x6 [])), .string (tx ((x5 ++ [47]) ++ (l.getD x6 [])))] qq undef), rfl, (by first | omega | (simp; omega) | (simp at *; omega)), (hi9.trans (show rjoin_m_b0 l (rjoin_m_l0 l k8) x5 x6 = rjoin_m_l0 l k8 (((x5 ++ [47]) ++ (l.getD x6 [])), (x6 + 1)) from by unfold rjoin_m_b0; rw [if_pos hc20, if_pos hc24] <;> rfl)), (by have h1 := tot_step l x6 (by omega); (repeat rw [List.length_append]); (try rw [List.length_singleton]); omega), rfl, hm14⟩ ?_)
    omega
  rintro _ w25 ⟨y10, y11, yu0, hx12, hjn, rfl, hm26⟩
  have hq27 : rjoin_m l = rjoin_m_k0 l y10 y11 := (show rjoin_m l = rjoin_m_k0 l y10 y11 from by unfold rjoin_m; rw [hx12] <;> rfl)
  refine then_n (hK3 _ _ ?_)
  refine wp_seq_k (fun K28 hK28 => ?_)
  refine wp_region_lit ?_
  refine lvw 21 (.string (tx y10)) rfl rfl (run_mv rfl rfl) ?_
  simp only [nz1, nz2, nz3]
  refine lvw 2 (.string (tx y10)) rfl rfl (run_as rfl rfl) ?_
  simp only [nz1, nz2, nz3]
  refine wpList_nil ?_
  refine then_n (hK28 _ _ ?_)
  refine wp_ret ?_
  have he29 : rjoin_m l = y10 := (hq27.trans (show rjoin_m_k0 l y10 y11 = y10 from by unfold rjoin_m_k0; rfl))
  exact ⟨rfl, .string (tx y10), res_t rfl rfl, ⟨by rw [he29], hm26.below⟩⟩
theorem run_rjoin {o : Oper} {a : Act} {w : World} {x0 : Operand} {v0 : Value} (ho : o.op = .call { callee := .value (.func 30), args := #[x0], argTypes := #[22] }) (h0 : a.eval x0 = v0) :
    (execOp a.eval o).run Tryd.prog w = .ok (.enter 30 #[v0]) w := by
  unfold execOp
  simp only [ho]
  have hf : a.eval (.func 30) = .func (.func 30) #[] #[] := rfl
  generalize a.eval = f at *
  go_simp
def rown_m : (List UInt8) :=
  ([46, 104, 111, 108, 100, 97, 108, 108])

set_option maxHeartbeats 4000000 in
set_option maxRecDepth 100000 in
theorem rown_any (w : World)   : Calls Tryd.prog 28 #[] w (fun e w' => e = .returned (.string (tx rown_m)) ∧ Below w.heap.size w w') := by
  go_enter Tryd.func28, Tryd.ntmps28
  have hm00 := Mm.nil none (fun _ => True) w
  have hm0 := hm00
  refine wp_seq_k (fun K1 hK1 => ?_)
  refine wp_region_lit ?_
  refine lvw 0 (.string (tx ([]))) rfl rfl (run_as rfl rfl) ?_
  simp only [nz1, nz2]
  refine wpList_nil ?_
  refine then_n (hK1 _ _ ?_)
  refine wp_seq_k (fun K2 hK2 => ?_)
  refine wp_region_lit ?_
  refine lvw 0 (.string (tx ([46, 104, 111, 108, 100, 97, 108, 108]))) rfl rfl (run_as rfl rfl) ?_
  simp only [nz1, nz2]
  refine wpList_nil ?_
  refine then_n (hK2 _ _ ?_)
  refine wp_ret ?_
  have he3 : rown_m = ([46, 104, 111, 108, 100, 97, 108, 108]) := (show rown_m = ([46, 104, 111, 108, 100, 97, 108, 108]) from by unfold rown_m; rfl)
  exact ⟨rfl, .string (tx ([46, 104, 111, 108, 100, 97, 108, 108])), res_t rfl rfl, ⟨by rw [he3], hm0.below⟩⟩
theorem run_rown {o : Oper} {a : Act} {w : World} (ho : o.op = .call { callee := .value (.func 28), args := #[], argTypes := #[] })  :
    (execOp a.eval o).run Tryd.prog w = .ok (.enter 28 #[]) w := by
  unfold execOp
  simp only [ho]
  have hf : a.eval (.func 28) = .func (.func 28) #[] #[] := rfl
  generalize a.eval = f at *
  go_simp
def rparent_m (s : List UInt8) : (List UInt8) :=
  (rjoin_m ((rsplit_m s).take (((((rsplit_m s).length : Nat) : Int) - (1 : Int)).toNat)))

set_option maxHeartbeats 4000000 in
set_option maxRecDepth 100000 in
theorem rparent_any (s : List UInt8) (w : World)  (hp0 : s.length ≤ 8796093022206) : Calls Tryd.prog 24 #[.string (tx s)] w (fun e w' => e = .returned (.string (tx (rparent_m s))) ∧ Below w.heap.size w w') := by
  go_enter Tryd.func24, Tryd.ntmps24
  have hm00 := Mm.nil none (fun _ => True) w
  have hm0 := hm00
  refine wp_seq_k (fun K1 hK1 => ?_)
  refine wp_region_lit ?_
  refine lvw 2 (.string (tx ([]))) rfl rfl (run_as rfl rfl) ?_
  simp only [nz1, nz2, nz3]
  refine wpList_nil ?_
  refine then_n (hK1 _ _ ?_)
  refine wp_seq_k (fun K2 hK2 => ?_)
  refine wp_region_lit ?_
  refine lvw 4 (.string (tx s)) rfl rfl (run_mv rfl rfl) ?_
  simp only [nz1, nz2, nz3]
  refine lst rfl (m_callx hm0 5 rfl (run_rsplit rfl rfl) (rsplit_any s  _  (by first | omega | assumption | decide | exact Nat.le_trans (tot_le _ _) (by omega) | (simp; done) | (simp; omega))) (fun v5 w3 hR7 hb8 hm4 => ?_))
  obtain ⟨_, rfl, ho10⟩ := hR7
  have hm9 : Mm none (fun _ => True) w w3 [.row v5 (rsplit_m s).length ((rsplit_m s).flatMap eS) 9 1] := hm0.gained hb8 ho10
  clear hm4
  have hf11 : (rsplit_m s).length ≤ s.length + 1 ∧ 1 ≤ (rsplit_m s).length ∧ tot (rsplit_m s) ≤ s.length := rsplit_len s
  simp only [nz1, nz2, nz3]
  refine lvw 3 (v5) rfl rfl (run_as rfl rfl) ?_
  simp only [nz1, nz2, nz3]
  refine wpList_nil ?_
  refine then_n (hK2 _ _ ?_)
  refine wp_seq_k (fun K12 hK12 => ?_)
  refine wp_region_lit ?_
  refine lvw 6 (v5) rfl rfl (run_mv rfl rfl) ?_
  simp only [nz1, nz2, nz3]
  refine lvw 7 (v5) rfl rfl (run_mv rfl rfl) ?_
  simp only [nz1, nz2, nz3]
  refine lvw 8 (.int .i64 (((rsplit_m s).length : Nat) : Int)) rfl rfl (s_len (Rs.row (hm9.row 0 rfl)) rfl Tryd.underlying22 rfl) ?_
  simp only [nz1, nz2, nz3]
  refine lvw 9 (.int .i64 (((((rsplit_m s).length : Nat) : Int) - (1 : Int)))) rfl rfl (z_sub (((rsplit_m s).length : Nat) : Int) (1 : Int) _ (by rw [IntKind.wrap_i64]; omega) rfl rfl rfl) ?_
  simp only [nz1, nz2, nz3]
  have hm15 : Mm none (fun _ => True) w w3 [.see (Rs eS 1 (rsplit_m s) v5) (fp v5 ((rsplit_m s).flatMap eS))] := hm9.freeze 0 rfl
  refine lst rfl (w_value 10 ((cutV v5 0 (((((rsplit_m s).length : Nat) : Int) - (1 : Int)).toNat) 1)) rfl (r_cut_h ((hm15.see 0 rfl)) (((((rsplit_m s).length : Nat) : Int) - (1 : Int)).toNat) (by omega) Tryd.underlying22 sz_9 rfl rfl (show (Value.int .i64 ((((rsplit_m s).length : Nat) : Int) - (1 : Int))) = .int .i64 ((((((rsplit_m s).length : Nat) : Int) - (1 : Int)).toNat : Nat) : Int) from by congr 1; omega)) ?_)
  simp only [nz1, nz2, nz3]
  refine lst rfl (m_call hm15 11 (.string (tx (rjoin_m ((rsplit_m s).take (((((rsplit_m s).length : Nat) : Int) - (1 : Int)).toNat))))) rfl (run_rjoin rfl rfl) (rjoin_any ((rsplit_m s).take (((((rsplit_m s).length : Nat) : Int) - (1 : Int)).toNat)) (cutV v5 0 (((((rsplit_m s).length : Nat) : Int) - (1 : Int)).toNat) 1) _ (Rs.cut_h (hm15.see 0 rfl) eS_len (((((rsplit_m s).length : Nat) : Int) - (1 : Int)).toNat) (by omega)) (by first | omega | assumption | decide | exact Nat.le_trans (tot_le _ _) (by omega) | (simp; done) | (simp; omega)) (by first | omega | assumption | decide | exact Nat.le_trans (tot_le _ _) (by omega) | (simp; done) | (simp; omega))) (fun w16 (hm17 : Mm none (fun _ => True) w w16 [.see (Rs eS 1 (rsplit_m s) v5) (fp v5 ((rsplit_m s).flatMap eS))]) => ?_))
  simp only [nz1, nz2, nz3]
  refine lvw 2 (.string (tx (rjoin_m ((rsplit_m s).take (((((rsplit_m s).length : Nat) : Int) - (1 : Int)).toNat))))) rfl rfl (run_as rfl rfl) ?_
  simp only [nz1, nz2, nz3]
  refine wpList_nil ?_
  refine then_n (hK12 _ _ ?_)
  refine wp_ret ?_
  have he18 : rparent_m s = (rjoin_m ((rsplit_m s).take (((((rsplit_m s).length : Nat) : Int) - (1 : Int)).toNat))) := (show rparent_m s = (rjoin_m ((rsplit_m s).take (((((rsplit_m s).length : Nat) : Int) - (1 : Int)).toNat))) from by unfold rparent_m; rfl)
  exact ⟨rfl, .string (tx (rjoin_m ((rsplit_m s).take (((((rsplit_m s).length : Nat) : Int) - (1 : Int)).toNat)))), res_t rfl rfl, ⟨by rw [he18], hm17.below⟩⟩
theorem run_rparent {o : Oper} {a : Act} {w : World} {x0 : Operand} {v0 : Value} (ho : o.op = .call { callee := .value (.func 24), args := #[x0], argTypes := #[9] }) (h0 : a.eval x0 = v0) :
    (execOp a.eval o).run Tryd.prog w = .ok (.enter 24 #[v0]) w := by
  unfold execOp
  simp only [ho]
  have hf : a.eval (.func 24) = .func (.func 24) #[] #[] := rfl
  generalize a.eval = f at *
  go_simp
def rreserved_m (s : List UInt8) : Bool :=
  (decide (((rsplit_m s).getD 0 []) = rown_m))

set_option maxHeartbeats 4000000 in
set_option maxRecDepth 100000 in
theorem rreserved_any (s : List UInt8) (w : World)  (hp0 : s.length ≤ 8796093022206) : Calls Tryd.prog 26 #[.string (tx s)] w (fun e w' => e = .returned (.bool ((rreserved_m s))) ∧ Below w.heap.size w w') := by
  go_enter Tryd.func26, Tryd.ntmps26
  have hm00 := Mm.nil none (fun _ => True) w
  have hm0 := hm00
  refine wp_seq_k (fun K1 hK1 => ?_)
  refine wp_region_lit ?_
  refine lvw 2 (.bool false) rfl rfl (run_as rfl rfl) ?_
  simp only [nz1, nz2, nz3]
  refine wpList_nil ?_
  refine then_n (hK1 _ _ ?_)
  refine wp_seq_k (fun K2 hK2 => ?_)
  refine wp_mono (Q := fun e a' w' => e = Exit.normal ∧ ∃ (v7 : Value), a' = ⟨#[.string (tx s), undef, .bool (decide (((rsplit_m s).getD 0 []) = rown_m)), .string (tx s), v7, .pointer (some ⟨(bk v7), (po v7 + 0 * 1), none⟩), .string (tx ((rsplit_m s).getD 0 [])), .string (tx rown_m), .bool (decide (((rsplit_m s).getD 0 []) = rown_m))], []⟩ ∧ Mm none (fun _ => True) w w' [.row v7 (rsplit_m s).length ((rsplit_m s).flatMap eS) 9 1]) ?_ ?_
  · have hm3 := hm0.drew
    refine wp_region_held_drew (S := fun w' => True) (by kernel_rfl) (trivial) (fun _ => ?_)
    generalize w.drew = w4 at *
    refine Sym.take_at 0 3 (.string (tx s)) rfl rfl (by kernel_rfl) (by kernel_rfl) (by kernel_rfl) (fun _ _ _ h => nomatch h.1) rfl (fun _ hw => run_mv rfl rfl) (trivial) ?_
    simp only [nz1, nz2, nz3]
    refine one_ready 1 (by kernel_rfl) ?_
    refine opd rfl rfl (m_callx hm3 4 rfl (run_rsplit rfl rfl) (rsplit_any s  _  (by first | omega | assumption | decide | (simp; done) | (simp; omega))) (fun v7 w5 hR9 hb10 hm6 => ?_))
    obtain ⟨_, rfl, ho12⟩ := hR9
    have hm11 : Mm none (fun _ => True) w w5 [.row v7 (rsplit_m s).length ((rsplit_m s).flatMap eS) 9 1] := hm3.gained hb10 ho12
    clear hm6
    have hf13 : (rsplit_m s).length ≤ s.length + 1 ∧ 1 ≤ (rsplit_m s).length ∧ tot (rsplit_m s) ≤ s.length := rsplit_len s
    refine ⟨trivial, ?_⟩
    simp only [nz1, nz2, nz3]
    refine two_ready 2 4 (by kernel_rfl) ?_ ?_
    · refine opd rfl rfl (w_value 5 (.pointer (some ⟨(bk v7), (po v7 + 0 * 1), none⟩)) rfl (r_ixv (Rs.row (hm11.row 0 rfl)) 0 (by omega) Tryd.underlying22 sz_9 rfl rfl rfl) ⟨trivial, ?_⟩)
      simp only [nz1, nz2, nz3]
      refine two_ready 3 4 (by kernel_rfl) ?_ ?_
      · refine opd rfl rfl (w_value 6 (.string (tx ((rsplit_m s).getD 0 []))) rfl (r_cellw (Rs.cell (Rs.row (hm11.row 0 rfl)) eS_len [] 0 (by omega) 0 _ rfl) Tryd.underlying9 rfl rfl rfl) ⟨trivial, ?_⟩)
        simp only [nz1, nz2, nz3]
        refine one_ready 4 (by kernel_rfl) ?_
        refine opd rfl rfl (m_call hm11 7 (.string (tx rown_m)) rfl (run_rown rfl) (rown_any   _  ) (fun w14 hm15 => ?_))
        refine ⟨trivial, ?_⟩
        simp only [nz1, nz2, nz3]
        refine Sym.take_at 5 8 (.bool (decide (((rsplit_m s).getD 0 []) = rown_m))) rfl rfl (by kernel_rfl) (by kernel_rfl) (by kernel_rfl) (fun _ _ _ h => nomatch h.1) rfl (fun _ hw => t_eql ((rsplit_m s).getD 0 []) rown_m rfl rfl rfl) (trivial) ?_
        simp only [nz1, nz2, nz3]
        refine one_ready 6 (by kernel_rfl) ?_
        refine opd rfl rfl (w_value 2 (.bool (decide (((rsplit_m s).getD 0 []) = rown_m))) rfl (run_as rfl rfl) ⟨trivial, ?_⟩)
        simp only [nz1, nz2, nz3]
        refine wpAnyH_done (by kernel_rfl) ?_ _
        exact ⟨rfl, v7, rfl, hm15⟩
      · refine opd rfl rfl (m_call hm11 7 (.string (tx rown_m)) rfl (run_rown rfl) (rown_any   _  ) (fun w16 hm17 => ?_))
        refine ⟨trivial, ?_⟩
        simp only [nz1, nz2, nz3]
        refine one_ready 3 (by kernel_rfl) ?_
        refine opd rfl rfl (w_value 6 (.string (tx ((rsplit_m s).getD 0 []))) rfl (r_cellw (Rs.cell (Rs.row (hm17.row 0 rfl)) eS_len [] 0 (by omega) 0 _ rfl) Tryd.underlying9 rfl rfl rfl) ⟨trivial, ?_⟩)
        simp only [nz1, nz2, nz3]
        refine Sym.take_at 5 8 (.bool (decide (((rsplit_m s).getD 0 []) = rown_m))) rfl rfl (by kernel_rfl) (by kernel_rfl) (by kernel_rfl) (fun _ _ _ h => nomatch h.1) rfl (fun _ hw => t_eql ((rsplit_m s).getD 0 []) rown_m rfl rfl rfl) (trivial) ?_
        simp only [nz1, nz2, nz3]
        refine one_ready 6 (by kernel_rfl) ?_
        refine opd rfl rfl (w_value 2 (.bool (decide (((rsplit_m s).getD 0 []) = rown_m))) rfl (run_as rfl rfl) ⟨trivial, ?_⟩)
        simp only [nz1, nz2, nz3]
        refine wpAnyH_done (by kernel_rfl) ?_ _
        exact ⟨rfl, v7, rfl, hm17⟩
    · refine opd rfl rfl (m_call hm11 7 (.string (tx rown_m)) rfl (run_rown rfl) (rown_any   _  ) (fun w18 hm19 => ?_))
      refine ⟨trivial, ?_⟩
      simp only [nz1, nz2, nz3]
      refine one_ready 2 (by kernel_rfl) ?_
      refine opd rfl rfl (w_value 5 (.pointer (some ⟨(bk v7), (po v7 + 0 * 1), none⟩)) rfl (r_ixv (Rs.row (hm19.row 0 rfl)) 0 (by omega) Tryd.underlying22 sz_9 rfl rfl rfl) ⟨trivial, ?_⟩)
      simp only [nz1, nz2, nz3]
      refine one_ready 3 (by kernel_rfl) ?_
      refine opd rfl rfl (w_value 6 (.string (tx ((rsplit_m s).getD 0 []))) rfl (r_cellw (Rs.cell (Rs.row (hm19.row 0 rfl)) eS_len [] 0 (by omega) 0 _ rfl) Tryd.underlying9 rfl rfl rfl) ⟨trivial, ?_⟩)
      simp only [nz1, nz2, nz3]
      refine Sym.take_at 5 8 (.bool (decide (((rsplit_m s).getD 0 []) = rown_m))) rfl rfl (by kernel_rfl) (by kernel_rfl) (by kernel_rfl) (fun _ _ _ h => nomatch h.1) rfl (fun _ hw => t_eql ((rsplit_m s).getD 0 []) rown_m rfl rfl rfl) (trivial) ?_
      simp only [nz1, nz2, nz3]
      refine one_ready 6 (by kernel_rfl) ?_
      refine opd rfl rfl (w_value 2 (.bool (decide (((rsplit_m s).getD 0 []) = rown_m))) rfl (run_as rfl rfl) ⟨trivial, ?_⟩)
      simp only [nz1, nz2, nz3]
      refine wpAnyH_done (by kernel_rfl) ?_ _
      exact ⟨rfl, v7, rfl, hm19⟩
  clear hm0
  rintro _ _ w20 ⟨rfl, v7, rfl, hm21⟩
  have hf22 : (rsplit_m s).length ≤ s.length + 1 ∧ 1 ≤ (rsplit_m s).length ∧ tot (rsplit_m s) ≤ s.length := rsplit_len s
  refine then_n (hK2 _ _ ?_)
  refine wp_ret ?_
  have he23 : rreserved_m s = (decide (((rsplit_m s).getD 0 []) = rown_m)) := (show rreserved_m s = (decide (((rsplit_m s).getD 0 []) = rown_m)) from by unfold rreserved_m; rfl)
  exact ⟨rfl, .bool (decide (((rsplit_m s).getD 0 []) = rown_m)), res_t rfl rfl, ⟨by rw [he23], hm21.below⟩⟩
theorem run_rreserved {o : Oper} {a : Act} {w : World} {x0 : Operand} {v0 : Value} (ho : o.op = .call { callee := .value (.func 26), args := #[x0], argTypes := #[9] }) (h0 : a.eval x0 = v0) :
    (execOp a.eval o).run Tryd.prog w = .ok (.enter 26 #[v0]) w := by
  unfold execOp
  simp only [ho]
  have hf : a.eval (.func 26) = .func (.func 26) #[] #[] := rfl
  generalize a.eval = f at *
  go_simp
end Go.Proofs.YtdohmmdfenafnaaDoor.Pa
