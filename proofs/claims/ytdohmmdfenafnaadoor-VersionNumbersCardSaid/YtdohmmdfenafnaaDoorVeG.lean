/- Layer 12: rules, numbers. -/
import Derived.Test.YtdohmmdfenafnaaDoorVeQ
namespace Go.Proofs.YtdohmmdfenafnaaDoor.Ve
open Go.RowKit
open Go.Proofs.YtdohmmdfenafnaaDoor.Sym Go.Proofs.YtdohmmdfenafnaaDoor.Mem
open Go.Proofs.YtdohmmdfenafnaaDoor.Sx hiding Mm m_alloc m_store m_put m_call m_callx m_make m_append r_string r_ixS
set_option linter.unusedVariables false
open Go.Proofs.YtdohmmdfenafnaaDoor.Pa
attribute [local irreducible] wpList Oper.wp

def vrules_m_b0 (a : List UInt8) (b : List UInt8) (rec : Nat × Nat × Bool × Bool × Bool × Bool × Bool × Bool → Sum (Nat × Nat × Bool × Bool × Bool × Bool × Bool × Bool) (Bool)) (x9 : Nat) (x10 : Nat) (x11 : Bool) (x12 : Bool) (x13 : Bool) (x14 : Bool) (x15 : Bool) (x16 : Bool) : Sum (Nat × Nat × Bool × Bool × Bool × Bool × Bool × Bool) (Bool) :=
  if x10 ≤ 5 then
    if x10 = 0 then
      if (holds_m (Rul.mk ([]) ((x10 : Nat) : Int) b) a) = true then
        if x10 = 2 then
          rec ((x9 + 1), (x10 + 1), (holds_m (Rul.mk ([]) ((x10 : Nat) : Int) b) a), x12, x13, x14, x15, x16)
        else
          if x10 = 1 then
            rec ((x9 + 1), (x10 + 1), (holds_m (Rul.mk ([]) ((x10 : Nat) : Int) b) a), x12, x13, x14, x15, x16)
          else
            if x10 = 4 then
              rec ((x9 + 1), (x10 + 1), (holds_m (Rul.mk ([]) ((x10 : Nat) : Int) b) a), x12, x13, x14, x15, x16)
            else
              rec (x9, (x10 + 1), (holds_m (Rul.mk ([]) ((x10 : Nat) : Int) b) a), x12, x13, x14, x15, x16)
      else
        rec (x9, (x10 + 1), (holds_m (Rul.mk ([]) ((x10 : Nat) : Int) b) a), x12, x13, x14, x15, x16)
    else
      if x10 = 1 then
        if (holds_m (Rul.mk ([]) ((x10 : Nat) : Int) b) a) = true then
          if x10 = 2 then
            rec ((x9 + 1), (x10 + 1), x11, (holds_m (Rul.mk ([]) ((x10 : Nat) : Int) b) a), x13, x14, x15, x16)
          else
            if x10 = 1 then
              rec ((x9 + 1), (x10 + 1), x11, (holds_m (Rul.mk ([]) ((x10 : Nat) : Int) b) a), x13, x14, x15, x16)
            else
              if x10 = 4 then
                rec ((x9 + 1), (x10 + 1), x11, (holds_m (Rul.mk ([]) ((x10 : Nat) : Int) b) a), x13, x14, x15, x16)
              else
                rec (x9, (x10 + 1), x11, (holds_m (Rul.mk ([]) ((x10 : Nat) : Int) b) a), x13, x14, x15, x16)
        else
          rec (x9, (x10 + 1), x11, (holds_m (Rul.mk ([]) ((x10 : Nat) : Int) b) a), x13, x14, x15, x16)
      else
        if x10 = 2 then
          if (holds_m (Rul.mk ([]) ((x10 : Nat) : Int) b) a) = true then
            if x10 = 2 then
              rec ((x9 + 1), (x10 + 1), x11, x12, (holds_m (Rul.mk ([]) ((x10 : Nat) : Int) b) a), x14, x15, x16)
            else
              if x10 = 1 then
                rec ((x9 + 1), (x10 + 1), x11, x12, (holds_m (Rul.mk ([]) ((x10 : Nat) : Int) b) a), x14, x15, x16)
              else
                if x10 = 4 then
                  rec ((x9 + 1), (x10 + 1), x11, x12, (holds_m (Rul.mk ([]) ((x10 : Nat) : Int) b) a), x14, x15, x16)
                else
                  rec (x9, (x10 + 1), x11, x12, (holds_m (Rul.mk ([]) ((x10 : Nat) : Int) b) a), x14, x15, x16)
          else
            rec (x9, (x10 + 1), x11, x12, (holds_m (Rul.mk ([]) ((x10 : Nat) : Int) b) a), x14, x15, x16)
        else
          if x10 = 3 then
            if (holds_m (Rul.mk ([]) ((x10 : Nat) : Int) b) a) = true then
              if x10 = 2 then
                rec ((x9 + 1), (x10 + 1), x11, x12, x13, (holds_m (Rul.mk ([]) ((x10 : Nat) : Int) b) a), x15, x16)
              else
                if x10 = 1 then
                  rec ((x9 + 1), (x10 + 1), x11, x12, x13, (holds_m (Rul.mk ([]) ((x10 : Nat) : Int) b) a), x15, x16)
                else
                  if x10 = 4 then
                    rec ((x9 + 1), (x10 + 1), x11, x12, x13, (holds_m (Rul.mk ([]) ((x10 : Nat) : Int) b) a), x15, x16)
                  else
                    rec (x9, (x10 + 1), x11, x12, x13, (holds_m (Rul.mk ([]) ((x10 : Nat) : Int) b) a), x15, x16)
            else
              rec (x9, (x10 + 1), x11, x12, x13, (holds_m (Rul.mk ([]) ((x10 : Nat) : Int) b) a), x15, x16)
          else
            if x10 = 4 then
              if (holds_m (Rul.mk ([]) ((x10 : Nat) : Int) b) a) = true then
                if x10 = 2 then
                  rec ((x9 + 1), (x10 + 1), x11, x12, x13, x14, (holds_m (Rul.mk ([]) ((x10 : Nat) : Int) b) a), x16)
                else
                  if x10 = 1 then
                    rec ((x9 + 1), (x10 + 1), x11, x12, x13, x14, (holds_m (Rul.mk ([]) ((x10 : Nat) : Int) b) a), x16)
                  else
                    if x10 = 4 then
                      rec ((x9 + 1), (x10 + 1), x11, x12, x13, x14, (holds_m (Rul.mk ([]) ((x10 : Nat) : Int) b) a), x16)
                    else
                      rec (x9, (x10 + 1), x11, x12, x13, x14, (holds_m (Rul.mk ([]) ((x10 : Nat) : Int) b) a), x16)
              else
                rec (x9, (x10 + 1), x11, x12, x13, x14, (holds_m (Rul.mk ([]) ((x10 : Nat) : Int) b) a), x16)
            else
              if (holds_m (Rul.mk ([]) ((x10 : Nat) : Int) b) a) = true then
                if x10 = 2 then
                  rec ((x9 + 1), (x10 + 1), x11, x12, x13, x14, x15, (holds_m (Rul.mk ([]) ((x10 : Nat) : Int) b) a))
                else
                  if x10 = 1 then
                    rec ((x9 + 1), (x10 + 1), x11, x12, x13, x14, x15, (holds_m (Rul.mk ([]) ((x10 : Nat) : Int) b) a))
                  else
                    if x10 = 4 then
                      rec ((x9 + 1), (x10 + 1), x11, x12, x13, x14, x15, (holds_m (Rul.mk ([]) ((x10 : Nat) : Int) b) a))
                    else
                      rec (x9, (x10 + 1), x11, x12, x13, x14, x15, (holds_m (Rul.mk ([]) ((x10 : Nat) : Int) b) a))
              else
                rec (x9, (x10 + 1), x11, x12, x13, x14, x15, (holds_m (Rul.mk ([]) ((x10 : Nat) : Int) b) a))
  else
    .inl (x9, x10, x11, x12, x13, x14, x15, x16)
def vrules_m_l0 (a : List UInt8) (b : List UInt8) : Nat → Nat × Nat × Bool × Bool × Bool × Bool × Bool × Bool → Sum (Nat × Nat × Bool × Bool × Bool × Bool × Bool × Bool) (Bool)
  | 0, zz => .inl zz
  | nq + 1, zz => vrules_m_b0 a b (vrules_m_l0 a b nq) zz.1 zz.2.1 zz.2.2.1 zz.2.2.2.1 zz.2.2.2.2.1 zz.2.2.2.2.2.1 zz.2.2.2.2.2.2.1 zz.2.2.2.2.2.2.2

def vrules_m_k0 (a : List UInt8) (b : List UInt8) (y20 : Nat) (y21 : Nat) (y22 : Bool) (y23 : Bool) (y24 : Bool) (y25 : Bool) (y26 : Bool) (y27 : Bool) : Bool :=
  if vawake_m = true then
    if y20 = 1 then
      if y22 = true then
        if y24 = true then
          if (y25 == true) = true then
            if y26 = true then
              (y27 == true)
            else
              (y27 == y23)
          else
            false
        else
          if (y25 == y23) = true then
            if y26 = true then
              (y27 == true)
            else
              (y27 == y23)
          else
            false
      else
        false
    else
      false
  else
    false

def vrules_m (a : List UInt8) (b : List UInt8) : Bool :=
  fin (vrules_m_l0 a b ((5 + 1 - 0) + 1) (0, 0, false, false, false, false, false, false)) (fun r => r) (fun zz => vrules_m_k0 a b zz.1 zz.2.1 zz.2.2.1 zz.2.2.2.1 zz.2.2.2.2.1 zz.2.2.2.2.2.1 zz.2.2.2.2.2.2.1 zz.2.2.2.2.2.2.2)

set_option maxHeartbeats 4000000 in
set_option maxRecDepth 100000 in
theorem vrules_any (a : List UInt8) (b : List UInt8) (w : World)   : Calls Tryd.prog 12 #[.string (tx a), .string (tx b)] w (fun e w' => e = .returned (.bool ((vrules_m a b))) ∧ Below w.heap.size w w') := by
  go_enter Tryd.func12, Tryd.ntmps12
  have hm00 := Mm.nil none (fun _ => True) w
  have hm0 := hm00
  refine wp_seq_k (fun K1 hK1 => ?_)
  refine wp_region_lit ?_
  refine lvw 4 (.bool false) rfl rfl (run_as rfl rfl) ?_
  simp only [nz1, nz2, nz3]
  refine wpList_nil ?_
  refine then_n (hK1 _ _ ?_)
  refine wp_seq_k (fun K2 hK2 => ?_)
  refine wp_region_lit ?_
  refine lvw 5 (.int .i64 0) rfl rfl (run_as rfl rfl) ?_
  simp only [nz1, nz2, nz3]
  refine wpList_nil ?_
  refine then_n (hK2 _ _ ?_)
  refine wp_seq_k (fun K3 hK3 => ?_)
  refine wp_region_lit ?_
  refine lst rfl (m_alloc (c := #[.bool false, .bool false, .bool false, .bool false, .bool false, .bool false]) (T := 41) hm0 6 rfl (by unfold execOp; go_simp; try rfl) (fun g6 w4 (hm5 : Mm none (fun _ => True) w w4 [.blk g6 #[.bool false, .bool false, .bool false, .bool false, .bool false, .bool false] 41]) => ?_))
  simp only [nz1, nz2, nz3]
  refine wpList_nil ?_
  refine then_n (hK3 _ _ ?_)
  refine wp_seq_k (fun K7 hK7 => ?_)
  refine wp_seq_k (fun K8 hK8 => ?_)
  refine wp_region_lit ?_
  refine lvw 7 (.int .i64 0) rfl rfl (run_as rfl rfl) ?_
  simp only [nz1, nz2, nz3]
  refine wpList_nil ?_
  refine then_n (hK8 _ _ ?_)
  refine wp_cutK (fun a' w' => ∃ (y20 : Nat) (y21 : Nat) (y22 : Bool) (y23 : Bool) (y24 : Bool) (y25 : Bool) (y26 : Bool) (y27 : Bool) (yu0 : Nat → Value), vrules_m_l0 a b ((5 + 1 - 0) + 1) (0, 0, false, false, false, false, false, false) = .inl (y20, y21, y22, y23, y24, y25, y26, y27) ∧ (y20 ≤ y21 ∧ y21 ≤ 6) ∧ a' = ⟨#[.string (tx a), .string (tx b), undef, undef, .bool false, .int .i64 ((y20 : Nat) : Int), .pointer (some ⟨g6, 0, none⟩), .int .i64 ((y21 : Nat) : Int), yu0 0, yu0 1, yu0 2, yu0 3, yu0 4, yu0 5, yu0 6, yu0 7, yu0 8, yu0 9, yu0 10, yu0 11, yu0 12, yu0 13, yu0 14, yu0 15, yu0 16, yu0 17, yu0 18, yu0 19, yu0 20, yu0 21, yu0 22, yu0 23, yu0 24, yu0 25, yu0 26, yu0 27, undef, undef, undef, undef, undef, undef, undef, undef, undef, undef, undef, undef, undef, undef, undef, undef, undef, undef, undef, undef, undef, undef, undef, undef, undef, undef, undef, undef, undef, undef, undef], []⟩ ∧ Mm none (fun _ => True) w w' [.blk g6 #[.bool (y22), .bool (y23), .bool (y24), .bool (y25), .bool (y26), .bool (y27)] 41]) ?_ ?_
  · refine wp_block ?_
    refine wp_loop_n (fun n' a' w' => ∃ (n17 : Nat) (x9 : Nat) (x10 : Nat) (x11 : Bool) (x12 : Bool) (x13 : Bool) (x14 : Bool) (x15 : Bool) (x16 : Bool) (u0 : Nat → Value), n' = n17 ∧ (5 + 1 - x10) < n17 ∧ vrules_m_l0 a b ((5 + 1 - 0) + 1) (0, 0, false, false, false, false, false, false) = vrules_m_l0 a b n17 (x9, x10, x11, x12, x13, x14, x15, x16) ∧ (x9 ≤ x10 ∧ x10 ≤ 6) ∧ a' = ⟨#[.string (tx a), .string (tx b), undef, undef, .bool false, .int .i64 ((x9 : Nat) : Int), .pointer (some ⟨g6, 0, none⟩), .int .i64 ((x10 : Nat) : Int), u0 0, u0 1, u0 2, u0 3, u0 4, u0 5, u0 6, u0 7, u0 8, u0 9, u0 10, u0 11, u0 12, u0 13, u0 14, u0 15, u0 16, u0 17, u0 18, u0 19, u0 20, u0 21, u0 22, u0 23, u0 24, u0 25, u0 26, u0 27, undef, undef, undef, undef, undef, undef, undef, undef, undef, undef, undef, undef, undef, undef, undef, undef, undef, undef, undef, undef, undef, undef, undef, undef, undef, undef, undef, undef, undef, undef, undef], []⟩ ∧ Mm none (fun _ => True) w w' [.blk g6 #[.bool (x11), .bool (x12), .bool (x13), .bool (x14), .bool (x15), .bool (x16)] 41]) ⟨((5 + 1 - 0) + 1), 0, 0, false, false, false, false, false, false, (fun qq => bif Nat.blt qq 24 then List.getD [undef, undef, undef, undef, undef, undef, undef, undef, undef, undef, undef, undef, undef, undef, undef, undef, undef, undef, undef, undef, undef, undef, undef, undef] qq undef else List.getD [undef, undef, undef, undef] (qq - 24) undef), rfl, Nat.lt_succ_self _, rfl, (by first | omega | (simp; done) | (simp; omega) | (simp at *; omega)), rfl, hm5⟩ ?_
    rintro n17 _ w29 ⟨_, x9, x10, x11, x12, x13, x14, x15, x16, u0, rfl, hl33, hi19, hru, rfl, hm30⟩ R31 hR31
    obtain ⟨k18, rfl⟩ : ∃ k, n17 = k + 1 := ⟨n17 - 1, by omega⟩
    refine wp_seq_k (fun K34 hK34 => ?_)
    refine wp_seq_k (fun K35 hK35 => ?_)
    refine wp_region_lit ?_
    refine lvw 8 (.int .i64 ((x10 : Nat) : Int)) rfl rfl (run_mv rfl rfl) ?_
    simp only [nz1, nz2, nz3]
    refine lvw 9 (.bool (decide (x10 ≤ 5))) rfl rfl (r_leq x10 5 rfl rfl rfl) ?_
    simp only [nz1, nz2, nz3]
    refine wpList_nil ?_
    refine then_n (hK35 _ _ ?_)
    refine cond_d (x10 ≤ 5) rfl (fun hc36 => ?_) (fun hc36 => ?_)
    rotate_left
    · refine wp_exit ?_
      refine then_x ?_
      refine then_x ?_
      refine blk_x ?_
      refine then_n ?_
      exact ⟨x9, x10, x11, x12, x13, x14, x15, x16, (fun qq => bif Nat.blt qq 24 then List.getD [.int .i64 ((x10 : Nat) : Int), .bool (decide (x10 ≤ 5)), u0 2, u0 3, u0 4, u0 5, u0 6, u0 7, u0 8, u0 9, u0 10, u0 11, u0 12, u0 13, u0 14, u0 15, u0 16, u0 17, u0 18, u0 19, u0 20, u0 21, u0 22, u0 23] qq undef else List.getD [u0 24, u0 25, u0 26, u0 27] (qq - 24) undef), (hi19.trans (show vrules_m_b0 a b (vrules_m_l0 a b k18) x9 x10 x11 x12 x13 x14 x15 x16 = .inl (x9, x10, x11, x12, x13, x14, x15, x16) from by unfold vrules_m_b0; rw [if_neg hc36] <;> rfl)), (by first | omega | (simp; done) | (simp; omega) | (simp at *; omega)), rfl, hm30⟩
    refine wp_skip ?_
    refine then_n (hK34 _ _ ?_)
    refine wp_seq_k (fun K37 hK37 => ?_)
    refine wp_block ?_
    refine wp_seq_k (fun K38 hK38 => ?_)
    refine wp_region_lit ?_
    refine lvw 12 (.int .i64 ((x10 : Nat) : Int)) rfl rfl (run_mv rfl rfl) ?_
    simp only [nz1, nz2, nz3]
    refine lvw 13 (.int .i64 ((x10 : Nat) : Int)) rfl rfl (run_mv rfl rfl) ?_
    simp only [nz1, nz2, nz3]
    refine lvw 14 (.string (tx b)) rfl rfl (run_mv rfl rfl) ?_
    simp only [nz1, nz2, nz3]
    refine lvw 15 (.agg #[.string (tx ([])), .int .i64 ((x10 : Nat) : Int), .string (tx b)]) rfl rfl (by unfold execOp; go_simp; try (first | rfl | (repeat' (first | rfl | apply And.intro)))) ?_
    simp only [nz1, nz2, nz3]
    refine lvw 16 (.string (tx a)) rfl rfl (run_mv rfl rfl) ?_
    simp only [nz1, nz2, nz3]
    refine lst rfl (m_call hm30 17 (.bool ((holds_m (Rul.mk ([]) ((x10 : Nat) : Int) b) a))) rfl (run_holds rfl rfl rfl) (holds_any (Rul.mk ([]) ((x10 : Nat) : Int) b) a  _  ) (fun w39 (hm40 : Mm none (fun _ => True) w w39 [.blk g6 #[.bool (x11), .bool (x12), .bool (x13), .bool (x14), .bool (x15), .bool (x16)] 41]) => ?_))
    simp only [nz1, nz2, nz3]
    by_cases hx41 : x10 = 0
    · refine lvw 18 (.pointer (some ⟨g6, 0, none⟩)) rfl rfl (Sx.r_ix g6 0 (by decide) Tryd.underlying41 sz_4 rfl rfl (show (Value.int .i64 ((x10 : Nat) : Int)) = .int .i64 (((0 : Nat)) : Int) from by congr 1; omega)) ?_
      simp only [nz1, nz2, nz3]
      refine lst rfl (m_store 0 4 _ _ 0 (.bool ((holds_m (Rul.mk ([]) ((x10 : Nat) : Int) b) a))) (old := #[.bool (x11), .bool (x12), .bool (x13), .bool (x14), .bool (x15), .bool (x16)]) (new := #[.bool ((holds_m (Rul.mk ([]) ((x10 : Nat) : Int) b) a)), .bool (x12), .bool (x13), .bool (x14), .bool (x15), .bool (x16)]) hm40 rfl rfl rfl rfl rfl (by exact sz_4) (show 0 + 1 ≤ 6 from by decide) (one_all rfl) rfl (fun w42 (hm43 : Mm none (fun _ => True) w w42 [.blk g6 #[.bool ((holds_m (Rul.mk ([]) ((x10 : Nat) : Int) b) a)), .bool (x12), .bool (x13), .bool (x14), .bool (x15), .bool (x16)] 41]) => ?_))
      refine wpList_nil ?_
      refine then_n (hK38 _ _ ?_)
      refine wp_seq_k (fun K44 hK44 => ?_)
      refine wp_region_lit ?_
      refine lvw 19 (.int .i64 ((x10 : Nat) : Int)) rfl rfl (run_mv rfl rfl) ?_
      simp only [nz1, nz2, nz3]
      refine lvw 20 (.pointer (some ⟨g6, 0, none⟩)) rfl rfl (Sx.r_ix g6 0 (by decide) Tryd.underlying41 sz_4 rfl rfl (show (Value.int .i64 ((x10 : Nat) : Int)) = .int .i64 (((0 : Nat)) : Int) from by congr 1; omega)) ?_
      simp only [nz1, nz2, nz3]
      refine lvB 21 (holds_m (Rul.mk ([]) ((x10 : Nat) : Int) b) a) rfl rfl (r_load (hm43.at 0 rfl) rfl Tryd.underlying4 rfl rfl rfl) (fun hs45 => ?_) (fun hs45 => ?_)
      rotate_left
      · simp only [nz1, nz2, nz3]
        refine lvw 22 (.bool false) rfl rfl (run_mv rfl rfl) ?_
        simp only [nz1, nz2, nz3]
        refine lst_skip 23 rfl rfl ?_
        simp only [nz1, nz2, nz3]
        refine lst_skip 24 rfl rfl ?_
        simp only [nz1, nz2, nz3]
        refine lst_skip 25 rfl rfl ?_
        simp only [nz1, nz2, nz3]
        refine lst_skip 26 rfl rfl ?_
        simp only [nz1, nz2, nz3]
        refine lst_skip 27 rfl rfl ?_
        simp only [nz1, nz2, nz3]
        refine lst_skip 28 rfl rfl ?_
        simp only [nz1, nz2, nz3]
        refine lst_skip 29 rfl rfl ?_
        simp only [nz1, nz2, nz3]
        refine lst_skip 30 rfl rfl ?_
        simp only [nz1, nz2, nz3]
        refine lst_skip 31 rfl rfl ?_
        simp only [nz1, nz2, nz3]
        refine lst_skip 32 rfl rfl ?_
        simp only [nz1, nz2, nz3]
        refine lvw 33 (.bool false) rfl rfl (run_pickf rfl rfl rfl) ?_
        simp only [nz1, nz2, nz3]
        refine wpList_nil ?_
        refine then_n (hK44 _ _ ?_)
        refine cond_f rfl ?_
        refine wp_skip ?_
        refine blk_n ?_
        refine then_n (hK37 _ _ ?_)
        refine wp_region_lit ?_
        refine lvw 10 (.int .i64 ((x10 : Nat) : Int)) rfl rfl (run_mv rfl rfl) ?_
        simp only [nz1, nz2, nz3]
        refine lvw 11 (.int .i64 (((x10 + 1) : Nat) : Int)) rfl rfl (r_add x10 1 (show (x10 + 1) < 9223372036854775808 from by omega) rfl rfl rfl) ?_
        simp only [nz1, nz2, nz3]
        refine lvw 7 (.int .i64 (((x10 + 1) : Nat) : Int)) rfl rfl (run_as rfl rfl) ?_
        simp only [nz1, nz2, nz3]
        refine wpList_nil ?_
        refine then_n (hR31 _ _ _ ⟨k18, x9, (x10 + 1), (holds_m (Rul.mk ([]) ((x10 : Nat) : Int) b) a), x12, x13, x14, x15, x16, (fun qq => bif Nat.blt qq 24 then List.getD [.int .i64 ((x10 : Nat) : Int), .bool (decide (x10 ≤ 5)), .int .i64 ((x10 : Nat) : Int), .int .i64 (((x10 + 1) : Nat) : Int), .int .i64 ((x10 : Nat) : Int), .int .i64 ((x10 : Nat) : Int), .string (tx b), .agg #[.string (tx ([])), .int .i64 ((x10 : Nat) : Int), .string (tx b)], .string (tx a), .bool ((holds_m (Rul.mk ([]) ((x10 : Nat) : Int) b) a)), .pointer (some ⟨g6, 0, none⟩), .int .i64 ((x10 : Nat) : Int), .pointer (some ⟨g6, 0, none⟩), .bool false, .bool false, undef, undef, undef, undef, undef, undef, undef, undef, undef] qq undef else List.getD [undef, .bool false, u0 26, u0 27] (qq - 24) undef), rfl, (by first | omega | (simp; omega) | (simp at *; omega)), (hi19.trans (show vrules_m_b0 a b (vrules_m_l0 a b k18) x9 x10 x11 x12 x13 x14 x15 x16 = vrules_m_l0 a b k18 (x9, (x10 + 1), (holds_m (Rul.mk ([]) ((x10 : Nat) : Int) b) a), x12, x13, x14, x15, x16) from by unfold vrules_m_b0; rw [if_pos hc36, if_pos hx41, if_neg hs45] <;> rfl)), (by first | omega | (simp; done) | (simp; omega) | (simp at *; omega)), rfl, hm43⟩ ?_)
        omega
      simp only [nz1, nz2, nz3]
      refine lvw 22 (.bool true) rfl rfl (run_mv rfl rfl) ?_
      simp only [nz1, nz2, nz3]
      refine lvw 23 (.int .i64 ((x10 : Nat) : Int)) rfl rfl (run_mv rfl rfl) ?_
      simp only [nz1, nz2, nz3]
      refine lvb 24 (x10 = 2) rfl rfl (r_eql x10 2 rfl rfl rfl) (fun hs46 => ?_) (fun hs46 => ?_)
      · simp only [nz1, nz2, nz3]
        refine lvw 25 (.bool true) rfl rfl (run_mv rfl rfl) ?_
        simp only [nz1, nz2, nz3]
        refine lst_skip 26 rfl rfl ?_
        simp only [nz1, nz2, nz3]
        refine lst_skip 27 rfl rfl ?_
        simp only [nz1, nz2, nz3]
        refine lvw 28 (.bool true) rfl rfl (run_pick rfl rfl rfl) ?_
        simp only [nz1, nz2, nz3]
        refine lvw 29 (.bool true) rfl rfl (run_mv rfl rfl) ?_
        simp only [nz1, nz2, nz3]
        refine lst_skip 30 rfl rfl ?_
        simp only [nz1, nz2, nz3]
        refine lst_skip 31 rfl rfl ?_
        simp only [nz1, nz2, nz3]
        refine lvw 32 (.bool true) rfl rfl (run_pick rfl rfl rfl) ?_
        simp only [nz1, nz2, nz3]
        refine lvw 33 (.bool true) rfl rfl (run_pick rfl rfl rfl) ?_
        simp only [nz1, nz2, nz3]
        refine wpList_nil ?_
        refine then_n (hK44 _ _ ?_)
        refine cond_t rfl ?_
        refine wp_region_lit ?_
        refine lvw 34 (.int .i64 ((x9 : Nat) : Int)) rfl rfl (run_mv rfl rfl) ?_
        simp only [nz1, nz2, nz3]
        refine lvw 35 (.int .i64 (((x9 + 1) : Nat) : Int)) rfl rfl (r_add x9 1 (show (x9 + 1) < 9223372036854775808 from by omega) rfl rfl rfl) ?_
        simp only [nz1, nz2, nz3]
        refine lvw 5 (.int .i64 (((x9 + 1) : Nat) : Int)) rfl rfl (run_as rfl rfl) ?_
        simp only [nz1, nz2, nz3]
        refine wpList_nil ?_
        refine blk_n ?_
        refine then_n (hK37 _ _ ?_)
        refine wp_region_lit ?_
        refine lvw 10 (.int .i64 ((x10 : Nat) : Int)) rfl rfl (run_mv rfl rfl) ?_
        simp only [nz1, nz2, nz3]
        refine lvw 11 (.int .i64 (((x10 + 1) : Nat) : Int)) rfl rfl (r_add x10 1 (show (x10 + 1) < 9223372036854775808 from by omega) rfl rfl rfl) ?_
        simp only [nz1, nz2, nz3]
        refine lvw 7 (.int .i64 (((x10 + 1) : Nat) : Int)) rfl rfl (run_as rfl rfl) ?_
        simp only [nz1, nz2, nz3]
        refine wpList_nil ?_
        refine then_n (hR31 _ _ _ ⟨k18, (x9 + 1), (x10 + 1), (holds_m (Rul.mk ([]) ((x10 : Nat) : Int) b) a), x12, x13, x14, x15, x16, (fun qq => bif Nat.blt qq 24 then List.getD [.int .i64 ((x10 : Nat) : Int), .bool (decide (x10 ≤ 5)), .int .i64 ((x10 : Nat) : Int), .int .i64 (((x10 + 1) : Nat) : Int), .int .i64 ((x10 : Nat) : Int), .int .i64 ((x10 : Nat) : Int), .string (tx b), .agg #[.string (tx ([])), .int .i64 ((x10 : Nat) : Int), .string (tx b)], .string (tx a), .bool ((holds_m (Rul.mk ([]) ((x10 : Nat) : Int) b) a)), .pointer (some ⟨g6, 0, none⟩), .int .i64 ((x10 : Nat) : Int), .pointer (some ⟨g6, 0, none⟩), .bool true, .bool true, .int .i64 ((x10 : Nat) : Int), .bool true, .bool true, undef, undef, .bool true, .bool true, undef, undef] qq undef else List.getD [.bool true, .bool true, .int .i64 ((x9 : Nat) : Int), .int .i64 (((x9 + 1) : Nat) : Int)] (qq - 24) undef), rfl, (by first | omega | (simp; omega) | (simp at *; omega)), (hi19.trans (show vrules_m_b0 a b (vrules_m_l0 a b k18) x9 x10 x11 x12 x13 x14 x15 x16 = vrules_m_l0 a b k18 ((x9 + 1), (x10 + 1), (holds_m (Rul.mk ([]) ((x10 : Nat) : Int) b) a), x12, x13, x14, x15, x16) from by unfold vrules_m_b0; rw [if_pos hc36, if_pos hx41, if_pos hs45, if_pos hs46] <;> rfl)), (by first | omega | (simp; done) | (simp; omega) | (simp at *; omega)), rfl, hm43⟩ ?_)
        omega
      simp only [nz1, nz2, nz3]
      refine lvw 25 (.bool false) rfl rfl (run_mv rfl rfl) ?_
      simp only [nz1, nz2, nz3]
      refine lvw 26 (.int .i64 ((x10 : Nat) : Int)) rfl rfl (run_mv rfl rfl) ?_
      simp only [nz1, nz2, nz3]
      refine lvb 27 (x10 = 1) rfl rfl (r_eql x10 1 rfl rfl rfl) (fun hs47 => ?_) (fun hs47 => ?_)
      · simp only [nz1, nz2, nz3]
        refine lvw 28 (.bool true) rfl rfl (run_pickf rfl rfl rfl) ?_
        simp only [nz1, nz2, nz3]
        refine lvw 29 (.bool true) rfl rfl (run_mv rfl rfl) ?_
        simp only [nz1, nz2, nz3]
        refine lst_skip 30 rfl rfl ?_
        simp only [nz1, nz2, nz3]
        refine lst_skip 31 rfl rfl ?_
        simp only [nz1, nz2, nz3]
        refine lvw 32 (.bool true) rfl rfl (run_pick rfl rfl rfl) ?_
        simp only [nz1, nz2, nz3]
        refine lvw 33 (.bool true) rfl rfl (run_pick rfl rfl rfl) ?_
        simp only [nz1, nz2, nz3]
        refine wpList_nil ?_
        refine then_n (hK44 _ _ ?_)
        refine cond_t rfl ?_
        refine wp_region_lit ?_
        refine lvw 34 (.int .i64 ((x9 : Nat) : Int)) rfl rfl (run_mv rfl rfl) ?_
        simp only [nz1, nz2, nz3]
        refine lvw 35 (.int .i64 (((x9 + 1) : Nat) : Int)) rfl rfl (r_add x9 1 (show (x9 + 1) < 9223372036854775808 from by omega) rfl rfl rfl) ?_
        simp only [nz1, nz2, nz3]
        refine lvw 5 (.int .i64 (((x9 + 1) : Nat) : Int)) rfl rfl (run_as rfl rfl) ?_
        simp only [nz1, nz2, nz3]
        refine wpList_nil ?_
        refine blk_n ?_
        refine then_n (hK37 _ _ ?_)
        refine wp_region_lit ?_
        refine lvw 10 (.int .i64 ((x10 : Nat) : Int)) rfl rfl (run_mv rfl rfl) ?_
        simp only [nz1, nz2, nz3]
        refine lvw 11 (.int .i64 (((x10 + 1) : Nat) : Int)) rfl rfl (r_add x10 1 (show (x10 + 1) < 9223372036854775808 from by omega) rfl rfl rfl) ?_
        simp only [nz1, nz2, nz3]
        refine lvw 7 (.int .i64 (((x10 + 1) : Nat) : Int)) rfl rfl (run_as rfl rfl) ?_
        simp only [nz1, nz2, nz3]
        refine wpList_nil ?_
        refine then_n (hR31 _ _ _ ⟨k18, (x9 + 1), (x10 + 1), (holds_m (Rul.mk ([]) ((x10 : Nat) : Int) b) a), x12, x13, x14, x15, x16, (fun qq => bif Nat.blt qq 24 then List.getD [.int .i64 ((x10 : Nat) : Int), .bool (decide (x10 ≤ 5)), .int .i64 ((x10 : Nat) : Int), .int .i64 (((x10 + 1) : Nat) : Int), .int .i64 ((x10 : Nat) : Int), .int .i64 ((x10 : Nat) : Int), .string (tx b), .agg #[.string (tx ([])), .int .i64 ((x10 : Nat) : Int), .string (tx b)], .string (tx a), .bool ((holds_m (Rul.mk ([]) ((x10 : Nat) : Int) b) a)), .pointer (some ⟨g6, 0, none⟩), .int .i64 ((x10 : Nat) : Int), .pointer (some ⟨g6, 0, none⟩), .bool true, .bool true, .int .i64 ((x10 : Nat) : Int), .bool false, .bool false, .int .i64 ((x10 : Nat) : Int), .bool true, .bool true, .bool true, undef, undef] qq undef else List.getD [.bool true, .bool true, .int .i64 ((x9 : Nat) : Int), .int .i64 (((x9 + 1) : Nat) : Int)] (qq - 24) undef), rfl, (by first | omega | (simp; omega) | (simp at *; omega)), (hi19.trans (show vrules_m_b0 a b (vrules_m_l0 a b k18) x9 x10 x11 x12 x13 x14 x15 x16 = vrules_m_l0 a b k18 ((x9 + 1), (x10 + 1), (holds_m (Rul.mk ([]) ((x10 : Nat) : Int) b) a), x12, x13, x14, x15, x16) from by unfold vrules_m_b0; rw [if_pos hc36, if_pos hx41, if_pos hs45, if_neg hs46, if_pos hs47] <;> rfl)), (by first | omega | (simp; done) | (simp; omega) | (simp at *; omega)), rfl, hm43⟩ ?_)
        omega
      simp only [nz1, nz2, nz3]
      refine lvw 28 (.bool false) rfl rfl (run_pickf rfl rfl rfl) ?_
      simp only [nz1, nz2, nz3]
      refine lvw 29 (.bool false) rfl rfl (run_mv rfl rfl) ?_
      simp only [nz1, nz2, nz3]
      refine lvw 30 (.int .i64 ((x10 : Nat) : Int)) rfl rfl (run_mv rfl rfl) ?_
      simp only [nz1, nz2, nz3]
      refine lvw 31 (.bool (decide (x10 = 4))) rfl rfl (r_eql x10 4 rfl rfl rfl) ?_
      simp only [nz1, nz2, nz3]
      refine lvw 32 (.bool (decide (x10 = 4))) rfl rfl (run_pickf rfl rfl rfl) ?_
      simp only [nz1, nz2, nz3]
      refine lvw 33 (.bool (decide (x10 = 4))) rfl rfl (run_pick rfl rfl rfl) ?_
      simp only [nz1, nz2, nz3]
      refine wpList_nil ?_
      refine then_n (hK44 _ _ ?_)
      refine cond_d (x10 = 4) rfl (fun hc48 => ?_) (fun hc48 => ?_)
      rotate_left
      · refine wp_skip ?_
        refine blk_n ?_
        refine then_n (hK37 _ _ ?_)
        refine wp_region_lit ?_
        refine lvw 10 (.int .i64 ((x10 : Nat) : Int)) rfl rfl (run_mv rfl rfl) ?_
        simp only [nz1, nz2, nz3]
        refine lvw 11 (.int .i64 (((x10 + 1) : Nat) : Int)) rfl rfl (r_add x10 1 (show (x10 + 1) < 9223372036854775808 from by omega) rfl rfl rfl) ?_
        simp only [nz1, nz2, nz3]
        refine lvw 7 (.int .i64 (((x10 + 1) : Nat) : Int)) rfl rfl (run_as rfl rfl) ?_
        simp only [nz1, nz2, nz3]
        refine wpList_nil ?_
        refine then_n (hR31 _ _ _ ⟨k18, x9, (x10 + 1), (holds_m (Rul.mk ([]) ((x10 : Nat) : Int) b) a), x12, x13, x14, x15, x16, (fun qq => bif Nat.blt qq 24 then List.getD [.int .i64 ((x10 : Nat) : Int), .bool (decide (x10 ≤ 5)), .int .i64 ((x10 : Nat) : Int), .int .i64 (((x10 + 1) : Nat) : Int), .int .i64 ((x10 : Nat) : Int), .int .i64 ((x10 : Nat) : Int), .string (tx b), .agg #[.string (tx ([])), .int .i64 ((x10 : Nat) : Int), .string (tx b)], .string (tx a), .bool ((holds_m (Rul.mk ([]) ((x10 : Nat) : Int) b) a)), .pointer (some ⟨g6, 0, none⟩), .int .i64 ((x10 : Nat) : Int), .pointer (some ⟨g6, 0, none⟩), .bool true, .bool true, .int .i64 ((x10 : Nat) : Int), .bool false, .bool false, .int .i64 ((x10 : Nat) : Int), .bool false, .bool false, .bool false, .int .i64 ((x10 : Nat) : Int), .bool (decide (x10 = 4))] qq undef else List.getD [.bool (decide (x10 = 4)), .bool (decide (x10 = 4)), u0 26, u0 27] (qq - 24) undef), rfl, (by first | omega | (simp; omega) | (simp at *; omega)), (hi19.trans (show vrules_m_b0 a b (vrules_m_l0 a b k18) x9 x10 x11 x12 x13 x14 x15 x16 = vrules_m_l0 a b k18 (x9, (x10 + 1), (holds_m (Rul.mk ([]) ((x10 : Nat) : Int) b) a), x12, x13, x14, x15, x16) from by unfold vrules_m_b0; rw [if_pos hc36, if_pos hx41, if_pos hs45, if_neg hs46, if_neg hs47, if_neg hc48] <;> rfl)), (by first | omega | (simp; done) | (simp; omega) | (simp at *; omega)), rfl, hm43⟩ ?_)
        omega
      refine wp_region_lit ?_
      refine lvw 34 (.int .i64 ((x9 : Nat) : Int)) rfl rfl (run_mv rfl rfl) ?_
      simp only [nz1, nz2, nz3]
      refine lvw 35 (.int .i64 (((x9 + 1) : Nat) : Int)) rfl rfl (r_add x9 1 (show (x9 + 1) < 9223372036854775808 from by omega) rfl rfl rfl) ?_
      simp only [nz1, nz2, nz3]
      refine lvw 5 (.int .i64 (((x9 + 1) : Nat) : Int)) rfl rfl (run_as rfl rfl) ?_
      simp only [nz1, nz2, nz3]
      refine wpList_nil ?_
      refine blk_n ?_
      refine then_n (hK37 _ _ ?_)
      refine wp_region_lit ?_
      refine lvw 10 (.int .i64 ((x10 : Nat) : Int)) rfl rfl (run_mv rfl rfl) ?_
      simp only [nz1, nz2, nz3]
      refine lvw 11 (.int .i64 (((x10 + 1) : Nat) : Int)) rfl rfl (r_add x10 1 (show (x10 + 1) < 9223372036854775808 from by omega) rfl rfl rfl) ?_
      simp only [nz1, nz2, nz3]
      refine lvw 7 (.int .i64 (((x10 + 1) : Nat) : Int)) rfl rfl (run_as rfl rfl) ?_
      simp only [nz1, nz2, nz3]
      refine wpList_nil ?_
      refine then_n (hR31 _ _ _ ⟨k18, (x9 + 1), (x10 + 1), (holds_m (Rul.mk ([]) ((x10 : Nat) : Int) b) a), x12, x13, x14, x15, x16, (fun qq => bif Nat.blt qq 24 then List.getD [.int .i64 ((x10 : Nat) : Int), .bool (decide (x10 ≤ 5)), .int .i64 ((x10 : Nat) : Int), .int .i64 (((x10 + 1) : Nat) : Int), .int .i64 ((x10 : Nat) : Int), .int .i64 ((x10 : Nat) : Int), .string (tx b), .agg #[.string (tx ([])), .int .i64 ((x10 : Nat) : Int), .string (tx b)], .string (tx a), .bool ((holds_m (Rul.mk ([]) ((x10 : Nat) : Int) b) a)), .pointer (some ⟨g6, 0, none⟩), .int .i64 ((x10 : Nat) : Int), .pointer (some ⟨g6, 0, none⟩), .bool true, .bool true, .int .i64 ((x10 : Nat) : Int), .bool false, .bool false, .int .i64 ((x10 : Nat) : Int), .bool false, .bool false, .bool false, .int .i64 ((x10 : Nat) : Int), .bool (decide (x10 = 4))] qq undef else List.getD [.bool (decide (x10 = 4)), .bool (decide (x10 = 4)), .int .i64 ((x9 : Nat) : Int), .int .i64 (((x9 + 1) : Nat) : Int)] (qq - 24) undef), rfl, (by first | omega | (simp; omega) | (simp at *; omega)), (hi19.trans (show vrules_m_b0 a b (vrules_m_l0 a b k18) x9 x10 x11 x12 x13 x14 x15 x16 = vrules_m_l0 a b k18 ((x9 + 1), (x10 + 1), (holds_m (Rul.mk ([]) ((x10 : Nat) : Int) b) a), x12, x13, x14, x15, x16) from by unfold vrules_m_b0; rw [if_pos hc36, if_pos hx41, if_pos hs45, if_neg hs46, if_neg hs47, if_pos hc48] <;> rfl)), (by first | omega | (simp; done) | (simp; omega) | (simp at *; omega)), rfl, hm43⟩ ?_)
      omega
    by_cases hx49 : x10 = 1
    · refine lvw 18 (.pointer (some ⟨g6, 1, none⟩)) rfl rfl (Sx.r_ix g6 1 (by decide) Tryd.underlying41 sz_4 rfl rfl (show (Value.int .i64 ((x10 : Nat) : Int)) = .int .i64 (((1 : Nat)) : Int) from by congr 1; omega)) ?_
      simp only [nz1, nz2, nz3]
      refine lst rfl (m_store 0 4 _ _ 1 (.bool ((holds_m (Rul.mk ([]) ((x10 : Nat) : Int) b) a))) (old := #[.bool (x11), .bool (x12), .bool (x13), .bool (x14), .bool (x15), .bool (x16)]) (new := #[.bool (x11), .bool ((holds_m (Rul.mk ([]) ((x10 : Nat) : Int) b) a)), .bool (x13), .bool (x14), .bool (x15), .bool (x16)]) hm40 rfl rfl rfl rfl rfl (by exact sz_4) (show 1 + 1 ≤ 6 from by decide) (one_all rfl) rfl (fun w50 (hm51 : Mm none (fun _ => True) w w50 [.blk g6 #[.bool (x11), .bool ((holds_m (Rul.mk ([]) ((x10 : Nat) : Int) b) a)), .bool (x13), .bool (x14), .bool (x15), .bool (x16)] 41]) => ?_))
      refine wpList_nil ?_
      refine then_n (hK38 _ _ ?_)
      refine wp_seq_k (fun K52 hK52 => ?_)
      refine wp_region_lit ?_
      refine lvw 19 (.int .i64 ((x10 : Nat) : Int)) rfl rfl (run_mv rfl rfl) ?_
      simp only [nz1, nz2, nz3]
      refine lvw 20 (.pointer (some ⟨g6, 1, none⟩)) rfl rfl (Sx.r_ix g6 1 (by decide) Tryd.underlying41 sz_4 rfl rfl (show (Value.int .i64 ((x10 : Nat) : Int)) = .int .i64 (((1 : Nat)) : Int) from by congr 1; omega)) ?_
      simp only [nz1, nz2, nz3]
      refine lvB 21 (holds_m (Rul.mk ([]) ((x10 : Nat) : Int) b) a) rfl rfl (r_load (hm51.at 0 rfl) rfl Tryd.underlying4 rfl rfl rfl) (fun hs53 => ?_) (fun hs53 => ?_)
      rotate_left
      · simp only [nz1, nz2, nz3]
        refine lvw 22 (.bool false) rfl rfl (run_mv rfl rfl) ?_
        simp only [nz1, nz2, nz3]
        refine lst_skip 23 rfl rfl ?_
        simp only [nz1, nz2, nz3]
        refine lst_skip 24 rfl rfl ?_
        simp only [nz1, nz2, nz3]
        refine lst_skip 25 rfl rfl ?_
        simp only [nz1, nz2, nz3]
        refine lst_skip 26 rfl rfl ?_
        simp only [nz1, nz2, nz3]
        refine lst_skip 27 rfl rfl ?_
        simp only [nz1, nz2, nz3]
        refine lst_skip 28 rfl rfl ?_
        simp only [nz1, nz2, nz3]
        refine lst_skip 29 rfl rfl ?_
        simp only [nz1, nz2, nz3]
        refine lst_skip 30 rfl rfl ?_
        simp only [nz1, nz2, nz3]
        refine lst_skip 31 rfl rfl ?_
        simp only [nz1, nz2, nz3]
        refine lst_skip 32 rfl rfl ?_
        simp only [nz1, nz2, nz3]
        refine lvw 33 (.bool false) rfl rfl (run_pickf rfl rfl rfl) ?_
        simp only [nz1, nz2, nz3]
        refine wpList_nil ?_
        refine then_n (hK52 _ _ ?_)
        refine cond_f rfl ?_
        refine wp_skip ?_
        refine blk_n ?_
        refine then_n (hK37 _ _ ?_)
        refine wp_region_lit ?_
        refine lvw 10 (.int .i64 ((x10 : Nat) : Int)) rfl rfl (run_mv rfl rfl) ?_
        simp only [nz1, nz2, nz3]
        refine lvw 11 (.int .i64 (((x10 + 1) : Nat) : Int)) rfl rfl (r_add x10 1 (show (x10 + 1) < 9223372036854775808 from by omega) rfl rfl rfl) ?_
        simp only [nz1, nz2, nz3]
        refine lvw 7 (.int .i64 (((x10 + 1) : Nat) : Int)) rfl rfl (run_as rfl rfl) ?_
        simp only [nz1, nz2, nz3]
        refine wpList_nil ?_
        refine then_n (hR31 _ _ _ ⟨k18, x9, (x10 + 1), x11, (holds_m (Rul.mk ([]) ((x10 : Nat) : Int) b) a), x13, x14, x15, x16, (fun qq => bif Nat.blt qq 24 then List.getD [.int .i64 ((x10 : Nat) : Int), .bool (decide (x10 ≤ 5)), .int .i64 ((x10 : Nat) : Int), .int .i64 (((x10 + 1) : Nat) : Int), .int .i64 ((x10 : Nat) : Int), .int .i64 ((x10 : Nat) : Int), .string (tx b), .agg #[.string (tx ([])), .int .i64 ((x10 : Nat) : Int), .string (tx b)], .string (tx a), .bool ((holds_m (Rul.mk ([]) ((x10 : Nat) : Int) b) a)), .pointer (some ⟨g6, 1, none⟩), .int .i64 ((x10 : Nat) : Int), .pointer (some ⟨g6, 1, none⟩), .bool false, .bool false, undef, undef, undef, undef, undef, undef, undef, undef, undef] qq undef else List.getD [undef, .bool false, u0 26, u0 27] (qq - 24) undef), rfl, (by first | omega | (simp; omega) | (simp at *; omega)), (hi19.trans (show vrules_m_b0 a b (vrules_m_l0 a b k18) x9 x10 x11 x12 x13 x14 x15 x16 = vrules_m_l0 a b k18 (x9, (x10 + 1), x11, (holds_m (Rul.mk ([]) ((x10 : Nat) : Int) b) a), x13, x14, x15, x16) from by unfold vrules_m_b0; rw [if_pos hc36, if_neg hx41, if_pos hx49, if_neg hs53] <;> rfl)), (by first | omega | (simp; done) | (simp; omega) | (simp at *; omega)), rfl, hm51⟩ ?_)
        omega
      simp only [nz1, nz2, nz3]
      refine lvw 22 (.bool true) rfl rfl (run_mv rfl rfl) ?_
      simp only [nz1, nz2, nz3]
      refine lvw 23 (.int .i64 ((x10 : Nat) : Int)) rfl rfl (run_mv rfl rfl) ?_
      simp only [nz1, nz2, nz3]
      refine lvb 24 (x10 = 2) rfl rfl (r_eql x10 2 rfl rfl rfl) (fun hs54 => ?_) (fun hs54 => ?_)
      · simp only [nz1, nz2, nz3]
        refine lvw 25 (.bool true) rfl rfl (run_mv rfl rfl) ?_
        simp only [nz1, nz2, nz3]
        refine lst_skip 26 rfl rfl ?_
        simp only [nz1, nz2, nz3]
        refine lst_skip 27 rfl rfl ?_
        simp only [nz1, nz2, nz3]
        refine lvw 28 (.bool true) rfl rfl (run_pick rfl rfl rfl) ?_
        simp only [nz1, nz2, nz3]
        refine lvw 29 (.bool true) rfl rfl (run_mv rfl rfl) ?_
        simp only [nz1, nz2, nz3]
        refine lst_skip 30 rfl rfl ?_
        simp only [nz1, nz2, nz3]
        refine lst_skip 31 rfl rfl ?_
        simp only [nz1, nz2, nz3]
        refine lvw 32 (.bool true) rfl rfl (run_pick rfl rfl rfl) ?_
        simp only [nz1, nz2, nz3]
        refine lvw 33 (.bool true) rfl rfl (run_pick rfl rfl rfl) ?_
        simp only [nz1, nz2, nz3]
        refine wpList_nil ?_
        refine then_n (hK52 _ _ ?_)
        refine cond_t rfl ?_
        refine wp_region_lit ?_
        refine lvw 34 (.int .i64 ((x9 : Nat) : Int)) rfl rfl (run_mv rfl rfl) ?_
        simp only [nz1, nz2, nz3]
        refine lvw 35 (.int .i64 (((x9 + 1) : Nat) : Int)) rfl rfl (r_add x9 1 (show (x9 + 1) < 9223372036854775808 from by omega) rfl rfl rfl) ?_
        simp only [nz1, nz2, nz3]
        refine lvw 5 (.int .i64 (((x9 + 1) : Nat) : Int)) rfl rfl (run_as rfl rfl) ?_
        simp only [nz1, nz2, nz3]
        refine wpList_nil ?_
        refine blk_n ?_
        refine then_n (hK37 _ _ ?_)
        refine wp_region_lit ?_
        refine lvw 10 (.int .i64 ((x10 : Nat) : Int)) rfl rfl (run_mv rfl rfl) ?_
        simp only [nz1, nz2, nz3]
        refine lvw 11 (.int .i64 (((x10 + 1) : Nat) : Int)) rfl rfl (r_add x10 1 (show (x10 + 1) < 9223372036854775808 from by omega) rfl rfl rfl) ?_
        simp only [nz1, nz2, nz3]
        refine lvw 7 (.int .i64 (((x10 + 1) : Nat) : Int)) rfl rfl (run_as rfl rfl) ?_
        simp only [nz1, nz2, nz3]
        refine wpList_nil ?_
        refine then_n (hR31 _ _ _ ⟨k18, (x9 + 1), (x10 + 1), x11, (holds_m (Rul.mk ([]) ((x10 : Nat) : Int) b) a), x13, x14, x15, x16, (fun qq => bif Nat.blt qq 24 then List.getD [.int .i64 ((x10 : Nat) : Int), .bool (decide (x10 ≤ 5)), .int .i64 ((x10 : Nat) : Int), .int .i64 (((x10 + 1) : Nat) : Int), .int .i64 ((x10 : Nat) : Int), .int .i64 ((x10 : Nat) : Int), .string (tx b), .agg #[.string (tx ([])), .int .i64 ((x10 : Nat) : Int), .string (tx b)], .string (tx a), .bool ((holds_m (Rul.mk ([]) ((x10 : Nat) : Int) b) a)), .pointer (some ⟨g6, 1, none⟩), .int .i64 ((x10 : Nat) : Int), .pointer (some ⟨g6, 1, none⟩), .bool true, .bool true, .int .i64 ((x10 : Nat) : Int), .bool true, .bool true, undef, undef, .bool true, .bool true, undef, undef] qq undef else List.getD [.bool true, .bool true, .int .i64 ((x9 : Nat) : Int), .int .i64 (((x9 + 1) : Nat) : Int)] (qq - 24) undef), rfl, (by first | omega | (simp; omega) | (simp at *; omega)), (hi19.trans (show vrules_m_b0 a b (vrules_m_l0 a b k18) x9 x10 x11 x12 x13 x14 x15 x16 = vrules_m_l0 a b k18 ((x9 + 1), (x10 + 1), x11, (holds_m (Rul.mk ([]) ((x10 : Nat) : Int) b) a), x13, x14, x15, x16) from by unfold vrules_m_b0; rw [if_pos hc36, if_neg hx41, if_pos hx49, if_pos hs53, if_pos hs54] <;> rfl)), (by first | omega | (simp; done) | (simp; omega) | (simp at *; omega)), rfl, hm51⟩ ?_)
        omega
      simp only [nz1, nz2, nz3]
      refine lvw 25 (.bool false) rfl rfl (run_mv rfl rfl) ?_
      simp only [nz1, nz2, nz3]
      refine lvw 26 (.int .i64 ((x10 : Nat) : Int)) rfl rfl (run_mv rfl rfl) ?_
      simp only [nz1, nz2, nz3]
      refine lvb 27 (x10 = 1) rfl rfl (r_eql x10 1 rfl rfl rfl) (fun hs55 => ?_) (fun hs55 => ?_)
      · simp only [nz1, nz2, nz3]
        refine lvw 28 (.bool true) rfl rfl (run_pickf rfl rfl rfl) ?_
        simp only [nz1, nz2, nz3]
        refine lvw 29 (.bool true) rfl rfl (run_mv rfl rfl) ?_
        simp only [nz1, nz2, nz3]
        refine lst_skip 30 rfl rfl ?_
        simp only [nz1, nz2, nz3]
        refine lst_skip 31 rfl rfl ?_
        simp only [nz1, nz2, nz3]
        refine lvw 32 (.bool true) rfl rfl (run_pick rfl rfl rfl) ?_
        simp only [nz1, nz2, nz3]
        refine lvw 33 (.bool true) rfl rfl (run_pick rfl rfl rfl) ?_
        simp only [nz1, nz2, nz3]
        refine wpList_nil ?_
        refine then_n (hK52 _ _ ?_)
        refine cond_t rfl ?_
        refine wp_region_lit ?_
        refine lvw 34 (.int .i64 ((x9 : Nat) : Int)) rfl rfl (run_mv rfl rfl) ?_
        simp only [nz1, nz2, nz3]
        refine lvw 35 (.int .i64 (((x9 + 1) : Nat) : Int)) rfl rfl (r_add x9 1 (show (x9 + 1) < 9223372036854775808 from by omega) rfl rfl rfl) ?_
        simp only [nz1, nz2, nz3]
        refine lvw 5 (.int .i64 (((x9 + 1) : Nat) : Int)) rfl rfl (run_as rfl rfl) ?_
        simp only [nz1, nz2, nz3]
        refine wpList_nil ?_
        refine blk_n ?_
        refine then_n (hK37 _ _ ?_)
        refine wp_region_lit ?_
        refine lvw 10 (.int .i64 ((x10 : Nat) : Int)) rfl rfl (run_mv rfl rfl) ?_
        simp only [nz1, nz2, nz3]
        refine lvw 11 (.int .i64 (((x10 + 1) : Nat) : Int)) rfl rfl (r_add x10 1 (show (x10 + 1) < 9223372036854775808 from by omega) rfl rfl rfl) ?_
        simp only [nz1, nz2, nz3]
        refine lvw 7 (.int .i64 (((x10 + 1) : Nat) : Int)) rfl rfl (run_as rfl rfl) ?_
        simp only [nz1, nz2, nz3]
        refine wpList_nil ?_
        refine then_n (hR31 _ _ _ ⟨k18, (x9 + 1), (x10 + 1), x11, (holds_m (Rul.mk ([]) ((x10 : Nat) : Int) b) a), x13, x14, x15, x16, (fun qq => bif Nat.blt qq 24 then List.getD [.int .i64 ((x10 : Nat) : Int), .bool (decide (x10 ≤ 5)), .int .i64 ((x10 : Nat) : Int), .int .i64 (((x10 + 1) : Nat) : Int), .int .i64 ((x10 : Nat) : Int), .int .i64 ((x10 : Nat) : Int), .string (tx b), .agg #[.string (tx ([])), .int .i64 ((x10 : Nat) : Int), .string (tx b)], .string (tx a), .bool ((holds_m (Rul.mk ([]) ((x10 : Nat) : Int) b) a)), .pointer (some ⟨g6, 1, none⟩), .int .i64 ((x10 : Nat) : Int), .pointer (some ⟨g6, 1, none⟩), .bool true, .bool true, .int .i64 ((x10 : Nat) : Int), .bool false, .bool false, .int .i64 ((x10 : Nat) : Int), .bool true, .bool true, .bool true, undef, undef] qq undef else List.getD [.bool true, .bool true, .int .i64 ((x9 : Nat) : Int), .int .i64 (((x9 + 1) : Nat) : Int)] (qq - 24) undef), rfl, (by first | omega | (simp; omega) | (simp at *; omega)), (hi19.trans (show vrules_m_b0 a b (vrules_m_l0 a b k18) x9 x10 x11 x12 x13 x14 x15 x16 = vrules_m_l0 a b k18 ((x9 + 1), (x10 + 1), x11, (holds_m (Rul.mk ([]) ((x10 : Nat) : Int) b) a), x13, x14, x15, x16) from by unfold vrules_m_b0; rw [if_pos hc36, if_neg hx41, if_pos hx49, if_pos hs53, if_neg hs54, if_pos hs55] <;> rfl)), (by first | omega | (simp; done) | (simp; omega) | (simp at *; omega)), rfl, hm51⟩ ?_)
        omega
      simp only [nz1, nz2, nz3]
      refine lvw 28 (.bool false) rfl rfl (run_pickf rfl rfl rfl) ?_
      simp only [nz1, nz2, nz3]
      refine lvw 29 (.bool false) rfl rfl (run_mv rfl rfl) ?_
      simp only [nz1, nz2, nz3]
      refine lvw 30 (.int .i64 ((x10 : Nat) : Int)) rfl rfl (run_mv rfl rfl) ?_
      simp only [nz1, nz2, nz3]
      refine lvw 31 (.bool (decide (x10 = 4))) rfl rfl (r_eql x10 4 rfl rfl rfl) ?_
      simp only [nz1, nz2, nz3]
      refine lvw 32 (.bool (decide (x10 = 4))) rfl rfl (run_pickf rfl rfl rfl) ?_
      simp only [nz1, nz2, nz3]
      refine lvw 33 (.bool (decide (x10 = 4))) rfl rfl (run_pick rfl rfl rfl) ?_
      simp only [nz1, nz2, nz3]
      refine wpList_nil ?_
      refine then_n (hK52 _ _ ?_)
      refine cond_d (x10 = 4) rfl (fun hc56 => ?_) (fun hc56 => ?_)
      rotate_left
      · refine wp_skip ?_
        refine blk_n ?_
        refine then_n (hK37 _ _ ?_)
        refine wp_region_lit ?_
        refine lvw 10 (.int .i64 ((x10 : Nat) : Int)) rfl rfl (run_mv rfl rfl) ?_
        simp only [nz1, nz2, nz3]
        refine lvw 11 (.int .i64 (((x10 + 1) : Nat) : Int)) rfl rfl (r_add x10 1 (show (x10 + 1) < 9223372036854775808 from by omega) rfl rfl rfl) ?_
        simp only [nz1, nz2, nz3]
        refine lvw 7 (.int .i64 (((x10 + 1) : Nat) : Int)) rfl rfl (run_as rfl rfl) ?_
        simp only [nz1, nz2, nz3]
        refine wpList_nil ?_
        refine then_n (hR31 _ _ _ ⟨k18, x9, (x10 + 1), x11, (holds_m (Rul.mk ([]) ((x10 : Nat) : Int) b) a), x13, x14, x15, x16, (fun qq => bif Nat.blt qq 24 then List.getD [.int .i64 ((x10 : Nat) : Int), .bool (decide (x10 ≤ 5)), .int .i64 ((x10 : Nat) : Int), .int .i64 (((x10 + 1) : Nat) : Int), .int .i64 ((x10 : Nat) : Int), .int .i64 ((x10 : Nat) : Int), .string (tx b), .agg #[.string (tx ([])), .int .i64 ((x10 : Nat) : Int), .string (tx b)], .string (tx a), .bool ((holds_m (Rul.mk ([]) ((x10 : Nat) : Int) b) a)), .pointer (some ⟨g6, 1, none⟩), .int .i64 ((x10 : Nat) : Int), .pointer (some ⟨g6, 1, none⟩), .bool true, .bool true, .int .i64 ((x10 : Nat) : Int), .bool false, .bool false, .int .i64 ((x10 : Nat) : Int), .bool false, .bool false, .bool false, .int .i64 ((x10 : Nat) : Int), .bool (decide (x10 = 4))] qq undef else List.getD [.bool (decide (x10 = 4)), .bool (decide (x10 = 4)), u0 26, u0 27] (qq - 24) undef), rfl, (by first | omega | (simp; omega) | (simp at *; omega)), (hi19.trans (show vrules_m_b0 a b (vrules_m_l0 a b k18) x9 x10 x11 x12 x13 x14 x15 x16 = vrules_m_l0 a b k18 (x9, (x10 + 1), x11, (holds_m (Rul.mk ([]) ((x10 : Nat) : Int) b) a), x13, x14, x15, x16) from by unfold vrules_m_b0; rw [if_pos hc36, if_neg hx41, if_pos hx49, if_pos hs53, if_neg hs54, if_neg hs55, if_neg hc56] <;> rfl)), (by first | omega | (simp; done) | (simp; omega) | (simp at *; omega)), rfl, hm51⟩ ?_)
        omega
      refine wp_region_lit ?_
      refine lvw 34 (.int .i64 ((x9 : Nat) : Int)) rfl rfl (run_mv rfl rfl) ?_
      simp only [nz1, nz2, nz3]
      refine lvw 35 (.int .i64 (((x9 + 1) : Nat) : Int)) rfl rfl (r_add x9 1 (show (x9 + 1) < 9223372036854775808 from by omega) rfl rfl rfl) ?_
      simp only [nz1, nz2, nz3]
      refine lvw 5 (.int .i64 (((x9 + 1) : Nat) : Int)) rfl rfl (run_as rfl rfl) ?_
      simp only [nz1, nz2, nz3]
      refine wpList_nil ?_
      refine blk_n ?_
      refine then_n (hK37 _ _ ?_)
      refine wp_region_lit ?_
      refine lvw 10 (.int .i64 ((x10 : Nat) : Int)) rfl rfl (run_mv rfl rfl) ?_
      simp only [nz1, nz2, nz3]
      refine lvw 11 (.int .i64 (((x10 + 1) : Nat) : Int)) rfl rfl (r_add x10 1 (show (x10 + 1) < 9223372036854775808 from by omega) rfl rfl rfl) ?_
      simp only [nz1, nz2, nz3]
      refine lvw 7 (.int .i64 (((x10 + 1) : Nat) : Int)) rfl rfl (run_as rfl rfl) ?_
      simp only [nz1, nz2, nz3]
      refine wpList_nil ?_
      refine then_n (hR31 _ _ _ ⟨k18, (x9 + 1), (x10 + 1), x11, (holds_m (Rul.mk ([]) ((x10 : Nat) : Int) b) a), x13, x14, x15, x16, (fun qq => bif Nat.blt qq 24 then List.getD [.int .i64 ((x10 : Nat) : Int), .bool (decide (x10 ≤ 5)), .int .i64 ((x10 : Nat) : Int), .int .i64 (((x10 + 1) : Nat) : Int), .int .i64 ((x10 : Nat) : Int), .int .i64 ((x10 : Nat) : Int), .string (tx b), .agg #[.string (tx ([])), .int .i64 ((x10 : Nat) : Int), .string (tx b)], .string (tx a), .bool ((holds_m (Rul.mk ([]) ((x10 : Nat) : Int) b) a)), .pointer (some ⟨g6, 1, none⟩), .int .i64 ((x10 : Nat) : Int), .pointer (some ⟨g6, 1, none⟩), .bool true, .bool true, .int .i64 ((x10 : Nat) : Int), .bool false, .bool false, .int .i64 ((x10 : Nat) : Int), .bool false, .bool false, .bool false, .int .i64 ((x10 : Nat) : Int), .bool (decide (x10 = 4))] qq undef else List.getD [.bool (decide (x10 = 4)), .bool (decide (x10 = 4)), .int .i64 ((x9 : Nat) : Int), .int .i64 (((x9 + 1) : Nat) : Int)] (qq - 24) undef), rfl, (by first | omega | (simp; omega) | (simp at *; omega)), (hi19.trans (show vrules_m_b0 a b (vrules_m_l0 a b k18) x9 x10 x11 x12 x13 x14 x15 x16 = vrules_m_l0 a b k18 ((x9 + 1), (x10 + 1), x11, (holds_m (Rul.mk ([]) ((x10 : Nat) : Int) b) a), x13, x14, x15, x16) from by unfold vrules_m_b0; rw [if_pos hc36, if_neg hx41, if_pos hx49, if_pos hs53, if_neg hs54, if_neg hs55, if_pos hc56] <;> rfl)), (by first | omega | (simp; done) | (simp; omega) | (simp at *; omega)), rfl, hm51⟩ ?_)
      omega
    by_cases hx57 : x10 = 2
    · refine lvw 18 (.pointer (some ⟨g6, 2, none⟩)) rfl rfl (Sx.r_ix g6 2 (by decide) Tryd.underlying41 sz_4 rfl rfl (show (Value.int .i64 ((x10 : Nat) : Int)) = .int .i64 (((2 : Nat)) : Int) from by congr 1; omega)) ?_
      simp only [nz1, nz2, nz3]
      refine lst rfl (m_store 0 4 _ _ 2 (.bool ((holds_m (Rul.mk ([]) ((x10 : Nat) : Int) b) a))) (old := #[.bool (x11), .bool (x12), .bool (x13), .bool (x14), .bool (x15), .bool (x16)]) (new := #[.bool (x11), .bool (x12), .bool ((holds_m (Rul.mk ([]) ((x10 : Nat) : Int) b) a)), .bool (x14), .bool (x15), .bool (x16)]) hm40 rfl rfl rfl rfl rfl (by exact sz_4) (show 2 + 1 ≤ 6 from by decide) (one_all rfl) rfl (fun w58 (hm59 : Mm none (fun _ => True) w w58 [.blk g6 #[.bool (x11), .bool (x12), .bool ((holds_m (Rul.mk ([]) ((x10 : Nat) : Int) b) a)), .bool (x14), .bool (x15), .bool (x16)] 41]) => ?_))
      refine wpList_nil ?_
      refine then_n (hK38 _ _ ?_)
      refine wp_seq_k (fun K60 hK60 => ?_)
      refine wp_region_lit ?_
      refine lvw 19 (.int .i64 ((x10 : Nat) : Int)) rfl rfl (run_mv rfl rfl) ?_
      simp only [nz1, nz2, nz3]
      refine lvw 20 (.pointer (some ⟨g6, 2, none⟩)) rfl rfl (Sx.r_ix g6 2 (by decide) Tryd.underlying41 sz_4 rfl rfl (show (Value.int .i64 ((x10 : Nat) : Int)) = .int .i64 (((2 : Nat)) : Int) from by congr 1; omega)) ?_
      simp only [nz1, nz2, nz3]
      refine lvB 21 (holds_m (Rul.mk ([]) ((x10 : Nat) : Int) b) a) rfl rfl (r_load (hm59.at 0 rfl) rfl Tryd.underlying4 rfl rfl rfl) (fun hs61 => ?_) (fun hs61 => ?_)
      rotate_left
      · simp only [nz1, nz2, nz3]
        refine lvw 22 (.bool false) rfl rfl (run_mv rfl rfl) ?_
        simp only [nz1, nz2, nz3]
        refine lst_skip 23 rfl rfl ?_
        simp only [nz1, nz2, nz3]
        refine lst_skip 24 rfl rfl ?_
        simp only [nz1, nz2, nz3]
        refine lst_skip 25 rfl rfl ?_
        simp only [nz1, nz2, nz3]
        refine lst_skip 26 rfl rfl ?_
        simp only [nz1, nz2, nz3]
        refine lst_skip 27 rfl rfl ?_
        simp only [nz1, nz2, nz3]
        refine lst_skip 28 rfl rfl ?_
        simp only [nz1, nz2, nz3]
        refine lst_skip 29 rfl rfl ?_
        simp only [nz1, nz2, nz3]
        refine lst_skip 30 rfl rfl ?_
        simp only [nz1, nz2, nz3]
        refine lst_skip 31 rfl rfl ?_
        simp only [nz1, nz2, nz3]
        refine lst_skip 32 rfl rfl ?_
        simp only [nz1, nz2, nz3]
        refine lvw 33 (.bool false) rfl rfl (run_pickf rfl rfl rfl) ?_
        simp only [nz1, nz2, nz3]
        refine wpList_nil ?_
        refine then_n (hK60 _ _ ?_)
        refine cond_f rfl ?_
        refine wp_skip ?_
        refine blk_n ?_
        refine then_n (hK37 _ _ ?_)
        refine wp_region_lit ?_
        refine lvw 10 (.int .i64 ((x10 : Nat) : Int)) rfl rfl (run_mv rfl rfl) ?_
        simp only [nz1, nz2, nz3]
        refine lvw 11 (.int .i64 (((x10 + 1) : Nat) : Int)) rfl rfl (r_add x10 1 (show (x10 + 1) < 9223372036854775808 from by omega) rfl rfl rfl) ?_
        simp only [nz1, nz2, nz3]
        refine lvw 7 (.int .i64 (((x10 + 1) : Nat) : Int)) rfl rfl (run_as rfl rfl) ?_
        simp only [nz1, nz2, nz3]
        refine wpList_nil ?_
        refine then_n (hR31 _ _ _ ⟨k18, x9, (x10 + 1), x11, x12, (holds_m (Rul.mk ([]) ((x10 : Nat) : Int) b) a), x14, x15, x16, (fun qq => bif Nat.blt qq 24 then List.getD [.int .i64 ((x10 : Nat) : Int), .bool (decide (x10 ≤ 5)), .int .i64 ((x10 : Nat) : Int), .int .i64 (((x10 + 1) : Nat) : Int), .int .i64 ((x10 : Nat) : Int), .int .i64 ((x10 : Nat) : Int), .string (tx b), .agg #[.string (tx ([])), .int .i64 ((x10 : Nat) : Int), .string (tx b)], .string (tx a), .bool ((holds_m (Rul.mk ([]) ((x10 : Nat) : Int) b) a)), .pointer (some ⟨g6, 2, none⟩), .int .i64 ((x10 : Nat) : Int), .pointer (some ⟨g6, 2, none⟩), .bool false, .bool false, undef, undef, undef, undef, undef, undef, undef, undef, undef] qq undef else List.getD [undef, .bool false, u0 26, u0 27] (qq - 24) undef), rfl, (by first | omega | (simp; omega) | (simp at *; omega)), (hi19.trans (show vrules_m_b0 a b (vrules_m_l0 a b k18) x9 x10 x11 x12 x13 x14 x15 x16 = vrules_m_l0 a b k18 (x9, (x10 + 1), x11, x12, (holds_m (Rul.mk ([]) ((x10 : Nat) : Int) b) a), x14, x15, x16) from by unfold vrules_m_b0; rw [if_pos hc36, if_neg hx41, if_neg hx49, if_pos hx57, if_neg hs61] <;> rfl)), (by first | omega | (simp; done) | (simp; omega) | (simp at *; omega)), rfl, hm59⟩ ?_)
        omega
      simp only [nz1, nz2, nz3]
      refine lvw 22 (.bool true) rfl rfl (run_mv rfl rfl) ?_
      simp only [nz1, nz2, nz3]
      refine lvw 23 (.int .i64 ((x10 : Nat) : Int)) rfl rfl (run_mv rfl rfl) ?_
      simp only [nz1, nz2, nz3]
      refine lvb 24 (x10 = 2) rfl rfl (r_eql x10 2 rfl rfl rfl) (fun hs62 => ?_) (fun hs62 => ?_)
      · simp only [nz1, nz2, nz3]
        refine lvw 25 (.bool true) rfl rfl (run_mv rfl rfl) ?_
        simp only [nz1, nz2, nz3]
        refine lst_skip 26 rfl rfl ?_
        simp only [nz1, nz2, nz3]
        refine lst_skip 27 rfl rfl ?_
        simp only [nz1, nz2, nz3]
        refine lvw 28 (.bool true) rfl rfl (run_pick rfl rfl rfl) ?_
        simp only [nz1, nz2, nz3]
        refine lvw 29 (.bool true) rfl rfl (run_mv rfl rfl) ?_
        simp only [nz1, nz2, nz3]
        refine lst_skip 30 rfl rfl ?_
        simp only [nz1, nz2, nz3]
        refine lst_skip 31 rfl rfl ?_
        simp only [nz1, nz2, nz3]
        refine lvw 32 (.bool true) rfl rfl (run_pick rfl rfl rfl) ?_
        simp only [nz1, nz2, nz3]
        refine lvw 33 (.bool true) rfl rfl (run_pick rfl rfl rfl) ?_
        simp only [nz1, nz2, nz3]
        refine wpList_nil ?_
        refine then_n (hK60 _ _ ?_)
        refine cond_t rfl ?_
        refine wp_region_lit ?_
        refine lvw 34 (.int .i64 ((x9 : Nat) : Int)) rfl rfl (run_mv rfl rfl) ?_
        simp only [nz1, nz2, nz3]
        refine lvw 35 (.int .i64 (((x9 + 1) : Nat) : Int)) rfl rfl (r_add x9 1 (show (x9 + 1) < 9223372036854775808 from by omega) rfl rfl rfl) ?_
        simp only [nz1, nz2, nz3]
        refine lvw 5 (.int .i64 (((x9 + 1) : Nat) : Int)) rfl rfl (run_as rfl rfl) ?_
        simp only [nz1, nz2, nz3]
        refine wpList_nil ?_
        refine blk_n ?_
        refine then_n (hK37 _ _ ?_)
        refine wp_region_lit ?_
        refine lvw 10 (.int .i64 ((x10 : Nat) : Int)) rfl rfl (run_mv rfl rfl) ?_
        simp only [nz1, nz2, nz3]
        refine lvw 11 (.int .i64 (((x10 + 1) : Nat) : Int)) rfl rfl (r_add x10 1 (show (x10 + 1) < 9223372036854775808 from by omega) rfl rfl rfl) ?_
        simp only [nz1, nz2, nz3]
        refine lvw 7 (.int .i64 (((x10 + 1) : Nat) : Int)) rfl rfl (run_as rfl rfl) ?_
        simp only [nz1, nz2, nz3]
        refine wpList_nil ?_
        refine then_n (hR31 _ _ _ ⟨k18, (x9 + 1), (x10 + 1), x11, x12, (holds_m (Rul.mk ([]) ((x10 : Nat) : Int) b) a), x14, x15, x16, (fun qq => bif Nat.blt qq 24 then List.getD [.int .i64 ((x10 : Nat) : Int), .bool (decide (x10 ≤ 5)), .int .i64 ((x10 : Nat) : Int), .int .i64 (((x10 + 1) : Nat) : Int), .int .i64 ((x10 : Nat) : Int), .int .i64 ((x10 : Nat) : Int), .string (tx b), .agg #[.string (tx ([])), .int .i64 ((x10 : Nat) : Int), .string (tx b)], .string (tx a), .bool ((holds_m (Rul.mk ([]) ((x10 : Nat) : Int) b) a)), .pointer (some ⟨g6, 2, none⟩), .int .i64 ((x10 : Nat) : Int), .pointer (some ⟨g6, 2, none⟩), .bool true, .bool true, .int .i64 ((x10 : Nat) : Int), .bool true, .bool true, undef, undef, .bool true, .bool true, undef, undef] qq undef else List.getD [.bool true, .bool true, .int .i64 ((x9 : Nat) : Int), .int .i64 (((x9 + 1) : Nat) : Int)] (qq - 24) undef), rfl, (by first | omega | (simp; omega) | (simp at *; omega)), (hi19.trans (show vrules_m_b0 a b (vrules_m_l0 a b k18) x9 x10 x11 x12 x13 x14 x15 x16 = vrules_m_l0 a b k18 ((x9 + 1), (x10 + 1), x11, x12, (holds_m (Rul.mk ([]) ((x10 : Nat) : Int) b) a), x14, x15, x16) from by unfold vrules_m_b0; rw [if_pos hc36, if_neg hx41, if_neg hx49, if_pos hx57, if_pos hs61, if_pos hs62] <;> rfl)), (by first | omega | (simp; done) | (simp; omega) | (simp at *; omega)), rfl, hm59⟩ ?_)
        omega
      simp only [nz1, nz2, nz3]
      refine lvw 25 (.bool false) rfl rfl (run_mv rfl rfl) ?_
      simp only [nz1, nz2, nz3]
      refine lvw 26 (.int .i64 ((x10 : Nat) : Int)) rfl rfl (run_mv rfl rfl) ?_
      simp only [nz1, nz2, nz3]
      refine lvb 27 (x10 = 1) rfl rfl (r_eql x10 1 rfl rfl rfl) (fun hs63 => ?_) (fun hs63 => ?_)
      · simp only [nz1, nz2, nz3]
        refine lvw 28 (.bool true) rfl rfl (run_pickf rfl rfl rfl) ?_
        simp only [nz1, nz2, nz3]
        refine lvw 29 (.bool true) rfl rfl (run_mv rfl rfl) ?_
        simp only [nz1, nz2, nz3]
        refine lst_skip 30 rfl rfl ?_
        simp only [nz1, nz2, nz3]
        refine lst_skip 31 rfl rfl ?_
        simp only [nz1, nz2, nz3]
        refine lvw 32 (.bool true) rfl rfl (run_pick rfl rfl rfl) ?_
        simp only [nz1, nz2, nz3]
        refine lvw 33 (.bool true) rfl rfl (run_pick rfl rfl rfl) ?_
        simp only [nz1, nz2, nz3]
        refine wpList_nil ?_
        refine then_n (hK60 _ _ ?_)
        refine cond_t rfl ?_
        refine wp_region_lit ?_
        refine lvw 34 (.int .i64 ((x9 : Nat) : Int)) rfl rfl (run_mv rfl rfl) ?_
        simp only [nz1, nz2, nz3]
        refine lvw 35 (.int .i64 (((x9 + 1) : Nat) : Int)) rfl rfl (r_add x9 1 (show (x9 + 1) < 9223372036854775808 from by omega) rfl rfl rfl) ?_
        simp only [nz1, nz2, nz3]
        refine lvw 5 (.int .i64 (((x9 + 1) : Nat) : Int)) rfl rfl (run_as rfl rfl) ?_
        simp only [nz1, nz2, nz3]
        refine wpList_nil ?_
        refine blk_n ?_
        refine then_n (hK37 _ _ ?_)
        refine wp_region_lit ?_
        refine lvw 10 (.int .i64 ((x10 : Nat) : Int)) rfl rfl (run_mv rfl rfl) ?_
        simp only [nz1, nz2, nz3]
        refine lvw 11 (.int .i64 (((x10 + 1) : Nat) : Int)) rfl rfl (r_add x10 1 (show (x10 + 1) < 9223372036854775808 from by omega) rfl rfl rfl) ?_
        simp only [nz1, nz2, nz3]
        refine lvw 7 (.int .i64 (((x10 + 1) : Nat) : Int)) rfl rfl (run_as rfl rfl) ?_
        simp only [nz1, nz2, nz3]
        refine wpList_nil ?_
        refine then_n (hR31 _ _ _ ⟨k18, (x9 + 1), (x10 + 1), x11, x12, (holds_m (Rul.mk ([]) ((x10 : Nat) : Int) b) a), x14, x15, x16, (fun qq => bif Nat.blt qq 24 then List.getD [.int .i64 ((x10 : Nat) : Int), .bool (decide (x10 ≤ 5)), .int .i64 ((x10 : Nat) : Int), .int .i64 (((x10 + 1) : Nat) : Int), .int .i64 ((x10 : Nat) : Int), .int .i64 ((x10 : Nat) : Int), .string (tx b), .agg #[.string (tx ([])), .int .i64 ((x10 : Nat) : Int), .string (tx b)], .string (tx a), .bool ((holds_m (Rul.mk ([]) ((x10 : Nat) : Int) b) a)), .pointer (some ⟨g6, 2, none⟩), .int .i64 ((x10 : Nat) : Int), .pointer (some ⟨g6, 2, none⟩), .bool true, .bool true, .int .i64 ((x10 : Nat) : Int), .bool false, .bool false, .int .i64 ((x10 : Nat) : Int), .bool true, .bool true, .bool true, undef, undef] qq undef else List.getD [.bool true, .bool true, .int .i64 ((x9 : Nat) : Int), .int .i64 (((x9 + 1) : Nat) : Int)] (qq - 24) undef), rfl, (by first | omega | (simp; omega) | (simp at *; omega)), (hi19.trans (show vrules_m_b0 a b (vrules_m_l0 a b k18) x9 x10 x11 x12 x13 x14 x15 x16 = vrules_m_l0 a b k18 ((x9 + 1), (x10 + 1), x11, x12, (holds_m (Rul.mk ([]) ((x10 : Nat) : Int) b) a), x14, x15, x16) from by unfold vrules_m_b0; rw [if_pos hc36, if_neg hx41, if_neg hx49, if_pos hx57, if_pos hs61, if_neg hs62, if_pos hs63] <;> rfl)), (by first | omega | (simp; done) | (simp; omega) | (simp at *; omega)), rfl, hm59⟩ ?_)
        omega
      simp only [nz1, nz2, nz3]
      refine lvw 28 (.bool false) rfl rfl (run_pickf rfl rfl rfl) ?_
      simp only [nz1, nz2, nz3]
      refine lvw 29 (.bool false) rfl rfl (run_mv rfl rfl) ?_
      simp only [nz1, nz2, nz3]
      refine lvw 30 (.int .i64 ((x10 : Nat) : Int)) rfl rfl (run_mv rfl rfl) ?_
      simp only [nz1, nz2, nz3]
      refine lvw 31 (.bool (decide (x10 = 4))) rfl rfl (r_eql x10 4 rfl rfl rfl) ?_
      simp only [nz1, nz2, nz3]
      refine lvw 32 (.bool (decide (x10 = 4))) rfl rfl (run_pickf rfl rfl rfl) ?_
      simp only [nz1, nz2, nz3]
      refine lvw 33 (.bool (decide (x10 = 4))) rfl rfl (run_pick rfl rfl rfl) ?_
      simp only [nz1, nz2, nz3]
      refine wpList_nil ?_
      refine then_n (hK60 _ _ ?_)
      refine cond_d (x10 = 4) rfl (fun hc64 => ?_) (fun hc64 => ?_)
      rotate_left
      · refine wp_skip ?_
        refine blk_n ?_
        refine then_n (hK37 _ _ ?_)
        refine wp_region_lit ?_
        refine lvw 10 (.int .i64 ((x10 : Nat) : Int)) rfl rfl (run_mv rfl rfl) ?_
        simp only [nz1, nz2, nz3]
        refine lvw 11 (.int .i64 (((x10 + 1) : Nat) : Int)) rfl rfl (r_add x10 1 (show (x10 + 1) < 9223372036854775808 from by omega) rfl rfl rfl) ?_
        simp only [nz1, nz2, nz3]
        refine lvw 7 (.int .i64 (((x10 + 1) : Nat) : Int)) rfl rfl (run_as rfl rfl) ?_
        simp only [nz1, nz2, nz3]
        refine wpList_nil ?_
        refine then_n (hR31 _ _ _ ⟨k18, x9, (x10 + 1), x11, x12, (holds_m (Rul.mk ([]) ((x10 : Nat) : Int) b) a), x14, x15, x16, (fun qq => bif Nat.blt qq 24 then List.getD [.int .i64 ((x10 : Nat) : Int), .bool (decide (x10 ≤ 5)), .int .i64 ((x10 : Nat) : Int), .int .i64 (((x10 + 1) : Nat) : Int), .int .i64 ((x10 : Nat) : Int), .int .i64 ((x10 : Nat) : Int), .string (tx b), .agg #[.string (tx ([])), .int .i64 ((x10 : Nat) : Int), .string (tx b)], .string (tx a), .bool ((holds_m (Rul.mk ([]) ((x10 : Nat) : Int) b) a)), .pointer (some ⟨g6, 2, none⟩), .int .i64 ((x10 : Nat) : Int), .pointer (some ⟨g6, 2, none⟩), .bool true, .bool true, .int .i64 ((x10 : Nat) : Int), .bool false, .bool false, .int .i64 ((x10 : Nat) : Int), .bool false, .bool false, .bool false, .int .i64 ((x10 : Nat) : Int), .bool (decide (x10 = 4))] qq undef else List.getD [.bool (decide (x10 = 4)), .bool (decide (x10 = 4)), u0 26, u0 27] (qq - 24) undef), rfl, (by first | omega | (simp; omega) | (simp at *; omega)), (hi19.trans (show vrules_m_b0 a b (vrules_m_l0 a b k18) x9 x10 x11 x12 x13 x14 x15 x16 = vrules_m_l0 a b k18 (x9, (x10 + 1), x11, x12, (holds_m (Rul.mk ([]) ((x10 : Nat) : Int) b) a), x14, x15, x16) from by unfold vrules_m_b0; rw [if_pos hc36, if_neg hx41, if_neg hx49, if_pos hx57, if_pos hs61, if_neg hs62, if_neg hs63, if_neg hc64] <;> rfl)), (by first | omega | (simp; done) | (simp; omega) | (simp at *; omega)), rfl, hm59⟩ ?_)
        omega
      refine wp_region_lit ?_
      refine lvw 34 (.int .i64 ((x9 : Nat) : Int)) rfl rfl (run_mv rfl rfl) ?_
      simp only [nz1, nz2, nz3]
      refine lvw 35 (.int .i64 (((x9 + 1) : Nat) : Int)) rfl rfl (r_add x9 1 (show (x9 + 1) < 9223372036854775808 from by omega) rfl rfl rfl) ?_
      simp only [nz1, nz2, nz3]
      refine lvw 5 (.int .i64 (((x9 + 1) : Nat) : Int)) rfl rfl (run_as rfl rfl) ?_
      simp only [nz1, nz2, nz3]
      refine wpList_nil ?_
      refine blk_n ?_
      refine then_n (hK37 _ _ ?_)
      refine wp_region_lit ?_
      refine lvw 10 (.int .i64 ((x10 : Nat) : Int)) rfl rfl (run_mv rfl rfl) ?_
      simp only [nz1, nz2, nz3]
      refine lvw 11 (.int .i64 (((x10 + 1) : Nat) : Int)) rfl rfl (r_add x10 1 (show (x10 + 1) < 9223372036854775808 from by omega) rfl rfl rfl) ?_
      simp only [nz1, nz2, nz3]
      refine lvw 7 (.int .i64 (((x10 + 1) : Nat) : Int)) rfl rfl (run_as rfl rfl) ?_
      simp only [nz1, nz2, nz3]
      refine wpList_nil ?_
      refine then_n (hR31 _ _ _ ⟨k18, (x9 + 1), (x10 + 1), x11, x12, (holds_m (Rul.mk ([]) ((x10 : Nat) : Int) b) a), x14, x15, x16, (fun qq => bif Nat.blt qq 24 then List.getD [.int .i64 ((x10 : Nat) : Int), .bool (decide (x10 ≤ 5)), .int .i64 ((x10 : Nat) : Int), .int .i64 (((x10 + 1) : Nat) : Int), .int .i64 ((x10 : Nat) : Int), .int .i64 ((x10 : Nat) : Int), .string (tx b), .agg #[.string (tx ([])), .int .i64 ((x10 : Nat) : Int), .string (tx b)], .string (tx a), .bool ((holds_m (Rul.mk ([]) ((x10 : Nat) : Int) b) a)), .pointer (some ⟨g6, 2, none⟩), .int .i64 ((x10 : Nat) : Int), .pointer (some ⟨g6, 2, none⟩), .bool true, .bool true, .int .i64 ((x10 : Nat) : Int), .bool false, .bool false, .int .i64 ((x10 : Nat) : Int), .bool false, .bool false, .bool false, .int .i64 ((x10 : Nat) : Int), .bool (decide (x10 = 4))] qq undef else List.getD [.bool (decide (x10 = 4)), .bool (decide (x10 = 4)), .int .i64 ((x9 : Nat) : Int), .int .i64 (((x9 + 1) : Nat) : Int)] (qq - 24) undef), rfl, (by first | omega | (simp; omega) | (simp at *; omega)), (hi19.trans (show vrules_m_b0 a b (vrules_m_l0 a b k18) x9 x10 x11 x12 x13 x14 x15 x16 = vrules_m_l0 a b k18 ((x9 + 1), (x10 + 1), x11, x12, (holds_m (Rul.mk ([]) ((x10 : Nat) : Int) b) a), x14, x15, x16) from by unfold vrules_m_b0; rw [if_pos hc36, if_neg hx41, if_neg hx49, if_pos hx57, if_pos hs61, if_neg hs62, if_neg hs63, if_pos hc64] <;> rfl)), (by first | omega | (simp; done) | (simp; omega) | (simp at *; omega)), rfl, hm59⟩ ?_)
      omega
    by_cases hx65 : x10 = 3
    · refine lvw 18 (.pointer (some ⟨g6, 3, none⟩)) rfl rfl (Sx.r_ix g6 3 (by decide) Tryd.underlying41 sz_4 rfl rfl (show (Value.int .i64 ((x10 : Nat) : Int)) = .int .i64 (((3 : Nat)) : Int) from by congr 1; omega)) ?_
      simp only [nz1, nz2, nz3]
      refine lst rfl (m_store 0 4 _ _ 3 (.bool ((holds_m (Rul.mk ([]) ((x10 : Nat) : Int) b) a))) (old := #[.bool (x11), .bool (x12), .bool (x13), .bool (x14), .bool (x15), .bool (x16)]) (new := #[.bool (x11), .bool (x12), .bool (x13), .bool ((holds_m (Rul.mk ([]) ((x10 : Nat) : Int) b) a)), .bool (x15), .bool (x16)]) hm40 rfl rfl rfl rfl rfl (by exact sz_4) (show 3 + 1 ≤ 6 from by decide) (one_all rfl) rfl (fun w66 (hm67 : Mm none (fun _ => True) w w66 [.blk g6 #[.bool (x11), .bool (x12), .bool (x13), .bool ((holds_m (Rul.mk ([]) ((x10 : Nat) : Int) b) a)), .bool (x15), .bool (x16)] 41]) => ?_))
      refine wpList_nil ?_
      refine then_n (hK38 _ _ ?_)
      refine wp_seq_k (fun K68 hK68 => ?_)
      refine wp_region_lit ?_
      refine lvw 19 (.int .i64 ((x10 : Nat) : Int)) rfl rfl (run_mv rfl rfl) ?_
      simp only [nz1, nz2, nz3]
      refine lvw 20 (.pointer (some ⟨g6, 3, none⟩)) rfl rfl (Sx.r_ix g6 3 (by decide) Tryd.underlying41 sz_4 rfl rfl (show (Value.int .i64 ((x10 : Nat) : Int)) = .int .i64 (((3 : Nat)) : Int) from by congr 1; omega)) ?_
      simp only [nz1, nz2, nz3]
      refine lvB 21 (holds_m (Rul.mk ([]) ((x10 : Nat) : Int) b) a) rfl rfl (r_load (hm67.at 0 rfl) rfl Tryd.underlying4 rfl rfl rfl) (fun hs69 => ?_) (fun hs69 => ?_)
      rotate_left
      · simp only [nz1, nz2, nz3]
        refine lvw 22 (.bool false) rfl rfl (run_mv rfl rfl) ?_
        simp only [nz1, nz2, nz3]
        refine lst_skip 23 rfl rfl ?_
        simp only [nz1, nz2, nz3]
        refine lst_skip 24 rfl rfl ?_
        simp only [nz1, nz2, nz3]
        refine lst_skip 25 rfl rfl ?_
        simp only [nz1, nz2, nz3]
        refine lst_skip 26 rfl rfl ?_
        simp only [nz1, nz2, nz3]
        refine lst_skip 27 rfl rfl ?_
        simp only [nz1, nz2, nz3]
        refine lst_skip 28 rfl rfl ?_
        simp only [nz1, nz2, nz3]
        refine lst_skip 29 rfl rfl ?_
        simp only [nz1, nz2, nz3]
        refine lst_skip 30 rfl rfl ?_
        simp only [nz1, nz2, nz3]
        refine lst_skip 31 rfl rfl ?_
        simp only [nz1, nz2, nz3]
        refine lst_skip 32 rfl rfl ?_
        simp only [nz1, nz2, nz3]
        refine lvw 33 (.bool false) rfl rfl (run_pickf rfl rfl rfl) ?_
        simp only [nz1, nz2, nz3]
        refine wpList_nil ?_
        refine then_n (hK68 _ _ ?_)
        refine cond_f rfl ?_
        refine wp_skip ?_
        refine blk_n ?_
        refine then_n (hK37 _ _ ?_)
        refine wp_region_lit ?_
        refine lvw 10 (.int .i64 ((x10 : Nat) : Int)) rfl rfl (run_mv rfl rfl) ?_
        simp only [nz1, nz2, nz3]
        refine lvw 11 (.int .i64 (((x10 + 1) : Nat) : Int)) rfl rfl (r_add x10 1 (show (x10 + 1) < 9223372036854775808 from by omega) rfl rfl rfl) ?_
        simp only [nz1, nz2, nz3]
        refine lvw 7 (.int .i64 (((x10 + 1) : Nat) : Int)) rfl rfl (run_as rfl rfl) ?_
        simp only [nz1, nz2, nz3]
        refine wpList_nil ?_
        refine then_n (hR31 _ _ _ ⟨k18, x9, (x10 + 1), x11, x12, x13, (holds_m (Rul.mk ([]) ((x10 : Nat) : Int) b) a), x15, x16, (fun qq => bif Nat.blt qq 24 then List.getD [.int .i64 ((x10 : Nat) : Int), .bool (decide (x10 ≤ 5)), .int .i64 ((x10 : Nat) : Int), .int .i64 (((x10 + 1) : Nat) : Int), .int .i64 ((x10 : Nat) : Int), .int .i64 ((x10 : Nat) : Int), .string (tx b), .agg #[.string (tx ([])), .int .i64 ((x10 : Nat) : Int), .string (tx b)], .string (tx a), .bool ((holds_m (Rul.mk ([]) ((x10 : Nat) : Int) b) a)), .pointer (some ⟨g6, 3, none⟩), .int .i64 ((x10 : Nat) : Int), .pointer (some ⟨g6, 3, none⟩), .bool false, .bool false, undef, undef, undef, undef, undef, undef, undef, undef, undef] qq undef else List.getD [undef, .bool false, u0 26, u0 27] (qq - 24) undef), rfl, (by first | omega | (simp; omega) | (simp at *; omega)), (hi19.trans (show vrules_m_b0 a b (vrules_m_l0 a b k18) x9 x10 x11 x12 x13 x14 x15 x16 = vrules_m_l0 a b k18 (x9, (x10 + 1), x11, x12, x13, (holds_m (Rul.mk ([]) ((x10 : Nat) : Int) b) a), x15, x16) from by unfold vrules_m_b0; rw [if_pos hc36, if_neg hx41, if_neg hx49, if_neg hx57, if_pos hx65, if_neg hs69] <;> rfl)), (by first | omega | (simp; done) | (simp; omega) | (simp at *; omega)), rfl, hm67⟩ ?_)
        omega
      simp only [nz1, nz2, nz3]
      refine lvw 22 (.bool true) rfl rfl (run_mv rfl rfl) ?_
      simp only [nz1, nz2, nz3]
      refine lvw 23 (.int .i64 ((x10 : Nat) : Int)) rfl rfl (run_mv rfl rfl) ?_
      simp only [nz1, nz2, nz3]
      refine lvb 24 (x10 = 2) rfl rfl (r_eql x10 2 rfl rfl rfl) (fun hs70 => ?_) (fun hs70 => ?_)
      · simp only [nz1, nz2, nz3]
        refine lvw 25 (.bool true) rfl rfl (run_mv rfl rfl) ?_
        simp only [nz1, nz2, nz3]
        refine lst_skip 26 rfl rfl ?_
        simp only [nz1, nz2, nz3]
        refine lst_skip 27 rfl rfl ?_
        simp only [nz1, nz2, nz3]
        refine lvw 28 (.bool true) rfl rfl (run_pick rfl rfl rfl) ?_
        simp only [nz1, nz2, nz3]
        refine lvw 29 (.bool true) rfl rfl (run_mv rfl rfl) ?_
        simp only [nz1, nz2, nz3]
        refine lst_skip 30 rfl rfl ?_
        simp only [nz1, nz2, nz3]
        refine lst_skip 31 rfl rfl ?_
        simp only [nz1, nz2, nz3]
        refine lvw 32 (.bool true) rfl rfl (run_pick rfl rfl rfl) ?_
        simp only [nz1, nz2, nz3]
        refine lvw 33 (.bool true) rfl rfl (run_pick rfl rfl rfl) ?_
        simp only [nz1, nz2, nz3]
        refine wpList_nil ?_
        refine then_n (hK68 _ _ ?_)
        refine cond_t rfl ?_
        refine wp_region_lit ?_
        refine lvw 34 (.int .i64 ((x9 : Nat) : Int)) rfl rfl (run_mv rfl rfl) ?_
        simp only [nz1, nz2, nz3]
        refine lvw 35 (.int .i64 (((x9 + 1) : Nat) : Int)) rfl rfl (r_add x9 1 (show (x9 + 1) < 9223372036854775808 from by omega) rfl rfl rfl) ?_
        simp only [nz1, nz2, nz3]
        refine lvw 5 (.int .i64 (((x9 + 1) : Nat) : Int)) rfl rfl (run_as rfl rfl) ?_
        simp only [nz1, nz2, nz3]
        refine wpList_nil ?_
        refine blk_n ?_
        refine then_n (hK37 _ _ ?_)
        refine wp_region_lit ?_
        refine lvw 10 (.int .i64 ((x10 : Nat) : Int)) rfl rfl (run_mv rfl rfl) ?_
        simp only [nz1, nz2, nz3]
        refine lvw 11 (.int .i64 (((x10 + 1) : Nat) : Int)) rfl rfl (r_add x10 1 (show (x10 + 1) < 9223372036854775808 from by omega) rfl rfl rfl) ?_
        simp only [nz1, nz2, nz3]
        refine lvw 7 (.int .i64 (((x10 + 1) : Nat) : Int)) rfl rfl (run_as rfl rfl) ?_
        simp only [nz1, nz2, nz3]
        refine wpList_nil ?_
        refine then_n (hR31 _ _ _ ⟨k18, (x9 + 1), (x10 + 1), x11, x12, x13, (holds_m (Rul.mk ([]) ((x10 : Nat) : Int) b) a), x15, x16, (fun qq => bif Nat.blt qq 24 then List.getD [.int .i64 ((x10 : Nat) : Int), .bool (decide (x10 ≤ 5)), .int .i64 ((x10 : Nat) : Int), .int .i64 (((x10 + 1) : Nat) : Int), .int .i64 ((x10 : Nat) : Int), .int .i64 ((x10 : Nat) : Int), .string (tx b), .agg #[.string (tx ([])), .int .i64 ((x10 : Nat) : Int), .string (tx b)], .string (tx a), .bool ((holds_m (Rul.mk ([]) ((x10 : Nat) : Int) b) a)), .pointer (some ⟨g6, 3, none⟩), .int .i64 ((x10 : Nat) : Int), .pointer (some ⟨g6, 3, none⟩), .bool true, .bool true, .int .i64 ((x10 : Nat) : Int), .bool true, .bool true, undef, undef, .bool true, .bool true, undef, undef] qq undef else List.getD [.bool true, .bool true, .int .i64 ((x9 : Nat) : Int), .int .i64 (((x9 + 1) : Nat) : Int)] (qq - 24) undef), rfl, (by first | omega | (simp; omega) | (simp at *; omega)), (hi19.trans (show vrules_m_b0 a b (vrules_m_l0 a b k18) x9 x10 x11 x12 x13 x14 x15 x16 = vrules_m_l0 a b k18 ((x9 + 1), (x10 + 1), x11, x12, x13, (holds_m (Rul.mk ([]) ((x10 : Nat) : Int) b) a), x15, x16) from by unfold vrules_m_b0; rw [if_pos hc36, if_neg hx41, if_neg hx49, if_neg hx57, if_pos hx65, if_pos hs69, if_pos hs70] <;> rfl)), (by first | omega | (simp; done) | (simp; omega) | (simp at *; omega)), rfl, hm67⟩ ?_)
        omega
      simp only [nz1, nz2, nz3]
      refine lvw 25 (.bool false) rfl rfl (run_mv rfl rfl) ?_
      simp only [nz1, nz2, nz3]
      refine lvw 26 (.int .i64 ((x10 : Nat) : Int)) rfl rfl (run_mv rfl rfl) ?_
      simp only [nz1, nz2, nz3]
      refine lvb 27 (x10 = 1) rfl rfl (r_eql x10 1 rfl rfl rfl) (fun hs71 => ?_) (fun hs71 => ?_)
      · simp only [nz1, nz2, nz3]
        refine lvw 28 (.bool true) rfl rfl (run_pickf rfl rfl rfl) ?_
        simp only [nz1, nz2, nz3]
        refine lvw 29 (.bool true) rfl rfl (run_mv rfl rfl) ?_
        simp only [nz1, nz2, nz3]
        refine lst_skip 30 rfl rfl ?_
        simp only [nz1, nz2, nz3]
        refine lst_skip 31 rfl rfl ?_
        simp only [nz1, nz2, nz3]
        refine lvw 32 (.bool true) rfl rfl (run_pick rfl rfl rfl) ?_
        simp only [nz1, nz2, nz3]
        refine lvw 33 (.bool true) rfl rfl (run_pick rfl rfl rfl) ?_
        simp only [nz1, nz2, nz3]
        refine wpList_nil ?_
        refine then_n (hK68 _ _ ?_)
        refine cond_t rfl ?_
        refine wp_region_lit ?_
        refine lvw 34 (.int .i64 ((x9 : Nat) : Int)) rfl rfl (run_mv rfl rfl) ?_
        simp only [nz1, nz2, nz3]
        refine lvw 35 (.int .i64 (((x9 + 1) : Nat) : Int)) rfl rfl (r_add x9 1 (show (x9 + 1) < 9223372036854775808 from by omega) rfl rfl rfl) ?_
        simp only [nz1, nz2, nz3]
        refine lvw 5 (.int .i64 (((x9 + 1) : Nat) : Int)) rfl rfl (run_as rfl rfl) ?_
        simp only [nz1, nz2, nz3]
        refine wpList_nil ?_
        refine blk_n ?_
        refine then_n (hK37 _ _ ?_)
        refine wp_region_lit ?_
        refine lvw 10 (.int .i64 ((x10 : Nat) : Int)) rfl rfl (run_mv rfl rfl) ?_
        simp only [nz1, nz2, nz3]
        refine lvw 11 (.int .i64 (((x10 + 1) : Nat) : Int)) rfl rfl (r_add x10 1 (show (x10 + 1) < 9223372036854775808 from by omega) rfl rfl rfl) ?_
        simp only [nz1, nz2, nz3]
        refine lvw 7 (.int .i64 (((x10 + 1) : Nat) : Int)) rfl rfl (run_as rfl rfl) ?_
        simp only [nz1, nz2, nz3]
        refine wpList_nil ?_
        refine then_n (hR31 _ _ _ ⟨k18, (x9 + 1), (x10 + 1), x11, x12, x13, (holds_m (Rul.mk ([]) ((x10 : Nat) : Int) b) a), x15, x16, (fun qq => bif Nat.blt qq 24 then List.getD [.int .i64 ((x10 : Nat) : Int), .bool (decide (x10 ≤ 5)), .int .i64 ((x10 : Nat) : Int), .int .i64 (((x10 + 1) : Nat) : Int), .int .i64 ((x10 : Nat) : Int), .int .i64 ((x10 : Nat) : Int), .string (tx b), .agg #[.string (tx ([])), .int .i64 ((x10 : Nat) : Int), .string (tx b)], .string (tx a), .bool ((holds_m (Rul.mk ([]) ((x10 : Nat) : Int) b) a)), .pointer (some ⟨g6, 3, none⟩), .int .i64 ((x10 : Nat) : Int), .pointer (some ⟨g6, 3, none⟩), .bool true, .bool true, .int .i64 ((x10 : Nat) : Int), .bool false, .bool false, .int .i64 ((x10 : Nat) : Int), .bool true, .bool true, .bool true, undef, undef] qq undef else List.getD [.bool true, .bool true, .int .i64 ((x9 : Nat) : Int), .int .i64 (((x9 + 1) : Nat) : Int)] (qq - 24) undef), rfl, (by first | omega | (simp; omega) | (simp at *; omega)), (hi19.trans (show vrules_m_b0 a b (vrules_m_l0 a b k18) x9 x10 x11 x12 x13 x14 x15 x16 = vrules_m_l0 a b k18 ((x9 + 1), (x10 + 1), x11, x12, x13, (holds_m (Rul.mk ([]) ((x10 : Nat) : Int) b) a), x15, x16) from by unfold vrules_m_b0; rw [if_pos hc36, if_neg hx41, if_neg hx49, if_neg hx57, if_pos hx65, if_pos hs69, if_neg hs70, if_pos hs71] <;> rfl)), (by first | omega | (simp; done) | (simp; omega) | (simp at *; omega)), rfl, hm67⟩ ?_)
        omega
      simp only [nz1, nz2, nz3]
      refine lvw 28 (.bool false) rfl rfl (run_pickf rfl rfl rfl) ?_
      simp only [nz1, nz2, nz3]
      refine lvw 29 (.bool false) rfl rfl (run_mv rfl rfl) ?_
      simp only [nz1, nz2, nz3]
      refine lvw 30 (.int .i64 ((x10 : Nat) : Int)) rfl rfl (run_mv rfl rfl) ?_
      simp only [nz1, nz2, nz3]
      refine lvw 31 (.bool (decide (x10 = 4))) rfl rfl (r_eql x10 4 rfl rfl rfl) ?_
      simp only [nz1, nz2, nz3]
      refine lvw 32 (.bool (decide (x10 = 4))) rfl rfl (run_pickf rfl rfl rfl) ?_
      simp only [nz1, nz2, nz3]
      refine lvw 33 (.bool (decide (x10 = 4))) rfl rfl (run_pick rfl rfl rfl) ?_
      simp only [nz1, nz2, nz3]
      refine wpList_nil ?_
      refine then_n (hK68 _ _ ?_)
      refine cond_d (x10 = 4) rfl (fun hc72 => ?_) (fun hc72 => ?_)
      rotate_left
      · refine wp_skip ?_
        refine blk_n ?_
        refine then_n (hK37 _ _ ?_)
        refine wp_region_lit ?_
        refine lvw 10 (.int .i64 ((x10 : Nat) : Int)) rfl rfl (run_mv rfl rfl) ?_
        simp only [nz1, nz2, nz3]
        refine lvw 11 (.int .i64 (((x10 + 1) : Nat) : Int)) rfl rfl (r_add x10 1 (show (x10 + 1) < 9223372036854775808 from by omega) rfl rfl rfl) ?_
        simp only [nz1, nz2, nz3]
        refine lvw 7 (.int .i64 (((x10 + 1) : Nat) : Int)) rfl rfl (run_as rfl rfl) ?_
        simp only [nz1, nz2, nz3]
        refine wpList_nil ?_
        refine then_n (hR31 _ _ _ ⟨k18, x9, (x10 + 1), x11, x12, x13, (holds_m (Rul.mk ([]) ((x10 : Nat) : Int) b) a), x15, x16, (fun qq => bif Nat.blt qq 24 then List.getD [.int .i64 ((x10 : Nat) : Int), .bool (decide (x10 ≤ 5)), .int .i64 ((x10 : Nat) : Int), .int .i64 (((x10 + 1) : Nat) : Int), .int .i64 ((x10 : Nat) : Int), .int .i64 ((x10 : Nat) : Int), .string (tx b), .agg #[.string (tx ([])), .int .i64 ((x10 : Nat) : Int), .string (tx b)], .string (tx a), .bool ((holds_m (Rul.mk ([]) ((x10 : Nat) : Int) b) a)), .pointer (some ⟨g6, 3, none⟩), .int .i64 ((x10 : Nat) : Int), .pointer (some ⟨g6, 3, none⟩), .bool true, .bool true, .int .i64 ((x10 : Nat) : Int), .bool false, .bool false, .int .i64 ((x10 : Nat) : Int), .bool false, .bool false, .bool false, .int .i64 ((x10 : Nat) : Int), .bool (decide (x10 = 4))] qq undef else List.getD [.bool (decide (x10 = 4)), .bool (decide (x10 = 4)), u0 26, u0 27] (qq - 24) undef), rfl, (by first | omega | (simp; omega) | (simp at *; omega)), (hi19.trans (show vrules_m_b0 a b (vrules_m_l0 a b k18) x9 x10 x11 x12 x13 x14 x15 x16 = vrules_m_l0 a b k18 (x9, (x10 + 1), x11, x12, x13, (holds_m (Rul.mk ([]) ((x10 : Nat) : Int) b) a), x15, x16) from by unfold vrules_m_b0; rw [if_pos hc36, if_neg hx41, if_neg hx49, if_neg hx57, if_pos hx65, if_pos hs69, if_neg hs70, if_neg hs71, if_neg hc72] <;> rfl)), (by first | omega | (simp; done) | (simp; omega) | (simp at *; omega)), rfl, hm67⟩ ?_)
        omega
      refine wp_region_lit ?_
      refine lvw 34 (.int .i64 ((x9 : Nat) : Int)) rfl rfl (run_mv rfl rfl) ?_
      simp only [nz1, nz2, nz3]
      refine lvw 35 (.int .i64 (((x9 + 1) : Nat) : Int)) rfl rfl (r_add x9 1 (show (x9 + 1) < 9223372036854775808 from by omega) rfl rfl rfl) ?_
      simp only [nz1, nz2, nz3]
      refine lvw 5 (.int .i64 (((x9 + 1) : Nat) : Int)) rfl rfl (run_as rfl rfl) ?_
      simp only [nz1, nz2, nz3]
      refine wpList_nil ?_
      refine blk_n ?_
      refine then_n (hK37 _ _ ?_)
      refine wp_region_lit ?_
      refine lvw 10 (.int .i64 ((x10 : Nat) : Int)) rfl rfl (run_mv rfl rfl) ?_
      simp only [nz1, nz2, nz3]
      refine lvw 11 (.int .i64 (((x10 + 1) : Nat) : Int)) rfl rfl (r_add x10 1 (show (x10 + 1) < 9223372036854775808 from by omega) rfl rfl rfl) ?_
      simp only [nz1, nz2, nz3]
      refine lvw 7 (.int .i64 (((x10 + 1) : Nat) : Int)) rfl rfl (run_as rfl rfl) ?_
      simp only [nz1, nz2, nz3]
      refine wpList_nil ?_
      refine then_n (hR31 _ _ _ ⟨k18, (x9 + 1), (x10 + 1), x11, x12, x13, (holds_m (Rul.mk ([]) ((x10 : Nat) : Int) b) a), x15, x16, (fun qq => bif Nat.blt qq 24 then List.getD [.int .i64 ((x10 : Nat) : Int), .bool (decide (x10 ≤ 5)), .int .i64 ((x10 : Nat) : Int), .int .i64 (((x10 + 1) : Nat) : Int), .int .i64 ((x10 : Nat) : Int), .int .i64 ((x10 : Nat) : Int), .string (tx b), .agg #[.string (tx ([])), .int .i64 ((x10 : Nat) : Int), .string (tx b)], .string (tx a), .bool ((holds_m (Rul.mk ([]) ((x10 : Nat) : Int) b) a)), .pointer (some ⟨g6, 3, none⟩), .int .i64 ((x10 : Nat) : Int), .pointer (some ⟨g6, 3, none⟩), .bool true, .bool true, .int .i64 ((x10 : Nat) : Int), .bool false, .bool false, .int .i64 ((x10 : Nat) : Int), .bool false, .bool false, .bool false, .int .i64 ((x10 : Nat) : Int), .bool (decide (x10 = 4))] qq undef else List.getD [.bool (decide (x10 = 4)), .bool (decide (x10 = 4)), .int .i64 ((x9 : Nat) : Int), .int .i64 (((x9 + 1) : Nat) : Int)] (qq - 24) undef), rfl, (by first | omega | (simp; omega) | (simp at *; omega)), (hi19.trans (show vrules_m_b0 a b (vrules_m_l0 a b k18) x9 x10 x11 x12 x13 x14 x15 x16 = vrules_m_l0 a b k18 ((x9 + 1), (x10 + 1), x11, x12, x13, (holds_m (Rul.mk ([]) ((x10 : Nat) : Int) b) a), x15, x16) from by unfold vrules_m_b0; rw [if_pos hc36, if_neg hx41, if_neg hx49, if_neg hx57, if_pos hx65, if_pos hs69, if_neg hs70, if_neg hs71, if_pos hc72] <;> rfl)), (by first | omega | (simp; done) | (simp; omega) | (simp at *; omega)), rfl, hm67⟩ ?_)
      omega
    by_cases hx73 : x10 = 4
    · refine lvw 18 (.pointer (some ⟨g6, 4, none⟩)) rfl rfl (Sx.r_ix g6 4 (by decide) Tryd.underlying41 sz_4 rfl rfl (show (Value.int .i64 ((x10 : Nat) : Int)) = .int .i64 (((4 : Nat)) : Int) from by congr 1; omega)) ?_
      simp only [nz1, nz2, nz3]
      refine lst rfl (m_store 0 4 _ _ 4 (.bool ((holds_m (Rul.mk ([]) ((x10 : Nat) : Int) b) a))) (old := #[.bool (x11), .bool (x12), .bool (x13), .bool (x14), .bool (x15), .bool (x16)]) (new := #[.bool (x11), .bool (x12), .bool (x13), .bool (x14), .bool ((holds_m (Rul.mk ([]) ((x10 : Nat) : Int) b) a)), .bool (x16)]) hm40 rfl rfl rfl rfl rfl (by exact sz_4) (show 4 + 1 ≤ 6 from by decide) (one_all rfl) rfl (fun w74 (hm75 : Mm none (fun _ => True) w w74 [.blk g6 #[.bool (x11), .bool (x12), .bool (x13), .bool (x14), .bool ((holds_m (Rul.mk ([]) ((x10 : Nat) : Int) b) a)), .bool (x16)] 41]) => ?_))
      refine wpList_nil ?_
      refine then_n (hK38 _ _ ?_)
      refine wp_seq_k (fun K76 hK76 => ?_)
      refine wp_region_lit ?_
      refine lvw 19 (.int .i64 ((x10 : Nat) : Int)) rfl rfl (run_mv rfl rfl) ?_
      simp only [nz1, nz2, nz3]
      refine lvw 20 (.pointer (some ⟨g6, 4, none⟩)) rfl rfl (Sx.r_ix g6 4 (by decide) Tryd.underlying41 sz_4 rfl rfl (show (Value.int .i64 ((x10 : Nat) : Int)) = .int .i64 (((4 : Nat)) : Int) from by congr 1; omega)) ?_
      simp only [nz1, nz2, nz3]
      refine lvB 21 (holds_m (Rul.mk ([]) ((x10 : Nat) : Int) b) a) rfl rfl (r_load (hm75.at 0 rfl) rfl Tryd.underlying4 rfl rfl rfl) (fun hs77 => ?_) (fun hs77 => ?_)
      rotate_left
      · simp only [nz1, nz2, nz3]
        refine lvw 22 (.bool false) rfl rfl (run_mv rfl rfl) ?_
        simp only [nz1, nz2, nz3]
        refine lst_skip 23 rfl rfl ?_
        simp only [nz1, nz2, nz3]
        refine lst_skip 24 rfl rfl ?_
        simp only [nz1, nz2, nz3]
        refine lst_skip 25 rfl rfl ?_
        simp only [nz1, nz2, nz3]
        refine lst_skip 26 rfl rfl ?_
        simp only [nz1, nz2, nz3]
        refine lst_skip 27 rfl rfl ?_
        simp only [nz1, nz2, nz3]
        refine lst_skip 28 rfl rfl ?_
        simp only [nz1, nz2, nz3]
        refine lst_skip 29 rfl rfl ?_
        simp only [nz1, nz2, nz3]
        refine lst_skip 30 rfl rfl ?_
        simp only [nz1, nz2, nz3]
        refine lst_skip 31 rfl rfl ?_
        simp only [nz1, nz2, nz3]
        refine lst_skip 32 rfl rfl ?_
        simp only [nz1, nz2, nz3]
        refine lvw 33 (.bool false) rfl rfl (run_pickf rfl rfl rfl) ?_
        simp only [nz1, nz2, nz3]
        refine wpList_nil ?_
        refine then_n (hK76 _ _ ?_)
        refine cond_f rfl ?_
        refine wp_skip ?_
        refine blk_n ?_
        refine then_n (hK37 _ _ ?_)
        refine wp_region_lit ?_
        refine lvw 10 (.int .i64 ((x10 : Nat) : Int)) rfl rfl (run_mv rfl rfl) ?_
        simp only [nz1, nz2, nz3]
        refine lvw 11 (.int .i64 (((x10 + 1) : Nat) : Int)) rfl rfl (r_add x10 1 (show (x10 + 1) < 9223372036854775808 from by omega) rfl rfl rfl) ?_
        simp only [nz1, nz2, nz3]
        refine lvw 7 (.int .i64 (((x10 + 1) : Nat) : Int)) rfl rfl (run_as rfl rfl) ?_
        simp only [nz1, nz2, nz3]
        refine wpList_nil ?_
        refine then_n (hR31 _ _ _ ⟨k18, x9, (x10 + 1), x11, x12, x13, x14, (holds_m (Rul.mk ([]) ((x10 : Nat) : Int) b) a), x16, (fun qq => bif Nat.blt qq 24 then List.getD [.int .i64 ((x10 : Nat) : Int), .bool (decide (x10 ≤ 5)), .int .i64 ((x10 : Nat) : Int), .int .i64 (((x10 + 1) : Nat) : Int), .int .i64 ((x10 : Nat) : Int), .int .i64 ((x10 : Nat) : Int), .string (tx b), .agg #[.string (tx ([])), .int .i64 ((x10 : Nat) : Int), .string (tx b)], .string (tx a), .bool ((holds_m (Rul.mk ([]) ((x10 : Nat) : Int) b) a)), .pointer (some ⟨g6, 4, none⟩), .int .i64 ((x10 : Nat) : Int), .pointer (some ⟨g6, 4, none⟩), .bool false, .bool false, undef, undef, undef, undef, undef, undef, undef, undef, undef] qq undef else List.getD [undef, .bool false, u0 26, u0 27] (qq - 24) undef), rfl, (by first | omega | (simp; omega) | (simp at *; omega)), (hi19.trans (show vrules_m_b0 a b (vrules_m_l0 a b k18) x9 x10 x11 x12 x13 x14 x15 x16 = vrules_m_l0 a b k18 (x9, (x10 + 1), x11, x12, x13, x14, (holds_m (Rul.mk ([]) ((x10 : Nat) : Int) b) a), x16) from by unfold vrules_m_b0; rw [if_pos hc36, if_neg hx41, if_neg hx49, if_neg hx57, if_neg hx65, if_pos hx73, if_neg hs77] <;> rfl)), (by first | omega | (simp; done) | (simp; omega) | (simp at *; omega)), rfl, hm75⟩ ?_)
        omega
      simp only [nz1, nz2, nz3]
      refine lvw 22 (.bool true) rfl rfl (run_mv rfl rfl) ?_
      simp only [nz1, nz2, nz3]
      refine lvw 23 (.int .i64 ((x10 : Nat) : Int)) rfl rfl (run_mv rfl rfl) ?_
      simp only [nz1, nz2, nz3]
      refine lvb 24 (x10 = 2) rfl rfl (r_eql x10 2 rfl rfl rfl) (fun hs78 => ?_) (fun hs78 => ?_)
      · simp only [nz1, nz2, nz3]
        refine lvw 25 (.bool true) rfl rfl (run_mv rfl rfl) ?_
        simp only [nz1, nz2, nz3]
        refine lst_skip 26 rfl rfl ?_
        simp only [nz1, nz2, nz3]
        refine lst_skip 27 rfl rfl ?_
        simp only [nz1, nz2, nz3]
        refine lvw 28 (.bool true) rfl rfl (run_pick rfl rfl rfl) ?_
        simp only [nz1, nz2, nz3]
        refine lvw 29 (.bool true) rfl rfl (run_mv rfl rfl) ?_
        simp only [nz1, nz2, nz3]
        refine lst_skip 30 rfl rfl ?_
        simp only [nz1, nz2, nz3]
        refine lst_skip 31 rfl rfl ?_
        simp only [nz1, nz2, nz3]
        refine lvw 32 (.bool true) rfl rfl (run_pick rfl rfl rfl) ?_
        simp only [nz1, nz2, nz3]
        refine lvw 33 (.bool true) rfl rfl (run_pick rfl rfl rfl) ?_
        simp only [nz1, nz2, nz3]
        refine wpList_nil ?_
        refine then_n (hK76 _ _ ?_)
        refine cond_t rfl ?_
        refine wp_region_lit ?_
        refine lvw 34 (.int .i64 ((x9 : Nat) : Int)) rfl rfl (run_mv rfl rfl) ?_
        simp only [nz1, nz2, nz3]
        refine lvw 35 (.int .i64 (((x9 + 1) : Nat) : Int)) rfl rfl (r_add x9 1 (show (x9 + 1) < 9223372036854775808 from by omega) rfl rfl rfl) ?_
        simp only [nz1, nz2, nz3]
        refine lvw 5 (.int .i64 (((x9 + 1) : Nat) : Int)) rfl rfl (run_as rfl rfl) ?_
        simp only [nz1, nz2, nz3]
        refine wpList_nil ?_
        refine blk_n ?_
        refine then_n (hK37 _ _ ?_)
        refine wp_region_lit ?_
        refine lvw 10 (.int .i64 ((x10 : Nat) : Int)) rfl rfl (run_mv rfl rfl) ?_
        simp only [nz1, nz2, nz3]
        refine lvw 11 (.int .i64 (((x10 + 1) : Nat) : Int)) rfl rfl (r_add x10 1 (show (x10 + 1) < 9223372036854775808 from by omega) rfl rfl rfl) ?_
        simp only [nz1, nz2, nz3]
        refine lvw 7 (.int .i64 (((x10 + 1) : Nat) : Int)) rfl rfl (run_as rfl rfl) ?_
        simp only [nz1, nz2, nz3]
        refine wpList_nil ?_
        refine then_n (hR31 _ _ _ ⟨k18, (x9 + 1), (x10 + 1), x11, x12, x13, x14, (holds_m (Rul.mk ([]) ((x10 : Nat) : Int) b) a), x16, (fun qq => bif Nat.blt qq 24 then List.getD [.int .i64 ((x10 : Nat) : Int), .bool (decide (x10 ≤ 5)), .int .i64 ((x10 : Nat) : Int), .int .i64 (((x10 + 1) : Nat) : Int), .int .i64 ((x10 : Nat) : Int), .int .i64 ((x10 : Nat) : Int), .string (tx b), .agg #[.string (tx ([])), .int .i64 ((x10 : Nat) : Int), .string (tx b)], .string (tx a), .bool ((holds_m (Rul.mk ([]) ((x10 : Nat) : Int) b) a)), .pointer (some ⟨g6, 4, none⟩), .int .i64 ((x10 : Nat) : Int), .pointer (some ⟨g6, 4, none⟩), .bool true, .bool true, .int .i64 ((x10 : Nat) : Int), .bool true, .bool true, undef, undef, .bool true, .bool true, undef, undef] qq undef else List.getD [.bool true, .bool true, .int .i64 ((x9 : Nat) : Int), .int .i64 (((x9 + 1) : Nat) : Int)] (qq - 24) undef), rfl, (by first | omega | (simp; omega) | (simp at *; omega)), (hi19.trans (show vrules_m_b0 a b (vrules_m_l0 a b k18) x9 x10 x11 x12 x13 x14 x15 x16 = vrules_m_l0 a b k18 ((x9 + 1), (x10 + 1), x11, x12, x13, x14, (holds_m (Rul.mk ([]) ((x10 : Nat) : Int) b) a), x16) from by unfold vrules_m_b0; rw [if_pos hc36, if_neg hx41, if_neg hx49, if_neg hx57, if_neg hx65, if_pos hx73, if_pos hs77, if_pos hs78] <;> rfl)), (by first | omega | (simp; done) | (simp; omega) | (simp at *; omega)), rfl, hm75⟩ ?_)
        omega
      simp only [nz1, nz2, nz3]
      refine lvw 25 (.bool false) rfl rfl (run_mv rfl rfl) ?_
      simp only [nz1, nz2, nz3]
      refine lvw 26 (.int .i64 ((x10 : Nat) : Int)) rfl rfl (run_mv rfl rfl) ?_
      simp only [nz1, nz2, nz3]
      refine lvb 27 (x10 = 1) rfl rfl (r_eql x10 1 rfl rfl rfl) (fun hs79 => ?_) (fun hs79 => ?_)
      · simp only [nz1, nz2, nz3]
        refine lvw 28 (.bool true) rfl rfl (run_pickf rfl rfl rfl) ?_
        simp only [nz1, nz2, nz3]
        refine lvw 29 (.bool true) rfl rfl (run_mv rfl rfl) ?_
        simp only [nz1, nz2, nz3]
        refine lst_skip 30 rfl rfl ?_
        simp only [nz1, nz2, nz3]
        refine lst_skip 31 rfl rfl ?_
        simp only [nz1, nz2, nz3]
        refine lvw 32 (.bool true) rfl rfl (run_pick rfl rfl rfl) ?_
        simp only [nz1, nz2, nz3]
        refine lvw 33 (.bool true) rfl rfl (run_pick rfl rfl rfl) ?_
        simp only [nz1, nz2, nz3]
        refine wpList_nil ?_
        refine then_n (hK76 _ _ ?_)
        refine cond_t rfl ?_
        refine wp_region_lit ?_
        refine lvw 34 (.int .i64 ((x9 : Nat) : Int)) rfl rfl (run_mv rfl rfl) ?_
        simp only [nz1, nz2, nz3]
        refine lvw 35 (.int .i64 (((x9 + 1) : Nat) : Int)) rfl rfl (r_add x9 1 (show (x9 + 1) < 9223372036854775808 from by omega) rfl rfl rfl) ?_
        simp only [nz1, nz2, nz3]
        refine lvw 5 (.int .i64 (((x9 + 1) : Nat) : Int)) rfl rfl (run_as rfl rfl) ?_
        simp only [nz1, nz2, nz3]
        refine wpList_nil ?_
        refine blk_n ?_
        refine then_n (hK37 _ _ ?_)
        refine wp_region_lit ?_
        refine lvw 10 (.int .i64 ((x10 : Nat) : Int)) rfl rfl (run_mv rfl rfl) ?_
        simp only [nz1, nz2, nz3]
        refine lvw 11 (.int .i64 (((x10 + 1) : Nat) : Int)) rfl rfl (r_add x10 1 (show (x10 + 1) < 9223372036854775808 from by omega) rfl rfl rfl) ?_
        simp only [nz1, nz2, nz3]
        refine lvw 7 (.int .i64 (((x10 + 1) : Nat) : Int)) rfl rfl (run_as rfl rfl) ?_
        simp only [nz1, nz2, nz3]
        refine wpList_nil ?_
        refine then_n (hR31 _ _ _ ⟨k18, (x9 + 1), (x10 + 1), x11, x12, x13, x14, (holds_m (Rul.mk ([]) ((x10 : Nat) : Int) b) a), x16, (fun qq => bif Nat.blt qq 24 then List.getD [.int .i64 ((x10 : Nat) : Int), .bool (decide (x10 ≤ 5)), .int .i64 ((x10 : Nat) : Int), .int .i64 (((x10 + 1) : Nat) : Int), .int .i64 ((x10 : Nat) : Int), .int .i64 ((x10 : Nat) : Int), .string (tx b), .agg #[.string (tx ([])), .int .i64 ((x10 : Nat) : Int), .string (tx b)], .string (tx a), .bool ((holds_m (Rul.mk ([]) ((x10 : Nat) : Int) b) a)), .pointer (some ⟨g6, 4, none⟩), .int .i64 ((x10 : Nat) : Int), .pointer (some ⟨g6, 4, none⟩), .bool true, .bool true, .int .i64 ((x10 : Nat) : Int), .bool false, .bool false, .int .i64 ((x10 : Nat) : Int), .bool true, .bool true, .bool true, undef, undef] qq undef else List.getD [.bool true, .bool true, .int .i64 ((x9 : Nat) : Int), .int .i64 (((x9 + 1) : Nat) : Int)] (qq - 24) undef), rfl, (by first | omega | (simp; omega) | (simp at *; omega)), (hi19.trans (show vrules_m_b0 a b (vrules_m_l0 a b k18) x9 x10 x11 x12 x13 x14 x15 x16 = vrules_m_l0 a b k18 ((x9 + 1), (x10 + 1), x11, x12, x13, x14, (holds_m (Rul.mk ([]) ((x10 : Nat) : Int) b) a), x16) from by unfold vrules_m_b0; rw [if_pos hc36, if_neg hx41, if_neg hx49, if_neg hx57, if_neg hx65, if_pos hx73, if_pos hs77, if_neg hs78, if_pos hs79] <;> rfl)), (by first | omega | (simp; done) | (simp; omega) | (simp at *; omega)), rfl, hm75⟩ ?_)
        omega
      simp only [nz1, nz2, nz3]
      refine lvw 28 (.bool false) rfl rfl (run_pickf rfl rfl rfl) ?_
      simp only [nz1, nz2, nz3]
      refine lvw 29 (.bool false) rfl rfl (run_mv rfl rfl) ?_
      simp only [nz1, nz2, nz3]
      refine lvw 30 (.int .i64 ((x10 : Nat) : Int)) rfl rfl (run_mv rfl rfl) ?_
      simp only [nz1, nz2, nz3]
      refine lvw 31 (.bool (decide (x10 = 4))) rfl rfl (r_eql x10 4 rfl rfl rfl) ?_
      simp only [nz1, nz2, nz3]
      refine lvw 32 (.bool (decide (x10 = 4))) rfl rfl (run_pickf rfl rfl rfl) ?_
      simp only [nz1, nz2, nz3]
      refine lvw 33 (.bool (decide (x10 = 4))) rfl rfl (run_pick rfl rfl rfl) ?_
      simp only [nz1, nz2, nz3]
      refine wpList_nil ?_
      refine then_n (hK76 _ _ ?_)
      refine cond_d (x10 = 4) rfl (fun hc80 => ?_) (fun hc80 => ?_)
      rotate_left
      · refine wp_skip ?_
        refine blk_n ?_
        refine then_n (hK37 _ _ ?_)
        refine wp_region_lit ?_
        refine lvw 10 (.int .i64 ((x10 : Nat) : Int)) rfl rfl (run_mv rfl rfl) ?_
        simp only [nz1, nz2, nz3]
        refine lvw 11 (.int .i64 (((x10 + 1) : Nat) : Int)) rfl rfl (r_add x10 1 (show (x10 + 1) < 9223372036854775808 from by omega) rfl rfl rfl) ?_
        simp only [nz1, nz2, nz3]
        refine lvw 7 (.int .i64 (((x10 + 1) : Nat) : Int)) rfl rfl (run_as rfl rfl) ?_
        simp only [nz1, nz2, nz3]
        refine wpList_nil ?_
        refine then_n (hR31 _ _ _ ⟨k18, x9, (x10 + 1), x11, x12, x13, x14, (holds_m (Rul.mk ([]) ((x10 : Nat) : Int) b) a), x16, (fun qq => bif Nat.blt qq 24 then List.getD [.int .i64 ((x10 : Nat) : Int), .bool (decide (x10 ≤ 5)), .int .i64 ((x10 : Nat) : Int), .int .i64 (((x10 + 1) : Nat) : Int), .int .i64 ((x10 : Nat) : Int), .int .i64 ((x10 : Nat) : Int), .string (tx b), .agg #[.string (tx ([])), .int .i64 ((x10 : Nat) : Int), .string (tx b)], .string (tx a), .bool ((holds_m (Rul.mk ([]) ((x10 : Nat) : Int) b) a)), .pointer (some ⟨g6, 4, none⟩), .int .i64 ((x10 : Nat) : Int), .pointer (some ⟨g6, 4, none⟩), .bool true, .bool true, .int .i64 ((x10 : Nat) : Int), .bool false, .bool false, .int .i64 ((x10 : Nat) : Int), .bool false, .bool false, .bool false, .int .i64 ((x10 : Nat) : Int), .bool (decide (x10 = 4))] qq undef else List.getD [.bool (decide (x10 = 4)), .bool (decide (x10 = 4)), u0 26, u0 27] (qq - 24) undef), rfl, (by first | omega | (simp; omega) | (simp at *; omega)), (hi19.trans (show vrules_m_b0 a b (vrules_m_l0 a b k18) x9 x10 x11 x12 x13 x14 x15 x16 = vrules_m_l0 a b k18 (x9, (x10 + 1), x11, x12, x13, x14, (holds_m (Rul.mk ([]) ((x10 : Nat) : Int) b) a), x16) from by unfold vrules_m_b0; rw [if_pos hc36, if_neg hx41, if_neg hx49, if_neg hx57, if_neg hx65, if_pos hx73, if_pos hs77, if_neg hs78, if_neg hs79, if_neg hc80] <;> rfl)), (by first | omega | (simp; done) | (simp; omega) | (simp at *; omega)), rfl, hm75⟩ ?_)
        omega
      refine wp_region_lit ?_
      refine lvw 34 (.int .i64 ((x9 : Nat) : Int)) rfl rfl (run_mv rfl rfl) ?_
      simp only [nz1, nz2, nz3]
      refine lvw 35 (.int .i64 (((x9 + 1) : Nat) : Int)) rfl rfl (r_add x9 1 (show (x9 + 1) < 9223372036854775808 from by omega) rfl rfl rfl) ?_
      simp only [nz1, nz2, nz3]
      refine lvw 5 (.int .i64 (((x9 + 1) : Nat) : Int)) rfl rfl (run_as rfl rfl) ?_
      simp only [nz1, nz2, nz3]
      refine wpList_nil ?_
      refine blk_n ?_
      refine then_n (hK37 _ _ ?_)
      refine wp_region_lit ?_
      refine lvw 10 (.int .i64 ((x10 : Nat) : Int)) rfl rfl (run_mv rfl rfl) ?_
      simp only [nz1, nz2, nz3]
      refine lvw 11 (.int .i64 (((x10 + 1) : Nat) : Int)) rfl rfl (r_add x10 1 (show (x10 + 1) < 9223372036854775808 from by omega) rfl rfl rfl) ?_
      simp only [nz1, nz2, nz3]
      refine lvw 7 (.int .i64 (((x10 + 1) : Nat) : Int)) rfl rfl (run_as rfl rfl) ?_
      simp only [nz1, nz2, nz3]
      refine wpList_nil ?_
      refine then_n (hR31 _ _ _ ⟨k18, (x9 + 1), (x10 + 1), x11, x12, x13, x14, (holds_m (Rul.mk ([]) ((x10 : Nat) : Int) b) a), x16, (fun qq => bif Nat.blt qq 24 then List.getD [.int .i64 ((x10 : Nat) : Int), .bool (decide (x10 ≤ 5)), .int .i64 ((x10 : Nat) : Int), .int .i64 (((x10 + 1) : Nat) : Int), .int .i64 ((x10 : Nat) : Int), .int .i64 ((x10 : Nat) : Int), .string (tx b), .agg #[.string (tx ([])), .int .i64 ((x10 : Nat) : Int), .string (tx b)], .string (tx a), .bool ((holds_m (Rul.mk ([]) ((x10 : Nat) : Int) b) a)), .pointer (some ⟨g6, 4, none⟩), .int .i64 ((x10 : Nat) : Int), .pointer (some ⟨g6, 4, none⟩), .bool true, .bool true, .int .i64 ((x10 : Nat) : Int), .bool false, .bool false, .int .i64 ((x10 : Nat) : Int), .bool false, .bool false, .bool false, .int .i64 ((x10 : Nat) : Int), .bool (decide (x10 = 4))] qq undef else List.getD [.bool (decide (x10 = 4)), .bool (decide (x10 = 4)), .int .i64 ((x9 : Nat) : Int), .int .i64 (((x9 + 1) : Nat) : Int)] (qq - 24) undef), rfl, (by first | omega | (simp; omega) | (simp at *; omega)), (hi19.trans (show vrules_m_b0 a b (vrules_m_l0 a b k18) x9 x10 x11 x12 x13 x14 x15 x16 = vrules_m_l0 a b k18 ((x9 + 1), (x10 + 1), x11, x12, x13, x14, (holds_m (Rul.mk ([]) ((x10 : Nat) : Int) b) a), x16) from by unfold vrules_m_b0; rw [if_pos hc36, if_neg hx41, if_neg hx49, if_neg hx57, if_neg hx65, if_pos hx73, if_pos hs77, if_neg hs78, if_neg hs79, if_pos hc80] <;> rfl)), (by first | omega | (simp; done) | (simp; omega) | (simp at *; omega)), rfl, hm75⟩ ?_)
      omega
    have hx81 : x10 = 5 := by omega
    refine lvw 18 (.pointer (some ⟨g6, 5, none⟩)) rfl rfl (Sx.r_ix g6 5 (by decide) Tryd.underlying41 sz_4 rfl rfl (show (Value.int .i64 ((x10 : Nat) : Int)) = .int .i64 (((5 : Nat)) : Int) from by congr 1; omega)) ?_
    simp only [nz1, nz2, nz3]
    refine lst rfl (m_store 0 4 _ _ 5 (.bool ((holds_m (Rul.mk ([]) ((x10 : Nat) : Int) b) a))) (old := #[.bool (x11), .bool (x12), .bool (x13), .bool (x14), .bool (x15), .bool (x16)]) (new := #[.bool (x11), .bool (x12), .bool (x13), .bool (x14), .bool (x15), .bool ((holds_m (Rul.mk ([]) ((x10 : Nat) : Int) b) a))]) hm40 rfl rfl rfl rfl rfl (by exact sz_4) (show 5 + 1 ≤ 6 from by decide) (one_all rfl) rfl (fun w82 (hm83 : Mm none (fun _ => True) w w82 [.blk g6 #[.bool (x11), .bool (x12), .bool (x13), .bool (x14), .bool (x15), .bool ((holds_m (Rul.mk ([]) ((x10 : Nat) : Int) b) a))] 41]) => ?_))
    refine wpList_nil ?_
    refine then_n (hK38 _ _ ?_)
    refine wp_seq_k (fun K84 hK84 => ?_)
    refine wp_region_lit ?_
    refine lvw 19 (.int .i64 ((x10 : Nat) : Int)) rfl rfl (run_mv rfl rfl) ?_
    simp only [nz1, nz2, nz3]
    refine lvw 20 (.pointer (some ⟨g6, 5, none⟩)) rfl rfl (Sx.r_ix g6 5 (by decide) Tryd.underlying41 sz_4 rfl rfl (show (Value.int .i64 ((x10 : Nat) : Int)) = .int .i64 (((5 : Nat)) : Int) from by congr 1; omega)) ?_
    simp only [nz1, nz2, nz3]
    refine lvB 21 (holds_m (Rul.mk ([]) ((x10 : Nat) : Int) b) a) rfl rfl (r_load (hm83.at 0 rfl) rfl Tryd.underlying4 rfl rfl rfl) (fun hs85 => ?_) (fun hs85 => ?_)
    rotate_left
    · simp only [nz1, nz2, nz3]
      refine lvw 22 (.bool false) rfl rfl (run_mv rfl rfl) ?_
      simp only [nz1, nz2, nz3]
      refine lst_skip 23 rfl rfl ?_
      simp only [nz1, nz2, nz3]
      refine lst_skip 24 rfl rfl ?_
      simp only [nz1, nz2, nz3]
      refine lst_skip 25 rfl rfl ?_
      simp only [nz1, nz2, nz3]
      refine lst_skip 26 rfl rfl ?_
      simp only [nz1, nz2, nz3]
      refine lst_skip 27 rfl rfl ?_
      simp only [nz1, nz2, nz3]
      refine lst_skip 28 rfl rfl ?_
      simp only [nz1, nz2, nz3]
      refine lst_skip 29 rfl rfl ?_
      simp only [nz1, nz2, nz3]
      refine lst_skip 30 rfl rfl ?_
      simp only [nz1, nz2, nz3]
      refine lst_skip 31 rfl rfl ?_
      simp only [nz1, nz2, nz3]
      refine lst_skip 32 rfl rfl ?_
      simp only [nz1, nz2, nz3]
      refine lvw 33 (.bool false) rfl rfl (run_pickf rfl rfl rfl) ?_
      simp only [nz1, nz2, nz3]
      refine wpList_nil ?_
      refine then_n (hK84 _ _ ?_)
      refine cond_f rfl ?_
      refine wp_skip ?_
      refine blk_n ?_
      refine then_n (hK37 _ _ ?_)
      refine wp_region_lit ?_
      refine lvw 10 (.int .i64 ((x10 : Nat) : Int)) rfl rfl (run_mv rfl rfl) ?_
      simp only [nz1, nz2, nz3]
      refine lvw 11 (.int .i64 (((x10 + 1) : Nat) : Int)) rfl rfl (r_add x10 1 (show (x10 + 1) < 9223372036854775808 from by omega) rfl rfl rfl) ?_
      simp only [nz1, nz2, nz3]
      refine lvw 7 (.int .i64 (((x10 + 1) : Nat) : Int)) rfl rfl (run_as rfl rfl) ?_
      simp only [nz1, nz2, nz3]
      refine wpList_nil ?_
      refine then_n (hR31 _ _ _ ⟨k18, x9, (x10 + 1), x11, x12, x13, x14, x15, (holds_m (Rul.mk ([]) ((x10 : Nat) : Int) b) a), (fun qq => bif Nat.blt qq 24 then List.getD [.int .i64 ((x10 : Nat) : Int), .bool (decide (x10 ≤ 5)), .int .i64 ((x10 : Nat) : Int), .int .i64 (((x10 + 1) : Nat) : Int), .int .i64 ((x10 : Nat) : Int), .int .i64 ((x10 : Nat) : Int), .string (tx b), .agg #[.string (tx ([])), .int .i64 ((x10 : Nat) : Int), .string (tx b)], .string (tx a), .bool ((holds_m (Rul.mk ([]) ((x10 : Nat) : Int) b) a)), .pointer (some ⟨g6, 5, none⟩), .int .i64 ((x10 : Nat) : Int), .pointer (some ⟨g6, 5, none⟩), .bool false, .bool false, undef, undef, undef, undef, undef, undef, undef, undef, undef] qq undef else List.getD [undef, .bool false, u0 26, u0 27] (qq - 24) undef), rfl, (by first | omega | (simp; omega) | (simp at *; omega)), (hi19.trans (show vrules_m_b0 a b (vrules_m_l0 a b k18) x9 x10 x11 x12 x13 x14 x15 x16 = vrules_m_l0 a b k18 (x9, (x10 + 1), x11, x12, x13, x14, x15, (holds_m (Rul.mk ([]) ((x10 : Nat) : Int) b) a)) from by unfold vrules_m_b0; rw [if_pos hc36, if_neg hx41, if_neg hx49, if_neg hx57, if_neg hx65, if_neg hx73, if_neg hs85] <;> rfl)), (by first | omega | (simp; done) | (simp; omega) | (simp at *; omega)), rfl, hm83⟩ ?_)
      omega
    simp only [nz1, nz2, nz3]
    refine lvw 22 (.bool true) rfl rfl (run_mv rfl rfl) ?_
    simp only [nz1, nz2, nz3]
    refine lvw 23 (.int .i64 ((x10 : Nat) : Int)) rfl rfl (run_mv rfl rfl) ?_
    simp only [nz1, nz2, nz3]
    refine lvb 24 (x10 = 2) rfl rfl (r_eql x10 2 rfl rfl rfl) (fun hs86 => ?_) (fun hs86 => ?_)
    · simp only [nz1, nz2, nz3]
      refine lvw 25 (.bool true) rfl rfl (run_mv rfl rfl) ?_
      simp only [nz1, nz2, nz3]
      refine lst_skip 26 rfl rfl ?_
      simp only [nz1, nz2, nz3]
      refine lst_skip 27 rfl rfl ?_
      simp only [nz1, nz2, nz3]
      refine lvw 28 (.bool true) rfl rfl (run_pick rfl rfl rfl) ?_
      simp only [nz1, nz2, nz3]
      refine lvw 29 (.bool true) rfl rfl (run_mv rfl rfl) ?_
      simp only [nz1, nz2, nz3]
      refine lst_skip 30 rfl rfl ?_
      simp only [nz1, nz2, nz3]
      refine lst_skip 31 rfl rfl ?_
      simp only [nz1, nz2, nz3]
      refine lvw 32 (.bool true) rfl rfl (run_pick rfl rfl rfl) ?_
      simp only [nz1, nz2, nz3]
      refine lvw 33 (.bool true) rfl rfl (run_pick rfl rfl rfl) ?_
      simp only [nz1, nz2, nz3]
      refine wpList_nil ?_
      refine then_n (hK84 _ _ ?_)
      refine cond_t rfl ?_
      refine wp_region_lit ?_
      refine lvw 34 (.int .i64 ((x9 : Nat) : Int)) rfl rfl (run_mv rfl rfl) ?_
      simp only [nz1, nz2, nz3]
      refine lvw 35 (.int .i64 (((x9 + 1) : Nat) : Int)) rfl rfl (r_add x9 1 (show (x9 + 1) < 9223372036854775808 from by omega) rfl rfl rfl) ?_
      simp only [nz1, nz2, nz3]
      refine lvw 5 (.int .i64 (((x9 + 1) : Nat) : Int)) rfl rfl (run_as rfl rfl) ?_
      simp only [nz1, nz2, nz3]
      refine wpList_nil ?_
      refine blk_n ?_
      refine then_n (hK37 _ _ ?_)
      refine wp_region_lit ?_
      refine lvw 10 (.int .i64 ((x10 : Nat) : Int)) rfl rfl (run_mv rfl rfl) ?_
      simp only [nz1, nz2, nz3]
      refine lvw 11 (.int .i64 (((x10 + 1) : Nat) : Int)) rfl rfl (r_add x10 1 (show (x10 + 1) < 9223372036854775808 from by omega) rfl rfl rfl) ?_
      simp only [nz1, nz2, nz3]
      refine lvw 7 (.int .i64 (((x10 + 1) : Nat) : Int)) rfl rfl (run_as rfl rfl) ?_
      simp only [nz1, nz2, nz3]
      refine wpList_nil ?_
      refine then_n (hR31 _ _ _ ⟨k18, (x9 + 1), (x10 + 1), x11, x12, x13, x14, x15, (holds_m (Rul.mk ([]) ((x10 : Nat) : Int) b) a), (fun qq => bif Nat.blt qq 24 then List.getD [.int .i64 ((x10 : Nat) : Int), .bool (decide (x10 ≤ 5)), .int .i64 ((x10 : Nat) : Int), .int .i64 (((x10 + 1) : Nat) : Int), .int .i64 ((x10 : Nat) : Int), .int .i64 ((x10 : Nat) : Int), .string (tx b), .agg #[.string (tx ([])), .int .i64 ((x10 : Nat) : Int), .string (tx b)], .string (tx a), .bool ((holds_m (Rul.mk ([]) ((x10 : Nat) : Int) b) a)), .pointer (some ⟨g6, 5, none⟩), .int .i64 ((x10 : Nat) : Int), .pointer (some ⟨g6, 5, none⟩), .bool true, .bool true, .int .i64 ((x10 : Nat) : Int), .bool true, .bool true, undef, undef, .bool true, .bool true, undef, undef] qq undef else List.getD [.bool true, .bool true, .int .i64 ((x9 : Nat) : Int), .int .i64 (((x9 + 1) : Nat) : Int)] (qq - 24) undef), rfl, (by first | omega | (simp; omega) | (simp at *; omega)), (hi19.trans (show vrules_m_b0 a b (vrules_m_l0 a b k18) x9 x10 x11 x12 x13 x14 x15 x16 = vrules_m_l0 a b k18 ((x9 + 1), (x10 + 1), x11, x12, x13, x14, x15, (holds_m (Rul.mk ([]) ((x10 : Nat) : Int) b) a)) from by unfold vrules_m_b0; rw [if_pos hc36, if_neg hx41, if_neg hx49, if_neg hx57, if_neg hx65, if_neg hx73, if_pos hs85, if_pos hs86] <;> rfl)), (by first | omega | (simp; done) | (simp; omega) | (simp at *; omega)), rfl, hm83⟩ ?_)
      omega
    simp only [nz1, nz2, nz3]
    refine lvw 25 (.bool false) rfl rfl (run_mv rfl rfl) ?_
    simp only [nz1, nz2, nz3]
    refine lvw 26 (.int .i64 ((x10 : Nat) : Int)) rfl rfl (run_mv rfl rfl) ?_
    simp only [nz1, nz2, nz3]
    refine lvb 27 (x10 = 1) rfl rfl (r_eql x10 1 rfl rfl rfl) (fun hs87 => ?_) (fun hs87 => ?_)
    · simp only [nz1, nz2, nz3]
      refine lvw 28 (.bool true) rfl rfl (run_pickf rfl rfl rfl) ?_
      simp only [nz1, nz2, nz3]
      refine lvw 29 (.bool true) rfl rfl (run_mv rfl rfl) ?_
      simp only [nz1, nz2, nz3]
      refine lst_skip 30 rfl rfl ?_
      simp only [nz1, nz2, nz3]
      refine lst_skip 31 rfl rfl ?_
      simp only [nz1, nz2, nz3]
      refine lvw 32 (.bool true) rfl rfl (run_pick rfl rfl rfl) ?_
      simp only [nz1, nz2, nz3]
      refine lvw 33 (.bool true) rfl rfl (run_pick rfl rfl rfl) ?_
      simp only [nz1, nz2, nz3]
      refine wpList_nil ?_
      refine then_n (hK84 _ _ ?_)
      refine cond_t rfl ?_
      refine wp_region_lit ?_
      refine lvw 34 (.int .i64 ((x9 : Nat) : Int)) rfl rfl (run_mv rfl rfl) ?_
      simp only [nz1, nz2, nz3]
      refine lvw 35 (.int .i64 (((x9 + 1) : Nat) : Int)) rfl rfl (r_add x9 1 (show (x9 + 1) < 9223372036854775808 from by omega) rfl rfl rfl) ?_
      simp only [nz1, nz2, nz3]
      refine lvw 5 (.int .i64 (((x9 + 1) : Nat) : Int)) rfl rfl (run_as rfl rfl) ?_
      simp only [nz1, nz2, nz3]
      refine wpList_nil ?_
      refine blk_n ?_
      refine then_n (hK37 _ _ ?_)
      refine wp_region_lit ?_
      refine lvw 10 (.int .i64 ((x10 : Nat) : Int)) rfl rfl (run_mv rfl rfl) ?_
      simp only [nz1, nz2, nz3]
      refine lvw 11 (.int .i64 (((x10 + 1) : Nat) : Int)) rfl rfl (r_add x10 1 (show (x10 + 1) < 9223372036854775808 from by omega) rfl rfl rfl) ?_
      simp only [nz1, nz2, nz3]
      refine lvw 7 (.int .i64 (((x10 + 1) : Nat) : Int)) rfl rfl (run_as rfl rfl) ?_
      simp only [nz1, nz2, nz3]
      refine wpList_nil ?_
      refine then_n (hR31 _ _ _ ⟨k18, (x9 + 1), (x10 + 1), x11, x12, x13, x14, x15, (holds_m (Rul.mk ([]) ((x10 : Nat) : Int) b) a), (fun qq => bif Nat.blt qq 24 then List.getD [.int .i64 ((x10 : Nat) : Int), .bool (decide (x10 ≤ 5)), .int .i64 ((x10 : Nat) : Int), .int .i64 (((x10 + 1) : Nat) : Int), .int .i64 ((x10 : Nat) : Int), .int .i64 ((x10 : Nat) : Int), .string (tx b), .agg #[.string (tx ([])), .int .i64 ((x10 : Nat) : Int), .string (tx b)], .string (tx a), .bool ((holds_m (Rul.mk ([]) ((x10 : Nat) : Int) b) a)), .pointer (some ⟨g6, 5, none⟩), .int .i64 ((x10 : Nat) : Int), .pointer (some ⟨g6, 5, none⟩), .bool true, .bool true, .int .i64 ((x10 : Nat) : Int), .bool false, .bool false, .int .i64 ((x10 : Nat) : Int), .bool true, .bool true, .bool true, undef, undef] qq undef else List.getD [.bool true, .bool true, .int .i64 ((x9 : Nat) : Int), .int .i64 (((x9 + 1) : Nat) : Int)] (qq - 24) undef), rfl, (by first | omega | (simp; omega) | (simp at *; omega)), (hi19.trans (show vrules_m_b0 a b (vrules_m_l0 a b k18) x9 x10 x11 x12 x13 x14 x15 x16 = vrules_m_l0 a b k18 ((x9 + 1), (x10 + 1), x11, x12, x13, x14, x15, (holds_m (Rul.mk ([]) ((x10 : Nat) : Int) b) a)) from by unfold vrules_m_b0; rw [if_pos hc36, if_neg hx41, if_neg hx49, if_neg hx57, if_neg hx65, if_neg hx73, if_pos hs85, if_neg hs86, if_pos hs87] <;> rfl)), (by first | omega | (simp; done) | (simp; omega) | (simp at *; omega)), rfl, hm83⟩ ?_)
      omega
    simp only [nz1, nz2, nz3]
    refine lvw 28 (.bool false) rfl rfl (run_pickf rfl rfl rfl) ?_
    simp only [nz1, nz2, nz3]
    refine lvw 29 (.bool false) rfl rfl (run_mv rfl rfl) ?_
    simp only [nz1, nz2, nz3]
    refine lvw 30 (.int .i64 ((x10 : Nat) : Int)) rfl rfl (run_mv rfl rfl) ?_
    simp only [nz1, nz2, nz3]
    refine lvw 31 (.bool (decide (x10 = 4))) rfl rfl (r_eql x10 4 rfl rfl rfl) ?_
    simp only [nz1, nz2, nz3]
    refine lvw 32 (.bool (decide (x10 = 4))) rfl rfl (run_pickf rfl rfl rfl) ?_
    simp only [nz1, nz2, nz3]
    refine lvw 33 (.bool (decide (x10 = 4))) rfl rfl (run_pick rfl rfl rfl) ?_
    simp only [nz1, nz2, nz3]
    refine wpList_nil ?_
    refine then_n (hK84 _ _ ?_)
    refine cond_d (x10 = 4) rfl (fun hc88 => ?_) (fun hc88 => ?_)
    rotate_left
    · refine wp_skip ?_
      refine blk_n ?_
      refine then_n (hK37 _ _ ?_)
      refine wp_region_lit ?_
      refine lvw 10 (.int .i64 ((x10 : Nat) : Int)) rfl rfl (run_mv rfl rfl) ?_
      simp only [nz1, nz2, nz3]
      refine lvw 11 (.int .i64 (((x10 + 1) : Nat) : Int)) rfl rfl (r_add x10 1 (show (x10 + 1) < 9223372036854775808 from by omega) rfl rfl rfl) ?_
      simp only [nz1, nz2, nz3]
      refine lvw 7 (.int .i64 (((x10 + 1) : Nat) : Int)) rfl rfl (run_as rfl rfl) ?_
      simp only [nz1, nz2, nz3]
      refine wpList_nil ?_
      refine then_n (hR31 _ _ _ ⟨k18, x9, (x10 + 1), x11, x12, x13, x14, x15, (holds_m (Rul.mk ([]) ((x10 : Nat) : Int) b) a), (fun qq => bif Nat.blt qq 24 then List.getD [.int .i64 ((x10 : Nat) : Int), .bool (decide (x10 ≤ 5)), .int .i64 ((x10 : Nat) : Int), .int .i64 (((x10 + 1) : Nat) : Int), .int .i64 ((x10 : Nat) : Int), .int .i64 ((x10 : Nat) : Int), .string (tx b), .agg #[.string (tx ([])), .int .i64 ((x10 : Nat) : Int), .string (tx b)], .string (tx a), .bool ((holds_m (Rul.mk ([]) ((x10 : Nat) : Int) b) a)), .pointer (some ⟨g6, 5, none⟩), .int .i64 ((x10 : Nat) : Int), .pointer (some ⟨g6, 5, none⟩), .bool true, .bool true, .int .i64 ((x10 : Nat) : Int), .bool false, .bool false, .int .i64 ((x10 : Nat) : Int), .bool false, .bool false, .bool false, .int .i64 ((x10 : Nat) : Int), .bool (decide (x10 = 4))] qq undef else List.getD [.bool (decide (x10 = 4)), .bool (decide (x10 = 4)), u0 26, u0 27] (qq - 24) undef), rfl, (by first | omega | (simp; omega) | (simp at *; omega)), (hi19.trans (show vrules_m_b0 a b (vrules_m_l0 a b k18) x9 x10 x11 x12 x13 x14 x15 x16 = vrules_m_l0 a b k18 (x9, (x10 + 1), x11, x12, x13, x14, x15, (holds_m (Rul.mk ([]) ((x10 : Nat) : Int) b) a)) from by unfold vrules_m_b0; rw [if_pos hc36, if_neg hx41, if_neg hx49, if_neg hx57, if_neg hx65, if_neg hx73, if_pos hs85, if_neg hs86, if_neg hs87, if_neg hc88] <;> rfl)), (by first | omega | (simp; done) | (simp; omega) | (simp at *; omega)), rfl, hm83⟩ ?_)
      omega
    refine wp_region_lit ?_
    refine lvw 34 (.int .i64 ((x9 : Nat) : Int)) rfl rfl (run_mv rfl rfl) ?_
    simp only [nz1, nz2, nz3]
    refine lvw 35 (.int .i64 (((x9 + 1) : Nat) : Int)) rfl rfl (r_add x9 1 (show (x9 + 1) < 9223372036854775808 from by omega) rfl rfl rfl) ?_
    simp only [nz1, nz2, nz3]
    refine lvw 5 (.int .i64 (((x9 + 1) : Nat) : Int)) rfl rfl (run_as rfl rfl) ?_
    simp only [nz1, nz2, nz3]
    refine wpList_nil ?_
    refine blk_n ?_
    refine then_n (hK37 _ _ ?_)
    refine wp_region_lit ?_
    refine lvw 10 (.int .i64 ((x10 : Nat) : Int)) rfl rfl (run_mv rfl rfl) ?_
    simp only [nz1, nz2, nz3]
    refine lvw 11 (.int .i64 (((x10 + 1) : Nat) : Int)) rfl rfl (r_add x10 1 (show (x10 + 1) < 9223372036854775808 from by omega) rfl rfl rfl) ?_
    simp only [nz1, nz2, nz3]
    refine lvw 7 (.int .i64 (((x10 + 1) : Nat) : Int)) rfl rfl (run_as rfl rfl) ?_
    simp only [nz1, nz2, nz3]
    refine wpList_nil ?_
    refine then_n (hR31 _ _ _ ⟨k18, (x9 + 1), (x10 + 1), x11, x12, x13, x14, x15, (holds_m (Rul.mk ([]) ((x10 : Nat) : Int) b) a), (fun qq => bif Nat.blt qq 24 then List.getD [.int .i64 ((x10 : Nat) : Int), .bool (decide (x10 ≤ 5)), .int .i64 ((x10 : Nat) : Int), .int .i64 (((x10 + 1) : Nat) : Int), .int .i64 ((x10 : Nat) : Int), .int .i64 ((x10 : Nat) : Int), .string (tx b), .agg #[.string (tx ([])), .int .i64 ((x10 : Nat) : Int), .string (tx b)], .string (tx a), .bool ((holds_m (Rul.mk ([]) ((x10 : Nat) : Int) b) a)), .pointer (some ⟨g6, 5, none⟩), .int .i64 ((x10 : Nat) : Int), .pointer (some ⟨g6, 5, none⟩), .bool true, .bool true, .int .i64 ((x10 : Nat) : Int), .bool false, .bool false, .int .i64 ((x10 : Nat) : Int), .bool false, .bool false, .bool false, .int .i64 ((x10 : Nat) : Int), .bool (decide (x10 = 4))] qq undef else List.getD [.bool (decide (x10 = 4)), .bool (decide (x10 = 4)), .int .i64 ((x9 : Nat) : Int), .int .i64 (((x9 + 1) : Nat) : Int)] (qq - 24) undef), rfl, (by first | omega | (simp; omega) | (simp at *; omega)), (hi19.trans (show vrules_m_b0 a b (vrules_m_l0 a b k18) x9 x10 x11 x12 x13 x14 x15 x16 = vrules_m_l0 a b k18 ((x9 + 1), (x10 + 1), x11, x12, x13, x14, x15, (holds_m (Rul.mk ([]) ((x10 : Nat) : Int) b) a)) from by unfold vrules_m_b0; rw [if_pos hc36, if_neg hx41, if_neg hx49, if_neg hx57, if_neg hx65, if_neg hx73, if_pos hs85, if_neg hs86, if_neg hs87, if_pos hc88] <;> rfl)), (by first | omega | (simp; done) | (simp; omega) | (simp at *; omega)), rfl, hm83⟩ ?_)
    omega
  rintro _ w89 ⟨y20, y21, y22, y23, y24, y25, y26, y27, yu0, hx28, hru, rfl, hm90⟩
  have hq91 : vrules_m a b = vrules_m_k0 a b y20 y21 y22 y23 y24 y25 y26 y27 := (show vrules_m a b = vrules_m_k0 a b y20 y21 y22 y23 y24 y25 y26 y27 from by unfold vrules_m; rw [hx28] <;> rfl)
  refine then_n (hK7 _ _ ?_)
  refine wp_seq_k (fun K92 hK92 => ?_)
  refine wp_region_lit ?_
  refine lst rfl (m_call hm90 36 (.bool (vawake_m)) rfl (run_vawake rfl) (vawake_any   _  ) (fun w93 (hm94 : Mm none (fun _ => True) w w93 [.blk g6 #[.bool (y22), .bool (y23), .bool (y24), .bool (y25), .bool (y26), .bool (y27)] 41]) => ?_))
  simp only [nz1, nz2, nz3]
  by_cases hs95 : vawake_m = true
  rotate_left
  · rw [(Bool.eq_false_iff.2 hs95 : vawake_m = false)]
    refine lvw 37 (.bool false) rfl rfl (run_mv rfl rfl) ?_
    simp only [nz1, nz2, nz3]
    refine lst_skip 38 rfl rfl ?_
    simp only [nz1, nz2, nz3]
    refine lst_skip 39 rfl rfl ?_
    simp only [nz1, nz2, nz3]
    refine lvw 40 (.bool false) rfl rfl (run_pickf rfl rfl rfl) ?_
    simp only [nz1, nz2, nz3]
    refine lvw 41 (.bool false) rfl rfl (run_mv rfl rfl) ?_
    simp only [nz1, nz2, nz3]
    refine lst_skip 42 rfl rfl ?_
    simp only [nz1, nz2, nz3]
    refine lst_skip 43 rfl rfl ?_
    simp only [nz1, nz2, nz3]
    refine lvw 44 (.bool false) rfl rfl (run_pickf rfl rfl rfl) ?_
    simp only [nz1, nz2, nz3]
    refine lvw 45 (.bool false) rfl rfl (run_mv rfl rfl) ?_
    simp only [nz1, nz2, nz3]
    refine lst_skip 46 rfl rfl ?_
    simp only [nz1, nz2, nz3]
    refine lst_skip 47 rfl rfl ?_
    simp only [nz1, nz2, nz3]
    refine lst_skip 48 rfl rfl ?_
    simp only [nz1, nz2, nz3]
    refine lst_skip 49 rfl rfl ?_
    simp only [nz1, nz2, nz3]
    refine lst_skip 50 rfl rfl ?_
    simp only [nz1, nz2, nz3]
    refine lst_skip 51 rfl rfl ?_
    simp only [nz1, nz2, nz3]
    refine lst_skip 52 rfl rfl ?_
    simp only [nz1, nz2, nz3]
    refine lst_skip 53 rfl rfl ?_
    simp only [nz1, nz2, nz3]
    refine lst_skip 54 rfl rfl ?_
    simp only [nz1, nz2, nz3]
    refine lvw 55 (.bool false) rfl rfl (run_pickf rfl rfl rfl) ?_
    simp only [nz1, nz2, nz3]
    refine lvw 56 (.bool false) rfl rfl (run_mv rfl rfl) ?_
    simp only [nz1, nz2, nz3]
    refine lst_skip 57 rfl rfl ?_
    simp only [nz1, nz2, nz3]
    refine lst_skip 58 rfl rfl ?_
    simp only [nz1, nz2, nz3]
    refine lst_skip 59 rfl rfl ?_
    simp only [nz1, nz2, nz3]
    refine lst_skip 60 rfl rfl ?_
    simp only [nz1, nz2, nz3]
    refine lst_skip 61 rfl rfl ?_
    simp only [nz1, nz2, nz3]
    refine lst_skip 62 rfl rfl ?_
    simp only [nz1, nz2, nz3]
    refine lst_skip 63 rfl rfl ?_
    simp only [nz1, nz2, nz3]
    refine lst_skip 64 rfl rfl ?_
    simp only [nz1, nz2, nz3]
    refine lst_skip 65 rfl rfl ?_
    simp only [nz1, nz2, nz3]
    refine lvw 66 (.bool false) rfl rfl (run_pickf rfl rfl rfl) ?_
    simp only [nz1, nz2, nz3]
    refine lvw 4 (.bool false) rfl rfl (run_as rfl rfl) ?_
    simp only [nz1, nz2, nz3]
    refine wpList_nil ?_
    refine then_n (hK92 _ _ ?_)
    refine wp_ret ?_
    have he111 : vrules_m a b = false := (hq91.trans (show vrules_m_k0 a b y20 y21 y22 y23 y24 y25 y26 y27 = false from by unfold vrules_m_k0; rw [if_neg hs95] <;> rfl))
    exact ⟨rfl, .bool false, res_t rfl rfl, ⟨by rw [he111], hm94.below⟩⟩
  rw [(hs95 : vawake_m = true)]
  refine lvw 37 (.bool true) rfl rfl (run_mv rfl rfl) ?_
  simp only [nz1, nz2, nz3]
  refine lvw 38 (.int .i64 ((y20 : Nat) : Int)) rfl rfl (run_mv rfl rfl) ?_
  simp only [nz1, nz2, nz3]
  refine lvb 39 (y20 = 1) rfl rfl (r_eql y20 1 rfl rfl rfl) (fun hs96 => ?_) (fun hs96 => ?_)
  rotate_left
  · simp only [nz1, nz2, nz3]
    refine lvw 40 (.bool false) rfl rfl (run_pick rfl rfl rfl) ?_
    simp only [nz1, nz2, nz3]
    refine lvw 41 (.bool false) rfl rfl (run_mv rfl rfl) ?_
    simp only [nz1, nz2, nz3]
    refine lst_skip 42 rfl rfl ?_
    simp only [nz1, nz2, nz3]
    refine lst_skip 43 rfl rfl ?_
    simp only [nz1, nz2, nz3]
    refine lvw 44 (.bool false) rfl rfl (run_pickf rfl rfl rfl) ?_
    simp only [nz1, nz2, nz3]
    refine lvw 45 (.bool false) rfl rfl (run_mv rfl rfl) ?_
    simp only [nz1, nz2, nz3]
    refine lst_skip 46 rfl rfl ?_
    simp only [nz1, nz2, nz3]
    refine lst_skip 47 rfl rfl ?_
    simp only [nz1, nz2, nz3]
    refine lst_skip 48 rfl rfl ?_
    simp only [nz1, nz2, nz3]
    refine lst_skip 49 rfl rfl ?_
    simp only [nz1, nz2, nz3]
    refine lst_skip 50 rfl rfl ?_
    simp only [nz1, nz2, nz3]
    refine lst_skip 51 rfl rfl ?_
    simp only [nz1, nz2, nz3]
    refine lst_skip 52 rfl rfl ?_
    simp only [nz1, nz2, nz3]
    refine lst_skip 53 rfl rfl ?_
    simp only [nz1, nz2, nz3]
    refine lst_skip 54 rfl rfl ?_
    simp only [nz1, nz2, nz3]
    refine lvw 55 (.bool false) rfl rfl (run_pickf rfl rfl rfl) ?_
    simp only [nz1, nz2, nz3]
    refine lvw 56 (.bool false) rfl rfl (run_mv rfl rfl) ?_
    simp only [nz1, nz2, nz3]
    refine lst_skip 57 rfl rfl ?_
    simp only [nz1, nz2, nz3]
    refine lst_skip 58 rfl rfl ?_
    simp only [nz1, nz2, nz3]
    refine lst_skip 59 rfl rfl ?_
    simp only [nz1, nz2, nz3]
    refine lst_skip 60 rfl rfl ?_
    simp only [nz1, nz2, nz3]
    refine lst_skip 61 rfl rfl ?_
    simp only [nz1, nz2, nz3]
    refine lst_skip 62 rfl rfl ?_
    simp only [nz1, nz2, nz3]
    refine lst_skip 63 rfl rfl ?_
    simp only [nz1, nz2, nz3]
    refine lst_skip 64 rfl rfl ?_
    simp only [nz1, nz2, nz3]
    refine lst_skip 65 rfl rfl ?_
    simp only [nz1, nz2, nz3]
    refine lvw 66 (.bool false) rfl rfl (run_pickf rfl rfl rfl) ?_
    simp only [nz1, nz2, nz3]
    refine lvw 4 (.bool false) rfl rfl (run_as rfl rfl) ?_
    simp only [nz1, nz2, nz3]
    refine wpList_nil ?_
    refine then_n (hK92 _ _ ?_)
    refine wp_ret ?_
    have he110 : vrules_m a b = false := (hq91.trans (show vrules_m_k0 a b y20 y21 y22 y23 y24 y25 y26 y27 = false from by unfold vrules_m_k0; rw [if_pos hs95, if_neg hs96] <;> rfl))
    exact ⟨rfl, .bool false, res_t rfl rfl, ⟨by rw [he110], hm94.below⟩⟩
  simp only [nz1, nz2, nz3]
  refine lvw 40 (.bool true) rfl rfl (run_pick rfl rfl rfl) ?_
  simp only [nz1, nz2, nz3]
  refine lvw 41 (.bool true) rfl rfl (run_mv rfl rfl) ?_
  simp only [nz1, nz2, nz3]
  refine lvw 42 (.pointer (some ⟨g6, 0, none⟩)) rfl rfl (Sx.r_ix g6 0 (by decide) Tryd.underlying41 sz_4 rfl rfl rfl) ?_
  simp only [nz1, nz2, nz3]
  refine lvB 43 y22 rfl rfl (r_load (hm94.at 0 rfl) rfl Tryd.underlying4 rfl rfl rfl) (fun hs97 => ?_) (fun hs97 => ?_)
  rotate_left
  · simp only [nz1, nz2, nz3]
    refine lvw 44 (.bool false) rfl rfl (run_pick rfl rfl rfl) ?_
    simp only [nz1, nz2, nz3]
    refine lvw 45 (.bool false) rfl rfl (run_mv rfl rfl) ?_
    simp only [nz1, nz2, nz3]
    refine lst_skip 46 rfl rfl ?_
    simp only [nz1, nz2, nz3]
    refine lst_skip 47 rfl rfl ?_
    simp only [nz1, nz2, nz3]
    refine lst_skip 48 rfl rfl ?_
    simp only [nz1, nz2, nz3]
    refine lst_skip 49 rfl rfl ?_
    simp only [nz1, nz2, nz3]
    refine lst_skip 50 rfl rfl ?_
    simp only [nz1, nz2, nz3]
    refine lst_skip 51 rfl rfl ?_
    simp only [nz1, nz2, nz3]
    refine lst_skip 52 rfl rfl ?_
    simp only [nz1, nz2, nz3]
    refine lst_skip 53 rfl rfl ?_
    simp only [nz1, nz2, nz3]
    refine lst_skip 54 rfl rfl ?_
    simp only [nz1, nz2, nz3]
    refine lvw 55 (.bool false) rfl rfl (run_pickf rfl rfl rfl) ?_
    simp only [nz1, nz2, nz3]
    refine lvw 56 (.bool false) rfl rfl (run_mv rfl rfl) ?_
    simp only [nz1, nz2, nz3]
    refine lst_skip 57 rfl rfl ?_
    simp only [nz1, nz2, nz3]
    refine lst_skip 58 rfl rfl ?_
    simp only [nz1, nz2, nz3]
    refine lst_skip 59 rfl rfl ?_
    simp only [nz1, nz2, nz3]
    refine lst_skip 60 rfl rfl ?_
    simp only [nz1, nz2, nz3]
    refine lst_skip 61 rfl rfl ?_
    simp only [nz1, nz2, nz3]
    refine lst_skip 62 rfl rfl ?_
    simp only [nz1, nz2, nz3]
    refine lst_skip 63 rfl rfl ?_
    simp only [nz1, nz2, nz3]
    refine lst_skip 64 rfl rfl ?_
    simp only [nz1, nz2, nz3]
    refine lst_skip 65 rfl rfl ?_
    simp only [nz1, nz2, nz3]
    refine lvw 66 (.bool false) rfl rfl (run_pickf rfl rfl rfl) ?_
    simp only [nz1, nz2, nz3]
    refine lvw 4 (.bool false) rfl rfl (run_as rfl rfl) ?_
    simp only [nz1, nz2, nz3]
    refine wpList_nil ?_
    refine then_n (hK92 _ _ ?_)
    refine wp_ret ?_
    have he109 : vrules_m a b = false := (hq91.trans (show vrules_m_k0 a b y20 y21 y22 y23 y24 y25 y26 y27 = false from by unfold vrules_m_k0; rw [if_pos hs95, if_pos hs96, if_neg hs97] <;> rfl))
    exact ⟨rfl, .bool false, res_t rfl rfl, ⟨by rw [he109], hm94.below⟩⟩
  simp only [nz1, nz2, nz3]
  refine lvw 44 (.bool true) rfl rfl (run_pick rfl rfl rfl) ?_
  simp only [nz1, nz2, nz3]
  refine lvw 45 (.bool true) rfl rfl (run_mv rfl rfl) ?_
  simp only [nz1, nz2, nz3]
  refine lvw 46 (.pointer (some ⟨g6, 3, none⟩)) rfl rfl (Sx.r_ix g6 3 (by decide) Tryd.underlying41 sz_4 rfl rfl rfl) ?_
  simp only [nz1, nz2, nz3]
  refine lvw 47 (.bool (y25)) rfl rfl (r_load (hm94.at 0 rfl) rfl Tryd.underlying4 rfl rfl rfl) ?_
  simp only [nz1, nz2, nz3]
  refine lvw 48 (.pointer (some ⟨g6, 2, none⟩)) rfl rfl (Sx.r_ix g6 2 (by decide) Tryd.underlying41 sz_4 rfl rfl rfl) ?_
  simp only [nz1, nz2, nz3]
  refine lvB 49 y24 rfl rfl (r_load (hm94.at 0 rfl) rfl Tryd.underlying4 rfl rfl rfl) (fun hs98 => ?_) (fun hs98 => ?_)
  · simp only [nz1, nz2, nz3]
    refine lvw 50 (.bool true) rfl rfl (run_mv rfl rfl) ?_
    simp only [nz1, nz2, nz3]
    refine lst_skip 51 rfl rfl ?_
    simp only [nz1, nz2, nz3]
    refine lst_skip 52 rfl rfl ?_
    simp only [nz1, nz2, nz3]
    refine lvw 53 (.bool true) rfl rfl (run_pick rfl rfl rfl) ?_
    simp only [nz1, nz2, nz3]
    refine lvB 54 (y25 == true) rfl rfl (b_eql y25 true rfl rfl rfl) (fun hs99 => ?_) (fun hs99 => ?_)
    rotate_left
    · simp only [nz1, nz2, nz3]
      refine lvw 55 (.bool false) rfl rfl (run_pick rfl rfl rfl) ?_
      simp only [nz1, nz2, nz3]
      refine lvw 56 (.bool false) rfl rfl (run_mv rfl rfl) ?_
      simp only [nz1, nz2, nz3]
      refine lst_skip 57 rfl rfl ?_
      simp only [nz1, nz2, nz3]
      refine lst_skip 58 rfl rfl ?_
      simp only [nz1, nz2, nz3]
      refine lst_skip 59 rfl rfl ?_
      simp only [nz1, nz2, nz3]
      refine lst_skip 60 rfl rfl ?_
      simp only [nz1, nz2, nz3]
      refine lst_skip 61 rfl rfl ?_
      simp only [nz1, nz2, nz3]
      refine lst_skip 62 rfl rfl ?_
      simp only [nz1, nz2, nz3]
      refine lst_skip 63 rfl rfl ?_
      simp only [nz1, nz2, nz3]
      refine lst_skip 64 rfl rfl ?_
      simp only [nz1, nz2, nz3]
      refine lst_skip 65 rfl rfl ?_
      simp only [nz1, nz2, nz3]
      refine lvw 66 (.bool false) rfl rfl (run_pickf rfl rfl rfl) ?_
      simp only [nz1, nz2, nz3]
      refine lvw 4 (.bool false) rfl rfl (run_as rfl rfl) ?_
      simp only [nz1, nz2, nz3]
      refine wpList_nil ?_
      refine then_n (hK92 _ _ ?_)
      refine wp_ret ?_
      have he103 : vrules_m a b = false := (hq91.trans (show vrules_m_k0 a b y20 y21 y22 y23 y24 y25 y26 y27 = false from by unfold vrules_m_k0; rw [if_pos hs95, if_pos hs96, if_pos hs97, if_pos hs98, if_neg hs99] <;> rfl))
      exact ⟨rfl, .bool false, res_t rfl rfl, ⟨by rw [he103], hm94.below⟩⟩
    simp only [nz1, nz2, nz3]
    refine lvw 55 (.bool true) rfl rfl (run_pick rfl rfl rfl) ?_
    simp only [nz1, nz2, nz3]
    refine lvw 56 (.bool true) rfl rfl (run_mv rfl rfl) ?_
    simp only [nz1, nz2, nz3]
    refine lvw 57 (.pointer (some ⟨g6, 5, none⟩)) rfl rfl (Sx.r_ix g6 5 (by decide) Tryd.underlying41 sz_4 rfl rfl rfl) ?_
    simp only [nz1, nz2, nz3]
    refine lvw 58 (.bool (y27)) rfl rfl (r_load (hm94.at 0 rfl) rfl Tryd.underlying4 rfl rfl rfl) ?_
    simp only [nz1, nz2, nz3]
    refine lvw 59 (.pointer (some ⟨g6, 4, none⟩)) rfl rfl (Sx.r_ix g6 4 (by decide) Tryd.underlying41 sz_4 rfl rfl rfl) ?_
    simp only [nz1, nz2, nz3]
    refine lvB 60 y26 rfl rfl (r_load (hm94.at 0 rfl) rfl Tryd.underlying4 rfl rfl rfl) (fun hs100 => ?_) (fun hs100 => ?_)
    · simp only [nz1, nz2, nz3]
      refine lvw 61 (.bool true) rfl rfl (run_mv rfl rfl) ?_
      simp only [nz1, nz2, nz3]
      refine lst_skip 62 rfl rfl ?_
      simp only [nz1, nz2, nz3]
      refine lst_skip 63 rfl rfl ?_
      simp only [nz1, nz2, nz3]
      refine lvw 64 (.bool true) rfl rfl (run_pick rfl rfl rfl) ?_
      simp only [nz1, nz2, nz3]
      refine lvw 65 (.bool (y27 == true)) rfl rfl (b_eql y27 true rfl rfl rfl) ?_
      simp only [nz1, nz2, nz3]
      refine lvw 66 (.bool (y27 == true)) rfl rfl (run_pick rfl rfl rfl) ?_
      simp only [nz1, nz2, nz3]
      refine lvw 4 (.bool (y27 == true)) rfl rfl (run_as rfl rfl) ?_
      simp only [nz1, nz2, nz3]
      refine wpList_nil ?_
      refine then_n (hK92 _ _ ?_)
      refine wp_ret ?_
      have he101 : vrules_m a b = (y27 == true) := (hq91.trans (show vrules_m_k0 a b y20 y21 y22 y23 y24 y25 y26 y27 = (y27 == true) from by unfold vrules_m_k0; rw [if_pos hs95, if_pos hs96, if_pos hs97, if_pos hs98, if_pos hs99, if_pos hs100] <;> rfl))
      exact ⟨rfl, .bool (y27 == true), res_t rfl rfl, ⟨by rw [he101], hm94.below⟩⟩
    simp only [nz1, nz2, nz3]
    refine lvw 61 (.bool false) rfl rfl (run_mv rfl rfl) ?_
    simp only [nz1, nz2, nz3]
    refine lvw 62 (.pointer (some ⟨g6, 1, none⟩)) rfl rfl (Sx.r_ix g6 1 (by decide) Tryd.underlying41 sz_4 rfl rfl rfl) ?_
    simp only [nz1, nz2, nz3]
    refine lvw 63 (.bool (y23)) rfl rfl (r_load (hm94.at 0 rfl) rfl Tryd.underlying4 rfl rfl rfl) ?_
    simp only [nz1, nz2, nz3]
    refine lvw 64 (.bool (y23)) rfl rfl (run_pickf rfl rfl rfl) ?_
    simp only [nz1, nz2, nz3]
    refine lvw 65 (.bool (y27 == y23)) rfl rfl (b_eql y27 y23 rfl rfl rfl) ?_
    simp only [nz1, nz2, nz3]
    refine lvw 66 (.bool (y27 == y23)) rfl rfl (run_pick rfl rfl rfl) ?_
    simp only [nz1, nz2, nz3]
    refine lvw 4 (.bool (y27 == y23)) rfl rfl (run_as rfl rfl) ?_
    simp only [nz1, nz2, nz3]
    refine wpList_nil ?_
    refine then_n (hK92 _ _ ?_)
    refine wp_ret ?_
    have he102 : vrules_m a b = (y27 == y23) := (hq91.trans (show vrules_m_k0 a b y20 y21 y22 y23 y24 y25 y26 y27 = (y27 == y23) from by unfold vrules_m_k0; rw [if_pos hs95, if_pos hs96, if_pos hs97, if_pos hs98, if_pos hs99, if_neg hs100] <;> rfl))
    exact ⟨rfl, .bool (y27 == y23), res_t rfl rfl, ⟨by rw [he102], hm94.below⟩⟩
  simp only [nz1, nz2, nz3]
  refine lvw 50 (.bool false) rfl rfl (run_mv rfl rfl) ?_
  simp only [nz1, nz2, nz3]
  refine lvw 51 (.pointer (some ⟨g6, 1, none⟩)) rfl rfl (Sx.r_ix g6 1 (by decide) Tryd.underlying41 sz_4 rfl rfl rfl) ?_
  simp only [nz1, nz2, nz3]
  refine lvw 52 (.bool (y23)) rfl rfl (r_load (hm94.at 0 rfl) rfl Tryd.underlying4 rfl rfl rfl) ?_
  simp only [nz1, nz2, nz3]
  refine lvw 53 (.bool (y23)) rfl rfl (run_pickf rfl rfl rfl) ?_
  simp only [nz1, nz2, nz3]
  refine lvB 54 (y25 == y23) rfl rfl (b_eql y25 y23 rfl rfl rfl) (fun hs104 => ?_) (fun hs104 => ?_)
  rotate_left
  · simp only [nz1, nz2, nz3]
    refine lvw 55 (.bool false) rfl rfl (run_pick rfl rfl rfl) ?_
    simp only [nz1, nz2, nz3]
    refine lvw 56 (.bool false) rfl rfl (run_mv rfl rfl) ?_
    simp only [nz1, nz2, nz3]
    refine lst_skip 57 rfl rfl ?_
    simp only [nz1, nz2, nz3]
    refine lst_skip 58 rfl rfl ?_
    simp only [nz1, nz2, nz3]
    refine lst_skip 59 rfl rfl ?_
    simp only [nz1, nz2, nz3]
    refine lst_skip 60 rfl rfl ?_
    simp only [nz1, nz2, nz3]
    refine lst_skip 61 rfl rfl ?_
    simp only [nz1, nz2, nz3]
    refine lst_skip 62 rfl rfl ?_
    simp only [nz1, nz2, nz3]
    refine lst_skip 63 rfl rfl ?_
    simp only [nz1, nz2, nz3]
    refine lst_skip 64 rfl rfl ?_
    simp only [nz1, nz2, nz3]
    refine lst_skip 65 rfl rfl ?_
    simp only [nz1, nz2, nz3]
    refine lvw 66 (.bool false) rfl rfl (run_pickf rfl rfl rfl) ?_
    simp only [nz1, nz2, nz3]
    refine lvw 4 (.bool false) rfl rfl (run_as rfl rfl) ?_
    simp only [nz1, nz2, nz3]
    refine wpList_nil ?_
    refine then_n (hK92 _ _ ?_)
    refine wp_ret ?_
    have he108 : vrules_m a b = false := (hq91.trans (show vrules_m_k0 a b y20 y21 y22 y23 y24 y25 y26 y27 = false from by unfold vrules_m_k0; rw [if_pos hs95, if_pos hs96, if_pos hs97, if_neg hs98, if_neg hs104] <;> rfl))
    exact ⟨rfl, .bool false, res_t rfl rfl, ⟨by rw [he108], hm94.below⟩⟩
  simp only [nz1, nz2, nz3]
  refine lvw 55 (.bool true) rfl rfl (run_pick rfl rfl rfl) ?_
  simp only [nz1, nz2, nz3]
  refine lvw 56 (.bool true) rfl rfl (run_mv rfl rfl) ?_
  simp only [nz1, nz2, nz3]
  refine lvw 57 (.pointer (some ⟨g6, 5, none⟩)) rfl rfl (Sx.r_ix g6 5 (by decide) Tryd.underlying41 sz_4 rfl rfl rfl) ?_
  simp only [nz1, nz2, nz3]
  refine lvw 58 (.bool (y27)) rfl rfl (r_load (hm94.at 0 rfl) rfl Tryd.underlying4 rfl rfl rfl) ?_
  simp only [nz1, nz2, nz3]
  refine lvw 59 (.pointer (some ⟨g6, 4, none⟩)) rfl rfl (Sx.r_ix g6 4 (by decide) Tryd.underlying41 sz_4 rfl rfl rfl) ?_
  simp only [nz1, nz2, nz3]
  refine lvB 60 y26 rfl rfl (r_load (hm94.at 0 rfl) rfl Tryd.underlying4 rfl rfl rfl) (fun hs105 => ?_) (fun hs105 => ?_)
  · simp only [nz1, nz2, nz3]
    refine lvw 61 (.bool true) rfl rfl (run_mv rfl rfl) ?_
    simp only [nz1, nz2, nz3]
    refine lst_skip 62 rfl rfl ?_
    simp only [nz1, nz2, nz3]
    refine lst_skip 63 rfl rfl ?_
    simp only [nz1, nz2, nz3]
    refine lvw 64 (.bool true) rfl rfl (run_pick rfl rfl rfl) ?_
    simp only [nz1, nz2, nz3]
    refine lvw 65 (.bool (y27 == true)) rfl rfl (b_eql y27 true rfl rfl rfl) ?_
    simp only [nz1, nz2, nz3]
    refine lvw 66 (.bool (y27 == true)) rfl rfl (run_pick rfl rfl rfl) ?_
    simp only [nz1, nz2, nz3]
    refine lvw 4 (.bool (y27 == true)) rfl rfl (run_as rfl rfl) ?_
    simp only [nz1, nz2, nz3]
    refine wpList_nil ?_
    refine then_n (hK92 _ _ ?_)
    refine wp_ret ?_
    have he106 : vrules_m a b = (y27 == true) := (hq91.trans (show vrules_m_k0 a b y20 y21 y22 y23 y24 y25 y26 y27 = (y27 == true) from by unfold vrules_m_k0; rw [if_pos hs95, if_pos hs96, if_pos hs97, if_neg hs98, if_pos hs104, if_pos hs105] <;> rfl))
    exact ⟨rfl, .bool (y27 == true), res_t rfl rfl, ⟨by rw [he106], hm94.below⟩⟩
  simp only [nz1, nz2, nz3]
  refine lvw 61 (.bool false) rfl rfl (run_mv rfl rfl) ?_
  simp only [nz1, nz2, nz3]
  refine lvw 62 (.pointer (some ⟨g6, 1, none⟩)) rfl rfl (Sx.r_ix g6 1 (by decide) Tryd.underlying41 sz_4 rfl rfl rfl) ?_
  simp only [nz1, nz2, nz3]
  refine lvw 63 (.bool (y23)) rfl rfl (r_load (hm94.at 0 rfl) rfl Tryd.underlying4 rfl rfl rfl) ?_
  simp only [nz1, nz2, nz3]
  refine lvw 64 (.bool (y23)) rfl rfl (run_pickf rfl rfl rfl) ?_
  simp only [nz1, nz2, nz3]
  refine lvw 65 (.bool (y27 == y23)) rfl rfl (b_eql y27 y23 rfl rfl rfl) ?_
  simp only [nz1, nz2, nz3]
  refine lvw 66 (.bool (y27 == y23)) rfl rfl (run_pick rfl rfl rfl) ?_
  simp only [nz1, nz2, nz3]
  refine lvw 4 (.bool (y27 == y23)) rfl rfl (run_as rfl rfl) ?_
  simp only [nz1, nz2, nz3]
  refine wpList_nil ?_
  refine then_n (hK92 _ _ ?_)
  refine wp_ret ?_
  have he107 : vrules_m a b = (y27 == y23) := (hq91.trans (show vrules_m_k0 a b y20 y21 y22 y23 y24 y25 y26 y27 = (y27 == y23) from by unfold vrules_m_k0; rw [if_pos hs95, if_pos hs96, if_pos hs97, if_neg hs98, if_pos hs104, if_neg hs105] <;> rfl))
  exact ⟨rfl, .bool (y27 == y23), res_t rfl rfl, ⟨by rw [he107], hm94.below⟩⟩
theorem run_vrules {o : Oper} {a : Act} {w : World} {x0 x1 : Operand} {v0 v1 : Value} (ho : o.op = .call { callee := .value (.func 12), args := #[x0, x1], argTypes := #[9, 9] }) (h0 : a.eval x0 = v0) (h1 : a.eval x1 = v1) :
    (execOp a.eval o).run Tryd.prog w = .ok (.enter 12 #[v0, v1]) w := by
  unfold execOp
  simp only [ho]
  have hf : a.eval (.func 12) = .func (.func 12) #[] #[] := rfl
  generalize a.eval = f at *
  go_simp
def vnumbers_m_j1 (l : A45) (m : A45) : Sum (Int) (Bool) :=
  if l.i1 < m.i1 then
    .inl (-1)
  else
    if m.i0 < l.i0 then
      .inl 1
    else
      if l.i0 = m.i0 then
        if m.i1 < l.i1 then
          .inl 1
        else
          .inl 0
      else
        .inl 0

def vnumbers_m_c1 (l : A45) (m : A45) (x47 : Int) : Bool :=
  if vawake_m = true then
    if (compare_m (((ldigits_m ((l.i0 : Nat) : Int)) ++ [46]) ++ (ldigits_m ((l.i1 : Nat) : Int))) (((ldigits_m ((m.i0 : Nat) : Int)) ++ [46]) ++ (ldigits_m ((m.i1 : Nat) : Int)))) = x47 then
      if (compare_m ([48] ++ (((ldigits_m ((l.i0 : Nat) : Int)) ++ [46]) ++ (ldigits_m ((l.i1 : Nat) : Int)))) (((ldigits_m ((m.i0 : Nat) : Int)) ++ [46]) ++ (ldigits_m ((m.i1 : Nat) : Int)))) = x47 then
        (check_m (((ldigits_m ((l.i0 : Nat) : Int)) ++ [46]) ++ (ldigits_m ((l.i1 : Nat) : Int))))
      else
        false
    else
      false
  else
    false

def vnumbers_m_j2 (l : A45) (m : A45) : Sum (Nat) (Bool) :=
  if m.i1 < l.i1 then
    .inl 1
  else
    .inl 0

def vnumbers_m_c2 (l : A45) (m : A45) (x96 : Nat) : Bool :=
  if vawake_m = true then
    if (compare_m (((ldigits_m ((l.i0 : Nat) : Int)) ++ [46]) ++ (ldigits_m ((l.i1 : Nat) : Int))) (((ldigits_m ((m.i0 : Nat) : Int)) ++ [46]) ++ (ldigits_m ((m.i1 : Nat) : Int)))) = ((x96 : Nat) : Int) then
      if (compare_m ([48] ++ (((ldigits_m ((l.i0 : Nat) : Int)) ++ [46]) ++ (ldigits_m ((l.i1 : Nat) : Int)))) (((ldigits_m ((m.i0 : Nat) : Int)) ++ [46]) ++ (ldigits_m ((m.i1 : Nat) : Int)))) = ((x96 : Nat) : Int) then
        (check_m (((ldigits_m ((l.i0 : Nat) : Int)) ++ [46]) ++ (ldigits_m ((l.i1 : Nat) : Int))))
      else
        false
    else
      false
  else
    false

def vnumbers_m (l : A45) (m : A45) : Bool :=
  if l.i0 < m.i0 then
    if vawake_m = true then
      if (compare_m (((ldigits_m ((l.i0 : Nat) : Int)) ++ [46]) ++ (ldigits_m ((l.i1 : Nat) : Int))) (((ldigits_m ((m.i0 : Nat) : Int)) ++ [46]) ++ (ldigits_m ((m.i1 : Nat) : Int)))) = -1 then
        if (compare_m ([48] ++ (((ldigits_m ((l.i0 : Nat) : Int)) ++ [46]) ++ (ldigits_m ((l.i1 : Nat) : Int)))) (((ldigits_m ((m.i0 : Nat) : Int)) ++ [46]) ++ (ldigits_m ((m.i1 : Nat) : Int)))) = -1 then
          (check_m (((ldigits_m ((l.i0 : Nat) : Int)) ++ [46]) ++ (ldigits_m ((l.i1 : Nat) : Int))))
        else
          false
      else
        false
    else
      false
  else
    if l.i0 = m.i0 then
      fin (vnumbers_m_j1 l m) (fun r => r) (fun zz => vnumbers_m_c1 l m zz)
    else
      if m.i0 < l.i0 then
        if vawake_m = true then
          if (compare_m (((ldigits_m ((l.i0 : Nat) : Int)) ++ [46]) ++ (ldigits_m ((l.i1 : Nat) : Int))) (((ldigits_m ((m.i0 : Nat) : Int)) ++ [46]) ++ (ldigits_m ((m.i1 : Nat) : Int)))) = 1 then
            if (compare_m ([48] ++ (((ldigits_m ((l.i0 : Nat) : Int)) ++ [46]) ++ (ldigits_m ((l.i1 : Nat) : Int)))) (((ldigits_m ((m.i0 : Nat) : Int)) ++ [46]) ++ (ldigits_m ((m.i1 : Nat) : Int)))) = 1 then
              (check_m (((ldigits_m ((l.i0 : Nat) : Int)) ++ [46]) ++ (ldigits_m ((l.i1 : Nat) : Int))))
            else
              false
          else
            false
        else
          false
      else
        if l.i0 = m.i0 then
          fin (vnumbers_m_j2 l m) (fun r => r) (fun zz => vnumbers_m_c2 l m zz)
        else
          if vawake_m = true then
            if (compare_m (((ldigits_m ((l.i0 : Nat) : Int)) ++ [46]) ++ (ldigits_m ((l.i1 : Nat) : Int))) (((ldigits_m ((m.i0 : Nat) : Int)) ++ [46]) ++ (ldigits_m ((m.i1 : Nat) : Int)))) = 0 then
              if (compare_m ([48] ++ (((ldigits_m ((l.i0 : Nat) : Int)) ++ [46]) ++ (ldigits_m ((l.i1 : Nat) : Int)))) (((ldigits_m ((m.i0 : Nat) : Int)) ++ [46]) ++ (ldigits_m ((m.i1 : Nat) : Int)))) = 0 then
                (check_m (((ldigits_m ((l.i0 : Nat) : Int)) ++ [46]) ++ (ldigits_m ((l.i1 : Nat) : Int))))
              else
                false
            else
              false
          else
            false

set_option maxHeartbeats 4000000 in
set_option maxRecDepth 100000 in
theorem vnumbers_any (l : A45) (m : A45) (w : World)  (hp0 : l.i0 < 65536) (hp1 : l.i1 < 65536) (hp2 : m.i0 < 65536) (hp3 : m.i1 < 65536) : Calls Tryd.prog 14 #[.agg #[.int .u16 ((l.i0 : Nat) : Int), .int .u16 ((l.i1 : Nat) : Int)], .agg #[.int .u16 ((m.i0 : Nat) : Int), .int .u16 ((m.i1 : Nat) : Int)]] w (fun e w' => e = .returned (.bool ((vnumbers_m l m))) ∧ Below w.heap.size w w') := by
  go_enter Tryd.func14, Tryd.ntmps14
  have hm00 := Mm.nil none (fun _ => True) w
  have hm0 := hm00
  refine wp_seq_k (fun K1 hK1 => ?_)
  refine wp_region_lit ?_
  refine lst rfl (m_alloc (c := #[.int .u16 ((l.i0 : Nat) : Int), .int .u16 ((l.i1 : Nat) : Int)]) (T := 45) hm0 2 rfl (run_box rfl rfl) (fun g4 w2 (hm3 : Mm none (fun _ => True) w w2 [.blk g4 #[.int .u16 ((l.i0 : Nat) : Int), .int .u16 ((l.i1 : Nat) : Int)] 45]) => ?_))
  simp only [nz1, nz2, nz3]
  refine lst rfl (m_alloc (c := #[.int .u16 ((m.i0 : Nat) : Int), .int .u16 ((m.i1 : Nat) : Int)]) (T := 45) hm3 3 rfl (run_box rfl rfl) (fun g7 w5 (hm6 : Mm none (fun _ => True) w w5 [.blk g4 #[.int .u16 ((l.i0 : Nat) : Int), .int .u16 ((l.i1 : Nat) : Int)] 45, .blk g7 #[.int .u16 ((m.i0 : Nat) : Int), .int .u16 ((m.i1 : Nat) : Int)] 45]) => ?_))
  simp only [nz1, nz2, nz3]
  refine lvw 4 (.bool false) rfl rfl (run_as rfl rfl) ?_
  simp only [nz1, nz2, nz3]
  refine wpList_nil ?_
  refine then_n (hK1 _ _ ?_)
  refine wp_seq_k (fun K8 hK8 => ?_)
  have hm9 := hm6.drew
  refine wp_region_held_drew (S := fun w' => Mem.Blk w' g4 (#[.int .u16 ((l.i0 : Nat) : Int), .int .u16 ((l.i1 : Nat) : Int)]) 45 ∧ Mem.Blk w' g7 (#[.int .u16 ((m.i0 : Nat) : Int), .int .u16 ((m.i1 : Nat) : Int)]) 45) (by kernel_rfl) (⟨hm9.at 0 rfl, hm9.at 1 rfl⟩) (fun _ => ?_)
  generalize w5.drew = w10 at *
  refine tk 0 12 (.pointer (some ⟨g4, 0, none⟩)) rfl rfl (fun _ hw => Sx.r_ix g4 0 (by decide) Tryd.underlying45 sz_44 rfl rfl rfl) (⟨hm9.at 0 rfl, hm9.at 1 rfl⟩) ?_
  simp only [nz1, nz2, nz3]
  refine tk 1 13 (.int .u16 ((l.i0 : Nat) : Int)) rfl rfl (fun _ hw => r_load hw.1 rfl Tryd.underlying44 rfl rfl rfl) (⟨hm9.at 0 rfl, hm9.at 1 rfl⟩) ?_
  simp only [nz1, nz2, nz3]
  refine tk 2 14 (.pointer (some ⟨g7, 0, none⟩)) rfl rfl (fun _ hw => Sx.r_ix g7 0 (by decide) Tryd.underlying45 sz_44 rfl rfl rfl) (⟨hm9.at 0 rfl, hm9.at 1 rfl⟩) ?_
  simp only [nz1, nz2, nz3]
  refine tk 3 15 (.int .u16 ((m.i0 : Nat) : Int)) rfl rfl (fun _ hw => r_load hw.2 rfl Tryd.underlying44 rfl rfl rfl) (⟨hm9.at 0 rfl, hm9.at 1 rfl⟩) ?_
  simp only [nz1, nz2, nz3]
  refine tk 4 16 (.pointer (some ⟨g4, 1, none⟩)) rfl rfl (fun _ hw => Sx.r_ix g4 1 (by decide) Tryd.underlying45 sz_44 rfl rfl rfl) (⟨hm9.at 0 rfl, hm9.at 1 rfl⟩) ?_
  simp only [nz1, nz2, nz3]
  refine tk 5 17 (.int .u16 ((l.i1 : Nat) : Int)) rfl rfl (fun _ hw => r_load hw.1 rfl Tryd.underlying44 rfl rfl rfl) (⟨hm9.at 0 rfl, hm9.at 1 rfl⟩) ?_
  simp only [nz1, nz2, nz3]
  refine tk 6 18 (.pointer (some ⟨g7, 1, none⟩)) rfl rfl (fun _ hw => Sx.r_ix g7 1 (by decide) Tryd.underlying45 sz_44 rfl rfl rfl) (⟨hm9.at 0 rfl, hm9.at 1 rfl⟩) ?_
  simp only [nz1, nz2, nz3]
  refine tk 7 19 (.int .u16 ((m.i1 : Nat) : Int)) rfl rfl (fun _ hw => r_load hw.2 rfl Tryd.underlying44 rfl rfl rfl) (⟨hm9.at 0 rfl, hm9.at 1 rfl⟩) ?_
  simp only [nz1, nz2, nz3]
  refine one_ready 8 (by kernel_rfl) ?_
  refine opd rfl (wanted_none rfl) (w_value 5 (.int .u16 ((l.i0 : Nat) : Int)) rfl (run_as rfl rfl) ⟨⟨hm9.at 0 rfl, hm9.at 1 rfl⟩, ?_⟩)
  simp only [nz1, nz2, nz3]
  refine one_ready 9 (by kernel_rfl) ?_
  refine opd rfl (wanted_none rfl) (w_value 6 (.int .u16 ((m.i0 : Nat) : Int)) rfl (run_as rfl rfl) ⟨⟨hm9.at 0 rfl, hm9.at 1 rfl⟩, ?_⟩)
  simp only [nz1, nz2, nz3]
  refine one_ready 10 (by kernel_rfl) ?_
  refine opd rfl (wanted_none rfl) (w_value 7 (.int .u16 ((l.i1 : Nat) : Int)) rfl (run_as rfl rfl) ⟨⟨hm9.at 0 rfl, hm9.at 1 rfl⟩, ?_⟩)
  simp only [nz1, nz2, nz3]
  refine one_ready 11 (by kernel_rfl) ?_
  refine opd rfl (wanted_none rfl) (w_value 8 (.int .u16 ((m.i1 : Nat) : Int)) rfl (run_as rfl rfl) ⟨⟨hm9.at 0 rfl, hm9.at 1 rfl⟩, ?_⟩)
  simp only [nz1, nz2, nz3]
  refine wpAnyH_done (by kernel_rfl) ?_ _
  refine then_n (hK8 _ _ ?_)
  refine wp_seq_k (fun K11 hK11 => ?_)
  refine wp_region_lit ?_
  refine lvw 20 (.int .u16 ((l.i0 : Nat) : Int)) rfl rfl (run_mv rfl rfl) ?_
  simp only [nz1, nz2, nz3]
  refine lvw 21 (.int .i64 ((l.i0 : Nat) : Int)) rfl rfl (r_conv (k' := .i64) l.i0 l.i0 some_44 Tryd.underlying3 (wrap_nat (show _ < 9223372036854775808 from by omega)) rfl rfl) ?_
  simp only [nz1, nz2, nz3]
  refine lst rfl (m_call hm9 22 (.string (tx (ldigits_m ((l.i0 : Nat) : Int)))) rfl (run_ldigits rfl rfl) (ldigits_any ((l.i0 : Nat) : Int)  _  (by first | omega | assumption | decide | (simp; done) | (simp; omega)) (by first | omega | assumption | decide | (simp; done) | (simp; omega))) (fun w12 (hm13 : Mm none (fun _ => True) w w12 [.blk g4 #[.int .u16 ((l.i0 : Nat) : Int), .int .u16 ((l.i1 : Nat) : Int)] 45, .blk g7 #[.int .u16 ((m.i0 : Nat) : Int), .int .u16 ((m.i1 : Nat) : Int)] 45]) => ?_))
  have hf14 : (ldigits_m ((l.i0 : Nat) : Int)).length ≤ 65536 := ldigits_len ((l.i0 : Nat) : Int) (by omega) (by omega)
  simp only [nz1, nz2, nz3]
  refine lvw 23 (.string (tx ((ldigits_m ((l.i0 : Nat) : Int)) ++ [46]))) rfl rfl (t_cat (ldigits_m ((l.i0 : Nat) : Int)) ([46]) (by first | omega | (simp; omega)) rfl rfl rfl) ?_
  simp only [nz1, nz2, nz3]
  refine lvw 24 (.int .u16 ((l.i1 : Nat) : Int)) rfl rfl (run_mv rfl rfl) ?_
  simp only [nz1, nz2, nz3]
  refine lvw 25 (.int .i64 ((l.i1 : Nat) : Int)) rfl rfl (r_conv (k' := .i64) l.i1 l.i1 some_44 Tryd.underlying3 (wrap_nat (show _ < 9223372036854775808 from by omega)) rfl rfl) ?_
  simp only [nz1, nz2, nz3]
  refine lst rfl (m_call hm13 26 (.string (tx (ldigits_m ((l.i1 : Nat) : Int)))) rfl (run_ldigits rfl rfl) (ldigits_any ((l.i1 : Nat) : Int)  _  (by first | omega | assumption | decide | (simp; done) | (simp; omega)) (by first | omega | assumption | decide | (simp; done) | (simp; omega))) (fun w15 (hm16 : Mm none (fun _ => True) w w15 [.blk g4 #[.int .u16 ((l.i0 : Nat) : Int), .int .u16 ((l.i1 : Nat) : Int)] 45, .blk g7 #[.int .u16 ((m.i0 : Nat) : Int), .int .u16 ((m.i1 : Nat) : Int)] 45]) => ?_))
  have hf17 : (ldigits_m ((l.i1 : Nat) : Int)).length ≤ 65536 := ldigits_len ((l.i1 : Nat) : Int) (by omega) (by omega)
  simp only [nz1, nz2, nz3]
  refine lvw 27 (.string (tx (((ldigits_m ((l.i0 : Nat) : Int)) ++ [46]) ++ (ldigits_m ((l.i1 : Nat) : Int))))) rfl rfl (t_cat ((ldigits_m ((l.i0 : Nat) : Int)) ++ [46]) (ldigits_m ((l.i1 : Nat) : Int)) (by first | omega | (simp; omega)) rfl rfl rfl) ?_
  simp only [nz1, nz2, nz3]
  refine lvw 28 (.int .u16 ((m.i0 : Nat) : Int)) rfl rfl (run_mv rfl rfl) ?_
  simp only [nz1, nz2, nz3]
  refine lvw 29 (.int .i64 ((m.i0 : Nat) : Int)) rfl rfl (r_conv (k' := .i64) m.i0 m.i0 some_44 Tryd.underlying3 (wrap_nat (show _ < 9223372036854775808 from by omega)) rfl rfl) ?_
  simp only [nz1, nz2, nz3]
  refine lst rfl (m_call hm16 30 (.string (tx (ldigits_m ((m.i0 : Nat) : Int)))) rfl (run_ldigits rfl rfl) (ldigits_any ((m.i0 : Nat) : Int)  _  (by first | omega | assumption | decide | (simp; done) | (simp; omega)) (by first | omega | assumption | decide | (simp; done) | (simp; omega))) (fun w18 (hm19 : Mm none (fun _ => True) w w18 [.blk g4 #[.int .u16 ((l.i0 : Nat) : Int), .int .u16 ((l.i1 : Nat) : Int)] 45, .blk g7 #[.int .u16 ((m.i0 : Nat) : Int), .int .u16 ((m.i1 : Nat) : Int)] 45]) => ?_))
  have hf20 : (ldigits_m ((m.i0 : Nat) : Int)).length ≤ 65536 := ldigits_len ((m.i0 : Nat) : Int) (by omega) (by omega)
  simp only [nz1, nz2, nz3]
  refine lvw 31 (.string (tx ((ldigits_m ((m.i0 : Nat) : Int)) ++ [46]))) rfl rfl (t_cat (ldigits_m ((m.i0 : Nat) : Int)) ([46]) (by first | omega | (simp; omega)) rfl rfl rfl) ?_
  simp only [nz1, nz2, nz3]
  refine lvw 32 (.int .u16 ((m.i1 : Nat) : Int)) rfl rfl (run_mv rfl rfl) ?_
  simp only [nz1, nz2, nz3]
  refine lvw 33 (.int .i64 ((m.i1 : Nat) : Int)) rfl rfl (r_conv (k' := .i64) m.i1 m.i1 some_44 Tryd.underlying3 (wrap_nat (show _ < 9223372036854775808 from by omega)) rfl rfl) ?_
  simp only [nz1, nz2, nz3]
  refine lst rfl (m_call hm19 34 (.string (tx (ldigits_m ((m.i1 : Nat) : Int)))) rfl (run_ldigits rfl rfl) (ldigits_any ((m.i1 : Nat) : Int)  _  (by first | omega | assumption | decide | (simp; done) | (simp; omega)) (by first | omega | assumption | decide | (simp; done) | (simp; omega))) (fun w21 (hm22 : Mm none (fun _ => True) w w21 [.blk g4 #[.int .u16 ((l.i0 : Nat) : Int), .int .u16 ((l.i1 : Nat) : Int)] 45, .blk g7 #[.int .u16 ((m.i0 : Nat) : Int), .int .u16 ((m.i1 : Nat) : Int)] 45]) => ?_))
  have hf23 : (ldigits_m ((m.i1 : Nat) : Int)).length ≤ 65536 := ldigits_len ((m.i1 : Nat) : Int) (by omega) (by omega)
  simp only [nz1, nz2, nz3]
  refine lvw 35 (.string (tx (((ldigits_m ((m.i0 : Nat) : Int)) ++ [46]) ++ (ldigits_m ((m.i1 : Nat) : Int))))) rfl rfl (t_cat ((ldigits_m ((m.i0 : Nat) : Int)) ++ [46]) (ldigits_m ((m.i1 : Nat) : Int)) (by first | omega | (simp; omega)) rfl rfl rfl) ?_
  simp only [nz1, nz2, nz3]
  refine lvw 9 (.string (tx (((ldigits_m ((l.i0 : Nat) : Int)) ++ [46]) ++ (ldigits_m ((l.i1 : Nat) : Int))))) rfl rfl (run_as rfl rfl) ?_
  simp only [nz1, nz2, nz3]
  refine lvw 10 (.string (tx (((ldigits_m ((m.i0 : Nat) : Int)) ++ [46]) ++ (ldigits_m ((m.i1 : Nat) : Int))))) rfl rfl (run_as rfl rfl) ?_
  simp only [nz1, nz2, nz3]
  refine wpList_nil ?_
  refine then_n (hK11 _ _ ?_)
  refine wp_seq_k (fun K24 hK24 => ?_)
  refine wp_region_lit ?_
  refine lvw 11 (.int .i64 0) rfl rfl (run_as rfl rfl) ?_
  simp only [nz1, nz2, nz3]
  refine wpList_nil ?_
  refine then_n (hK24 _ _ ?_)
  refine wp_seq_k (fun K25 hK25 => ?_)
  refine wp_block ?_
  refine wp_seq_k (fun K26 hK26 => ?_)
  refine wp_region_lit ?_
  refine lvw 37 (.int .u16 ((l.i0 : Nat) : Int)) rfl rfl (run_mv rfl rfl) ?_
  simp only [nz1, nz2, nz3]
  refine lvw 38 (.int .u16 ((m.i0 : Nat) : Int)) rfl rfl (run_mv rfl rfl) ?_
  simp only [nz1, nz2, nz3]
  refine lvb 39 (l.i0 < m.i0) rfl rfl (r_lss l.i0 m.i0 rfl rfl rfl) (fun hs27 => ?_) (fun hs27 => ?_)
  · simp only [nz1, nz2, nz3]
    refine lvw 40 (.bool true) rfl rfl (run_mv rfl rfl) ?_
    simp only [nz1, nz2, nz3]
    refine lst_skip 41 rfl rfl ?_
    simp only [nz1, nz2, nz3]
    refine lst_skip 42 rfl rfl ?_
    simp only [nz1, nz2, nz3]
    refine lst_skip 43 rfl rfl ?_
    simp only [nz1, nz2, nz3]
    refine lst_skip 44 rfl rfl ?_
    simp only [nz1, nz2, nz3]
    refine lst_skip 45 rfl rfl ?_
    simp only [nz1, nz2, nz3]
    refine lst_skip 46 rfl rfl ?_
    simp only [nz1, nz2, nz3]
    refine lst_skip 47 rfl rfl ?_
    simp only [nz1, nz2, nz3]
    refine lst_skip 48 rfl rfl ?_
    simp only [nz1, nz2, nz3]
    refine lvw 49 (.bool true) rfl rfl (run_pick rfl rfl rfl) ?_
    simp only [nz1, nz2, nz3]
    refine lvw 36 (.bool true) rfl rfl (run_as rfl rfl) ?_
    simp only [nz1, nz2, nz3]
    refine wpList_nil ?_
    refine then_n (hK26 _ _ ?_)
    refine cond_t rfl ?_
    refine wp_region_lit ?_
    refine lvw 11 (.int .i64 (-1)) rfl rfl (run_as rfl rfl) ?_
    simp only [nz1, nz2, nz3]
    refine wpList_nil ?_
    refine blk_n ?_
    refine then_n (hK25 _ _ ?_)
    refine wp_seq_k (fun K28 hK28 => ?_)
    refine wp_region_lit ?_
    refine lst rfl (m_call hm22 64 (.bool (vawake_m)) rfl (run_vawake rfl) (vawake_any   _  ) (fun w29 (hm30 : Mm none (fun _ => True) w w29 [.blk g4 #[.int .u16 ((l.i0 : Nat) : Int), .int .u16 ((l.i1 : Nat) : Int)] 45, .blk g7 #[.int .u16 ((m.i0 : Nat) : Int), .int .u16 ((m.i1 : Nat) : Int)] 45]) => ?_))
    simp only [nz1, nz2, nz3]
    by_cases hs31 : vawake_m = true
    rotate_left
    · rw [(Bool.eq_false_iff.2 hs31 : vawake_m = false)]
      refine lvw 65 (.bool false) rfl rfl (run_mv rfl rfl) ?_
      simp only [nz1, nz2, nz3]
      refine lst_skip 66 rfl rfl ?_
      simp only [nz1, nz2, nz3]
      refine lst_skip 67 rfl rfl ?_
      simp only [nz1, nz2, nz3]
      refine lst_skip 68 rfl rfl ?_
      simp only [nz1, nz2, nz3]
      refine lst_skip 69 rfl rfl ?_
      simp only [nz1, nz2, nz3]
      refine lst_skip 70 rfl rfl ?_
      simp only [nz1, nz2, nz3]
      refine lvw 71 (.bool false) rfl rfl (run_pickf rfl rfl rfl) ?_
      simp only [nz1, nz2, nz3]
      refine lvw 72 (.bool false) rfl rfl (run_mv rfl rfl) ?_
      simp only [nz1, nz2, nz3]
      refine lst_skip 73 rfl rfl ?_
      simp only [nz1, nz2, nz3]
      refine lst_skip 74 rfl rfl ?_
      simp only [nz1, nz2, nz3]
      refine lst_skip 75 rfl rfl ?_
      simp only [nz1, nz2, nz3]
      refine lst_skip 76 rfl rfl ?_
      simp only [nz1, nz2, nz3]
      refine lst_skip 77 rfl rfl ?_
      simp only [nz1, nz2, nz3]
      refine lst_skip 78 rfl rfl ?_
      simp only [nz1, nz2, nz3]
      refine lvw 79 (.bool false) rfl rfl (run_pickf rfl rfl rfl) ?_
      simp only [nz1, nz2, nz3]
      refine lvw 80 (.bool false) rfl rfl (run_mv rfl rfl) ?_
      simp only [nz1, nz2, nz3]
      refine lst_skip 81 rfl rfl ?_
      simp only [nz1, nz2, nz3]
      refine lst_skip 82 rfl rfl ?_
      simp only [nz1, nz2, nz3]
      refine lvw 83 (.bool false) rfl rfl (run_pickf rfl rfl rfl) ?_
      simp only [nz1, nz2, nz3]
      refine lvw 4 (.bool false) rfl rfl (run_as rfl rfl) ?_
      simp only [nz1, nz2, nz3]
      refine wpList_nil ?_
      refine then_n (hK28 _ _ ?_)
      refine wp_ret ?_
      have he45 : vnumbers_m l m = false := (show vnumbers_m l m = false from by unfold vnumbers_m; rw [if_pos hs27, if_neg hs31] <;> rfl)
      exact ⟨rfl, .bool false, res_t rfl rfl, ⟨by rw [he45], hm30.below⟩⟩
    rw [(hs31 : vawake_m = true)]
    refine lvw 65 (.bool true) rfl rfl (run_mv rfl rfl) ?_
    simp only [nz1, nz2, nz3]
    refine lvw 66 (.string (tx (((ldigits_m ((l.i0 : Nat) : Int)) ++ [46]) ++ (ldigits_m ((l.i1 : Nat) : Int))))) rfl rfl (run_mv rfl rfl) ?_
    simp only [nz1, nz2, nz3]
    refine lvw 67 (.string (tx (((ldigits_m ((m.i0 : Nat) : Int)) ++ [46]) ++ (ldigits_m ((m.i1 : Nat) : Int))))) rfl rfl (run_mv rfl rfl) ?_
    simp only [nz1, nz2, nz3]
    refine lst rfl (m_call hm30 68 (.int .i64 ((compare_m (((ldigits_m ((l.i0 : Nat) : Int)) ++ [46]) ++ (ldigits_m ((l.i1 : Nat) : Int))) (((ldigits_m ((m.i0 : Nat) : Int)) ++ [46]) ++ (ldigits_m ((m.i1 : Nat) : Int)))))) rfl (run_compare rfl rfl rfl) (compare_any (((ldigits_m ((l.i0 : Nat) : Int)) ++ [46]) ++ (ldigits_m ((l.i1 : Nat) : Int))) (((ldigits_m ((m.i0 : Nat) : Int)) ++ [46]) ++ (ldigits_m ((m.i1 : Nat) : Int)))  _  ) (fun w32 (hm33 : Mm none (fun _ => True) w w32 [.blk g4 #[.int .u16 ((l.i0 : Nat) : Int), .int .u16 ((l.i1 : Nat) : Int)] 45, .blk g7 #[.int .u16 ((m.i0 : Nat) : Int), .int .u16 ((m.i1 : Nat) : Int)] 45]) => ?_))
    have hf34 : -1 ≤ (compare_m (((ldigits_m ((l.i0 : Nat) : Int)) ++ [46]) ++ (ldigits_m ((l.i1 : Nat) : Int))) (((ldigits_m ((m.i0 : Nat) : Int)) ++ [46]) ++ (ldigits_m ((m.i1 : Nat) : Int)))) ∧ (compare_m (((ldigits_m ((l.i0 : Nat) : Int)) ++ [46]) ++ (ldigits_m ((l.i1 : Nat) : Int))) (((ldigits_m ((m.i0 : Nat) : Int)) ++ [46]) ++ (ldigits_m ((m.i1 : Nat) : Int)))) ≤ 1 := compare_rng (((ldigits_m ((l.i0 : Nat) : Int)) ++ [46]) ++ (ldigits_m ((l.i1 : Nat) : Int))) (((ldigits_m ((m.i0 : Nat) : Int)) ++ [46]) ++ (ldigits_m ((m.i1 : Nat) : Int)))
    simp only [nz1, nz2, nz3]
    refine lvw 69 (.int .i64 (-1)) rfl rfl (run_mv rfl rfl) ?_
    simp only [nz1, nz2, nz3]
    refine lvb 70 ((compare_m (((ldigits_m ((l.i0 : Nat) : Int)) ++ [46]) ++ (ldigits_m ((l.i1 : Nat) : Int))) (((ldigits_m ((m.i0 : Nat) : Int)) ++ [46]) ++ (ldigits_m ((m.i1 : Nat) : Int)))) = -1) rfl rfl (z_eql (compare_m (((ldigits_m ((l.i0 : Nat) : Int)) ++ [46]) ++ (ldigits_m ((l.i1 : Nat) : Int))) (((ldigits_m ((m.i0 : Nat) : Int)) ++ [46]) ++ (ldigits_m ((m.i1 : Nat) : Int)))) (-1) rfl rfl rfl) (fun hs35 => ?_) (fun hs35 => ?_)
    rotate_left
    · simp only [nz1, nz2, nz3]
      refine lvw 71 (.bool false) rfl rfl (run_pick rfl rfl rfl) ?_
      simp only [nz1, nz2, nz3]
      refine lvw 72 (.bool false) rfl rfl (run_mv rfl rfl) ?_
      simp only [nz1, nz2, nz3]
      refine lst_skip 73 rfl rfl ?_
      simp only [nz1, nz2, nz3]
      refine lst_skip 74 rfl rfl ?_
      simp only [nz1, nz2, nz3]
      refine lst_skip 75 rfl rfl ?_
      simp only [nz1, nz2, nz3]
      refine lst_skip 76 rfl rfl ?_
      simp only [nz1, nz2, nz3]
      refine lst_skip 77 rfl rfl ?_
      simp only [nz1, nz2, nz3]
      refine lst_skip 78 rfl rfl ?_
      simp only [nz1, nz2, nz3]
      refine lvw 79 (.bool false) rfl rfl (run_pickf rfl rfl rfl) ?_
      simp only [nz1, nz2, nz3]
      refine lvw 80 (.bool false) rfl rfl (run_mv rfl rfl) ?_
      simp only [nz1, nz2, nz3]
      refine lst_skip 81 rfl rfl ?_
      simp only [nz1, nz2, nz3]
      refine lst_skip 82 rfl rfl ?_
      simp only [nz1, nz2, nz3]
      refine lvw 83 (.bool false) rfl rfl (run_pickf rfl rfl rfl) ?_
      simp only [nz1, nz2, nz3]
      refine lvw 4 (.bool false) rfl rfl (run_as rfl rfl) ?_
      simp only [nz1, nz2, nz3]
      refine wpList_nil ?_
      refine then_n (hK28 _ _ ?_)
      refine wp_ret ?_
      have he44 : vnumbers_m l m = false := (show vnumbers_m l m = false from by unfold vnumbers_m; rw [if_pos hs27, if_pos hs31, if_neg hs35] <;> rfl)
      exact ⟨rfl, .bool false, res_t rfl rfl, ⟨by rw [he44], hm33.below⟩⟩
    simp only [nz1, nz2, nz3]
    refine lvw 71 (.bool true) rfl rfl (run_pick rfl rfl rfl) ?_
    simp only [nz1, nz2, nz3]
    refine lvw 72 (.bool true) rfl rfl (run_mv rfl rfl) ?_
    simp only [nz1, nz2, nz3]
    refine lvw 73 (.string (tx (((ldigits_m ((l.i0 : Nat) : Int)) ++ [46]) ++ (ldigits_m ((l.i1 : Nat) : Int))))) rfl rfl (run_mv rfl rfl) ?_
    simp only [nz1, nz2, nz3]
    refine lvw 74 (.string (tx ([48] ++ (((ldigits_m ((l.i0 : Nat) : Int)) ++ [46]) ++ (ldigits_m ((l.i1 : Nat) : Int)))))) rfl rfl (t_cat ([48]) (((ldigits_m ((l.i0 : Nat) : Int)) ++ [46]) ++ (ldigits_m ((l.i1 : Nat) : Int))) (by first | omega | (simp; omega)) rfl rfl rfl) ?_
    simp only [nz1, nz2, nz3]
    refine lvw 75 (.string (tx (((ldigits_m ((m.i0 : Nat) : Int)) ++ [46]) ++ (ldigits_m ((m.i1 : Nat) : Int))))) rfl rfl (run_mv rfl rfl) ?_
    simp only [nz1, nz2, nz3]
    refine lst rfl (m_call hm33 76 (.int .i64 ((compare_m ([48] ++ (((ldigits_m ((l.i0 : Nat) : Int)) ++ [46]) ++ (ldigits_m ((l.i1 : Nat) : Int)))) (((ldigits_m ((m.i0 : Nat) : Int)) ++ [46]) ++ (ldigits_m ((m.i1 : Nat) : Int)))))) rfl (run_compare rfl rfl rfl) (compare_any ([48] ++ (((ldigits_m ((l.i0 : Nat) : Int)) ++ [46]) ++ (ldigits_m ((l.i1 : Nat) : Int)))) (((ldigits_m ((m.i0 : Nat) : Int)) ++ [46]) ++ (ldigits_m ((m.i1 : Nat) : Int)))  _  ) (fun w36 (hm37 : Mm none (fun _ => True) w w36 [.blk g4 #[.int .u16 ((l.i0 : Nat) : Int), .int .u16 ((l.i1 : Nat) : Int)] 45, .blk g7 #[.int .u16 ((m.i0 : Nat) : Int), .int .u16 ((m.i1 : Nat) : Int)] 45]) => ?_))
    have hf38 : -1 ≤ (compare_m ([48] ++ (((ldigits_m ((l.i0 : Nat) : Int)) ++ [46]) ++ (ldigits_m ((l.i1 : Nat) : Int)))) (((ldigits_m ((m.i0 : Nat) : Int)) ++ [46]) ++ (ldigits_m ((m.i1 : Nat) : Int)))) ∧ (compare_m ([48] ++ (((ldigits_m ((l.i0 : Nat) : Int)) ++ [46]) ++ (ldigits_m ((l.i1 : Nat) : Int)))) (((ldigits_m ((m.i0 : Nat) : Int)) ++ [46]) ++ (ldigits_m ((m.i1 : Nat) : Int)))) ≤ 1 := compare_rng ([48] ++ (((ldigits_m ((l.i0 : Nat) : Int)) ++ [46]) ++ (ldigits_m ((l.i1 : Nat) : Int)))) (((ldigits_m ((m.i0 : Nat) : Int)) ++ [46]) ++ (ldigits_m ((m.i1 : Nat) : Int)))
    simp only [nz1, nz2, nz3]
    refine lvw 77 (.int .i64 (-1)) rfl rfl (run_mv rfl rfl) ?_
    simp only [nz1, nz2, nz3]
    refine lvb 78 ((compare_m ([48] ++ (((ldigits_m ((l.i0 : Nat) : Int)) ++ [46]) ++ (ldigits_m ((l.i1 : Nat) : Int)))) (((ldigits_m ((m.i0 : Nat) : Int)) ++ [46]) ++ (ldigits_m ((m.i1 : Nat) : Int)))) = -1) rfl rfl (z_eql (compare_m ([48] ++ (((ldigits_m ((l.i0 : Nat) : Int)) ++ [46]) ++ (ldigits_m ((l.i1 : Nat) : Int)))) (((ldigits_m ((m.i0 : Nat) : Int)) ++ [46]) ++ (ldigits_m ((m.i1 : Nat) : Int)))) (-1) rfl rfl rfl) (fun hs39 => ?_) (fun hs39 => ?_)
    · simp only [nz1, nz2, nz3]
      refine lvw 79 (.bool true) rfl rfl (run_pick rfl rfl rfl) ?_
      simp only [nz1, nz2, nz3]
      refine lvw 80 (.bool true) rfl rfl (run_mv rfl rfl) ?_
      simp only [nz1, nz2, nz3]
      refine lvw 81 (.string (tx (((ldigits_m ((l.i0 : Nat) : Int)) ++ [46]) ++ (ldigits_m ((l.i1 : Nat) : Int))))) rfl rfl (run_mv rfl rfl) ?_
      simp only [nz1, nz2, nz3]
      refine lst rfl (m_call hm37 82 (.bool ((check_m (((ldigits_m ((l.i0 : Nat) : Int)) ++ [46]) ++ (ldigits_m ((l.i1 : Nat) : Int)))))) rfl (run_check rfl rfl) (check_any (((ldigits_m ((l.i0 : Nat) : Int)) ++ [46]) ++ (ldigits_m ((l.i1 : Nat) : Int)))  _  ) (fun w40 (hm41 : Mm none (fun _ => True) w w40 [.blk g4 #[.int .u16 ((l.i0 : Nat) : Int), .int .u16 ((l.i1 : Nat) : Int)] 45, .blk g7 #[.int .u16 ((m.i0 : Nat) : Int), .int .u16 ((m.i1 : Nat) : Int)] 45]) => ?_))
      simp only [nz1, nz2, nz3]
      refine lvw 83 (.bool ((check_m (((ldigits_m ((l.i0 : Nat) : Int)) ++ [46]) ++ (ldigits_m ((l.i1 : Nat) : Int)))))) rfl rfl (run_pick rfl rfl rfl) ?_
      simp only [nz1, nz2, nz3]
      refine lvw 4 (.bool ((check_m (((ldigits_m ((l.i0 : Nat) : Int)) ++ [46]) ++ (ldigits_m ((l.i1 : Nat) : Int)))))) rfl rfl (run_as rfl rfl) ?_
      simp only [nz1, nz2, nz3]
      refine wpList_nil ?_
      refine then_n (hK28 _ _ ?_)
      refine wp_ret ?_
      have he42 : vnumbers_m l m = (check_m (((ldigits_m ((l.i0 : Nat) : Int)) ++ [46]) ++ (ldigits_m ((l.i1 : Nat) : Int)))) := (show vnumbers_m l m = (check_m (((ldigits_m ((l.i0 : Nat) : Int)) ++ [46]) ++ (ldigits_m ((l.i1 : Nat) : Int)))) from by unfold vnumbers_m; rw [if_pos hs27, if_pos hs31, if_pos hs35, if_pos hs39] <;> rfl)
      exact ⟨rfl, .bool ((check_m (((ldigits_m ((l.i0 : Nat) : Int)) ++ [46]) ++ (ldigits_m ((l.i1 : Nat) : Int))))), res_t rfl rfl, ⟨by rw [he42], hm41.below⟩⟩
    simp only [nz1, nz2, nz3]
    refine lvw 79 (.bool false) rfl rfl (run_pick rfl rfl rfl) ?_
    simp only [nz1, nz2, nz3]
    refine lvw 80 (.bool false) rfl rfl (run_mv rfl rfl) ?_
    simp only [nz1, nz2, nz3]
    refine lst_skip 81 rfl rfl ?_
    simp only [nz1, nz2, nz3]
    refine lst_skip 82 rfl rfl ?_
    simp only [nz1, nz2, nz3]
    refine lvw 83 (.bool false) rfl rfl (run_pickf rfl rfl rfl) ?_
    simp only [nz1, nz2, nz3]
    refine lvw 4 (.bool false) rfl rfl (run_as rfl rfl) ?_
    simp only [nz1, nz2, nz3]
    refine wpList_nil ?_
    refine then_n (hK28 _ _ ?_)
    refine wp_ret ?_
    have he43 : vnumbers_m l m = false := (show vnumbers_m l m = false from by unfold vnumbers_m; rw [if_pos hs27, if_pos hs31, if_pos hs35, if_neg hs39] <;> rfl)
    exact ⟨rfl, .bool false, res_t rfl rfl, ⟨by rw [he43], hm37.below⟩⟩
  simp only [nz1, nz2, nz3]
  refine lvw 40 (.bool false) rfl rfl (run_mv rfl rfl) ?_
  simp only [nz1, nz2, nz3]
  refine lvw 41 (.int .u16 ((l.i0 : Nat) : Int)) rfl rfl (run_mv rfl rfl) ?_
  simp only [nz1, nz2, nz3]
  refine lvw 42 (.int .u16 ((m.i0 : Nat) : Int)) rfl rfl (run_mv rfl rfl) ?_
  simp only [nz1, nz2, nz3]
  refine lvb 43 (l.i0 = m.i0) rfl rfl (r_eql l.i0 m.i0 rfl rfl rfl) (fun hs46 => ?_) (fun hs46 => ?_)
  · simp only [nz1, nz2, nz3]
    refine lvw 44 (.bool true) rfl rfl (run_mv rfl rfl) ?_
    simp only [nz1, nz2, nz3]
    refine lvw 45 (.int .u16 ((l.i1 : Nat) : Int)) rfl rfl (run_mv rfl rfl) ?_
    simp only [nz1, nz2, nz3]
    refine lvw 46 (.int .u16 ((m.i1 : Nat) : Int)) rfl rfl (run_mv rfl rfl) ?_
    simp only [nz1, nz2, nz3]
    refine lvw 47 (.bool (decide (l.i1 < m.i1))) rfl rfl (r_lss l.i1 m.i1 rfl rfl rfl) ?_
    simp only [nz1, nz2, nz3]
    refine lvw 48 (.bool (decide (l.i1 < m.i1))) rfl rfl (run_pick rfl rfl rfl) ?_
    simp only [nz1, nz2, nz3]
    refine lvw 49 (.bool (decide (l.i1 < m.i1))) rfl rfl (run_pickf rfl rfl rfl) ?_
    simp only [nz1, nz2, nz3]
    refine lvw 36 (.bool (decide (l.i1 < m.i1))) rfl rfl (run_as rfl rfl) ?_
    simp only [nz1, nz2, nz3]
    refine wpList_nil ?_
    refine then_n (hK26 _ _ ?_)
    refine wp_cutK (fun a' w' => ∃ (x47 : Int) (uj1 : Nat → Value), vnumbers_m_j1 l m = .inl x47 ∧ a' = ⟨#[.agg #[.int .u16 ((l.i0 : Nat) : Int), .int .u16 ((l.i1 : Nat) : Int)], .agg #[.int .u16 ((m.i0 : Nat) : Int), .int .u16 ((m.i1 : Nat) : Int)], .pointer (some ⟨g4, 0, none⟩), .pointer (some ⟨g7, 0, none⟩), .bool false, .int .u16 ((l.i0 : Nat) : Int), .int .u16 ((m.i0 : Nat) : Int), .int .u16 ((l.i1 : Nat) : Int), .int .u16 ((m.i1 : Nat) : Int), .string (tx (((ldigits_m ((l.i0 : Nat) : Int)) ++ [46]) ++ (ldigits_m ((l.i1 : Nat) : Int)))), .string (tx (((ldigits_m ((m.i0 : Nat) : Int)) ++ [46]) ++ (ldigits_m ((m.i1 : Nat) : Int)))), .int .i64 (x47), .pointer (some ⟨g4, 0, none⟩), .int .u16 ((l.i0 : Nat) : Int), .pointer (some ⟨g7, 0, none⟩), .int .u16 ((m.i0 : Nat) : Int), .pointer (some ⟨g4, 1, none⟩), .int .u16 ((l.i1 : Nat) : Int), .pointer (some ⟨g7, 1, none⟩), .int .u16 ((m.i1 : Nat) : Int), .int .u16 ((l.i0 : Nat) : Int), .int .i64 ((l.i0 : Nat) : Int), .string (tx (ldigits_m ((l.i0 : Nat) : Int))), .string (tx ((ldigits_m ((l.i0 : Nat) : Int)) ++ [46])), .int .u16 ((l.i1 : Nat) : Int), .int .i64 ((l.i1 : Nat) : Int), .string (tx (ldigits_m ((l.i1 : Nat) : Int))), .string (tx (((ldigits_m ((l.i0 : Nat) : Int)) ++ [46]) ++ (ldigits_m ((l.i1 : Nat) : Int)))), .int .u16 ((m.i0 : Nat) : Int), .int .i64 ((m.i0 : Nat) : Int), .string (tx (ldigits_m ((m.i0 : Nat) : Int))), .string (tx ((ldigits_m ((m.i0 : Nat) : Int)) ++ [46])), .int .u16 ((m.i1 : Nat) : Int), .int .i64 ((m.i1 : Nat) : Int), .string (tx (ldigits_m ((m.i1 : Nat) : Int))), .string (tx (((ldigits_m ((m.i0 : Nat) : Int)) ++ [46]) ++ (ldigits_m ((m.i1 : Nat) : Int)))), .bool (decide (l.i1 < m.i1)), .int .u16 ((l.i0 : Nat) : Int), .int .u16 ((m.i0 : Nat) : Int), .bool false, .bool false, .int .u16 ((l.i0 : Nat) : Int), .int .u16 ((m.i0 : Nat) : Int), .bool true, .bool true, .int .u16 ((l.i1 : Nat) : Int), .int .u16 ((m.i1 : Nat) : Int), .bool (decide (l.i1 < m.i1)), .bool (decide (l.i1 < m.i1)), .bool (decide (l.i1 < m.i1)), uj1 0, uj1 1, uj1 2, uj1 3, uj1 4, uj1 5, uj1 6, uj1 7, uj1 8, uj1 9, uj1 10, uj1 11, uj1 12, uj1 13, undef, undef, undef, undef, undef, undef, undef, undef, undef, undef, undef, undef, undef, undef, undef, undef, undef, undef, undef, undef], []⟩ ∧ Mm none (fun _ => True) w w' [.blk g4 #[.int .u16 ((l.i0 : Nat) : Int), .int .u16 ((l.i1 : Nat) : Int)] 45, .blk g7 #[.int .u16 ((m.i0 : Nat) : Int), .int .u16 ((m.i1 : Nat) : Int)] 45]) ?_ ?_
    · refine cond_d (l.i1 < m.i1) rfl (fun hc49 => ?_) (fun hc49 => ?_)
      · refine wp_region_lit ?_
        refine lvw 11 (.int .i64 (-1)) rfl rfl (run_as rfl rfl) ?_
        simp only [nz1, nz2, nz3]
        refine wpList_nil ?_
        refine then_n ?_
        exact ⟨-1, (fun qq => List.getD [undef, undef, undef, undef, undef, undef, undef, undef, undef, undef, undef, undef, undef, undef] qq undef), (show vnumbers_m_j1 l m = .inl (-1) from by unfold vnumbers_m_j1; rw [if_pos hc49] <;> rfl), rfl, hm22⟩
      refine wp_seq_k (fun K50 hK50 => ?_)
      refine wp_region_lit ?_
      refine lvw 51 (.int .u16 ((l.i0 : Nat) : Int)) rfl rfl (run_mv rfl rfl) ?_
      simp only [nz1, nz2, nz3]
      refine lvw 52 (.int .u16 ((m.i0 : Nat) : Int)) rfl rfl (run_mv rfl rfl) ?_
      simp only [nz1, nz2, nz3]
      refine lvb 53 (m.i0 < l.i0) rfl rfl (r_gtr l.i0 m.i0 rfl rfl rfl) (fun hs51 => ?_) (fun hs51 => ?_)
      · simp only [nz1, nz2, nz3]
        refine lvw 54 (.bool true) rfl rfl (run_mv rfl rfl) ?_
        simp only [nz1, nz2, nz3]
        refine lst_skip 55 rfl rfl ?_
        simp only [nz1, nz2, nz3]
        refine lst_skip 56 rfl rfl ?_
        simp only [nz1, nz2, nz3]
        refine lst_skip 57 rfl rfl ?_
        simp only [nz1, nz2, nz3]
        refine lst_skip 58 rfl rfl ?_
        simp only [nz1, nz2, nz3]
        refine lst_skip 59 rfl rfl ?_
        simp only [nz1, nz2, nz3]
        refine lst_skip 60 rfl rfl ?_
        simp only [nz1, nz2, nz3]
        refine lst_skip 61 rfl rfl ?_
        simp only [nz1, nz2, nz3]
        refine lst_skip 62 rfl rfl ?_
        simp only [nz1, nz2, nz3]
        refine lvw 63 (.bool true) rfl rfl (run_pick rfl rfl rfl) ?_
        simp only [nz1, nz2, nz3]
        refine lvw 50 (.bool true) rfl rfl (run_as rfl rfl) ?_
        simp only [nz1, nz2, nz3]
        refine wpList_nil ?_
        refine then_n (hK50 _ _ ?_)
        refine cond_t rfl ?_
        refine wp_region_lit ?_
        refine lvw 11 (.int .i64 1) rfl rfl (run_as rfl rfl) ?_
        simp only [nz1, nz2, nz3]
        refine wpList_nil ?_
        refine then_n ?_
        exact ⟨1, (fun qq => List.getD [.bool true, .int .u16 ((l.i0 : Nat) : Int), .int .u16 ((m.i0 : Nat) : Int), .bool true, .bool true, undef, undef, undef, undef, undef, undef, undef, undef, .bool true] qq undef), (show vnumbers_m_j1 l m = .inl 1 from by unfold vnumbers_m_j1; rw [if_neg hc49, if_pos hs51] <;> rfl), rfl, hm22⟩
      simp only [nz1, nz2, nz3]
      refine lvw 54 (.bool false) rfl rfl (run_mv rfl rfl) ?_
      simp only [nz1, nz2, nz3]
      refine lvw 55 (.int .u16 ((l.i0 : Nat) : Int)) rfl rfl (run_mv rfl rfl) ?_
      simp only [nz1, nz2, nz3]
      refine lvw 56 (.int .u16 ((m.i0 : Nat) : Int)) rfl rfl (run_mv rfl rfl) ?_
      simp only [nz1, nz2, nz3]
      refine lvb 57 (l.i0 = m.i0) rfl rfl (r_eql l.i0 m.i0 rfl rfl rfl) (fun hs52 => ?_) (fun hs52 => ?_)
      rotate_left
      · simp only [nz1, nz2, nz3]
        refine lvw 58 (.bool false) rfl rfl (run_mv rfl rfl) ?_
        simp only [nz1, nz2, nz3]
        refine lst_skip 59 rfl rfl ?_
        simp only [nz1, nz2, nz3]
        refine lst_skip 60 rfl rfl ?_
        simp only [nz1, nz2, nz3]
        refine lst_skip 61 rfl rfl ?_
        simp only [nz1, nz2, nz3]
        refine lvw 62 (.bool false) rfl rfl (run_pickf rfl rfl rfl) ?_
        simp only [nz1, nz2, nz3]
        refine lvw 63 (.bool false) rfl rfl (run_pickf rfl rfl rfl) ?_
        simp only [nz1, nz2, nz3]
        refine lvw 50 (.bool false) rfl rfl (run_as rfl rfl) ?_
        simp only [nz1, nz2, nz3]
        refine wpList_nil ?_
        refine then_n (hK50 _ _ ?_)
        refine cond_f rfl ?_
        refine wp_skip ?_
        refine then_n ?_
        exact ⟨0, (fun qq => List.getD [.bool false, .int .u16 ((l.i0 : Nat) : Int), .int .u16 ((m.i0 : Nat) : Int), .bool false, .bool false, .int .u16 ((l.i0 : Nat) : Int), .int .u16 ((m.i0 : Nat) : Int), .bool false, .bool false, undef, undef, undef, .bool false, .bool false] qq undef), (show vnumbers_m_j1 l m = .inl 0 from by unfold vnumbers_m_j1; rw [if_neg hc49, if_neg hs51, if_neg hs52] <;> rfl), rfl, hm22⟩
      simp only [nz1, nz2, nz3]
      refine lvw 58 (.bool true) rfl rfl (run_mv rfl rfl) ?_
      simp only [nz1, nz2, nz3]
      refine lvw 59 (.int .u16 ((l.i1 : Nat) : Int)) rfl rfl (run_mv rfl rfl) ?_
      simp only [nz1, nz2, nz3]
      refine lvw 60 (.int .u16 ((m.i1 : Nat) : Int)) rfl rfl (run_mv rfl rfl) ?_
      simp only [nz1, nz2, nz3]
      refine lvw 61 (.bool (decide (m.i1 < l.i1))) rfl rfl (r_gtr l.i1 m.i1 rfl rfl rfl) ?_
      simp only [nz1, nz2, nz3]
      refine lvw 62 (.bool (decide (m.i1 < l.i1))) rfl rfl (run_pick rfl rfl rfl) ?_
      simp only [nz1, nz2, nz3]
      refine lvw 63 (.bool (decide (m.i1 < l.i1))) rfl rfl (run_pickf rfl rfl rfl) ?_
      simp only [nz1, nz2, nz3]
      refine lvw 50 (.bool (decide (m.i1 < l.i1))) rfl rfl (run_as rfl rfl) ?_
      simp only [nz1, nz2, nz3]
      refine wpList_nil ?_
      refine then_n (hK50 _ _ ?_)
      refine cond_d (m.i1 < l.i1) rfl (fun hc53 => ?_) (fun hc53 => ?_)
      rotate_left
      · refine wp_skip ?_
        refine then_n ?_
        exact ⟨0, (fun qq => List.getD [.bool (decide (m.i1 < l.i1)), .int .u16 ((l.i0 : Nat) : Int), .int .u16 ((m.i0 : Nat) : Int), .bool false, .bool false, .int .u16 ((l.i0 : Nat) : Int), .int .u16 ((m.i0 : Nat) : Int), .bool true, .bool true, .int .u16 ((l.i1 : Nat) : Int), .int .u16 ((m.i1 : Nat) : Int), .bool (decide (m.i1 < l.i1)), .bool (decide (m.i1 < l.i1)), .bool (decide (m.i1 < l.i1))] qq undef), (show vnumbers_m_j1 l m = .inl 0 from by unfold vnumbers_m_j1; rw [if_neg hc49, if_neg hs51, if_pos hs52, if_neg hc53] <;> rfl), rfl, hm22⟩
      refine wp_region_lit ?_
      refine lvw 11 (.int .i64 1) rfl rfl (run_as rfl rfl) ?_
      simp only [nz1, nz2, nz3]
      refine wpList_nil ?_
      refine then_n ?_
      exact ⟨1, (fun qq => List.getD [.bool (decide (m.i1 < l.i1)), .int .u16 ((l.i0 : Nat) : Int), .int .u16 ((m.i0 : Nat) : Int), .bool false, .bool false, .int .u16 ((l.i0 : Nat) : Int), .int .u16 ((m.i0 : Nat) : Int), .bool true, .bool true, .int .u16 ((l.i1 : Nat) : Int), .int .u16 ((m.i1 : Nat) : Int), .bool (decide (m.i1 < l.i1)), .bool (decide (m.i1 < l.i1)), .bool (decide (m.i1 < l.i1))] qq undef), (show vnumbers_m_j1 l m = .inl 1 from by unfold vnumbers_m_j1; rw [if_neg hc49, if_neg hs51, if_pos hs52, if_pos hc53] <;> rfl), rfl, hm22⟩
    rintro _ w54 ⟨x47, uj1, hx48, rfl, hm55⟩
    have hq56 : vnumbers_m l m = vnumbers_m_c1 l m x47 := (show vnumbers_m l m = vnumbers_m_c1 l m x47 from by unfold vnumbers_m; rw [if_neg hs27, if_pos hs46, hx48] <;> rfl)
    refine blk_n ?_
    refine then_n (hK25 _ _ ?_)
    refine wp_seq_k (fun K57 hK57 => ?_)
    refine wp_region_lit ?_
    refine lst rfl (m_call hm55 64 (.bool (vawake_m)) rfl (run_vawake rfl) (vawake_any   _  ) (fun w58 (hm59 : Mm none (fun _ => True) w w58 [.blk g4 #[.int .u16 ((l.i0 : Nat) : Int), .int .u16 ((l.i1 : Nat) : Int)] 45, .blk g7 #[.int .u16 ((m.i0 : Nat) : Int), .int .u16 ((m.i1 : Nat) : Int)] 45]) => ?_))
    simp only [nz1, nz2, nz3]
    by_cases hs60 : vawake_m = true
    rotate_left
    · rw [(Bool.eq_false_iff.2 hs60 : vawake_m = false)]
      refine lvw 65 (.bool false) rfl rfl (run_mv rfl rfl) ?_
      simp only [nz1, nz2, nz3]
      refine lst_skip 66 rfl rfl ?_
      simp only [nz1, nz2, nz3]
      refine lst_skip 67 rfl rfl ?_
      simp only [nz1, nz2, nz3]
      refine lst_skip 68 rfl rfl ?_
      simp only [nz1, nz2, nz3]
      refine lst_skip 69 rfl rfl ?_
      simp only [nz1, nz2, nz3]
      refine lst_skip 70 rfl rfl ?_
      simp only [nz1, nz2, nz3]
      refine lvw 71 (.bool false) rfl rfl (run_pickf rfl rfl rfl) ?_
      simp only [nz1, nz2, nz3]
      refine lvw 72 (.bool false) rfl rfl (run_mv rfl rfl) ?_
      simp only [nz1, nz2, nz3]
      refine lst_skip 73 rfl rfl ?_
      simp only [nz1, nz2, nz3]
      refine lst_skip 74 rfl rfl ?_
      simp only [nz1, nz2, nz3]
      refine lst_skip 75 rfl rfl ?_
      simp only [nz1, nz2, nz3]
      refine lst_skip 76 rfl rfl ?_
      simp only [nz1, nz2, nz3]
      refine lst_skip 77 rfl rfl ?_
      simp only [nz1, nz2, nz3]
      refine lst_skip 78 rfl rfl ?_
      simp only [nz1, nz2, nz3]
      refine lvw 79 (.bool false) rfl rfl (run_pickf rfl rfl rfl) ?_
      simp only [nz1, nz2, nz3]
      refine lvw 80 (.bool false) rfl rfl (run_mv rfl rfl) ?_
      simp only [nz1, nz2, nz3]
      refine lst_skip 81 rfl rfl ?_
      simp only [nz1, nz2, nz3]
      refine lst_skip 82 rfl rfl ?_
      simp only [nz1, nz2, nz3]
      refine lvw 83 (.bool false) rfl rfl (run_pickf rfl rfl rfl) ?_
      simp only [nz1, nz2, nz3]
      refine lvw 4 (.bool false) rfl rfl (run_as rfl rfl) ?_
      simp only [nz1, nz2, nz3]
      refine wpList_nil ?_
      refine then_n (hK57 _ _ ?_)
      refine wp_ret ?_
      have he74 : vnumbers_m l m = false := (hq56.trans (show vnumbers_m_c1 l m x47 = false from by unfold vnumbers_m_c1; rw [if_neg hs60] <;> rfl))
      exact ⟨rfl, .bool false, res_t rfl rfl, ⟨by rw [he74], hm59.below⟩⟩
    rw [(hs60 : vawake_m = true)]
    refine lvw 65 (.bool true) rfl rfl (run_mv rfl rfl) ?_
    simp only [nz1, nz2, nz3]
    refine lvw 66 (.string (tx (((ldigits_m ((l.i0 : Nat) : Int)) ++ [46]) ++ (ldigits_m ((l.i1 : Nat) : Int))))) rfl rfl (run_mv rfl rfl) ?_
    simp only [nz1, nz2, nz3]
    refine lvw 67 (.string (tx (((ldigits_m ((m.i0 : Nat) : Int)) ++ [46]) ++ (ldigits_m ((m.i1 : Nat) : Int))))) rfl rfl (run_mv rfl rfl) ?_
    simp only [nz1, nz2, nz3]
    refine lst rfl (m_call hm59 68 (.int .i64 ((compare_m (((ldigits_m ((l.i0 : Nat) : Int)) ++ [46]) ++ (ldigits_m ((l.i1 : Nat) : Int))) (((ldigits_m ((m.i0 : Nat) : Int)) ++ [46]) ++ (ldigits_m ((m.i1 : Nat) : Int)))))) rfl (run_compare rfl rfl rfl) (compare_any (((ldigits_m ((l.i0 : Nat) : Int)) ++ [46]) ++ (ldigits_m ((l.i1 : Nat) : Int))) (((ldigits_m ((m.i0 : Nat) : Int)) ++ [46]) ++ (ldigits_m ((m.i1 : Nat) : Int)))  _  ) (fun w61 (hm62 : Mm none (fun _ => True) w w61 [.blk g4 #[.int .u16 ((l.i0 : Nat) : Int), .int .u16 ((l.i1 : Nat) : Int)] 45, .blk g7 #[.int .u16 ((m.i0 : Nat) : Int), .int .u16 ((m.i1 : Nat) : Int)] 45]) => ?_))
    have hf63 : -1 ≤ (compare_m (((ldigits_m ((l.i0 : Nat) : Int)) ++ [46]) ++ (ldigits_m ((l.i1 : Nat) : Int))) (((ldigits_m ((m.i0 : Nat) : Int)) ++ [46]) ++ (ldigits_m ((m.i1 : Nat) : Int)))) ∧ (compare_m (((ldigits_m ((l.i0 : Nat) : Int)) ++ [46]) ++ (ldigits_m ((l.i1 : Nat) : Int))) (((ldigits_m ((m.i0 : Nat) : Int)) ++ [46]) ++ (ldigits_m ((m.i1 : Nat) : Int)))) ≤ 1 := compare_rng (((ldigits_m ((l.i0 : Nat) : Int)) ++ [46]) ++ (ldigits_m ((l.i1 : Nat) : Int))) (((ldigits_m ((m.i0 : Nat) : Int)) ++ [46]) ++ (ldigits_m ((m.i1 : Nat) : Int)))
    simp only [nz1, nz2, nz3]
    refine lvw 69 (.int .i64 (x47)) rfl rfl (run_mv rfl rfl) ?_
    simp only [nz1, nz2, nz3]
    refine lvb 70 ((compare_m (((ldigits_m ((l.i0 : Nat) : Int)) ++ [46]) ++ (ldigits_m ((l.i1 : Nat) : Int))) (((ldigits_m ((m.i0 : Nat) : Int)) ++ [46]) ++ (ldigits_m ((m.i1 : Nat) : Int)))) = x47) rfl rfl (z_eql (compare_m (((ldigits_m ((l.i0 : Nat) : Int)) ++ [46]) ++ (ldigits_m ((l.i1 : Nat) : Int))) (((ldigits_m ((m.i0 : Nat) : Int)) ++ [46]) ++ (ldigits_m ((m.i1 : Nat) : Int)))) x47 rfl rfl rfl) (fun hs64 => ?_) (fun hs64 => ?_)
    rotate_left
    · simp only [nz1, nz2, nz3]
      refine lvw 71 (.bool false) rfl rfl (run_pick rfl rfl rfl) ?_
      simp only [nz1, nz2, nz3]
      refine lvw 72 (.bool false) rfl rfl (run_mv rfl rfl) ?_
      simp only [nz1, nz2, nz3]
      refine lst_skip 73 rfl rfl ?_
      simp only [nz1, nz2, nz3]
      refine lst_skip 74 rfl rfl ?_
      simp only [nz1, nz2, nz3]
      refine lst_skip 75 rfl rfl ?_
      simp only [nz1, nz2, nz3]
      refine lst_skip 76 rfl rfl ?_
      simp only [nz1, nz2, nz3]
      refine lst_skip 77 rfl rfl ?_
      simp only [nz1, nz2, nz3]
      refine lst_skip 78 rfl rfl ?_
      simp only [nz1, nz2, nz3]
      refine lvw 79 (.bool false) rfl rfl (run_pickf rfl rfl rfl) ?_
      simp only [nz1, nz2, nz3]
      refine lvw 80 (.bool false) rfl rfl (run_mv rfl rfl) ?_
      simp only [nz1, nz2, nz3]
      refine lst_skip 81 rfl rfl ?_
      simp only [nz1, nz2, nz3]
      refine lst_skip 82 rfl rfl ?_
      simp only [nz1, nz2, nz3]
      refine lvw 83 (.bool false) rfl rfl (run_pickf rfl rfl rfl) ?_
      simp only [nz1, nz2, nz3]
      refine lvw 4 (.bool false) rfl rfl (run_as rfl rfl) ?_
      simp only [nz1, nz2, nz3]
      refine wpList_nil ?_
      refine then_n (hK57 _ _ ?_)
      refine wp_ret ?_
      have he73 : vnumbers_m l m = false := (hq56.trans (show vnumbers_m_c1 l m x47 = false from by unfold vnumbers_m_c1; rw [if_pos hs60, if_neg hs64] <;> rfl))
      exact ⟨rfl, .bool false, res_t rfl rfl, ⟨by rw [he73], hm62.below⟩⟩
    simp only [nz1, nz2, nz3]
    refine lvw 71 (.bool true) rfl rfl (run_pick rfl rfl rfl) ?_
    simp only [nz1, nz2, nz3]
    refine lvw 72 (.bool true) rfl rfl (run_mv rfl rfl) ?_
    simp only [nz1, nz2, nz3]
    refine lvw 73 (.string (tx (((ldigits_m ((l.i0 : Nat) : Int)) ++ [46]) ++ (ldigits_m ((l.i1 : Nat) : Int))))) rfl rfl (run_mv rfl rfl) ?_
    simp only [nz1, nz2, nz3]
    refine lvw 74 (.string (tx ([48] ++ (((ldigits_m ((l.i0 : Nat) : Int)) ++ [46]) ++ (ldigits_m ((l.i1 : Nat) : Int)))))) rfl rfl (t_cat ([48]) (((ldigits_m ((l.i0 : Nat) : Int)) ++ [46]) ++ (ldigits_m ((l.i1 : Nat) : Int))) (by first | omega | (simp; omega)) rfl rfl rfl) ?_
    simp only [nz1, nz2, nz3]
    refine lvw 75 (.string (tx (((ldigits_m ((m.i0 : Nat) : Int)) ++ [46]) ++ (ldigits_m ((m.i1 : Nat) : Int))))) rfl rfl (run_mv rfl rfl) ?_
    simp only [nz1, nz2, nz3]
    refine lst rfl (m_call hm62 76 (.int .i64 ((compare_m ([48] ++ (((ldigits_m ((l.i0 : Nat) : Int)) ++ [46]) ++ (ldigits_m ((l.i1 : Nat) : Int)))) (((ldigits_m ((m.i0 : Nat) : Int)) ++ [46]) ++ (ldigits_m ((m.i1 : Nat) : Int)))))) rfl (run_compare rfl rfl rfl) (compare_any ([48] ++ (((ldigits_m ((l.i0 : Nat) : Int)) ++ [46]) ++ (ldigits_m ((l.i1 : Nat) : Int)))) (((ldigits_m ((m.i0 : Nat) : Int)) ++ [46]) ++ (ldigits_m ((m.i1 : Nat) : Int)))  _  ) (fun w65 (hm66 : Mm none (fun _ => True) w w65 [.blk g4 #[.int .u16 ((l.i0 : Nat) : Int), .int .u16 ((l.i1 : Nat) : Int)] 45, .blk g7 #[.int .u16 ((m.i0 : Nat) : Int), .int .u16 ((m.i1 : Nat) : Int)] 45]) => ?_))
    have hf67 : -1 ≤ (compare_m ([48] ++ (((ldigits_m ((l.i0 : Nat) : Int)) ++ [46]) ++ (ldigits_m ((l.i1 : Nat) : Int)))) (((ldigits_m ((m.i0 : Nat) : Int)) ++ [46]) ++ (ldigits_m ((m.i1 : Nat) : Int)))) ∧ (compare_m ([48] ++ (((ldigits_m ((l.i0 : Nat) : Int)) ++ [46]) ++ (ldigits_m ((l.i1 : Nat) : Int)))) (((ldigits_m ((m.i0 : Nat) : Int)) ++ [46]) ++ (ldigits_m ((m.i1 : Nat) : Int)))) ≤ 1 := compare_rng ([48] ++ (((ldigits_m ((l.i0 : Nat) : Int)) ++ [46]) ++ (ldigits_m ((l.i1 : Nat) : Int)))) (((ldigits_m ((m.i0 : Nat) : Int)) ++ [46]) ++ (ldigits_m ((m.i1 : Nat) : Int)))
    simp only [nz1, nz2, nz3]
    refine lvw 77 (.int .i64 (x47)) rfl rfl (run_mv rfl rfl) ?_
    simp only [nz1, nz2, nz3]
    refine lvb 78 ((compare_m ([48] ++ (((ldigits_m ((l.i0 : Nat) : Int)) ++ [46]) ++ (ldigits_m ((l.i1 : Nat) : Int)))) (((ldigits_m ((m.i0 : Nat) : Int)) ++ [46]) ++ (ldigits_m ((m.i1 : Nat) : Int)))) = x47) rfl rfl (z_eql (compare_m ([48] ++ (((ldigits_m ((l.i0 : Nat) : Int)) ++ [46]) ++ (ldigits_m ((l.i1 : Nat) : Int)))) (((ldigits_m ((m.i0 : Nat) : Int)) ++ [46]) ++ (ldigits_m ((m.i1 : Nat) : Int)))) x47 rfl rfl rfl) (fun hs68 => ?_) (fun hs68 => ?_)
    · simp only [nz1, nz2, nz3]
      refine lvw 79 (.bool true) rfl rfl (run_pick rfl rfl rfl) ?_
      simp only [nz1, nz2, nz3]
      refine lvw 80 (.bool true) rfl rfl (run_mv rfl rfl) ?_
      simp only [nz1, nz2, nz3]
      refine lvw 81 (.string (tx (((ldigits_m ((l.i0 : Nat) : Int)) ++ [46]) ++ (ldigits_m ((l.i1 : Nat) : Int))))) rfl rfl (run_mv rfl rfl) ?_
      simp only [nz1, nz2, nz3]
      refine lst rfl (m_call hm66 82 (.bool ((check_m (((ldigits_m ((l.i0 : Nat) : Int)) ++ [46]) ++ (ldigits_m ((l.i1 : Nat) : Int)))))) rfl (run_check rfl rfl) (check_any (((ldigits_m ((l.i0 : Nat) : Int)) ++ [46]) ++ (ldigits_m ((l.i1 : Nat) : Int)))  _  ) (fun w69 (hm70 : Mm none (fun _ => True) w w69 [.blk g4 #[.int .u16 ((l.i0 : Nat) : Int), .int .u16 ((l.i1 : Nat) : Int)] 45, .blk g7 #[.int .u16 ((m.i0 : Nat) : Int), .int .u16 ((m.i1 : Nat) : Int)] 45]) => ?_))
      simp only [nz1, nz2, nz3]
      refine lvw 83 (.bool ((check_m (((ldigits_m ((l.i0 : Nat) : Int)) ++ [46]) ++ (ldigits_m ((l.i1 : Nat) : Int)))))) rfl rfl (run_pick rfl rfl rfl) ?_
      simp only [nz1, nz2, nz3]
      refine lvw 4 (.bool ((check_m (((ldigits_m ((l.i0 : Nat) : Int)) ++ [46]) ++ (ldigits_m ((l.i1 : Nat) : Int)))))) rfl rfl (run_as rfl rfl) ?_
      simp only [nz1, nz2, nz3]
      refine wpList_nil ?_
      refine then_n (hK57 _ _ ?_)
      refine wp_ret ?_
      have he71 : vnumbers_m l m = (check_m (((ldigits_m ((l.i0 : Nat) : Int)) ++ [46]) ++ (ldigits_m ((l.i1 : Nat) : Int)))) := (hq56.trans (show vnumbers_m_c1 l m x47 = (check_m (((ldigits_m ((l.i0 : Nat) : Int)) ++ [46]) ++ (ldigits_m ((l.i1 : Nat) : Int)))) from by unfold vnumbers_m_c1; rw [if_pos hs60, if_pos hs64, if_pos hs68] <;> rfl))
      exact ⟨rfl, .bool ((check_m (((ldigits_m ((l.i0 : Nat) : Int)) ++ [46]) ++ (ldigits_m ((l.i1 : Nat) : Int))))), res_t rfl rfl, ⟨by rw [he71], hm70.below⟩⟩
    simp only [nz1, nz2, nz3]
    refine lvw 79 (.bool false) rfl rfl (run_pick rfl rfl rfl) ?_
    simp only [nz1, nz2, nz3]
    refine lvw 80 (.bool false) rfl rfl (run_mv rfl rfl) ?_
    simp only [nz1, nz2, nz3]
    refine lst_skip 81 rfl rfl ?_
    simp only [nz1, nz2, nz3]
    refine lst_skip 82 rfl rfl ?_
    simp only [nz1, nz2, nz3]
    refine lvw 83 (.bool false) rfl rfl (run_pickf rfl rfl rfl) ?_
    simp only [nz1, nz2, nz3]
    refine lvw 4 (.bool false) rfl rfl (run_as rfl rfl) ?_
    simp only [nz1, nz2, nz3]
    refine wpList_nil ?_
    refine then_n (hK57 _ _ ?_)
    refine wp_ret ?_
    have he72 : vnumbers_m l m = false := (hq56.trans (show vnumbers_m_c1 l m x47 = false from by unfold vnumbers_m_c1; rw [if_pos hs60, if_pos hs64, if_neg hs68] <;> rfl))
    exact ⟨rfl, .bool false, res_t rfl rfl, ⟨by rw [he72], hm66.below⟩⟩
  simp only [nz1, nz2, nz3]
  refine lvw 44 (.bool false) rfl rfl (run_mv rfl rfl) ?_
  simp only [nz1, nz2, nz3]
  refine lst_skip 45 rfl rfl ?_
  simp only [nz1, nz2, nz3]
  refine lst_skip 46 rfl rfl ?_
  simp only [nz1, nz2, nz3]
  refine lst_skip 47 rfl rfl ?_
  simp only [nz1, nz2, nz3]
  refine lvw 48 (.bool false) rfl rfl (run_pickf rfl rfl rfl) ?_
  simp only [nz1, nz2, nz3]
  refine lvw 49 (.bool false) rfl rfl (run_pickf rfl rfl rfl) ?_
  simp only [nz1, nz2, nz3]
  refine lvw 36 (.bool false) rfl rfl (run_as rfl rfl) ?_
  simp only [nz1, nz2, nz3]
  refine wpList_nil ?_
  refine then_n (hK26 _ _ ?_)
  refine cond_f rfl ?_
  refine wp_seq_k (fun K75 hK75 => ?_)
  refine wp_region_lit ?_
  refine lvw 51 (.int .u16 ((l.i0 : Nat) : Int)) rfl rfl (run_mv rfl rfl) ?_
  simp only [nz1, nz2, nz3]
  refine lvw 52 (.int .u16 ((m.i0 : Nat) : Int)) rfl rfl (run_mv rfl rfl) ?_
  simp only [nz1, nz2, nz3]
  refine lvb 53 (m.i0 < l.i0) rfl rfl (r_gtr l.i0 m.i0 rfl rfl rfl) (fun hs76 => ?_) (fun hs76 => ?_)
  · simp only [nz1, nz2, nz3]
    refine lvw 54 (.bool true) rfl rfl (run_mv rfl rfl) ?_
    simp only [nz1, nz2, nz3]
    refine lst_skip 55 rfl rfl ?_
    simp only [nz1, nz2, nz3]
    refine lst_skip 56 rfl rfl ?_
    simp only [nz1, nz2, nz3]
    refine lst_skip 57 rfl rfl ?_
    simp only [nz1, nz2, nz3]
    refine lst_skip 58 rfl rfl ?_
    simp only [nz1, nz2, nz3]
    refine lst_skip 59 rfl rfl ?_
    simp only [nz1, nz2, nz3]
    refine lst_skip 60 rfl rfl ?_
    simp only [nz1, nz2, nz3]
    refine lst_skip 61 rfl rfl ?_
    simp only [nz1, nz2, nz3]
    refine lst_skip 62 rfl rfl ?_
    simp only [nz1, nz2, nz3]
    refine lvw 63 (.bool true) rfl rfl (run_pick rfl rfl rfl) ?_
    simp only [nz1, nz2, nz3]
    refine lvw 50 (.bool true) rfl rfl (run_as rfl rfl) ?_
    simp only [nz1, nz2, nz3]
    refine wpList_nil ?_
    refine then_n (hK75 _ _ ?_)
    refine cond_t rfl ?_
    refine wp_region_lit ?_
    refine lvw 11 (.int .i64 1) rfl rfl (run_as rfl rfl) ?_
    simp only [nz1, nz2, nz3]
    refine wpList_nil ?_
    refine blk_n ?_
    refine then_n (hK25 _ _ ?_)
    refine wp_seq_k (fun K77 hK77 => ?_)
    refine wp_region_lit ?_
    refine lst rfl (m_call hm22 64 (.bool (vawake_m)) rfl (run_vawake rfl) (vawake_any   _  ) (fun w78 (hm79 : Mm none (fun _ => True) w w78 [.blk g4 #[.int .u16 ((l.i0 : Nat) : Int), .int .u16 ((l.i1 : Nat) : Int)] 45, .blk g7 #[.int .u16 ((m.i0 : Nat) : Int), .int .u16 ((m.i1 : Nat) : Int)] 45]) => ?_))
    simp only [nz1, nz2, nz3]
    by_cases hs80 : vawake_m = true
    rotate_left
    · rw [(Bool.eq_false_iff.2 hs80 : vawake_m = false)]
      refine lvw 65 (.bool false) rfl rfl (run_mv rfl rfl) ?_
      simp only [nz1, nz2, nz3]
      refine lst_skip 66 rfl rfl ?_
      simp only [nz1, nz2, nz3]
      refine lst_skip 67 rfl rfl ?_
      simp only [nz1, nz2, nz3]
      refine lst_skip 68 rfl rfl ?_
      simp only [nz1, nz2, nz3]
      refine lst_skip 69 rfl rfl ?_
      simp only [nz1, nz2, nz3]
      refine lst_skip 70 rfl rfl ?_
      simp only [nz1, nz2, nz3]
      refine lvw 71 (.bool false) rfl rfl (run_pickf rfl rfl rfl) ?_
      simp only [nz1, nz2, nz3]
      refine lvw 72 (.bool false) rfl rfl (run_mv rfl rfl) ?_
      simp only [nz1, nz2, nz3]
      refine lst_skip 73 rfl rfl ?_
      simp only [nz1, nz2, nz3]
      refine lst_skip 74 rfl rfl ?_
      simp only [nz1, nz2, nz3]
      refine lst_skip 75 rfl rfl ?_
      simp only [nz1, nz2, nz3]
      refine lst_skip 76 rfl rfl ?_
      simp only [nz1, nz2, nz3]
      refine lst_skip 77 rfl rfl ?_
      simp only [nz1, nz2, nz3]
      refine lst_skip 78 rfl rfl ?_
      simp only [nz1, nz2, nz3]
      refine lvw 79 (.bool false) rfl rfl (run_pickf rfl rfl rfl) ?_
      simp only [nz1, nz2, nz3]
      refine lvw 80 (.bool false) rfl rfl (run_mv rfl rfl) ?_
      simp only [nz1, nz2, nz3]
      refine lst_skip 81 rfl rfl ?_
      simp only [nz1, nz2, nz3]
      refine lst_skip 82 rfl rfl ?_
      simp only [nz1, nz2, nz3]
      refine lvw 83 (.bool false) rfl rfl (run_pickf rfl rfl rfl) ?_
      simp only [nz1, nz2, nz3]
      refine lvw 4 (.bool false) rfl rfl (run_as rfl rfl) ?_
      simp only [nz1, nz2, nz3]
      refine wpList_nil ?_
      refine then_n (hK77 _ _ ?_)
      refine wp_ret ?_
      have he94 : vnumbers_m l m = false := (show vnumbers_m l m = false from by unfold vnumbers_m; rw [if_neg hs27, if_neg hs46, if_pos hs76, if_neg hs80] <;> rfl)
      exact ⟨rfl, .bool false, res_t rfl rfl, ⟨by rw [he94], hm79.below⟩⟩
    rw [(hs80 : vawake_m = true)]
    refine lvw 65 (.bool true) rfl rfl (run_mv rfl rfl) ?_
    simp only [nz1, nz2, nz3]
    refine lvw 66 (.string (tx (((ldigits_m ((l.i0 : Nat) : Int)) ++ [46]) ++ (ldigits_m ((l.i1 : Nat) : Int))))) rfl rfl (run_mv rfl rfl) ?_
    simp only [nz1, nz2, nz3]
    refine lvw 67 (.string (tx (((ldigits_m ((m.i0 : Nat) : Int)) ++ [46]) ++ (ldigits_m ((m.i1 : Nat) : Int))))) rfl rfl (run_mv rfl rfl) ?_
    simp only [nz1, nz2, nz3]
    refine lst rfl (m_call hm79 68 (.int .i64 ((compare_m (((ldigits_m ((l.i0 : Nat) : Int)) ++ [46]) ++ (ldigits_m ((l.i1 : Nat) : Int))) (((ldigits_m ((m.i0 : Nat) : Int)) ++ [46]) ++ (ldigits_m ((m.i1 : Nat) : Int)))))) rfl (run_compare rfl rfl rfl) (compare_any (((ldigits_m ((l.i0 : Nat) : Int)) ++ [46]) ++ (ldigits_m ((l.i1 : Nat) : Int))) (((ldigits_m ((m.i0 : Nat) : Int)) ++ [46]) ++ (ldigits_m ((m.i1 : Nat) : Int)))  _  ) (fun w81 (hm82 : Mm none (fun _ => True) w w81 [.blk g4 #[.int .u16 ((l.i0 : Nat) : Int), .int .u16 ((l.i1 : Nat) : Int)] 45, .blk g7 #[.int .u16 ((m.i0 : Nat) : Int), .int .u16 ((m.i1 : Nat) : Int)] 45]) => ?_))
    have hf83 : -1 ≤ (compare_m (((ldigits_m ((l.i0 : Nat) : Int)) ++ [46]) ++ (ldigits_m ((l.i1 : Nat) : Int))) (((ldigits_m ((m.i0 : Nat) : Int)) ++ [46]) ++ (ldigits_m ((m.i1 : Nat) : Int)))) ∧ (compare_m (((ldigits_m ((l.i0 : Nat) : Int)) ++ [46]) ++ (ldigits_m ((l.i1 : Nat) : Int))) (((ldigits_m ((m.i0 : Nat) : Int)) ++ [46]) ++ (ldigits_m ((m.i1 : Nat) : Int)))) ≤ 1 := compare_rng (((ldigits_m ((l.i0 : Nat) : Int)) ++ [46]) ++ (ldigits_m ((l.i1 : Nat) : Int))) (((ldigits_m ((m.i0 : Nat) : Int)) ++ [46]) ++ (ldigits_m ((m.i1 : Nat) : Int)))
    simp only [nz1, nz2, nz3]
    refine lvw 69 (.int .i64 1) rfl rfl (run_mv rfl rfl) ?_
    simp only [nz1, nz2, nz3]
    refine lvb 70 ((compare_m (((ldigits_m ((l.i0 : Nat) : Int)) ++ [46]) ++ (ldigits_m ((l.i1 : Nat) : Int))) (((ldigits_m ((m.i0 : Nat) : Int)) ++ [46]) ++ (ldigits_m ((m.i1 : Nat) : Int)))) = 1) rfl rfl (z_eql (compare_m (((ldigits_m ((l.i0 : Nat) : Int)) ++ [46]) ++ (ldigits_m ((l.i1 : Nat) : Int))) (((ldigits_m ((m.i0 : Nat) : Int)) ++ [46]) ++ (ldigits_m ((m.i1 : Nat) : Int)))) 1 rfl rfl rfl) (fun hs84 => ?_) (fun hs84 => ?_)
    rotate_left
    · simp only [nz1, nz2, nz3]
      refine lvw 71 (.bool false) rfl rfl (run_pick rfl rfl rfl) ?_
      simp only [nz1, nz2, nz3]
      refine lvw 72 (.bool false) rfl rfl (run_mv rfl rfl) ?_
      simp only [nz1, nz2, nz3]
      refine lst_skip 73 rfl rfl ?_
      simp only [nz1, nz2, nz3]
      refine lst_skip 74 rfl rfl ?_
      simp only [nz1, nz2, nz3]
      refine lst_skip 75 rfl rfl ?_
      simp only [nz1, nz2, nz3]
      refine lst_skip 76 rfl rfl ?_
      simp only [nz1, nz2, nz3]
      refine lst_skip 77 rfl rfl ?_
      simp only [nz1, nz2, nz3]
      refine lst_skip 78 rfl rfl ?_
      simp only [nz1, nz2, nz3]
      refine lvw 79 (.bool false) rfl rfl (run_pickf rfl rfl rfl) ?_
      simp only [nz1, nz2, nz3]
      refine lvw 80 (.bool false) rfl rfl (run_mv rfl rfl) ?_
      simp only [nz1, nz2, nz3]
      refine lst_skip 81 rfl rfl ?_
      simp only [nz1, nz2, nz3]
      refine lst_skip 82 rfl rfl ?_
      simp only [nz1, nz2, nz3]
      refine lvw 83 (.bool false) rfl rfl (run_pickf rfl rfl rfl) ?_
      simp only [nz1, nz2, nz3]
      refine lvw 4 (.bool false) rfl rfl (run_as rfl rfl) ?_
      simp only [nz1, nz2, nz3]
      refine wpList_nil ?_
      refine then_n (hK77 _ _ ?_)
      refine wp_ret ?_
      have he93 : vnumbers_m l m = false := (show vnumbers_m l m = false from by unfold vnumbers_m; rw [if_neg hs27, if_neg hs46, if_pos hs76, if_pos hs80, if_neg hs84] <;> rfl)
      exact ⟨rfl, .bool false, res_t rfl rfl, ⟨by rw [he93], hm82.below⟩⟩
    simp only [nz1, nz2, nz3]
    refine lvw 71 (.bool true) rfl rfl (run_pick rfl rfl rfl) ?_
    simp only [nz1, nz2, nz3]
    refine lvw 72 (.bool true) rfl rfl (run_mv rfl rfl) ?_
    simp only [nz1, nz2, nz3]
    refine lvw 73 (.string (tx (((ldigits_m ((l.i0 : Nat) : Int)) ++ [46]) ++ (ldigits_m ((l.i1 : Nat) : Int))))) rfl rfl (run_mv rfl rfl) ?_
    simp only [nz1, nz2, nz3]
    refine lvw 74 (.string (tx ([48] ++ (((ldigits_m ((l.i0 : Nat) : Int)) ++ [46]) ++ (ldigits_m ((l.i1 : Nat) : Int)))))) rfl rfl (t_cat ([48]) (((ldigits_m ((l.i0 : Nat) : Int)) ++ [46]) ++ (ldigits_m ((l.i1 : Nat) : Int))) (by first | omega | (simp; omega)) rfl rfl rfl) ?_
    simp only [nz1, nz2, nz3]
    refine lvw 75 (.string (tx (((ldigits_m ((m.i0 : Nat) : Int)) ++ [46]) ++ (ldigits_m ((m.i1 : Nat) : Int))))) rfl rfl (run_mv rfl rfl) ?_
    simp only [nz1, nz2, nz3]
    refine lst rfl (m_call hm82 76 (.int .i64 ((compare_m ([48] ++ (((ldigits_m ((l.i0 : Nat) : Int)) ++ [46]) ++ (ldigits_m ((l.i1 : Nat) : Int)))) (((ldigits_m ((m.i0 : Nat) : Int)) ++ [46]) ++ (ldigits_m ((m.i1 : Nat) : Int)))))) rfl (run_compare rfl rfl rfl) (compare_any ([48] ++ (((ldigits_m ((l.i0 : Nat) : Int)) ++ [46]) ++ (ldigits_m ((l.i1 : Nat) : Int)))) (((ldigits_m ((m.i0 : Nat) : Int)) ++ [46]) ++ (ldigits_m ((m.i1 : Nat) : Int)))  _  ) (fun w85 (hm86 : Mm none (fun _ => True) w w85 [.blk g4 #[.int .u16 ((l.i0 : Nat) : Int), .int .u16 ((l.i1 : Nat) : Int)] 45, .blk g7 #[.int .u16 ((m.i0 : Nat) : Int), .int .u16 ((m.i1 : Nat) : Int)] 45]) => ?_))
    have hf87 : -1 ≤ (compare_m ([48] ++ (((ldigits_m ((l.i0 : Nat) : Int)) ++ [46]) ++ (ldigits_m ((l.i1 : Nat) : Int)))) (((ldigits_m ((m.i0 : Nat) : Int)) ++ [46]) ++ (ldigits_m ((m.i1 : Nat) : Int)))) ∧ (compare_m ([48] ++ (((ldigits_m ((l.i0 : Nat) : Int)) ++ [46]) ++ (ldigits_m ((l.i1 : Nat) : Int)))) (((ldigits_m ((m.i0 : Nat) : Int)) ++ [46]) ++ (ldigits_m ((m.i1 : Nat) : Int)))) ≤ 1 := compare_rng ([48] ++ (((ldigits_m ((l.i0 : Nat) : Int)) ++ [46]) ++ (ldigits_m ((l.i1 : Nat) : Int)))) (((ldigits_m ((m.i0 : Nat) : Int)) ++ [46]) ++ (ldigits_m ((m.i1 : Nat) : Int)))
    simp only [nz1, nz2, nz3]
    refine lvw 77 (.int .i64 1) rfl rfl (run_mv rfl rfl) ?_
    simp only [nz1, nz2, nz3]
    refine lvb 78 ((compare_m ([48] ++ (((ldigits_m ((l.i0 : Nat) : Int)) ++ [46]) ++ (ldigits_m ((l.i1 : Nat) : Int)))) (((ldigits_m ((m.i0 : Nat) : Int)) ++ [46]) ++ (ldigits_m ((m.i1 : Nat) : Int)))) = 1) rfl rfl (z_eql (compare_m ([48] ++ (((ldigits_m ((l.i0 : Nat) : Int)) ++ [46]) ++ (ldigits_m ((l.i1 : Nat) : Int)))) (((ldigits_m ((m.i0 : Nat) : Int)) ++ [46]) ++ (ldigits_m ((m.i1 : Nat) : Int)))) 1 rfl rfl rfl) (fun hs88 => ?_) (fun hs88 => ?_)
    · simp only [nz1, nz2, nz3]
      refine lvw 79 (.bool true) rfl rfl (run_pick rfl rfl rfl) ?_
      simp only [nz1, nz2, nz3]
      refine lvw 80 (.bool true) rfl rfl (run_mv rfl rfl) ?_
      simp only [nz1, nz2, nz3]
      refine lvw 81 (.string (tx (((ldigits_m ((l.i0 : Nat) : Int)) ++ [46]) ++ (ldigits_m ((l.i1 : Nat) : Int))))) rfl rfl (run_mv rfl rfl) ?_
      simp only [nz1, nz2, nz3]
      refine lst rfl (m_call hm86 82 (.bool ((check_m (((ldigits_m ((l.i0 : Nat) : Int)) ++ [46]) ++ (ldigits_m ((l.i1 : Nat) : Int)))))) rfl (run_check rfl rfl) (check_any (((ldigits_m ((l.i0 : Nat) : Int)) ++ [46]) ++ (ldigits_m ((l.i1 : Nat) : Int)))  _  ) (fun w89 (hm90 : Mm none (fun _ => True) w w89 [.blk g4 #[.int .u16 ((l.i0 : Nat) : Int), .int .u16 ((l.i1 : Nat) : Int)] 45, .blk g7 #[.int .u16 ((m.i0 : Nat) : Int), .int .u16 ((m.i1 : Nat) : Int)] 45]) => ?_))
      simp only [nz1, nz2, nz3]
      refine lvw 83 (.bool ((check_m (((ldigits_m ((l.i0 : Nat) : Int)) ++ [46]) ++ (ldigits_m ((l.i1 : Nat) : Int)))))) rfl rfl (run_pick rfl rfl rfl) ?_
      simp only [nz1, nz2, nz3]
      refine lvw 4 (.bool ((check_m (((ldigits_m ((l.i0 : Nat) : Int)) ++ [46]) ++ (ldigits_m ((l.i1 : Nat) : Int)))))) rfl rfl (run_as rfl rfl) ?_
      simp only [nz1, nz2, nz3]
      refine wpList_nil ?_
      refine then_n (hK77 _ _ ?_)
      refine wp_ret ?_
      have he91 : vnumbers_m l m = (check_m (((ldigits_m ((l.i0 : Nat) : Int)) ++ [46]) ++ (ldigits_m ((l.i1 : Nat) : Int)))) := (show vnumbers_m l m = (check_m (((ldigits_m ((l.i0 : Nat) : Int)) ++ [46]) ++ (ldigits_m ((l.i1 : Nat) : Int)))) from by unfold vnumbers_m; rw [if_neg hs27, if_neg hs46, if_pos hs76, if_pos hs80, if_pos hs84, if_pos hs88] <;> rfl)
      exact ⟨rfl, .bool ((check_m (((ldigits_m ((l.i0 : Nat) : Int)) ++ [46]) ++ (ldigits_m ((l.i1 : Nat) : Int))))), res_t rfl rfl, ⟨by rw [he91], hm90.below⟩⟩
    simp only [nz1, nz2, nz3]
    refine lvw 79 (.bool false) rfl rfl (run_pick rfl rfl rfl) ?_
    simp only [nz1, nz2, nz3]
    refine lvw 80 (.bool false) rfl rfl (run_mv rfl rfl) ?_
    simp only [nz1, nz2, nz3]
    refine lst_skip 81 rfl rfl ?_
    simp only [nz1, nz2, nz3]
    refine lst_skip 82 rfl rfl ?_
    simp only [nz1, nz2, nz3]
    refine lvw 83 (.bool false) rfl rfl (run_pickf rfl rfl rfl) ?_
    simp only [nz1, nz2, nz3]
    refine lvw 4 (.bool false) rfl rfl (run_as rfl rfl) ?_
    simp only [nz1, nz2, nz3]
    refine wpList_nil ?_
    refine then_n (hK77 _ _ ?_)
    refine wp_ret ?_
    have he92 : vnumbers_m l m = false := (show vnumbers_m l m = false from by unfold vnumbers_m; rw [if_neg hs27, if_neg hs46, if_pos hs76, if_pos hs80, if_pos hs84, if_neg hs88] <;> rfl)
    exact ⟨rfl, .bool false, res_t rfl rfl, ⟨by rw [he92], hm86.below⟩⟩
  simp only [nz1, nz2, nz3]
  refine lvw 54 (.bool false) rfl rfl (run_mv rfl rfl) ?_
  simp only [nz1, nz2, nz3]
  refine lvw 55 (.int .u16 ((l.i0 : Nat) : Int)) rfl rfl (run_mv rfl rfl) ?_
  simp only [nz1, nz2, nz3]
  refine lvw 56 (.int .u16 ((m.i0 : Nat) : Int)) rfl rfl (run_mv rfl rfl) ?_
  simp only [nz1, nz2, nz3]
  refine lvb 57 (l.i0 = m.i0) rfl rfl (r_eql l.i0 m.i0 rfl rfl rfl) (fun hs95 => ?_) (fun hs95 => ?_)
  rotate_left
  · simp only [nz1, nz2, nz3]
    refine lvw 58 (.bool false) rfl rfl (run_mv rfl rfl) ?_
    simp only [nz1, nz2, nz3]
    refine lst_skip 59 rfl rfl ?_
    simp only [nz1, nz2, nz3]
    refine lst_skip 60 rfl rfl ?_
    simp only [nz1, nz2, nz3]
    refine lst_skip 61 rfl rfl ?_
    simp only [nz1, nz2, nz3]
    refine lvw 62 (.bool false) rfl rfl (run_pickf rfl rfl rfl) ?_
    simp only [nz1, nz2, nz3]
    refine lvw 63 (.bool false) rfl rfl (run_pickf rfl rfl rfl) ?_
    simp only [nz1, nz2, nz3]
    refine lvw 50 (.bool false) rfl rfl (run_as rfl rfl) ?_
    simp only [nz1, nz2, nz3]
    refine wpList_nil ?_
    refine then_n (hK75 _ _ ?_)
    refine cond_f rfl ?_
    refine wp_skip ?_
    refine blk_n ?_
    refine then_n (hK25 _ _ ?_)
    refine wp_seq_k (fun K120 hK120 => ?_)
    refine wp_region_lit ?_
    refine lst rfl (m_call hm22 64 (.bool (vawake_m)) rfl (run_vawake rfl) (vawake_any   _  ) (fun w121 (hm122 : Mm none (fun _ => True) w w121 [.blk g4 #[.int .u16 ((l.i0 : Nat) : Int), .int .u16 ((l.i1 : Nat) : Int)] 45, .blk g7 #[.int .u16 ((m.i0 : Nat) : Int), .int .u16 ((m.i1 : Nat) : Int)] 45]) => ?_))
    simp only [nz1, nz2, nz3]
    by_cases hs123 : vawake_m = true
    rotate_left
    · rw [(Bool.eq_false_iff.2 hs123 : vawake_m = false)]
      refine lvw 65 (.bool false) rfl rfl (run_mv rfl rfl) ?_
      simp only [nz1, nz2, nz3]
      refine lst_skip 66 rfl rfl ?_
      simp only [nz1, nz2, nz3]
      refine lst_skip 67 rfl rfl ?_
      simp only [nz1, nz2, nz3]
      refine lst_skip 68 rfl rfl ?_
      simp only [nz1, nz2, nz3]
      refine lst_skip 69 rfl rfl ?_
      simp only [nz1, nz2, nz3]
      refine lst_skip 70 rfl rfl ?_
      simp only [nz1, nz2, nz3]
      refine lvw 71 (.bool false) rfl rfl (run_pickf rfl rfl rfl) ?_
      simp only [nz1, nz2, nz3]
      refine lvw 72 (.bool false) rfl rfl (run_mv rfl rfl) ?_
      simp only [nz1, nz2, nz3]
      refine lst_skip 73 rfl rfl ?_
      simp only [nz1, nz2, nz3]
      refine lst_skip 74 rfl rfl ?_
      simp only [nz1, nz2, nz3]
      refine lst_skip 75 rfl rfl ?_
      simp only [nz1, nz2, nz3]
      refine lst_skip 76 rfl rfl ?_
      simp only [nz1, nz2, nz3]
      refine lst_skip 77 rfl rfl ?_
      simp only [nz1, nz2, nz3]
      refine lst_skip 78 rfl rfl ?_
      simp only [nz1, nz2, nz3]
      refine lvw 79 (.bool false) rfl rfl (run_pickf rfl rfl rfl) ?_
      simp only [nz1, nz2, nz3]
      refine lvw 80 (.bool false) rfl rfl (run_mv rfl rfl) ?_
      simp only [nz1, nz2, nz3]
      refine lst_skip 81 rfl rfl ?_
      simp only [nz1, nz2, nz3]
      refine lst_skip 82 rfl rfl ?_
      simp only [nz1, nz2, nz3]
      refine lvw 83 (.bool false) rfl rfl (run_pickf rfl rfl rfl) ?_
      simp only [nz1, nz2, nz3]
      refine lvw 4 (.bool false) rfl rfl (run_as rfl rfl) ?_
      simp only [nz1, nz2, nz3]
      refine wpList_nil ?_
      refine then_n (hK120 _ _ ?_)
      refine wp_ret ?_
      have he137 : vnumbers_m l m = false := (show vnumbers_m l m = false from by unfold vnumbers_m; rw [if_neg hs27, if_neg hs46, if_neg hs76, if_neg hs95, if_neg hs123] <;> rfl)
      exact ⟨rfl, .bool false, res_t rfl rfl, ⟨by rw [he137], hm122.below⟩⟩
    rw [(hs123 : vawake_m = true)]
    refine lvw 65 (.bool true) rfl rfl (run_mv rfl rfl) ?_
    simp only [nz1, nz2, nz3]
    refine lvw 66 (.string (tx (((ldigits_m ((l.i0 : Nat) : Int)) ++ [46]) ++ (ldigits_m ((l.i1 : Nat) : Int))))) rfl rfl (run_mv rfl rfl) ?_
    simp only [nz1, nz2, nz3]
    refine lvw 67 (.string (tx (((ldigits_m ((m.i0 : Nat) : Int)) ++ [46]) ++ (ldigits_m ((m.i1 : Nat) : Int))))) rfl rfl (run_mv rfl rfl) ?_
    simp only [nz1, nz2, nz3]
    refine lst rfl (m_call hm122 68 (.int .i64 ((compare_m (((ldigits_m ((l.i0 : Nat) : Int)) ++ [46]) ++ (ldigits_m ((l.i1 : Nat) : Int))) (((ldigits_m ((m.i0 : Nat) : Int)) ++ [46]) ++ (ldigits_m ((m.i1 : Nat) : Int)))))) rfl (run_compare rfl rfl rfl) (compare_any (((ldigits_m ((l.i0 : Nat) : Int)) ++ [46]) ++ (ldigits_m ((l.i1 : Nat) : Int))) (((ldigits_m ((m.i0 : Nat) : Int)) ++ [46]) ++ (ldigits_m ((m.i1 : Nat) : Int)))  _  ) (fun w124 (hm125 : Mm none (fun _ => True) w w124 [.blk g4 #[.int .u16 ((l.i0 : Nat) : Int), .int .u16 ((l.i1 : Nat) : Int)] 45, .blk g7 #[.int .u16 ((m.i0 : Nat) : Int), .int .u16 ((m.i1 : Nat) : Int)] 45]) => ?_))
    have hf126 : -1 ≤ (compare_m (((ldigits_m ((l.i0 : Nat) : Int)) ++ [46]) ++ (ldigits_m ((l.i1 : Nat) : Int))) (((ldigits_m ((m.i0 : Nat) : Int)) ++ [46]) ++ (ldigits_m ((m.i1 : Nat) : Int)))) ∧ (compare_m (((ldigits_m ((l.i0 : Nat) : Int)) ++ [46]) ++ (ldigits_m ((l.i1 : Nat) : Int))) (((ldigits_m ((m.i0 : Nat) : Int)) ++ [46]) ++ (ldigits_m ((m.i1 : Nat) : Int)))) ≤ 1 := compare_rng (((ldigits_m ((l.i0 : Nat) : Int)) ++ [46]) ++ (ldigits_m ((l.i1 : Nat) : Int))) (((ldigits_m ((m.i0 : Nat) : Int)) ++ [46]) ++ (ldigits_m ((m.i1 : Nat) : Int)))
    simp only [nz1, nz2, nz3]
    refine lvw 69 (.int .i64 0) rfl rfl (run_mv rfl rfl) ?_
    simp only [nz1, nz2, nz3]
    refine lvb 70 ((compare_m (((ldigits_m ((l.i0 : Nat) : Int)) ++ [46]) ++ (ldigits_m ((l.i1 : Nat) : Int))) (((ldigits_m ((m.i0 : Nat) : Int)) ++ [46]) ++ (ldigits_m ((m.i1 : Nat) : Int)))) = 0) rfl rfl (z_eql (compare_m (((ldigits_m ((l.i0 : Nat) : Int)) ++ [46]) ++ (ldigits_m ((l.i1 : Nat) : Int))) (((ldigits_m ((m.i0 : Nat) : Int)) ++ [46]) ++ (ldigits_m ((m.i1 : Nat) : Int)))) 0 rfl rfl rfl) (fun hs127 => ?_) (fun hs127 => ?_)
    rotate_left
    · simp only [nz1, nz2, nz3]
      refine lvw 71 (.bool false) rfl rfl (run_pick rfl rfl rfl) ?_
      simp only [nz1, nz2, nz3]
      refine lvw 72 (.bool false) rfl rfl (run_mv rfl rfl) ?_
      simp only [nz1, nz2, nz3]
      refine lst_skip 73 rfl rfl ?_
      simp only [nz1, nz2, nz3]
      refine lst_skip 74 rfl rfl ?_
      simp only [nz1, nz2, nz3]
      refine lst_skip 75 rfl rfl ?_
      simp only [nz1, nz2, nz3]
      refine lst_skip 76 rfl rfl ?_
      simp only [nz1, nz2, nz3]
      refine lst_skip 77 rfl rfl ?_
      simp only [nz1, nz2, nz3]
      refine lst_skip 78 rfl rfl ?_
      simp only [nz1, nz2, nz3]
      refine lvw 79 (.bool false) rfl rfl (run_pickf rfl rfl rfl) ?_
      simp only [nz1, nz2, nz3]
      refine lvw 80 (.bool false) rfl rfl (run_mv rfl rfl) ?_
      simp only [nz1, nz2, nz3]
      refine lst_skip 81 rfl rfl ?_
      simp only [nz1, nz2, nz3]
      refine lst_skip 82 rfl rfl ?_
      simp only [nz1, nz2, nz3]
      refine lvw 83 (.bool false) rfl rfl (run_pickf rfl rfl rfl) ?_
      simp only [nz1, nz2, nz3]
      refine lvw 4 (.bool false) rfl rfl (run_as rfl rfl) ?_
      simp only [nz1, nz2, nz3]
      refine wpList_nil ?_
      refine then_n (hK120 _ _ ?_)
      refine wp_ret ?_
      have he136 : vnumbers_m l m = false := (show vnumbers_m l m = false from by unfold vnumbers_m; rw [if_neg hs27, if_neg hs46, if_neg hs76, if_neg hs95, if_pos hs123, if_neg hs127] <;> rfl)
      exact ⟨rfl, .bool false, res_t rfl rfl, ⟨by rw [he136], hm125.below⟩⟩
    simp only [nz1, nz2, nz3]
    refine lvw 71 (.bool true) rfl rfl (run_pick rfl rfl rfl) ?_
    simp only [nz1, nz2, nz3]
    refine lvw 72 (.bool true) rfl rfl (run_mv rfl rfl) ?_
    simp only [nz1, nz2, nz3]
    refine lvw 73 (.string (tx (((ldigits_m ((l.i0 : Nat) : Int)) ++ [46]) ++ (ldigits_m ((l.i1 : Nat) : Int))))) rfl rfl (run_mv rfl rfl) ?_
    simp only [nz1, nz2, nz3]
    refine lvw 74 (.string (tx ([48] ++ (((ldigits_m ((l.i0 : Nat) : Int)) ++ [46]) ++ (ldigits_m ((l.i1 : Nat) : Int)))))) rfl rfl (t_cat ([48]) (((ldigits_m ((l.i0 : Nat) : Int)) ++ [46]) ++ (ldigits_m ((l.i1 : Nat) : Int))) (by first | omega | (simp; omega)) rfl rfl rfl) ?_
    simp only [nz1, nz2, nz3]
    refine lvw 75 (.string (tx (((ldigits_m ((m.i0 : Nat) : Int)) ++ [46]) ++ (ldigits_m ((m.i1 : Nat) : Int))))) rfl rfl (run_mv rfl rfl) ?_
    simp only [nz1, nz2, nz3]
    refine lst rfl (m_call hm125 76 (.int .i64 ((compare_m ([48] ++ (((ldigits_m ((l.i0 : Nat) : Int)) ++ [46]) ++ (ldigits_m ((l.i1 : Nat) : Int)))) (((ldigits_m ((m.i0 : Nat) : Int)) ++ [46]) ++ (ldigits_m ((m.i1 : Nat) : Int)))))) rfl (run_compare rfl rfl rfl) (compare_any ([48] ++ (((ldigits_m ((l.i0 : Nat) : Int)) ++ [46]) ++ (ldigits_m ((l.i1 : Nat) : Int)))) (((ldigits_m ((m.i0 : Nat) : Int)) ++ [46]) ++ (ldigits_m ((m.i1 : Nat) : Int)))  _  ) (fun w128 (hm129 : Mm none (fun _ => True) w w128 [.blk g4 #[.int .u16 ((l.i0 : Nat) : Int), .int .u16 ((l.i1 : Nat) : Int)] 45, .blk g7 #[.int .u16 ((m.i0 : Nat) : Int), .int .u16 ((m.i1 : Nat) : Int)] 45]) => ?_))
    have hf130 : -1 ≤ (compare_m ([48] ++ (((ldigits_m ((l.i0 : Nat) : Int)) ++ [46]) ++ (ldigits_m ((l.i1 : Nat) : Int)))) (((ldigits_m ((m.i0 : Nat) : Int)) ++ [46]) ++ (ldigits_m ((m.i1 : Nat) : Int)))) ∧ (compare_m ([48] ++ (((ldigits_m ((l.i0 : Nat) : Int)) ++ [46]) ++ (ldigits_m ((l.i1 : Nat) : Int)))) (((ldigits_m ((m.i0 : Nat) : Int)) ++ [46]) ++ (ldigits_m ((m.i1 : Nat) : Int)))) ≤ 1 := compare_rng ([48] ++ (((ldigits_m ((l.i0 : Nat) : Int)) ++ [46]) ++ (ldigits_m ((l.i1 : Nat) : Int)))) (((ldigits_m ((m.i0 : Nat) : Int)) ++ [46]) ++ (ldigits_m ((m.i1 : Nat) : Int)))
    simp only [nz1, nz2, nz3]
    refine lvw 77 (.int .i64 0) rfl rfl (run_mv rfl rfl) ?_
    simp only [nz1, nz2, nz3]
    refine lvb 78 ((compare_m ([48] ++ (((ldigits_m ((l.i0 : Nat) : Int)) ++ [46]) ++ (ldigits_m ((l.i1 : Nat) : Int)))) (((ldigits_m ((m.i0 : Nat) : Int)) ++ [46]) ++ (ldigits_m ((m.i1 : Nat) : Int)))) = 0) rfl rfl (z_eql (compare_m ([48] ++ (((ldigits_m ((l.i0 : Nat) : Int)) ++ [46]) ++ (ldigits_m ((l.i1 : Nat) : Int)))) (((ldigits_m ((m.i0 : Nat) : Int)) ++ [46]) ++ (ldigits_m ((m.i1 : Nat) : Int)))) 0 rfl rfl rfl) (fun hs131 => ?_) (fun hs131 => ?_)
    · simp only [nz1, nz2, nz3]
      refine lvw 79 (.bool true) rfl rfl (run_pick rfl rfl rfl) ?_
      simp only [nz1, nz2, nz3]
      refine lvw 80 (.bool true) rfl rfl (run_mv rfl rfl) ?_
      simp only [nz1, nz2, nz3]
      refine lvw 81 (.string (tx (((ldigits_m ((l.i0 : Nat) : Int)) ++ [46]) ++ (ldigits_m ((l.i1 : Nat) : Int))))) rfl rfl (run_mv rfl rfl) ?_
      simp only [nz1, nz2, nz3]
      refine lst rfl (m_call hm129 82 (.bool ((check_m (((ldigits_m ((l.i0 : Nat) : Int)) ++ [46]) ++ (ldigits_m ((l.i1 : Nat) : Int)))))) rfl (run_check rfl rfl) (check_any (((ldigits_m ((l.i0 : Nat) : Int)) ++ [46]) ++ (ldigits_m ((l.i1 : Nat) : Int)))  _  ) (fun w132 (hm133 : Mm none (fun _ => True) w w132 [.blk g4 #[.int .u16 ((l.i0 : Nat) : Int), .int .u16 ((l.i1 : Nat) : Int)] 45, .blk g7 #[.int .u16 ((m.i0 : Nat) : Int), .int .u16 ((m.i1 : Nat) : Int)] 45]) => ?_))
      simp only [nz1, nz2, nz3]
      refine lvw 83 (.bool ((check_m (((ldigits_m ((l.i0 : Nat) : Int)) ++ [46]) ++ (ldigits_m ((l.i1 : Nat) : Int)))))) rfl rfl (run_pick rfl rfl rfl) ?_
      simp only [nz1, nz2, nz3]
      refine lvw 4 (.bool ((check_m (((ldigits_m ((l.i0 : Nat) : Int)) ++ [46]) ++ (ldigits_m ((l.i1 : Nat) : Int)))))) rfl rfl (run_as rfl rfl) ?_
      simp only [nz1, nz2, nz3]
      refine wpList_nil ?_
      refine then_n (hK120 _ _ ?_)
      refine wp_ret ?_
      have he134 : vnumbers_m l m = (check_m (((ldigits_m ((l.i0 : Nat) : Int)) ++ [46]) ++ (ldigits_m ((l.i1 : Nat) : Int)))) := (show vnumbers_m l m = (check_m (((ldigits_m ((l.i0 : Nat) : Int)) ++ [46]) ++ (ldigits_m ((l.i1 : Nat) : Int)))) from by unfold vnumbers_m; rw [if_neg hs27, if_neg hs46, if_neg hs76, if_neg hs95, if_pos hs123, if_pos hs127, if_pos hs131] <;> rfl)
      exact ⟨rfl, .bool ((check_m (((ldigits_m ((l.i0 : Nat) : Int)) ++ [46]) ++ (ldigits_m ((l.i1 : Nat) : Int))))), res_t rfl rfl, ⟨by rw [he134], hm133.below⟩⟩
    simp only [nz1, nz2, nz3]
    refine lvw 79 (.bool false) rfl rfl (run_pick rfl rfl rfl) ?_
    simp only [nz1, nz2, nz3]
    refine lvw 80 (.bool false) rfl rfl (run_mv rfl rfl) ?_
    simp only [nz1, nz2, nz3]
    refine lst_skip 81 rfl rfl ?_
    simp only [nz1, nz2, nz3]
    refine lst_skip 82 rfl rfl ?_
    simp only [nz1, nz2, nz3]
    refine lvw 83 (.bool false) rfl rfl (run_pickf rfl rfl rfl) ?_
    simp only [nz1, nz2, nz3]
    refine lvw 4 (.bool false) rfl rfl (run_as rfl rfl) ?_
    simp only [nz1, nz2, nz3]
    refine wpList_nil ?_
    refine then_n (hK120 _ _ ?_)
    refine wp_ret ?_
    have he135 : vnumbers_m l m = false := (show vnumbers_m l m = false from by unfold vnumbers_m; rw [if_neg hs27, if_neg hs46, if_neg hs76, if_neg hs95, if_pos hs123, if_pos hs127, if_neg hs131] <;> rfl)
    exact ⟨rfl, .bool false, res_t rfl rfl, ⟨by rw [he135], hm129.below⟩⟩
  simp only [nz1, nz2, nz3]
  refine lvw 58 (.bool true) rfl rfl (run_mv rfl rfl) ?_
  simp only [nz1, nz2, nz3]
  refine lvw 59 (.int .u16 ((l.i1 : Nat) : Int)) rfl rfl (run_mv rfl rfl) ?_
  simp only [nz1, nz2, nz3]
  refine lvw 60 (.int .u16 ((m.i1 : Nat) : Int)) rfl rfl (run_mv rfl rfl) ?_
  simp only [nz1, nz2, nz3]
  refine lvw 61 (.bool (decide (m.i1 < l.i1))) rfl rfl (r_gtr l.i1 m.i1 rfl rfl rfl) ?_
  simp only [nz1, nz2, nz3]
  refine lvw 62 (.bool (decide (m.i1 < l.i1))) rfl rfl (run_pick rfl rfl rfl) ?_
  simp only [nz1, nz2, nz3]
  refine lvw 63 (.bool (decide (m.i1 < l.i1))) rfl rfl (run_pickf rfl rfl rfl) ?_
  simp only [nz1, nz2, nz3]
  refine lvw 50 (.bool (decide (m.i1 < l.i1))) rfl rfl (run_as rfl rfl) ?_
  simp only [nz1, nz2, nz3]
  refine wpList_nil ?_
  refine then_n (hK75 _ _ ?_)
  refine wp_cutK (fun a' w' => ∃ (x96 : Nat), vnumbers_m_j2 l m = .inl x96 ∧ a' = ⟨#[.agg #[.int .u16 ((l.i0 : Nat) : Int), .int .u16 ((l.i1 : Nat) : Int)], .agg #[.int .u16 ((m.i0 : Nat) : Int), .int .u16 ((m.i1 : Nat) : Int)], .pointer (some ⟨g4, 0, none⟩), .pointer (some ⟨g7, 0, none⟩), .bool false, .int .u16 ((l.i0 : Nat) : Int), .int .u16 ((m.i0 : Nat) : Int), .int .u16 ((l.i1 : Nat) : Int), .int .u16 ((m.i1 : Nat) : Int), .string (tx (((ldigits_m ((l.i0 : Nat) : Int)) ++ [46]) ++ (ldigits_m ((l.i1 : Nat) : Int)))), .string (tx (((ldigits_m ((m.i0 : Nat) : Int)) ++ [46]) ++ (ldigits_m ((m.i1 : Nat) : Int)))), .int .i64 ((x96 : Nat) : Int), .pointer (some ⟨g4, 0, none⟩), .int .u16 ((l.i0 : Nat) : Int), .pointer (some ⟨g7, 0, none⟩), .int .u16 ((m.i0 : Nat) : Int), .pointer (some ⟨g4, 1, none⟩), .int .u16 ((l.i1 : Nat) : Int), .pointer (some ⟨g7, 1, none⟩), .int .u16 ((m.i1 : Nat) : Int), .int .u16 ((l.i0 : Nat) : Int), .int .i64 ((l.i0 : Nat) : Int), .string (tx (ldigits_m ((l.i0 : Nat) : Int))), .string (tx ((ldigits_m ((l.i0 : Nat) : Int)) ++ [46])), .int .u16 ((l.i1 : Nat) : Int), .int .i64 ((l.i1 : Nat) : Int), .string (tx (ldigits_m ((l.i1 : Nat) : Int))), .string (tx (((ldigits_m ((l.i0 : Nat) : Int)) ++ [46]) ++ (ldigits_m ((l.i1 : Nat) : Int)))), .int .u16 ((m.i0 : Nat) : Int), .int .i64 ((m.i0 : Nat) : Int), .string (tx (ldigits_m ((m.i0 : Nat) : Int))), .string (tx ((ldigits_m ((m.i0 : Nat) : Int)) ++ [46])), .int .u16 ((m.i1 : Nat) : Int), .int .i64 ((m.i1 : Nat) : Int), .string (tx (ldigits_m ((m.i1 : Nat) : Int))), .string (tx (((ldigits_m ((m.i0 : Nat) : Int)) ++ [46]) ++ (ldigits_m ((m.i1 : Nat) : Int)))), .bool false, .int .u16 ((l.i0 : Nat) : Int), .int .u16 ((m.i0 : Nat) : Int), .bool false, .bool false, .int .u16 ((l.i0 : Nat) : Int), .int .u16 ((m.i0 : Nat) : Int), .bool false, .bool false, undef, undef, undef, .bool false, .bool false, .bool (decide (m.i1 < l.i1)), .int .u16 ((l.i0 : Nat) : Int), .int .u16 ((m.i0 : Nat) : Int), .bool false, .bool false, .int .u16 ((l.i0 : Nat) : Int), .int .u16 ((m.i0 : Nat) : Int), .bool true, .bool true, .int .u16 ((l.i1 : Nat) : Int), .int .u16 ((m.i1 : Nat) : Int), .bool (decide (m.i1 < l.i1)), .bool (decide (m.i1 < l.i1)), .bool (decide (m.i1 < l.i1)), undef, undef, undef, undef, undef, undef, undef, undef, undef, undef, undef, undef, undef, undef, undef, undef, undef, undef, undef, undef], []⟩ ∧ Mm none (fun _ => True) w w' [.blk g4 #[.int .u16 ((l.i0 : Nat) : Int), .int .u16 ((l.i1 : Nat) : Int)] 45, .blk g7 #[.int .u16 ((m.i0 : Nat) : Int), .int .u16 ((m.i1 : Nat) : Int)] 45]) ?_ ?_
  · refine cond_d (m.i1 < l.i1) rfl (fun hc98 => ?_) (fun hc98 => ?_)
    rotate_left
    · refine wp_skip ?_
      refine then_n ?_
      exact ⟨0, (show vnumbers_m_j2 l m = .inl 0 from by unfold vnumbers_m_j2; rw [if_neg hc98] <;> rfl), rfl, hm22⟩
    refine wp_region_lit ?_
    refine lvw 11 (.int .i64 1) rfl rfl (run_as rfl rfl) ?_
    simp only [nz1, nz2, nz3]
    refine wpList_nil ?_
    refine then_n ?_
    exact ⟨1, (show vnumbers_m_j2 l m = .inl 1 from by unfold vnumbers_m_j2; rw [if_pos hc98] <;> rfl), rfl, hm22⟩
  rintro _ w99 ⟨x96, hx97, rfl, hm100⟩
  have hq101 : vnumbers_m l m = vnumbers_m_c2 l m x96 := (show vnumbers_m l m = vnumbers_m_c2 l m x96 from by unfold vnumbers_m; rw [if_neg hs27, if_neg hs46, if_neg hs76, if_pos hs95, hx97] <;> rfl)
  refine blk_n ?_
  refine then_n (hK25 _ _ ?_)
  refine wp_seq_k (fun K102 hK102 => ?_)
  refine wp_region_lit ?_
  refine lst rfl (m_call hm100 64 (.bool (vawake_m)) rfl (run_vawake rfl) (vawake_any   _  ) (fun w103 (hm104 : Mm none (fun _ => True) w w103 [.blk g4 #[.int .u16 ((l.i0 : Nat) : Int), .int .u16 ((l.i1 : Nat) : Int)] 45, .blk g7 #[.int .u16 ((m.i0 : Nat) : Int), .int .u16 ((m.i1 : Nat) : Int)] 45]) => ?_))
  simp only [nz1, nz2, nz3]
  by_cases hs105 : vawake_m = true
  rotate_left
  · rw [(Bool.eq_false_iff.2 hs105 : vawake_m = false)]
    refine lvw 65 (.bool false) rfl rfl (run_mv rfl rfl) ?_
    simp only [nz1, nz2, nz3]
    refine lst_skip 66 rfl rfl ?_
    simp only [nz1, nz2, nz3]
    refine lst_skip 67 rfl rfl ?_
    simp only [nz1, nz2, nz3]
    refine lst_skip 68 rfl rfl ?_
    simp only [nz1, nz2, nz3]
    refine lst_skip 69 rfl rfl ?_
    simp only [nz1, nz2, nz3]
    refine lst_skip 70 rfl rfl ?_
    simp only [nz1, nz2, nz3]
    refine lvw 71 (.bool false) rfl rfl (run_pickf rfl rfl rfl) ?_
    simp only [nz1, nz2, nz3]
    refine lvw 72 (.bool false) rfl rfl (run_mv rfl rfl) ?_
    simp only [nz1, nz2, nz3]
    refine lst_skip 73 rfl rfl ?_
    simp only [nz1, nz2, nz3]
    refine lst_skip 74 rfl rfl ?_
    simp only [nz1, nz2, nz3]
    refine lst_skip 75 rfl rfl ?_
    simp only [nz1, nz2, nz3]
    refine lst_skip 76 rfl rfl ?_
    simp only [nz1, nz2, nz3]
    refine lst_skip 77 rfl rfl ?_
    simp only [nz1, nz2, nz3]
    refine lst_skip 78 rfl rfl ?_
    simp only [nz1, nz2, nz3]
    refine lvw 79 (.bool false) rfl rfl (run_pickf rfl rfl rfl) ?_
    simp only [nz1, nz2, nz3]
    refine lvw 80 (.bool false) rfl rfl (run_mv rfl rfl) ?_
    simp only [nz1, nz2, nz3]
    refine lst_skip 81 rfl rfl ?_
    simp only [nz1, nz2, nz3]
    refine lst_skip 82 rfl rfl ?_
    simp only [nz1, nz2, nz3]
    refine lvw 83 (.bool false) rfl rfl (run_pickf rfl rfl rfl) ?_
    simp only [nz1, nz2, nz3]
    refine lvw 4 (.bool false) rfl rfl (run_as rfl rfl) ?_
    simp only [nz1, nz2, nz3]
    refine wpList_nil ?_
    refine then_n (hK102 _ _ ?_)
    refine wp_ret ?_
    have he119 : vnumbers_m l m = false := (hq101.trans (show vnumbers_m_c2 l m x96 = false from by unfold vnumbers_m_c2; rw [if_neg hs105] <;> rfl))
    exact ⟨rfl, .bool false, res_t rfl rfl, ⟨by rw [he119], hm104.below⟩⟩
  rw [(hs105 : vawake_m = true)]
  refine lvw 65 (.bool true) rfl rfl (run_mv rfl rfl) ?_
  simp only [nz1, nz2, nz3]
  refine lvw 66 (.string (tx (((ldigits_m ((l.i0 : Nat) : Int)) ++ [46]) ++ (ldigits_m ((l.i1 : Nat) : Int))))) rfl rfl (run_mv rfl rfl) ?_
  simp only [nz1, nz2, nz3]
  refine lvw 67 (.string (tx (((ldigits_m ((m.i0 : Nat) : Int)) ++ [46]) ++ (ldigits_m ((m.i1 : Nat) : Int))))) rfl rfl (run_mv rfl rfl) ?_
  simp only [nz1, nz2, nz3]
  refine lst rfl (m_call hm104 68 (.int .i64 ((compare_m (((ldigits_m ((l.i0 : Nat) : Int)) ++ [46]) ++ (ldigits_m ((l.i1 : Nat) : Int))) (((ldigits_m ((m.i0 : Nat) : Int)) ++ [46]) ++ (ldigits_m ((m.i1 : Nat) : Int)))))) rfl (run_compare rfl rfl rfl) (compare_any (((ldigits_m ((l.i0 : Nat) : Int)) ++ [46]) ++ (ldigits_m ((l.i1 : Nat) : Int))) (((ldigits_m ((m.i0 : Nat) : Int)) ++ [46]) ++ (ldigits_m ((m.i1 : Nat) : Int)))  _  ) (fun w106 (hm107 : Mm none (fun _ => True) w w106 [.blk g4 #[.int .u16 ((l.i0 : Nat) : Int), .int .u16 ((l.i1 : Nat) : Int)] 45, .blk g7 #[.int .u16 ((m.i0 : Nat) : Int), .int .u16 ((m.i1 : Nat) : Int)] 45]) => ?_))
  have hf108 : -1 ≤ (compare_m (((ldigits_m ((l.i0 : Nat) : Int)) ++ [46]) ++ (ldigits_m ((l.i1 : Nat) : Int))) (((ldigits_m ((m.i0 : Nat) : Int)) ++ [46]) ++ (ldigits_m ((m.i1 : Nat) : Int)))) ∧ (compare_m (((ldigits_m ((l.i0 : Nat) : Int)) ++ [46]) ++ (ldigits_m ((l.i1 : Nat) : Int))) (((ldigits_m ((m.i0 : Nat) : Int)) ++ [46]) ++ (ldigits_m ((m.i1 : Nat) : Int)))) ≤ 1 := compare_rng (((ldigits_m ((l.i0 : Nat) : Int)) ++ [46]) ++ (ldigits_m ((l.i1 : Nat) : Int))) (((ldigits_m ((m.i0 : Nat) : Int)) ++ [46]) ++ (ldigits_m ((m.i1 : Nat) : Int)))
  simp only [nz1, nz2, nz3]
  refine lvw 69 (.int .i64 ((x96 : Nat) : Int)) rfl rfl (run_mv rfl rfl) ?_
  simp only [nz1, nz2, nz3]
  refine lvb 70 ((compare_m (((ldigits_m ((l.i0 : Nat) : Int)) ++ [46]) ++ (ldigits_m ((l.i1 : Nat) : Int))) (((ldigits_m ((m.i0 : Nat) : Int)) ++ [46]) ++ (ldigits_m ((m.i1 : Nat) : Int)))) = ((x96 : Nat) : Int)) rfl rfl (z_eql (compare_m (((ldigits_m ((l.i0 : Nat) : Int)) ++ [46]) ++ (ldigits_m ((l.i1 : Nat) : Int))) (((ldigits_m ((m.i0 : Nat) : Int)) ++ [46]) ++ (ldigits_m ((m.i1 : Nat) : Int)))) ((x96 : Nat) : Int) rfl rfl rfl) (fun hs109 => ?_) (fun hs109 => ?_)
  rotate_left
  · simp only [nz1, nz2, nz3]
    refine lvw 71 (.bool false) rfl rfl (run_pick rfl rfl rfl) ?_
    simp only [nz1, nz2, nz3]
    refine lvw 72 (.bool false) rfl rfl (run_mv rfl rfl) ?_
    simp only [nz1, nz2, nz3]
    refine lst_skip 73 rfl rfl ?_
    simp only [nz1, nz2, nz3]
    refine lst_skip 74 rfl rfl ?_
    simp only [nz1, nz2, nz3]
    refine lst_skip 75 rfl rfl ?_
    simp only [nz1, nz2, nz3]
    refine lst_skip 76 rfl rfl ?_
    simp only [nz1, nz2, nz3]
    refine lst_skip 77 rfl rfl ?_
    simp only [nz1, nz2, nz3]
    refine lst_skip 78 rfl rfl ?_
    simp only [nz1, nz2, nz3]
    refine lvw 79 (.bool false) rfl rfl (run_pickf rfl rfl rfl) ?_
    simp only [nz1, nz2, nz3]
    refine lvw 80 (.bool false) rfl rfl (run_mv rfl rfl) ?_
    simp only [nz1, nz2, nz3]
    refine lst_skip 81 rfl rfl ?_
    simp only [nz1, nz2, nz3]
    refine lst_skip 82 rfl rfl ?_
    simp only [nz1, nz2, nz3]
    refine lvw 83 (.bool false) rfl rfl (run_pickf rfl rfl rfl) ?_
    simp only [nz1, nz2, nz3]
    refine lvw 4 (.bool false) rfl rfl (run_as rfl rfl) ?_
    simp only [nz1, nz2, nz3]
    refine wpList_nil ?_
    refine then_n (hK102 _ _ ?_)
    refine wp_ret ?_
    have he118 : vnumbers_m l m = false := (hq101.trans (show vnumbers_m_c2 l m x96 = false from by unfold vnumbers_m_c2; rw [if_pos hs105, if_neg hs109] <;> rfl))
    exact ⟨rfl, .bool false, res_t rfl rfl, ⟨by rw [he118], hm107.below⟩⟩
  simp only [nz1, nz2, nz3]
  refine lvw 71 (.bool true) rfl rfl (run_pick rfl rfl rfl) ?_
  simp only [nz1, nz2, nz3]
  refine lvw 72 (.bool true) rfl rfl (run_mv rfl rfl) ?_
  simp only [nz1, nz2, nz3]
  refine lvw 73 (.string (tx (((ldigits_m ((l.i0 : Nat) : Int)) ++ [46]) ++ (ldigits_m ((l.i1 : Nat) : Int))))) rfl rfl (run_mv rfl rfl) ?_
  simp only [nz1, nz2, nz3]
  refine lvw 74 (.string (tx ([48] ++ (((ldigits_m ((l.i0 : Nat) : Int)) ++ [46]) ++ (ldigits_m ((l.i1 : Nat) : Int)))))) rfl rfl (t_cat ([48]) (((ldigits_m ((l.i0 : Nat) : Int)) ++ [46]) ++ (ldigits_m ((l.i1 : Nat) : Int))) (by first | omega | (simp; omega)) rfl rfl rfl) ?_
  simp only [nz1, nz2, nz3]
  refine lvw 75 (.string (tx (((ldigits_m ((m.i0 : Nat) : Int)) ++ [46]) ++ (ldigits_m ((m.i1 : Nat) : Int))))) rfl rfl (run_mv rfl rfl) ?_
  simp only [nz1, nz2, nz3]
  refine lst rfl (m_call hm107 76 (.int .i64 ((compare_m ([48] ++ (((ldigits_m ((l.i0 : Nat) : Int)) ++ [46]) ++ (ldigits_m ((l.i1 : Nat) : Int)))) (((ldigits_m ((m.i0 : Nat) : Int)) ++ [46]) ++ (ldigits_m ((m.i1 : Nat) : Int)))))) rfl (run_compare rfl rfl rfl) (compare_any ([48] ++ (((ldigits_m ((l.i0 : Nat) : Int)) ++ [46]) ++ (ldigits_m ((l.i1 : Nat) : Int)))) (((ldigits_m ((m.i0 : Nat) : Int)) ++ [46]) ++ (ldigits_m ((m.i1 : Nat) : Int)))  _  ) (fun w110 (hm111 : Mm none (fun _ => True) w w110 [.blk g4 #[.int .u16 ((l.i0 : Nat) : Int), .int .u16 ((l.i1 : Nat) : Int)] 45, .blk g7 #[.int .u16 ((m.i0 : Nat) : Int), .int .u16 ((m.i1 : Nat) : Int)] 45]) => ?_))
  have hf112 : -1 ≤ (compare_m ([48] ++ (((ldigits_m ((l.i0 : Nat) : Int)) ++ [46]) ++ (ldigits_m ((l.i1 : Nat) : Int)))) (((ldigits_m ((m.i0 : Nat) : Int)) ++ [46]) ++ (ldigits_m ((m.i1 : Nat) : Int)))) ∧ (compare_m ([48] ++ (((ldigits_m ((l.i0 : Nat) : Int)) ++ [46]) ++ (ldigits_m ((l.i1 : Nat) : Int)))) (((ldigits_m ((m.i0 : Nat) : Int)) ++ [46]) ++ (ldigits_m ((m.i1 : Nat) : Int)))) ≤ 1 := compare_rng ([48] ++ (((ldigits_m ((l.i0 : Nat) : Int)) ++ [46]) ++ (ldigits_m ((l.i1 : Nat) : Int)))) (((ldigits_m ((m.i0 : Nat) : Int)) ++ [46]) ++ (ldigits_m ((m.i1 : Nat) : Int)))
  simp only [nz1, nz2, nz3]
  refine lvw 77 (.int .i64 ((x96 : Nat) : Int)) rfl rfl (run_mv rfl rfl) ?_
  simp only [nz1, nz2, nz3]
  refine lvb 78 ((compare_m ([48] ++ (((ldigits_m ((l.i0 : Nat) : Int)) ++ [46]) ++ (ldigits_m ((l.i1 : Nat) : Int)))) (((ldigits_m ((m.i0 : Nat) : Int)) ++ [46]) ++ (ldigits_m ((m.i1 : Nat) : Int)))) = ((x96 : Nat) : Int)) rfl rfl (z_eql (compare_m ([48] ++ (((ldigits_m ((l.i0 : Nat) : Int)) ++ [46]) ++ (ldigits_m ((l.i1 : Nat) : Int)))) (((ldigits_m ((m.i0 : Nat) : Int)) ++ [46]) ++ (ldigits_m ((m.i1 : Nat) : Int)))) ((x96 : Nat) : Int) rfl rfl rfl) (fun hs113 => ?_) (fun hs113 => ?_)
  · simp only [nz1, nz2, nz3]
    refine lvw 79 (.bool true) rfl rfl (run_pick rfl rfl rfl) ?_
    simp only [nz1, nz2, nz3]
    refine lvw 80 (.bool true) rfl rfl (run_mv rfl rfl) ?_
    simp only [nz1, nz2, nz3]
    refine lvw 81 (.string (tx (((ldigits_m ((l.i0 : Nat) : Int)) ++ [46]) ++ (ldigits_m ((l.i1 : Nat) : Int))))) rfl rfl (run_mv rfl rfl) ?_
    simp only [nz1, nz2, nz3]
    refine lst rfl (m_call hm111 82 (.bool ((check_m (((ldigits_m ((l.i0 : Nat) : Int)) ++ [46]) ++ (ldigits_m ((l.i1 : Nat) : Int)))))) rfl (run_check rfl rfl) (check_any (((ldigits_m ((l.i0 : Nat) : Int)) ++ [46]) ++ (ldigits_m ((l.i1 : Nat) : Int)))  _  ) (fun w114 (hm115 : Mm none (fun _ => True) w w114 [.blk g4 #[.int .u16 ((l.i0 : Nat) : Int), .int .u16 ((l.i1 : Nat) : Int)] 45, .blk g7 #[.int .u16 ((m.i0 : Nat) : Int), .int .u16 ((m.i1 : Nat) : Int)] 45]) => ?_))
    simp only [nz1, nz2, nz3]
    refine lvw 83 (.bool ((check_m (((ldigits_m ((l.i0 : Nat) : Int)) ++ [46]) ++ (ldigits_m ((l.i1 : Nat) : Int)))))) rfl rfl (run_pick rfl rfl rfl) ?_
    simp only [nz1, nz2, nz3]
    refine lvw 4 (.bool ((check_m (((ldigits_m ((l.i0 : Nat) : Int)) ++ [46]) ++ (ldigits_m ((l.i1 : Nat) : Int)))))) rfl rfl (run_as rfl rfl) ?_
    simp only [nz1, nz2, nz3]
    refine wpList_nil ?_
    refine then_n (hK102 _ _ ?_)
    refine wp_ret ?_
    have he116 : vnumbers_m l m = (check_m (((ldigits_m ((l.i0 : Nat) : Int)) ++ [46]) ++ (ldigits_m ((l.i1 : Nat) : Int)))) := (hq101.trans (show vnumbers_m_c2 l m x96 = (check_m (((ldigits_m ((l.i0 : Nat) : Int)) ++ [46]) ++ (ldigits_m ((l.i1 : Nat) : Int)))) from by unfold vnumbers_m_c2; rw [if_pos hs105, if_pos hs109, if_pos hs113] <;> rfl))
    exact ⟨rfl, .bool ((check_m (((ldigits_m ((l.i0 : Nat) : Int)) ++ [46]) ++ (ldigits_m ((l.i1 : Nat) : Int))))), res_t rfl rfl, ⟨by rw [he116], hm115.below⟩⟩
  simp only [nz1, nz2, nz3]
  refine lvw 79 (.bool false) rfl rfl (run_pick rfl rfl rfl) ?_
  simp only [nz1, nz2, nz3]
  refine lvw 80 (.bool false) rfl rfl (run_mv rfl rfl) ?_
  simp only [nz1, nz2, nz3]
  refine lst_skip 81 rfl rfl ?_
  simp only [nz1, nz2, nz3]
  refine lst_skip 82 rfl rfl ?_
  simp only [nz1, nz2, nz3]
  refine lvw 83 (.bool false) rfl rfl (run_pickf rfl rfl rfl) ?_
  simp only [nz1, nz2, nz3]
  refine lvw 4 (.bool false) rfl rfl (run_as rfl rfl) ?_
  simp only [nz1, nz2, nz3]
  refine wpList_nil ?_
  refine then_n (hK102 _ _ ?_)
  refine wp_ret ?_
  have he117 : vnumbers_m l m = false := (hq101.trans (show vnumbers_m_c2 l m x96 = false from by unfold vnumbers_m_c2; rw [if_pos hs105, if_pos hs109, if_neg hs113] <;> rfl))
  exact ⟨rfl, .bool false, res_t rfl rfl, ⟨by rw [he117], hm111.below⟩⟩
theorem run_vnumbers {o : Oper} {a : Act} {w : World} {x0 x1 : Operand} {v0 v1 : Value} (ho : o.op = .call { callee := .value (.func 14), args := #[x0, x1], argTypes := #[45, 45] }) (h0 : a.eval x0 = v0) (h1 : a.eval x1 = v1) :
    (execOp a.eval o).run Tryd.prog w = .ok (.enter 14 #[v0, v1]) w := by
  unfold execOp
  simp only [ho]
  have hf : a.eval (.func 14) = .func (.func 14) #[] #[] := rfl
  generalize a.eval = f at *
  go_simp
end Go.Proofs.YtdohmmdfenafnaaDoor.Ve
