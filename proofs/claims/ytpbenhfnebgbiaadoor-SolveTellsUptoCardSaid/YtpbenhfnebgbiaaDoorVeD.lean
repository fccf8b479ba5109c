/- Layer 12: how versions stand, the document's. -/
import Derived.Test.YtpbenhfnebgbiaaDoorVeN
namespace Go.Proofs.YtpbenhfnebgbiaaDoor.Ve
open Go.RowKit
open Go.Proofs.YtpbenhfnebgbiaaDoor.Sym Go.Proofs.YtpbenhfnebgbiaaDoor.Mem
open Go.Proofs.YtpbenhfnebgbiaaDoor.Sx hiding Mm m_alloc m_store m_put m_call m_callx m_make m_append r_string r_ixS
set_option linter.unusedVariables false
open Go.Proofs.YtpbenhfnebgbiaaDoor.Pa
attribute [local irreducible] wpList Oper.wp

def rcompare_m_b1 (a : List UInt8) (b : List UInt8) (x39 : Int) (x40 : Int) (rec : Int × Int → Sum (Int × Int) (Int)) (x56 : Int) (x57 : Int) : Sum (Int × Int) (Int) :=
  if x56 < (((rrunes_m a).length : Nat) : Int) then
    if ¬ (48 ≤ ((rrunes_m a).getD x56.toNat 0) ∧ ((rrunes_m a).getD x56.toNat 0) ≤ 57) then
      if ¬ (rweight_m (rat_m (rrunes_m a) x56)) = (rweight_m (rat_m (rrunes_m b) x57)) then
        if (rweight_m (rat_m (rrunes_m a) x56)) < (rweight_m (rat_m (rrunes_m b) x57)) then
          .inr (-1)
        else
          .inr 1
      else
        rec ((x56 + (1 : Int)), (x57 + (1 : Int)))
    else
      if x57 < (((rrunes_m b).length : Nat) : Int) then
        if ¬ (48 ≤ ((rrunes_m b).getD x57.toNat 0) ∧ ((rrunes_m b).getD x57.toNat 0) ≤ 57) then
          if ¬ (rweight_m (rat_m (rrunes_m a) x56)) = (rweight_m (rat_m (rrunes_m b) x57)) then
            if (rweight_m (rat_m (rrunes_m a) x56)) < (rweight_m (rat_m (rrunes_m b) x57)) then
              .inr (-1)
            else
              .inr 1
          else
            rec ((x56 + (1 : Int)), (x57 + (1 : Int)))
        else
          .inl (x56, x57)
      else
        .inl (x56, x57)
  else
    if x57 < (((rrunes_m b).length : Nat) : Int) then
      if ¬ (48 ≤ ((rrunes_m b).getD x57.toNat 0) ∧ ((rrunes_m b).getD x57.toNat 0) ≤ 57) then
        if ¬ (rweight_m (rat_m (rrunes_m a) x56)) = (rweight_m (rat_m (rrunes_m b) x57)) then
          if (rweight_m (rat_m (rrunes_m a) x56)) < (rweight_m (rat_m (rrunes_m b) x57)) then
            .inr (-1)
          else
            .inr 1
        else
          rec ((x56 + (1 : Int)), (x57 + (1 : Int)))
      else
        .inl (x56, x57)
    else
      .inl (x56, x57)
def rcompare_m_l1 (a : List UInt8) (b : List UInt8) (x39 : Int) (x40 : Int) : Nat → Int × Int → Sum (Int × Int) (Int)
  | 0, zz => .inl zz
  | nq + 1, zz => rcompare_m_b1 a b x39 x40 (rcompare_m_l1 a b x39 x40 nq) zz.1 zz.2

def rcompare_m_k1 (a : List UInt8) (b : List UInt8) (x39 : Int) (x40 : Int) (rec : Int × Int → Sum (Int × Int) (Int)) (y61 : Int) (y62 : Int) : Sum (Int × Int) (Int) :=
  if ((rnumber_m (rrunes_m a) y61).1).length < ((rnumber_m (rrunes_m b) y62).1).length then
    .inr (-1)
  else
    if ((rnumber_m (rrunes_m a) y61).1).length = ((rnumber_m (rrunes_m b) y62).1).length then
      if (lt' ((rnumber_m (rrunes_m a) y61).1) ((rnumber_m (rrunes_m b) y62).1)) = true then
        .inr (-1)
      else
        if ((rnumber_m (rrunes_m b) y62).1).length < ((rnumber_m (rrunes_m a) y61).1).length then
          .inr 1
        else
          if (!lt' ((rnumber_m (rrunes_m a) y61).1) ((rnumber_m (rrunes_m b) y62).1) && !decide ((rnumber_m (rrunes_m a) y61).1 = (rnumber_m (rrunes_m b) y62).1)) = true then
            .inr 1
          else
            rec ((rnumber_m (rrunes_m a) y61).2, (rnumber_m (rrunes_m b) y62).2)
    else
      if ((rnumber_m (rrunes_m b) y62).1).length < ((rnumber_m (rrunes_m a) y61).1).length then
        .inr 1
      else
        if (!lt' ((rnumber_m (rrunes_m a) y61).1) ((rnumber_m (rrunes_m b) y62).1) && !decide ((rnumber_m (rrunes_m a) y61).1 = (rnumber_m (rrunes_m b) y62).1)) = true then
          .inr 1
        else
          rec ((rnumber_m (rrunes_m a) y61).2, (rnumber_m (rrunes_m b) y62).2)

def rcompare_m_b0 (a : List UInt8) (b : List UInt8) (rec : Int × Int → Sum (Int × Int) (Int)) (x39 : Int) (x40 : Int) : Sum (Int × Int) (Int) :=
  if x39 < (((rrunes_m a).length : Nat) : Int) then
    fin (rcompare_m_l1 a b x39 x40 ((((((rrunes_m a).length : Nat) : Int) + (((rrunes_m b).length : Nat) : Int)) - (x39 + x40)).toNat + 1) (x39, x40)) .inr (fun zz => rcompare_m_k1 a b x39 x40 rec zz.1 zz.2)
  else
    if x40 < (((rrunes_m b).length : Nat) : Int) then
      fin (rcompare_m_l1 a b x39 x40 ((((((rrunes_m a).length : Nat) : Int) + (((rrunes_m b).length : Nat) : Int)) - (x39 + x40)).toNat + 1) (x39, x40)) .inr (fun zz => rcompare_m_k1 a b x39 x40 rec zz.1 zz.2)
    else
      .inl (x39, x40)
def rcompare_m_l0 (a : List UInt8) (b : List UInt8) : Nat → Int × Int → Sum (Int × Int) (Int)
  | 0, zz => .inl zz
  | nq + 1, zz => rcompare_m_b0 a b (rcompare_m_l0 a b nq) zz.1 zz.2

def rcompare_m_k0 (a : List UInt8) (b : List UInt8) (y44 : Int) (y45 : Int) : Int :=
  0

def rcompare_m (a : List UInt8) (b : List UInt8) : Int :=
  if (!(rcheck_m a)) = true then
    (rplain_m a b)
  else
    if (!(rcheck_m b)) = true then
      (rplain_m a b)
    else
      fin (rcompare_m_l0 a b ((((((rrunes_m a).length : Nat) : Int) + (((rrunes_m b).length : Nat) : Int)) - (0 + 0)).toNat + 1) (0, 0)) (fun r => r) (fun zz => rcompare_m_k0 a b zz.1 zz.2)

set_option maxHeartbeats 4000000 in
set_option maxRecDepth 100000 in
theorem rcompare_any (a : List UInt8) (b : List UInt8) (w : World)   : Calls Tryd.prog 26 #[.string (tx a), .string (tx b)] w (fun e w' => e = .returned (.int .i64 ((rcompare_m a b))) ∧ Below w.heap.size w w') := by
  go_enter Tryd.func26, Tryd.ntmps26
  have hm00 := Mm.nil none (fun _ => True) w
  have hm0 := hm00
  refine wp_seq_k (fun K1 hK1 => ?_)
  refine wp_region_lit ?_
  refine lvw 4 (.int .i64 0) rfl rfl (run_as rfl rfl) ?_
  simp only [nz1, nz2, nz3]
  refine wpList_nil ?_
  refine then_n (hK1 _ _ ?_)
  refine wp_seq_k (fun K2 hK2 => ?_)
  refine wp_seq_k (fun K3 hK3 => ?_)
  refine wp_region_lit ?_
  refine lvw 13 (.string (tx a)) rfl rfl (run_mv rfl rfl) ?_
  simp only [nz1, nz2, nz3]
  refine lst rfl (m_call hm0 14 (.bool ((rcheck_m a))) rfl (run_rcheck rfl rfl) (rcheck_any a  _  ) (fun w4 (hm5 : Mm none (fun _ => True) w w4 []) => ?_))
  simp only [nz1, nz2, nz3]
  refine lvB 15 (!(rcheck_m a)) rfl rfl (r_not (rcheck_m a) rfl rfl) (fun hs6 => ?_) (fun hs6 => ?_)
  · simp only [nz1, nz2, nz3]
    refine lvw 16 (.bool true) rfl rfl (run_mv rfl rfl) ?_
    simp only [nz1, nz2, nz3]
    refine lst_skip 17 rfl rfl ?_
    simp only [nz1, nz2, nz3]
    refine lst_skip 18 rfl rfl ?_
    simp only [nz1, nz2, nz3]
    refine lst_skip 19 rfl rfl ?_
    simp only [nz1, nz2, nz3]
    refine lvw 20 (.bool true) rfl rfl (run_pick rfl rfl rfl) ?_
    simp only [nz1, nz2, nz3]
    refine wpList_nil ?_
    refine then_n (hK3 _ _ ?_)
    refine cond_t rfl ?_
    refine wp_seq_k (fun K7 hK7 => ?_)
    refine wp_region_lit ?_
    refine lvw 21 (.string (tx a)) rfl rfl (run_mv rfl rfl) ?_
    simp only [nz1, nz2, nz3]
    refine lvw 22 (.string (tx b)) rfl rfl (run_mv rfl rfl) ?_
    simp only [nz1, nz2, nz3]
    refine lst rfl (m_call hm5 23 (.int .i64 ((rplain_m a b))) rfl (run_rplain rfl rfl rfl) (rplain_any a b  _  ) (fun w8 (hm9 : Mm none (fun _ => True) w w8 []) => ?_))
    simp only [nz1, nz2, nz3]
    refine lvw 4 (.int .i64 ((rplain_m a b))) rfl rfl (run_as rfl rfl) ?_
    simp only [nz1, nz2, nz3]
    refine wpList_nil ?_
    refine then_n (hK7 _ _ ?_)
    refine wp_ret ?_
    refine then_r ?_
    have he10 : rcompare_m a b = (rplain_m a b) := (show rcompare_m a b = (rplain_m a b) from by unfold rcompare_m; rw [if_pos hs6] <;> rfl)
    exact ⟨rfl, .int .i64 ((rplain_m a b)), res_t rfl rfl, ⟨by (rw [he10]; try rfl), hm9.below⟩⟩
  simp only [nz1, nz2, nz3]
  refine lvw 16 (.bool false) rfl rfl (run_mv rfl rfl) ?_
  simp only [nz1, nz2, nz3]
  refine lvw 17 (.string (tx b)) rfl rfl (run_mv rfl rfl) ?_
  simp only [nz1, nz2, nz3]
  refine lst rfl (m_call hm5 18 (.bool ((rcheck_m b))) rfl (run_rcheck rfl rfl) (rcheck_any b  _  ) (fun w11 (hm12 : Mm none (fun _ => True) w w11 []) => ?_))
  simp only [nz1, nz2, nz3]
  refine lvw 19 (.bool (!(rcheck_m b))) rfl rfl (r_not (rcheck_m b) rfl rfl) ?_
  simp only [nz1, nz2, nz3]
  refine lvw 20 (.bool (!(rcheck_m b))) rfl rfl (run_pickf rfl rfl rfl) ?_
  simp only [nz1, nz2, nz3]
  refine wpList_nil ?_
  refine then_n (hK3 _ _ ?_)
  refine cond_B (!(rcheck_m b)) rfl (fun hc13 => ?_) (fun hc13 => ?_)
  · refine wp_seq_k (fun K14 hK14 => ?_)
    refine wp_region_lit ?_
    refine lvw 21 (.string (tx a)) rfl rfl (run_mv rfl rfl) ?_
    simp only [nz1, nz2, nz3]
    refine lvw 22 (.string (tx b)) rfl rfl (run_mv rfl rfl) ?_
    simp only [nz1, nz2, nz3]
    refine lst rfl (m_call hm12 23 (.int .i64 ((rplain_m a b))) rfl (run_rplain rfl rfl rfl) (rplain_any a b  _  ) (fun w15 (hm16 : Mm none (fun _ => True) w w15 []) => ?_))
    simp only [nz1, nz2, nz3]
    refine lvw 4 (.int .i64 ((rplain_m a b))) rfl rfl (run_as rfl rfl) ?_
    simp only [nz1, nz2, nz3]
    refine wpList_nil ?_
    refine then_n (hK14 _ _ ?_)
    refine wp_ret ?_
    refine then_r ?_
    have he17 : rcompare_m a b = (rplain_m a b) := (show rcompare_m a b = (rplain_m a b) from by unfold rcompare_m; rw [if_neg hs6, if_pos hc13] <;> rfl)
    exact ⟨rfl, .int .i64 ((rplain_m a b)), res_t rfl rfl, ⟨by (rw [he17]; try rfl), hm16.below⟩⟩
  refine wp_skip ?_
  refine then_n (hK2 _ _ ?_)
  refine wp_seq_k (fun K18 hK18 => ?_)
  refine wp_region_lit ?_
  refine lvw 24 (.string (tx a)) rfl rfl (run_mv rfl rfl) ?_
  simp only [nz1, nz2, nz3]
  refine lst rfl (m_callx hm12 25 rfl (run_rrunes rfl rfl) (rrunes_any a  _  (by first | omega | assumption | exact Nat.le_trans (rrunes_ok (by assumption)).2.2 (by decide) | (simp; done) | (simp; omega) | (simp only [List.length_append, List.length_cons, List.length_nil]; omega) | (simp only [List.length_append, List.length_cons, List.length_nil] at *; omega) | decide)) (fun v21 w19 hR23 hb24 hm20 => ?_))
  obtain ⟨_, rfl, ho26⟩ := hR23
  have hm25 : Mm none (fun _ => True) w w19 [.row v21 (rrunes_m a).length ((rrunes_m a).flatMap eR) 21 1] := hm12.gained hb24 ho26
  clear hm20
  have hf27 : (rrunes_m a).length = a.length ∧ a.length ≤ 24 := (rrunes_ok (a := a) (by assumption)).2
  simp only [nz1, nz2, nz3]
  refine lvw 26 (.string (tx b)) rfl rfl (run_mv rfl rfl) ?_
  simp only [nz1, nz2, nz3]
  refine lst rfl (m_callx hm25 27 rfl (run_rrunes rfl rfl) (rrunes_any b  _  (by first | omega | assumption | exact Nat.le_trans (rrunes_ok (by assumption)).2.2 (by decide) | (simp; done) | (simp; omega) | (simp only [List.length_append, List.length_cons, List.length_nil]; omega) | (simp only [List.length_append, List.length_cons, List.length_nil] at *; omega) | decide)) (fun v30 w28 hR32 hb33 hm29 => ?_))
  obtain ⟨_, rfl, ho35⟩ := hR32
  have hm34 : Mm none (fun _ => True) w w28 [.row v21 (rrunes_m a).length ((rrunes_m a).flatMap eR) 21 1, .row v30 (rrunes_m b).length ((rrunes_m b).flatMap eR) 21 1] := hm25.gained hb33 ho35
  clear hm29
  have hf36 : (rrunes_m b).length = b.length ∧ b.length ≤ 24 := (rrunes_ok (a := b) (by assumption)).2
  simp only [nz1, nz2, nz3]
  refine lvw 5 (v21) rfl rfl (run_as rfl rfl) ?_
  simp only [nz1, nz2, nz3]
  refine lvw 6 (v30) rfl rfl (run_as rfl rfl) ?_
  simp only [nz1, nz2, nz3]
  refine wpList_nil ?_
  refine then_n (hK18 _ _ ?_)
  refine wp_seq_k (fun K37 hK37 => ?_)
  refine wp_region_lit ?_
  refine lvw 7 (.int .i64 0) rfl rfl (run_as rfl rfl) ?_
  simp only [nz1, nz2, nz3]
  refine lvw 8 (.int .i64 0) rfl rfl (run_as rfl rfl) ?_
  simp only [nz1, nz2, nz3]
  refine wpList_nil ?_
  refine then_n (hK37 _ _ ?_)
  refine wp_seq_k (fun K38 hK38 => ?_)
  refine wp_cutK (fun a' w' => ∃ (y44 : Int) (y45 : Int) (yu0 : Nat → Value), rcompare_m_l0 a b ((((((rrunes_m a).length : Nat) : Int) + (((rrunes_m b).length : Nat) : Int)) - (0 + 0)).toNat + 1) (0, 0) = .inl (y44, y45) ∧ (0 ≤ y44 ∧ y44 ≤ (((rrunes_m a).length : Nat) : Int) ∧ 0 ≤ y45 ∧ y45 ≤ (((rrunes_m b).length : Nat) : Int)) ∧ a' = ⟨#[.string (tx a), .string (tx b), undef, undef, yu0 0, v21, v30, .int .i64 (y44), .int .i64 (y45), yu0 1, yu0 2, yu0 3, yu0 4, .string (tx a), .bool ((rcheck_m a)), .bool false, .bool false, .string (tx b), .bool ((rcheck_m b)), .bool (!(rcheck_m b)), .bool (!(rcheck_m b)), undef, undef, undef, .string (tx a), v21, .string (tx b), v30, yu0 5, yu0 6, yu0 7, yu0 8, yu0 9, yu0 10, yu0 11, yu0 12, yu0 13, yu0 14, yu0 15, yu0 16, yu0 17, yu0 18, yu0 19, yu0 20, yu0 21, yu0 22, yu0 23, yu0 24, yu0 25, yu0 26, yu0 27, yu0 28, yu0 29, yu0 30, yu0 31, yu0 32, yu0 33, yu0 34, yu0 35, yu0 36, yu0 37, yu0 38, yu0 39, yu0 40, yu0 41, yu0 42, yu0 43, yu0 44, yu0 45, yu0 46, yu0 47, yu0 48, yu0 49, yu0 50, yu0 51, yu0 52, yu0 53, yu0 54, yu0 55, yu0 56, yu0 57, yu0 58, yu0 59, yu0 60, yu0 61, yu0 62, yu0 63, yu0 64, yu0 65, yu0 66, yu0 67, yu0 68, yu0 69, yu0 70, yu0 71, yu0 72, yu0 73, yu0 74, yu0 75, yu0 76, yu0 77, yu0 78, yu0 79, yu0 80, yu0 81, yu0 82, yu0 83, yu0 84, yu0 85, yu0 86, yu0 87, yu0 88, yu0 89, yu0 90, yu0 91, yu0 92, yu0 93, yu0 94, yu0 95, yu0 96, yu0 97, yu0 98, yu0 99], []⟩ ∧ Mm none (fun _ => True) w w' [.row v21 (rrunes_m a).length ((rrunes_m a).flatMap eR) 21 1, .row v30 (rrunes_m b).length ((rrunes_m b).flatMap eR) 21 1]) ?_ ?_
  · refine wp_block ?_
    refine wp_loop_n (fun n' a' w' => ∃ (n41 : Nat) (x39 : Int) (x40 : Int) (u0 : Nat → Value), n' = n41 ∧ (((((rrunes_m a).length : Nat) : Int) + (((rrunes_m b).length : Nat) : Int)) - (x39 + x40)).toNat < n41 ∧ rcompare_m_l0 a b ((((((rrunes_m a).length : Nat) : Int) + (((rrunes_m b).length : Nat) : Int)) - (0 + 0)).toNat + 1) (0, 0) = rcompare_m_l0 a b n41 (x39, x40) ∧ (0 ≤ x39 ∧ x39 ≤ (((rrunes_m a).length : Nat) : Int) ∧ 0 ≤ x40 ∧ x40 ≤ (((rrunes_m b).length : Nat) : Int)) ∧ a' = ⟨#[.string (tx a), .string (tx b), undef, undef, u0 0, v21, v30, .int .i64 (x39), .int .i64 (x40), u0 1, u0 2, u0 3, u0 4, .string (tx a), .bool ((rcheck_m a)), .bool false, .bool false, .string (tx b), .bool ((rcheck_m b)), .bool (!(rcheck_m b)), .bool (!(rcheck_m b)), undef, undef, undef, .string (tx a), v21, .string (tx b), v30, u0 5, u0 6, u0 7, u0 8, u0 9, u0 10, u0 11, u0 12, u0 13, u0 14, u0 15, u0 16, u0 17, u0 18, u0 19, u0 20, u0 21, u0 22, u0 23, u0 24, u0 25, u0 26, u0 27, u0 28, u0 29, u0 30, u0 31, u0 32, u0 33, u0 34, u0 35, u0 36, u0 37, u0 38, u0 39, u0 40, u0 41, u0 42, u0 43, u0 44, u0 45, u0 46, u0 47, u0 48, u0 49, u0 50, u0 51, u0 52, u0 53, u0 54, u0 55, u0 56, u0 57, u0 58, u0 59, u0 60, u0 61, u0 62, u0 63, u0 64, u0 65, u0 66, u0 67, u0 68, u0 69, u0 70, u0 71, u0 72, u0 73, u0 74, u0 75, u0 76, u0 77, u0 78, u0 79, u0 80, u0 81, u0 82, u0 83, u0 84, u0 85, u0 86, u0 87, u0 88, u0 89, u0 90, u0 91, u0 92, u0 93, u0 94, u0 95, u0 96, u0 97, u0 98, u0 99], []⟩ ∧ Mm none (fun _ => True) w w' [.row v21 (rrunes_m a).length ((rrunes_m a).flatMap eR) 21 1, .row v30 (rrunes_m b).length ((rrunes_m b).flatMap eR) 21 1]) ⟨((((((rrunes_m a).length : Nat) : Int) + (((rrunes_m b).length : Nat) : Int)) - (0 + 0)).toNat + 1), 0, 0, (fun qq => bif Nat.blt qq 24 then List.getD [.int .i64 0, undef, undef, undef, undef, undef, undef, undef, undef, undef, undef, undef, undef, undef, undef, undef, undef, undef, undef, undef, undef, undef, undef, undef] qq undef else bif Nat.blt qq 48 then List.getD [undef, undef, undef, undef, undef, undef, undef, undef, undef, undef, undef, undef, undef, undef, undef, undef, undef, undef, undef, undef, undef, undef, undef, undef] (qq - 24) undef else bif Nat.blt qq 72 then List.getD [undef, undef, undef, undef, undef, undef, undef, undef, undef, undef, undef, undef, undef, undef, undef, undef, undef, undef, undef, undef, undef, undef, undef, undef] (qq - 48) undef else bif Nat.blt qq 96 then List.getD [undef, undef, undef, undef, undef, undef, undef, undef, undef, undef, undef, undef, undef, undef, undef, undef, undef, undef, undef, undef, undef, undef, undef, undef] (qq - 72) undef else List.getD [undef, undef, undef, undef] (qq - 96) undef), rfl, Nat.lt_succ_self _, rfl, (by first | omega | (simp; done) | (simp; omega) | (simp at *; omega)), rfl, hm34⟩ ?_
    rintro n41 _ w47 ⟨_, x39, x40, u0, rfl, hl51, hi43, hro, rfl, hm48⟩ R49 hR49
    obtain ⟨k42, rfl⟩ : ∃ k, n41 = k + 1 := ⟨n41 - 1, by omega⟩
    refine wp_seq_k (fun K52 hK52 => ?_)
    refine wp_seq_k (fun K53 hK53 => ?_)
    refine wp_region_lit ?_
    refine lvw 28 (.int .i64 (x39)) rfl rfl (run_mv rfl rfl) ?_
    simp only [nz1, nz2, nz3]
    refine lvw 29 (v21) rfl rfl (run_mv rfl rfl) ?_
    simp only [nz1, nz2, nz3]
    refine lvw 30 (.int .i64 (((rrunes_m a).length : Nat) : Int)) rfl rfl (s_len (Rs.row (hm48.row 0 rfl)) rfl Tryd.underlying53 rfl) ?_
    simp only [nz1, nz2, nz3]
    refine lvb 31 (x39 < (((rrunes_m a).length : Nat) : Int)) rfl rfl (z_lss x39 (((rrunes_m a).length : Nat) : Int) rfl rfl rfl) (fun hs54 => ?_) (fun hs54 => ?_)
    · simp only [nz1, nz2, nz3]
      refine lvw 32 (.bool true) rfl rfl (run_mv rfl rfl) ?_
      simp only [nz1, nz2, nz3]
      refine lst_skip 33 rfl rfl ?_
      simp only [nz1, nz2, nz3]
      refine lst_skip 34 rfl rfl ?_
      simp only [nz1, nz2, nz3]
      refine lst_skip 35 rfl rfl ?_
      simp only [nz1, nz2, nz3]
      refine lst_skip 36 rfl rfl ?_
      simp only [nz1, nz2, nz3]
      refine lvw 37 (.bool true) rfl rfl (run_pick rfl rfl rfl) ?_
      simp only [nz1, nz2, nz3]
      refine wpList_nil ?_
      refine then_n (hK53 _ _ ?_)
      refine cond_t rfl ?_
      refine wp_skip ?_
      refine then_n (hK52 _ _ ?_)
      refine wp_block ?_
      refine wp_seq_k (fun K55 hK55 => ?_)
      refine wp_cutK (fun a' w' => ∃ (y61 : Int) (y62 : Int) (yu1 : Nat → Value), rcompare_m_l1 a b x39 x40 ((((((rrunes_m a).length : Nat) : Int) + (((rrunes_m b).length : Nat) : Int)) - (x39 + x40)).toNat + 1) (x39, x40) = .inl (y61, y62) ∧ (x39 ≤ y61 ∧ y61 ≤ (((rrunes_m a).length : Nat) : Int) ∧ x40 ≤ y62 ∧ y62 ≤ (((rrunes_m b).length : Nat) : Int) ∧ ((((rrunes_m a).length : Nat) : Int) ≤ y61 ∨ (48 ≤ (rrunes_m a).getD y61.toNat 0 ∧ (rrunes_m a).getD y61.toNat 0 ≤ 57)) ∧ ((((rrunes_m b).length : Nat) : Int) ≤ y62 ∨ (48 ≤ (rrunes_m b).getD y62.toNat 0 ∧ (rrunes_m b).getD y62.toNat 0 ≤ 57))) ∧ a' = ⟨#[.string (tx a), .string (tx b), undef, undef, yu1 0, v21, v30, .int .i64 (y61), .int .i64 (y62), yu1 1, yu1 2, u0 3, u0 4, .string (tx a), .bool ((rcheck_m a)), .bool false, .bool false, .string (tx b), .bool ((rcheck_m b)), .bool (!(rcheck_m b)), .bool (!(rcheck_m b)), undef, undef, undef, .string (tx a), v21, .string (tx b), v30, .int .i64 (x39), v21, .int .i64 (((rrunes_m a).length : Nat) : Int), .bool true, .bool true, undef, undef, undef, undef, .bool true, yu1 3, yu1 4, yu1 5, yu1 6, yu1 7, yu1 8, yu1 9, yu1 10, yu1 11, yu1 12, yu1 13, yu1 14, yu1 15, yu1 16, yu1 17, yu1 18, yu1 19, yu1 20, yu1 21, yu1 22, yu1 23, yu1 24, yu1 25, yu1 26, yu1 27, yu1 28, yu1 29, yu1 30, yu1 31, yu1 32, yu1 33, yu1 34, yu1 35, yu1 36, yu1 37, yu1 38, yu1 39, yu1 40, yu1 41, yu1 42, yu1 43, yu1 44, yu1 45, yu1 46, u0 59, u0 60, u0 61, u0 62, u0 63, u0 64, u0 65, u0 66, u0 67, u0 68, u0 69, u0 70, u0 71, u0 72, u0 73, u0 74, u0 75, u0 76, u0 77, u0 78, u0 79, u0 80, u0 81, u0 82, u0 83, u0 84, u0 85, u0 86, u0 87, u0 88, u0 89, u0 90, u0 91, u0 92, u0 93, u0 94, u0 95, u0 96, u0 97, u0 98, u0 99], []⟩ ∧ Mm none (fun _ => True) w w' [.row v21 (rrunes_m a).length ((rrunes_m a).flatMap eR) 21 1, .row v30 (rrunes_m b).length ((rrunes_m b).flatMap eR) 21 1]) ?_ ?_
      · refine wp_block ?_
        refine wp_loop_n (fun n' a' w' => ∃ (n58 : Nat) (x56 : Int) (x57 : Int) (u1 : Nat → Value), n' = n58 ∧ (((((rrunes_m a).length : Nat) : Int) + (((rrunes_m b).length : Nat) : Int)) - (x56 + x57)).toNat < n58 ∧ rcompare_m_l1 a b x39 x40 ((((((rrunes_m a).length : Nat) : Int) + (((rrunes_m b).length : Nat) : Int)) - (x39 + x40)).toNat + 1) (x39, x40) = rcompare_m_l1 a b x39 x40 n58 (x56, x57) ∧ (x39 ≤ x56 ∧ x56 ≤ (((rrunes_m a).length : Nat) : Int) ∧ x40 ≤ x57 ∧ x57 ≤ (((rrunes_m b).length : Nat) : Int)) ∧ a' = ⟨#[.string (tx a), .string (tx b), undef, undef, u1 0, v21, v30, .int .i64 (x56), .int .i64 (x57), u1 1, u1 2, u0 3, u0 4, .string (tx a), .bool ((rcheck_m a)), .bool false, .bool false, .string (tx b), .bool ((rcheck_m b)), .bool (!(rcheck_m b)), .bool (!(rcheck_m b)), undef, undef, undef, .string (tx a), v21, .string (tx b), v30, .int .i64 (x39), v21, .int .i64 (((rrunes_m a).length : Nat) : Int), .bool true, .bool true, undef, undef, undef, undef, .bool true, u1 3, u1 4, u1 5, u1 6, u1 7, u1 8, u1 9, u1 10, u1 11, u1 12, u1 13, u1 14, u1 15, u1 16, u1 17, u1 18, u1 19, u1 20, u1 21, u1 22, u1 23, u1 24, u1 25, u1 26, u1 27, u1 28, u1 29, u1 30, u1 31, u1 32, u1 33, u1 34, u1 35, u1 36, u1 37, u1 38, u1 39, u1 40, u1 41, u1 42, u1 43, u1 44, u1 45, u1 46, u0 59, u0 60, u0 61, u0 62, u0 63, u0 64, u0 65, u0 66, u0 67, u0 68, u0 69, u0 70, u0 71, u0 72, u0 73, u0 74, u0 75, u0 76, u0 77, u0 78, u0 79, u0 80, u0 81, u0 82, u0 83, u0 84, u0 85, u0 86, u0 87, u0 88, u0 89, u0 90, u0 91, u0 92, u0 93, u0 94, u0 95, u0 96, u0 97, u0 98, u0 99], []⟩ ∧ Mm none (fun _ => True) w w' [.row v21 (rrunes_m a).length ((rrunes_m a).flatMap eR) 21 1, .row v30 (rrunes_m b).length ((rrunes_m b).flatMap eR) 21 1]) ⟨((((((rrunes_m a).length : Nat) : Int) + (((rrunes_m b).length : Nat) : Int)) - (x39 + x40)).toNat + 1), x39, x40, (fun qq => bif Nat.blt qq 24 then List.getD [u0 0, u0 1, u0 2, u0 15, u0 16, u0 17, u0 18, u0 19, u0 20, u0 21, u0 22, u0 23, u0 24, u0 25, u0 26, u0 27, u0 28, u0 29, u0 30, u0 31, u0 32, u0 33, u0 34, u0 35] qq undef else List.getD [u0 36, u0 37, u0 38, u0 39, u0 40, u0 41, u0 42, u0 43, u0 44, u0 45, u0 46, u0 47, u0 48, u0 49, u0 50, u0 51, u0 52, u0 53, u0 54, u0 55, u0 56, u0 57, u0 58] (qq - 24) undef), rfl, Nat.lt_succ_self _, rfl, (by first | omega | (simp; done) | (simp; omega) | (simp at *; omega)), rfl, hm48⟩ ?_
        rintro n58 _ w64 ⟨_, x56, x57, u1, rfl, hl68, hi60, hri, rfl, hm65⟩ R66 hR66
        obtain ⟨k59, rfl⟩ : ∃ k, n58 = k + 1 := ⟨n58 - 1, by omega⟩
        refine wp_seq_k (fun K69 hK69 => ?_)
        refine wp_seq_k (fun K70 hK70 => ?_)
        refine wp_region_lit ?_
        refine lvw 38 (.int .i64 (x56)) rfl rfl (run_mv rfl rfl) ?_
        simp only [nz1, nz2, nz3]
        refine lvw 39 (v21) rfl rfl (run_mv rfl rfl) ?_
        simp only [nz1, nz2, nz3]
        refine lvw 40 (.int .i64 (((rrunes_m a).length : Nat) : Int)) rfl rfl (s_len (Rs.row (hm65.row 0 rfl)) rfl Tryd.underlying53 rfl) ?_
        simp only [nz1, nz2, nz3]
        refine lvb 41 (x56 < (((rrunes_m a).length : Nat) : Int)) rfl rfl (z_lss x56 (((rrunes_m a).length : Nat) : Int) rfl rfl rfl) (fun hs71 => ?_) (fun hs71 => ?_)
        rotate_left
        · simp only [nz1, nz2, nz3]
          refine lvw 42 (.bool false) rfl rfl (run_mv rfl rfl) ?_
          simp only [nz1, nz2, nz3]
          refine lst_skip 43 rfl rfl ?_
          simp only [nz1, nz2, nz3]
          refine lst_skip 44 rfl rfl ?_
          simp only [nz1, nz2, nz3]
          refine lst_skip 45 rfl rfl ?_
          simp only [nz1, nz2, nz3]
          refine lst_skip 46 rfl rfl ?_
          simp only [nz1, nz2, nz3]
          refine lst_skip 47 rfl rfl ?_
          simp only [nz1, nz2, nz3]
          refine lst_skip 48 rfl rfl ?_
          simp only [nz1, nz2, nz3]
          refine lvw 49 (.bool false) rfl rfl (run_pickf rfl rfl rfl) ?_
          simp only [nz1, nz2, nz3]
          refine lvw 50 (.bool false) rfl rfl (run_mv rfl rfl) ?_
          simp only [nz1, nz2, nz3]
          refine lvw 51 (.int .i64 (x57)) rfl rfl (run_mv rfl rfl) ?_
          simp only [nz1, nz2, nz3]
          refine lvw 52 (v30) rfl rfl (run_mv rfl rfl) ?_
          simp only [nz1, nz2, nz3]
          refine lvw 53 (.int .i64 (((rrunes_m b).length : Nat) : Int)) rfl rfl (s_len (Rs.row (hm65.row 1 rfl)) rfl Tryd.underlying53 rfl) ?_
          simp only [nz1, nz2, nz3]
          refine lvb 54 (x57 < (((rrunes_m b).length : Nat) : Int)) rfl rfl (z_lss x57 (((rrunes_m b).length : Nat) : Int) rfl rfl rfl) (fun hs135 => ?_) (fun hs135 => ?_)
          rotate_left
          · simp only [nz1, nz2, nz3]
            refine lvw 55 (.bool false) rfl rfl (run_mv rfl rfl) ?_
            simp only [nz1, nz2, nz3]
            refine lst_skip 56 rfl rfl ?_
            simp only [nz1, nz2, nz3]
            refine lst_skip 57 rfl rfl ?_
            simp only [nz1, nz2, nz3]
            refine lst_skip 58 rfl rfl ?_
            simp only [nz1, nz2, nz3]
            refine lst_skip 59 rfl rfl ?_
            simp only [nz1, nz2, nz3]
            refine lst_skip 60 rfl rfl ?_
            simp only [nz1, nz2, nz3]
            refine lst_skip 61 rfl rfl ?_
            simp only [nz1, nz2, nz3]
            refine lvw 62 (.bool false) rfl rfl (run_pickf rfl rfl rfl) ?_
            simp only [nz1, nz2, nz3]
            refine lvw 63 (.bool false) rfl rfl (run_pickf rfl rfl rfl) ?_
            simp only [nz1, nz2, nz3]
            refine wpList_nil ?_
            refine then_n (hK70 _ _ ?_)
            refine cond_f rfl ?_
            refine wp_exit ?_
            refine then_x ?_
            refine then_x ?_
            refine blk_x ?_
            refine then_n ?_
            exact ⟨x56, x57, (fun qq => bif Nat.blt qq 24 then List.getD [u1 0, u1 1, u1 2, .int .i64 (x56), v21, .int .i64 (((rrunes_m a).length : Nat) : Int), .bool false, .bool false, undef, undef, undef, undef, undef, undef, .bool false, .bool false, .int .i64 (x57), v30, .int .i64 (((rrunes_m b).length : Nat) : Int), .bool false, .bool false, undef, undef, undef] qq undef else List.getD [undef, undef, undef, .bool false, .bool false, u1 29, u1 30, u1 31, u1 32, u1 33, u1 34, u1 35, u1 36, u1 37, u1 38, u1 39, u1 40, u1 41, u1 42, u1 43, u1 44, u1 45, u1 46] (qq - 24) undef), (hi60.trans (show rcompare_m_b1 a b x39 x40 (rcompare_m_l1 a b x39 x40 k59) x56 x57 = .inl (x56, x57) from by unfold rcompare_m_b1; rw [if_neg hs71, if_neg hs135] <;> rfl)), (by first | omega | (simp; done) | (simp; omega) | (simp at *; omega)), rfl, hm65⟩
          simp only [nz1, nz2, nz3]
          refine lvw 55 (.bool true) rfl rfl (run_mv rfl rfl) ?_
          simp only [nz1, nz2, nz3]
          refine lvw 56 (v30) rfl rfl (run_mv rfl rfl) ?_
          simp only [nz1, nz2, nz3]
          refine lvw 57 (.int .i64 (x57)) rfl rfl (run_mv rfl rfl) ?_
          simp only [nz1, nz2, nz3]
          refine lvw 58 (.pointer (some ⟨(bk v30), (po v30 + x57.toNat * 1), none⟩)) rfl rfl (r_ixvZ (Rs.row (hm65.row 1 rfl)) x57 (by omega) (by omega) Tryd.underlying53 sz_21 rfl rfl rfl) ?_
          simp only [nz1, nz2, nz3]
          refine lvw 59 (.int .i32 (((rrunes_m b).getD x57.toNat 0))) rfl rfl (r_cellw (Rs.cell (Rs.row (hm65.row 1 rfl)) eR_len 0 x57.toNat (by omega) 0 _ rfl) Tryd.underlying21 rfl rfl rfl) ?_
          simp only [nz1, nz2, nz3]
          refine lst rfl (m_call hm65 60 (.bool (decide (48 ≤ ((rrunes_m b).getD x57.toNat 0) ∧ ((rrunes_m b).getD x57.toNat 0) ≤ 57))) rfl (run_rdigit rfl rfl) (rdigd_any ((rrunes_m b).getD x57.toNat 0)  _  ) (fun w136 (hm137 : Mm none (fun _ => True) w w136 [.row v21 (rrunes_m a).length ((rrunes_m a).flatMap eR) 21 1, .row v30 (rrunes_m b).length ((rrunes_m b).flatMap eR) 21 1]) => ?_))
          simp only [nz1, nz2, nz3]
          refine lvw 61 (.bool (decide (¬ (48 ≤ ((rrunes_m b).getD x57.toNat 0) ∧ ((rrunes_m b).getD x57.toNat 0) ≤ 57)))) rfl rfl (r_notD (48 ≤ ((rrunes_m b).getD x57.toNat 0) ∧ ((rrunes_m b).getD x57.toNat 0) ≤ 57) rfl rfl) ?_
          simp only [nz1, nz2, nz3]
          refine lvw 62 (.bool (decide (¬ (48 ≤ ((rrunes_m b).getD x57.toNat 0) ∧ ((rrunes_m b).getD x57.toNat 0) ≤ 57)))) rfl rfl (run_pick rfl rfl rfl) ?_
          simp only [nz1, nz2, nz3]
          refine lvw 63 (.bool (decide (¬ (48 ≤ ((rrunes_m b).getD x57.toNat 0) ∧ ((rrunes_m b).getD x57.toNat 0) ≤ 57)))) rfl rfl (run_pickf rfl rfl rfl) ?_
          simp only [nz1, nz2, nz3]
          refine wpList_nil ?_
          refine then_n (hK70 _ _ ?_)
          refine cond_d (¬ (48 ≤ ((rrunes_m b).getD x57.toNat 0) ∧ ((rrunes_m b).getD x57.toNat 0) ≤ 57)) rfl (fun hc138 => ?_) (fun hc138 => ?_)
          rotate_left
          · refine wp_exit ?_
            refine then_x ?_
            refine then_x ?_
            refine blk_x ?_
            refine then_n ?_
            exact ⟨x56, x57, (fun qq => bif Nat.blt qq 24 then List.getD [u1 0, u1 1, u1 2, .int .i64 (x56), v21, .int .i64 (((rrunes_m a).length : Nat) : Int), .bool false, .bool false, undef, undef, undef, undef, undef, undef, .bool false, .bool false, .int .i64 (x57), v30, .int .i64 (((rrunes_m b).length : Nat) : Int), .bool true, .bool true, v30, .int .i64 (x57), .pointer (some ⟨(bk v30), (po v30 + x57.toNat * 1), none⟩)] qq undef else List.getD [.int .i32 (((rrunes_m b).getD x57.toNat 0)), .bool (decide (48 ≤ ((rrunes_m b).getD x57.toNat 0) ∧ ((rrunes_m b).getD x57.toNat 0) ≤ 57)), .bool (decide (¬ (48 ≤ ((rrunes_m b).getD x57.toNat 0) ∧ ((rrunes_m b).getD x57.toNat 0) ≤ 57))), .bool (decide (¬ (48 ≤ ((rrunes_m b).getD x57.toNat 0) ∧ ((rrunes_m b).getD x57.toNat 0) ≤ 57))), .bool (decide (¬ (48 ≤ ((rrunes_m b).getD x57.toNat 0) ∧ ((rrunes_m b).getD x57.toNat 0) ≤ 57))), u1 29, u1 30, u1 31, u1 32, u1 33, u1 34, u1 35, u1 36, u1 37, u1 38, u1 39, u1 40, u1 41, u1 42, u1 43, u1 44, u1 45, u1 46] (qq - 24) undef), (hi60.trans (show rcompare_m_b1 a b x39 x40 (rcompare_m_l1 a b x39 x40 k59) x56 x57 = .inl (x56, x57) from by unfold rcompare_m_b1; rw [if_neg hs71, if_pos hs135, if_neg hc138] <;> rfl)), (by first | omega | (simp; done) | (simp; omega) | (simp at *; omega)), rfl, hm137⟩
          refine wp_skip ?_
          refine then_n (hK69 _ _ ?_)
          refine wp_block ?_
          refine wp_seq_k (fun K139 hK139 => ?_)
          refine wp_region_lit ?_
          refine lvw 64 (v21) rfl rfl (run_mv rfl rfl) ?_
          simp only [nz1, nz2, nz3]
          refine lvw 65 (.int .i64 (x56)) rfl rfl (run_mv rfl rfl) ?_
          simp only [nz1, nz2, nz3]
          refine lst rfl (m_call hm137 66 (.int .i32 ((rat_m (rrunes_m a) x56))) rfl (run_rat rfl rfl rfl) (rat_any (rrunes_m a) x56 v21 _ (Rs.row (hm137.row 0 rfl)) (by first | omega | assumption | exact Nat.le_trans (rrunes_ok (by assumption)).2.2 (by decide) | (simp; done) | (simp; omega) | (simp only [List.length_append, List.length_cons, List.length_nil]; omega) | (simp only [List.length_append, List.length_cons, List.length_nil] at *; omega) | decide)) (fun w140 (hm141 : Mm none (fun _ => True) w w140 [.row v21 (rrunes_m a).length ((rrunes_m a).flatMap eR) 21 1, .row v30 (rrunes_m b).length ((rrunes_m b).flatMap eR) 21 1]) => ?_))
          have hf142 : (x56 < (((rrunes_m a).length : Nat) : Int) ∧ (rat_m (rrunes_m a) x56) = (rrunes_m a).getD x56.toNat 0 ∧ 43 ≤ (rrunes_m a).getD x56.toNat 0 ∧ (rrunes_m a).getD x56.toNat 0 ≤ 126) ∨ ((((rrunes_m a).length : Nat) : Int) ≤ x56 ∧ (rat_m (rrunes_m a) x56) = 0) := rat_rng a x56 (by assumption) (by omega)
          simp only [nz1, nz2, nz3]
          refine lst rfl (m_call hm141 67 (.int .i64 ((rweight_m (rat_m (rrunes_m a) x56)))) rfl (run_rweight rfl rfl) (rweight_any (rat_m (rrunes_m a) x56)  _  (by first | omega | assumption | exact Nat.le_trans (rrunes_ok (by assumption)).2.2 (by decide) | (simp; done) | (simp; omega) | (simp only [List.length_append, List.length_cons, List.length_nil]; omega) | (simp only [List.length_append, List.length_cons, List.length_nil] at *; omega) | decide) (by first | omega | assumption | exact Nat.le_trans (rrunes_ok (by assumption)).2.2 (by decide) | (simp; done) | (simp; omega) | (simp only [List.length_append, List.length_cons, List.length_nil]; omega) | (simp only [List.length_append, List.length_cons, List.length_nil] at *; omega) | decide)) (fun w143 (hm144 : Mm none (fun _ => True) w w143 [.row v21 (rrunes_m a).length ((rrunes_m a).flatMap eR) 21 1, .row v30 (rrunes_m b).length ((rrunes_m b).flatMap eR) 21 1]) => ?_))
          have hf145 : ((rweight_m (rat_m (rrunes_m a) x56)) = 0 ∧ ((rat_m (rrunes_m a) x56) = 0 ∨ (48 ≤ (rat_m (rrunes_m a) x56) ∧ (rat_m (rrunes_m a) x56) ≤ 57))) ∨ ((rweight_m (rat_m (rrunes_m a) x56)) ≠ 0 ∧ ¬ (rat_m (rrunes_m a) x56) = 0 ∧ ¬ (48 ≤ (rat_m (rrunes_m a) x56) ∧ (rat_m (rrunes_m a) x56) ≤ 57)) := rweight_fact (rat_m (rrunes_m a) x56) (by omega)
          simp only [nz1, nz2, nz3]
          refine lvw 68 (v30) rfl rfl (run_mv rfl rfl) ?_
          simp only [nz1, nz2, nz3]
          refine lvw 69 (.int .i64 (x57)) rfl rfl (run_mv rfl rfl) ?_
          simp only [nz1, nz2, nz3]
          refine lst rfl (m_call hm144 70 (.int .i32 ((rat_m (rrunes_m b) x57))) rfl (run_rat rfl rfl rfl) (rat_any (rrunes_m b) x57 v30 _ (Rs.row (hm144.row 1 rfl)) (by first | omega | assumption | exact Nat.le_trans (rrunes_ok (by assumption)).2.2 (by decide) | (simp; done) | (simp; omega) | (simp only [List.length_append, List.length_cons, List.length_nil]; omega) | (simp only [List.length_append, List.length_cons, List.length_nil] at *; omega) | decide)) (fun w146 (hm147 : Mm none (fun _ => True) w w146 [.row v21 (rrunes_m a).length ((rrunes_m a).flatMap eR) 21 1, .row v30 (rrunes_m b).length ((rrunes_m b).flatMap eR) 21 1]) => ?_))
          have hf148 : (x57 < (((rrunes_m b).length : Nat) : Int) ∧ (rat_m (rrunes_m b) x57) = (rrunes_m b).getD x57.toNat 0 ∧ 43 ≤ (rrunes_m b).getD x57.toNat 0 ∧ (rrunes_m b).getD x57.toNat 0 ≤ 126) ∨ ((((rrunes_m b).length : Nat) : Int) ≤ x57 ∧ (rat_m (rrunes_m b) x57) = 0) := rat_rng b x57 (by assumption) (by omega)
          simp only [nz1, nz2, nz3]
          refine lst rfl (m_call hm147 71 (.int .i64 ((rweight_m (rat_m (rrunes_m b) x57)))) rfl (run_rweight rfl rfl) (rweight_any (rat_m (rrunes_m b) x57)  _  (by first | omega | assumption | exact Nat.le_trans (rrunes_ok (by assumption)).2.2 (by decide) | (simp; done) | (simp; omega) | (simp only [List.length_append, List.length_cons, List.length_nil]; omega) | (simp only [List.length_append, List.length_cons, List.length_nil] at *; omega) | decide) (by first | omega | assumption | exact Nat.le_trans (rrunes_ok (by assumption)).2.2 (by decide) | (simp; done) | (simp; omega) | (simp only [List.length_append, List.length_cons, List.length_nil]; omega) | (simp only [List.length_append, List.length_cons, List.length_nil] at *; omega) | decide)) (fun w149 (hm150 : Mm none (fun _ => True) w w149 [.row v21 (rrunes_m a).length ((rrunes_m a).flatMap eR) 21 1, .row v30 (rrunes_m b).length ((rrunes_m b).flatMap eR) 21 1]) => ?_))
          have hf151 : ((rweight_m (rat_m (rrunes_m b) x57)) = 0 ∧ ((rat_m (rrunes_m b) x57) = 0 ∨ (48 ≤ (rat_m (rrunes_m b) x57) ∧ (rat_m (rrunes_m b) x57) ≤ 57))) ∨ ((rweight_m (rat_m (rrunes_m b) x57)) ≠ 0 ∧ ¬ (rat_m (rrunes_m b) x57) = 0 ∧ ¬ (48 ≤ (rat_m (rrunes_m b) x57) ∧ (rat_m (rrunes_m b) x57) ≤ 57)) := rweight_fact (rat_m (rrunes_m b) x57) (by omega)
          simp only [nz1, nz2, nz3]
          refine lvw 9 (.int .i64 ((rweight_m (rat_m (rrunes_m a) x56)))) rfl rfl (run_as rfl rfl) ?_
          simp only [nz1, nz2, nz3]
          refine lvw 10 (.int .i64 ((rweight_m (rat_m (rrunes_m b) x57)))) rfl rfl (run_as rfl rfl) ?_
          simp only [nz1, nz2, nz3]
          refine wpList_nil ?_
          refine then_n (hK139 _ _ ?_)
          refine wp_seq_k (fun K152 hK152 => ?_)
          refine wp_seq_k (fun K153 hK153 => ?_)
          refine wp_region_lit ?_
          refine lvw 72 (.int .i64 ((rweight_m (rat_m (rrunes_m a) x56)))) rfl rfl (run_mv rfl rfl) ?_
          simp only [nz1, nz2, nz3]
          refine lvw 73 (.int .i64 ((rweight_m (rat_m (rrunes_m b) x57)))) rfl rfl (run_mv rfl rfl) ?_
          simp only [nz1, nz2, nz3]
          refine lvw 74 (.bool (decide (¬ (rweight_m (rat_m (rrunes_m a) x56)) = (rweight_m (rat_m (rrunes_m b) x57))))) rfl rfl (z_neq (rweight_m (rat_m (rrunes_m a) x56)) (rweight_m (rat_m (rrunes_m b) x57)) rfl rfl rfl) ?_
          simp only [nz1, nz2, nz3]
          refine wpList_nil ?_
          refine then_n (hK153 _ _ ?_)
          refine cond_d (¬ (rweight_m (rat_m (rrunes_m a) x56)) = (rweight_m (rat_m (rrunes_m b) x57))) rfl (fun hc154 => ?_) (fun hc154 => ?_)
          rotate_left
          · refine wp_skip ?_
            refine then_n (hK152 _ _ ?_)
            refine wp_seq_k (fun K166 hK166 => ?_)
            refine wp_region_lit ?_
            refine lvw 78 (.int .i64 (x56)) rfl rfl (run_mv rfl rfl) ?_
            simp only [nz1, nz2, nz3]
            refine lvw 79 (.int .i64 ((x56 + (1 : Int)))) rfl rfl (z_add x56 (1 : Int) _ (by rw [IntKind.wrap_i64]; omega) rfl rfl rfl) ?_
            simp only [nz1, nz2, nz3]
            refine lvw 7 (.int .i64 ((x56 + (1 : Int)))) rfl rfl (run_as rfl rfl) ?_
            simp only [nz1, nz2, nz3]
            refine wpList_nil ?_
            refine then_n (hK166 _ _ ?_)
            refine wp_region_lit ?_
            refine lvw 80 (.int .i64 (x57)) rfl rfl (run_mv rfl rfl) ?_
            simp only [nz1, nz2, nz3]
            refine lvw 81 (.int .i64 ((x57 + (1 : Int)))) rfl rfl (z_add x57 (1 : Int) _ (by rw [IntKind.wrap_i64]; omega) rfl rfl rfl) ?_
            simp only [nz1, nz2, nz3]
            refine lvw 8 (.int .i64 ((x57 + (1 : Int)))) rfl rfl (run_as rfl rfl) ?_
            simp only [nz1, nz2, nz3]
            refine wpList_nil ?_
            refine blk_n ?_
            refine then_n (hR66 _ _ _ ⟨k59, (x56 + (1 : Int)), (x57 + (1 : Int)), (fun qq => bif Nat.blt qq 24 then List.getD [u1 0, .int .i64 ((rweight_m (rat_m (rrunes_m a) x56))), .int .i64 ((rweight_m (rat_m (rrunes_m b) x57))), .int .i64 (x56), v21, .int .i64 (((rrunes_m a).length : Nat) : Int), .bool false, .bool false, undef, undef, undef, undef, undef, undef, .bool false, .bool false, .int .i64 (x57), v30, .int .i64 (((rrunes_m b).length : Nat) : Int), .bool true, .bool true, v30, .int .i64 (x57), .pointer (some ⟨(bk v30), (po v30 + x57.toNat * 1), none⟩)] qq undef else List.getD [.int .i32 (((rrunes_m b).getD x57.toNat 0)), .bool (decide (48 ≤ ((rrunes_m b).getD x57.toNat 0) ∧ ((rrunes_m b).getD x57.toNat 0) ≤ 57)), .bool (decide (¬ (48 ≤ ((rrunes_m b).getD x57.toNat 0) ∧ ((rrunes_m b).getD x57.toNat 0) ≤ 57))), .bool (decide (¬ (48 ≤ ((rrunes_m b).getD x57.toNat 0) ∧ ((rrunes_m b).getD x57.toNat 0) ≤ 57))), .bool (decide (¬ (48 ≤ ((rrunes_m b).getD x57.toNat 0) ∧ ((rrunes_m b).getD x57.toNat 0) ≤ 57))), v21, .int .i64 (x56), .int .i32 ((rat_m (rrunes_m a) x56)), .int .i64 ((rweight_m (rat_m (rrunes_m a) x56))), v30, .int .i64 (x57), .int .i32 ((rat_m (rrunes_m b) x57)), .int .i64 ((rweight_m (rat_m (rrunes_m b) x57))), .int .i64 ((rweight_m (rat_m (rrunes_m a) x56))), .int .i64 ((rweight_m (rat_m (rrunes_m b) x57))), .bool (decide (¬ (rweight_m (rat_m (rrunes_m a) x56)) = (rweight_m (rat_m (rrunes_m b) x57)))), u1 40, u1 41, u1 42, .int .i64 (x56), .int .i64 ((x56 + (1 : Int))), .int .i64 (x57), .int .i64 ((x57 + (1 : Int)))] (qq - 24) undef), rfl, (by first | omega | (simp; omega) | (simp at *; omega)), (hi60.trans (show rcompare_m_b1 a b x39 x40 (rcompare_m_l1 a b x39 x40 k59) x56 x57 = rcompare_m_l1 a b x39 x40 k59 ((x56 + (1 : Int)), (x57 + (1 : Int))) from by unfold rcompare_m_b1; rw [if_neg hs71, if_pos hs135, if_pos hc138, if_neg hc154] <;> rfl)), (by first | omega | (simp; done) | (simp; omega) | (simp at *; omega)), rfl, hm150⟩ ?_)
            omega
          refine wp_seq_k (fun K155 hK155 => ?_)
          refine wp_seq_k (fun K156 hK156 => ?_)
          refine wp_region_lit ?_
          refine lvw 75 (.int .i64 ((rweight_m (rat_m (rrunes_m a) x56)))) rfl rfl (run_mv rfl rfl) ?_
          simp only [nz1, nz2, nz3]
          refine lvw 76 (.int .i64 ((rweight_m (rat_m (rrunes_m b) x57)))) rfl rfl (run_mv rfl rfl) ?_
          simp only [nz1, nz2, nz3]
          refine lvw 77 (.bool (decide ((rweight_m (rat_m (rrunes_m a) x56)) < (rweight_m (rat_m (rrunes_m b) x57))))) rfl rfl (z_lss (rweight_m (rat_m (rrunes_m a) x56)) (rweight_m (rat_m (rrunes_m b) x57)) rfl rfl rfl) ?_
          simp only [nz1, nz2, nz3]
          refine wpList_nil ?_
          refine then_n (hK156 _ _ ?_)
          refine cond_d ((rweight_m (rat_m (rrunes_m a) x56)) < (rweight_m (rat_m (rrunes_m b) x57))) rfl (fun hc157 => ?_) (fun hc157 => ?_)
          · refine wp_seq_k (fun K158 hK158 => ?_)
            refine wp_region_lit ?_
            refine lvw 4 (.int .i64 (-1)) rfl rfl (run_as rfl rfl) ?_
            simp only [nz1, nz2, nz3]
            refine wpList_nil ?_
            refine then_n (hK158 _ _ ?_)
            refine wp_ret ?_
            refine then_r ?_
            refine then_r ?_
            refine blk_r ?_
            refine then_r ?_
            refine blk_r ?_
            refine then_r ?_
            refine then_r ?_
            refine blk_r ?_
            refine then_r ?_
            refine blk_r ?_
            refine then_r ?_
            refine then_r ?_
            have he159 : rcompare_m_l1 a b x39 x40 ((((((rrunes_m a).length : Nat) : Int) + (((rrunes_m b).length : Nat) : Int)) - (x39 + x40)).toNat + 1) (x39, x40) = .inr (-1) := (hi60.trans (show rcompare_m_b1 a b x39 x40 (rcompare_m_l1 a b x39 x40 k59) x56 x57 = .inr (-1) from by unfold rcompare_m_b1; rw [if_neg hs71, if_pos hs135, if_pos hc138, if_pos hc154, if_pos hc157] <;> rfl))
            have he160 : rcompare_m_l0 a b ((((((rrunes_m a).length : Nat) : Int) + (((rrunes_m b).length : Nat) : Int)) - (0 + 0)).toNat + 1) (0, 0) = .inr (-1) := (hi43.trans (show rcompare_m_b0 a b (rcompare_m_l0 a b k42) x39 x40 = .inr (-1) from by unfold rcompare_m_b0; rw [if_pos hs54, he159] <;> rfl))
            have he161 : rcompare_m a b = -1 := (show rcompare_m a b = -1 from by unfold rcompare_m; rw [if_neg hs6, if_neg hc13, he160] <;> rfl)
            exact ⟨rfl, .int .i64 (-1), res_t rfl rfl, ⟨by (rw [he161]; try rfl), hm150.below⟩⟩
          refine wp_skip ?_
          refine then_n (hK155 _ _ ?_)
          refine wp_seq_k (fun K162 hK162 => ?_)
          refine wp_region_lit ?_
          refine lvw 4 (.int .i64 1) rfl rfl (run_as rfl rfl) ?_
          simp only [nz1, nz2, nz3]
          refine wpList_nil ?_
          refine then_n (hK162 _ _ ?_)
          refine wp_ret ?_
          refine then_r ?_
          refine blk_r ?_
          refine then_r ?_
          refine blk_r ?_
          refine then_r ?_
          refine then_r ?_
          refine blk_r ?_
          refine then_r ?_
          refine blk_r ?_
          refine then_r ?_
          refine then_r ?_
          have he163 : rcompare_m_l1 a b x39 x40 ((((((rrunes_m a).length : Nat) : Int) + (((rrunes_m b).length : Nat) : Int)) - (x39 + x40)).toNat + 1) (x39, x40) = .inr 1 := (hi60.trans (show rcompare_m_b1 a b x39 x40 (rcompare_m_l1 a b x39 x40 k59) x56 x57 = .inr 1 from by unfold rcompare_m_b1; rw [if_neg hs71, if_pos hs135, if_pos hc138, if_pos hc154, if_neg hc157] <;> rfl))
          have he164 : rcompare_m_l0 a b ((((((rrunes_m a).length : Nat) : Int) + (((rrunes_m b).length : Nat) : Int)) - (0 + 0)).toNat + 1) (0, 0) = .inr 1 := (hi43.trans (show rcompare_m_b0 a b (rcompare_m_l0 a b k42) x39 x40 = .inr 1 from by unfold rcompare_m_b0; rw [if_pos hs54, he163] <;> rfl))
          have he165 : rcompare_m a b = 1 := (show rcompare_m a b = 1 from by unfold rcompare_m; rw [if_neg hs6, if_neg hc13, he164] <;> rfl)
          exact ⟨rfl, .int .i64 1, res_t rfl rfl, ⟨by (rw [he165]; try rfl), hm150.below⟩⟩
        simp only [nz1, nz2, nz3]
        refine lvw 42 (.bool true) rfl rfl (run_mv rfl rfl) ?_
        simp only [nz1, nz2, nz3]
        refine lvw 43 (v21) rfl rfl (run_mv rfl rfl) ?_
        simp only [nz1, nz2, nz3]
        refine lvw 44 (.int .i64 (x56)) rfl rfl (run_mv rfl rfl) ?_
        simp only [nz1, nz2, nz3]
        refine lvw 45 (.pointer (some ⟨(bk v21), (po v21 + x56.toNat * 1), none⟩)) rfl rfl (r_ixvZ (Rs.row (hm65.row 0 rfl)) x56 (by omega) (by omega) Tryd.underlying53 sz_21 rfl rfl rfl) ?_
        simp only [nz1, nz2, nz3]
        refine lvw 46 (.int .i32 (((rrunes_m a).getD x56.toNat 0))) rfl rfl (r_cellw (Rs.cell (Rs.row (hm65.row 0 rfl)) eR_len 0 x56.toNat (by omega) 0 _ rfl) Tryd.underlying21 rfl rfl rfl) ?_
        simp only [nz1, nz2, nz3]
        refine lst rfl (m_call hm65 47 (.bool (decide (48 ≤ ((rrunes_m a).getD x56.toNat 0) ∧ ((rrunes_m a).getD x56.toNat 0) ≤ 57))) rfl (run_rdigit rfl rfl) (rdigd_any ((rrunes_m a).getD x56.toNat 0)  _  ) (fun w72 (hm73 : Mm none (fun _ => True) w w72 [.row v21 (rrunes_m a).length ((rrunes_m a).flatMap eR) 21 1, .row v30 (rrunes_m b).length ((rrunes_m b).flatMap eR) 21 1]) => ?_))
        simp only [nz1, nz2, nz3]
        refine lvb 48 (¬ (48 ≤ ((rrunes_m a).getD x56.toNat 0) ∧ ((rrunes_m a).getD x56.toNat 0) ≤ 57)) rfl rfl (r_notD (48 ≤ ((rrunes_m a).getD x56.toNat 0) ∧ ((rrunes_m a).getD x56.toNat 0) ≤ 57) rfl rfl) (fun hs74 => ?_) (fun hs74 => ?_)
        · simp only [nz1, nz2, nz3]
          refine lvw 49 (.bool true) rfl rfl (run_pick rfl rfl rfl) ?_
          simp only [nz1, nz2, nz3]
          refine lvw 50 (.bool true) rfl rfl (run_mv rfl rfl) ?_
          simp only [nz1, nz2, nz3]
          refine lst_skip 51 rfl rfl ?_
          simp only [nz1, nz2, nz3]
          refine lst_skip 52 rfl rfl ?_
          simp only [nz1, nz2, nz3]
          refine lst_skip 53 rfl rfl ?_
          simp only [nz1, nz2, nz3]
          refine lst_skip 54 rfl rfl ?_
          simp only [nz1, nz2, nz3]
          refine lst_skip 55 rfl rfl ?_
          simp only [nz1, nz2, nz3]
          refine lst_skip 56 rfl rfl ?_
          simp only [nz1, nz2, nz3]
          refine lst_skip 57 rfl rfl ?_
          simp only [nz1, nz2, nz3]
          refine lst_skip 58 rfl rfl ?_
          simp only [nz1, nz2, nz3]
          refine lst_skip 59 rfl rfl ?_
          simp only [nz1, nz2, nz3]
          refine lst_skip 60 rfl rfl ?_
          simp only [nz1, nz2, nz3]
          refine lst_skip 61 rfl rfl ?_
          simp only [nz1, nz2, nz3]
          refine lst_skip 62 rfl rfl ?_
          simp only [nz1, nz2, nz3]
          refine lvw 63 (.bool true) rfl rfl (run_pick rfl rfl rfl) ?_
          simp only [nz1, nz2, nz3]
          refine wpList_nil ?_
          refine then_n (hK70 _ _ ?_)
          refine cond_t rfl ?_
          refine wp_skip ?_
          refine then_n (hK69 _ _ ?_)
          refine wp_block ?_
          refine wp_seq_k (fun K75 hK75 => ?_)
          refine wp_region_lit ?_
          refine lvw 64 (v21) rfl rfl (run_mv rfl rfl) ?_
          simp only [nz1, nz2, nz3]
          refine lvw 65 (.int .i64 (x56)) rfl rfl (run_mv rfl rfl) ?_
          simp only [nz1, nz2, nz3]
          refine lst rfl (m_call hm73 66 (.int .i32 ((rat_m (rrunes_m a) x56))) rfl (run_rat rfl rfl rfl) (rat_any (rrunes_m a) x56 v21 _ (Rs.row (hm73.row 0 rfl)) (by first | omega | assumption | exact Nat.le_trans (rrunes_ok (by assumption)).2.2 (by decide) | (simp; done) | (simp; omega) | (simp only [List.length_append, List.length_cons, List.length_nil]; omega) | (simp only [List.length_append, List.length_cons, List.length_nil] at *; omega) | decide)) (fun w76 (hm77 : Mm none (fun _ => True) w w76 [.row v21 (rrunes_m a).length ((rrunes_m a).flatMap eR) 21 1, .row v30 (rrunes_m b).length ((rrunes_m b).flatMap eR) 21 1]) => ?_))
          have hf78 : (x56 < (((rrunes_m a).length : Nat) : Int) ∧ (rat_m (rrunes_m a) x56) = (rrunes_m a).getD x56.toNat 0 ∧ 43 ≤ (rrunes_m a).getD x56.toNat 0 ∧ (rrunes_m a).getD x56.toNat 0 ≤ 126) ∨ ((((rrunes_m a).length : Nat) : Int) ≤ x56 ∧ (rat_m (rrunes_m a) x56) = 0) := rat_rng a x56 (by assumption) (by omega)
          simp only [nz1, nz2, nz3]
          refine lst rfl (m_call hm77 67 (.int .i64 ((rweight_m (rat_m (rrunes_m a) x56)))) rfl (run_rweight rfl rfl) (rweight_any (rat_m (rrunes_m a) x56)  _  (by first | omega | assumption | exact Nat.le_trans (rrunes_ok (by assumption)).2.2 (by decide) | (simp; done) | (simp; omega) | (simp only [List.length_append, List.length_cons, List.length_nil]; omega) | (simp only [List.length_append, List.length_cons, List.length_nil] at *; omega) | decide) (by first | omega | assumption | exact Nat.le_trans (rrunes_ok (by assumption)).2.2 (by decide) | (simp; done) | (simp; omega) | (simp only [List.length_append, List.length_cons, List.length_nil]; omega) | (simp only [List.length_append, List.length_cons, List.length_nil] at *; omega) | decide)) (fun w79 (hm80 : Mm none (fun _ => True) w w79 [.row v21 (rrunes_m a).length ((rrunes_m a).flatMap eR) 21 1, .row v30 (rrunes_m b).length ((rrunes_m b).flatMap eR) 21 1]) => ?_))
          have hf81 : ((rweight_m (rat_m (rrunes_m a) x56)) = 0 ∧ ((rat_m (rrunes_m a) x56) = 0 ∨ (48 ≤ (rat_m (rrunes_m a) x56) ∧ (rat_m (rrunes_m a) x56) ≤ 57))) ∨ ((rweight_m (rat_m (rrunes_m a) x56)) ≠ 0 ∧ ¬ (rat_m (rrunes_m a) x56) = 0 ∧ ¬ (48 ≤ (rat_m (rrunes_m a) x56) ∧ (rat_m (rrunes_m a) x56) ≤ 57)) := rweight_fact (rat_m (rrunes_m a) x56) (by omega)
          simp only [nz1, nz2, nz3]
          refine lvw 68 (v30) rfl rfl (run_mv rfl rfl) ?_
          simp only [nz1, nz2, nz3]
          refine lvw 69 (.int .i64 (x57)) rfl rfl (run_mv rfl rfl) ?_
          simp only [nz1, nz2, nz3]
          refine lst rfl (m_call hm80 70 (.int .i32 ((rat_m (rrunes_m b) x57))) rfl (run_rat rfl rfl rfl) (rat_any (rrunes_m b) x57 v30 _ (Rs.row (hm80.row 1 rfl)) (by first | omega | assumption | exact Nat.le_trans (rrunes_ok (by assumption)).2.2 (by decide) | (simp; done) | (simp; omega) | (simp only [List.length_append, List.length_cons, List.length_nil]; omega) | (simp only [List.length_append, List.length_cons, List.length_nil] at *; omega) | decide)) (fun w82 (hm83 : Mm none (fun _ => True) w w82 [.row v21 (rrunes_m a).length ((rrunes_m a).flatMap eR) 21 1, .row v30 (rrunes_m b).length ((rrunes_m b).flatMap eR) 21 1]) => ?_))
          have hf84 : (x57 < (((rrunes_m b).length : Nat) : Int) ∧ (rat_m (rrunes_m b) x57) = (rrunes_m b).getD x57.toNat 0 ∧ 43 ≤ (rrunes_m b).getD x57.toNat 0 ∧ (rrunes_m b).getD x57.toNat 0 ≤ 126) ∨ ((((rrunes_m b).length : Nat) : Int) ≤ x57 ∧ (rat_m (rrunes_m b) x57) = 0) := rat_rng b x57 (by assumption) (by omega)
          simp only [nz1, nz2, nz3]
          refine lst rfl (m_call hm83 71 (.int .i64 ((rweight_m (rat_m (rrunes_m b) x57)))) rfl (run_rweight rfl rfl) (rweight_any (rat_m (rrunes_m b) x57)  _  (by first | omega | assumption | exact Nat.le_trans (rrunes_ok (by assumption)).2.2 (by decide) | (simp; done) | (simp; omega) | (simp only [List.length_append, List.length_cons, List.length_nil]; omega) | (simp only [List.length_append, List.length_cons, List.length_nil] at *; omega) | decide) (by first | omega | assumption | exact Nat.le_trans (rrunes_ok (by assumption)).2.2 (by decide) | (simp; done) | (simp; omega) | (simp only [List.length_append, List.length_cons, List.length_nil]; omega) | (simp only [List.length_append, List.length_cons, List.length_nil] at *; omega) | decide)) (fun w85 (hm86 : Mm none (fun _ => True) w w85 [.row v21 (rrunes_m a).length ((rrunes_m a).flatMap eR) 21 1, .row v30 (rrunes_m b).length ((rrunes_m b).flatMap eR) 21 1]) => ?_))
          have hf87 : ((rweight_m (rat_m (rrunes_m b) x57)) = 0 ∧ ((rat_m (rrunes_m b) x57) = 0 ∨ (48 ≤ (rat_m (rrunes_m b) x57) ∧ (rat_m (rrunes_m b) x57) ≤ 57))) ∨ ((rweight_m (rat_m (rrunes_m b) x57)) ≠ 0 ∧ ¬ (rat_m (rrunes_m b) x57) = 0 ∧ ¬ (48 ≤ (rat_m (rrunes_m b) x57) ∧ (rat_m (rrunes_m b) x57) ≤ 57)) := rweight_fact (rat_m (rrunes_m b) x57) (by omega)
          simp only [nz1, nz2, nz3]
          refine lvw 9 (.int .i64 ((rweight_m (rat_m (rrunes_m a) x56)))) rfl rfl (run_as rfl rfl) ?_
          simp only [nz1, nz2, nz3]
          refine lvw 10 (.int .i64 ((rweight_m (rat_m (rrunes_m b) x57)))) rfl rfl (run_as rfl rfl) ?_
          simp only [nz1, nz2, nz3]
          refine wpList_nil ?_
          refine then_n (hK75 _ _ ?_)
          refine wp_seq_k (fun K88 hK88 => ?_)
          refine wp_seq_k (fun K89 hK89 => ?_)
          refine wp_region_lit ?_
          refine lvw 72 (.int .i64 ((rweight_m (rat_m (rrunes_m a) x56)))) rfl rfl (run_mv rfl rfl) ?_
          simp only [nz1, nz2, nz3]
          refine lvw 73 (.int .i64 ((rweight_m (rat_m (rrunes_m b) x57)))) rfl rfl (run_mv rfl rfl) ?_
          simp only [nz1, nz2, nz3]
          refine lvw 74 (.bool (decide (¬ (rweight_m (rat_m (rrunes_m a) x56)) = (rweight_m (rat_m (rrunes_m b) x57))))) rfl rfl (z_neq (rweight_m (rat_m (rrunes_m a) x56)) (rweight_m (rat_m (rrunes_m b) x57)) rfl rfl rfl) ?_
          simp only [nz1, nz2, nz3]
          refine wpList_nil ?_
          refine then_n (hK89 _ _ ?_)
          refine cond_d (¬ (rweight_m (rat_m (rrunes_m a) x56)) = (rweight_m (rat_m (rrunes_m b) x57))) rfl (fun hc90 => ?_) (fun hc90 => ?_)
          rotate_left
          · refine wp_skip ?_
            refine then_n (hK88 _ _ ?_)
            refine wp_seq_k (fun K102 hK102 => ?_)
            refine wp_region_lit ?_
            refine lvw 78 (.int .i64 (x56)) rfl rfl (run_mv rfl rfl) ?_
            simp only [nz1, nz2, nz3]
            refine lvw 79 (.int .i64 ((x56 + (1 : Int)))) rfl rfl (z_add x56 (1 : Int) _ (by rw [IntKind.wrap_i64]; omega) rfl rfl rfl) ?_
            simp only [nz1, nz2, nz3]
            refine lvw 7 (.int .i64 ((x56 + (1 : Int)))) rfl rfl (run_as rfl rfl) ?_
            simp only [nz1, nz2, nz3]
            refine wpList_nil ?_
            refine then_n (hK102 _ _ ?_)
            refine wp_region_lit ?_
            refine lvw 80 (.int .i64 (x57)) rfl rfl (run_mv rfl rfl) ?_
            simp only [nz1, nz2, nz3]
            refine lvw 81 (.int .i64 ((x57 + (1 : Int)))) rfl rfl (z_add x57 (1 : Int) _ (by rw [IntKind.wrap_i64]; omega) rfl rfl rfl) ?_
            simp only [nz1, nz2, nz3]
            refine lvw 8 (.int .i64 ((x57 + (1 : Int)))) rfl rfl (run_as rfl rfl) ?_
            simp only [nz1, nz2, nz3]
            refine wpList_nil ?_
            refine blk_n ?_
            refine then_n (hR66 _ _ _ ⟨k59, (x56 + (1 : Int)), (x57 + (1 : Int)), (fun qq => bif Nat.blt qq 24 then List.getD [u1 0, .int .i64 ((rweight_m (rat_m (rrunes_m a) x56))), .int .i64 ((rweight_m (rat_m (rrunes_m b) x57))), .int .i64 (x56), v21, .int .i64 (((rrunes_m a).length : Nat) : Int), .bool true, .bool true, v21, .int .i64 (x56), .pointer (some ⟨(bk v21), (po v21 + x56.toNat * 1), none⟩), .int .i32 (((rrunes_m a).getD x56.toNat 0)), .bool (decide (48 ≤ ((rrunes_m a).getD x56.toNat 0) ∧ ((rrunes_m a).getD x56.toNat 0) ≤ 57)), .bool true, .bool true, .bool true, undef, undef, undef, undef, undef, undef, undef, undef] qq undef else List.getD [undef, undef, undef, undef, .bool true, v21, .int .i64 (x56), .int .i32 ((rat_m (rrunes_m a) x56)), .int .i64 ((rweight_m (rat_m (rrunes_m a) x56))), v30, .int .i64 (x57), .int .i32 ((rat_m (rrunes_m b) x57)), .int .i64 ((rweight_m (rat_m (rrunes_m b) x57))), .int .i64 ((rweight_m (rat_m (rrunes_m a) x56))), .int .i64 ((rweight_m (rat_m (rrunes_m b) x57))), .bool (decide (¬ (rweight_m (rat_m (rrunes_m a) x56)) = (rweight_m (rat_m (rrunes_m b) x57)))), u1 40, u1 41, u1 42, .int .i64 (x56), .int .i64 ((x56 + (1 : Int))), .int .i64 (x57), .int .i64 ((x57 + (1 : Int)))] (qq - 24) undef), rfl, (by first | omega | (simp; omega) | (simp at *; omega)), (hi60.trans (show rcompare_m_b1 a b x39 x40 (rcompare_m_l1 a b x39 x40 k59) x56 x57 = rcompare_m_l1 a b x39 x40 k59 ((x56 + (1 : Int)), (x57 + (1 : Int))) from by unfold rcompare_m_b1; rw [if_pos hs71, if_pos hs74, if_neg hc90] <;> rfl)), (by first | omega | (simp; done) | (simp; omega) | (simp at *; omega)), rfl, hm86⟩ ?_)
            omega
          refine wp_seq_k (fun K91 hK91 => ?_)
          refine wp_seq_k (fun K92 hK92 => ?_)
          refine wp_region_lit ?_
          refine lvw 75 (.int .i64 ((rweight_m (rat_m (rrunes_m a) x56)))) rfl rfl (run_mv rfl rfl) ?_
          simp only [nz1, nz2, nz3]
          refine lvw 76 (.int .i64 ((rweight_m (rat_m (rrunes_m b) x57)))) rfl rfl (run_mv rfl rfl) ?_
          simp only [nz1, nz2, nz3]
          refine lvw 77 (.bool (decide ((rweight_m (rat_m (rrunes_m a) x56)) < (rweight_m (rat_m (rrunes_m b) x57))))) rfl rfl (z_lss (rweight_m (rat_m (rrunes_m a) x56)) (rweight_m (rat_m (rrunes_m b) x57)) rfl rfl rfl) ?_
          simp only [nz1, nz2, nz3]
          refine wpList_nil ?_
          refine then_n (hK92 _ _ ?_)
          refine cond_d ((rweight_m (rat_m (rrunes_m a) x56)) < (rweight_m (rat_m (rrunes_m b) x57))) rfl (fun hc93 => ?_) (fun hc93 => ?_)
          · refine wp_seq_k (fun K94 hK94 => ?_)
            refine wp_region_lit ?_
            refine lvw 4 (.int .i64 (-1)) rfl rfl (run_as rfl rfl) ?_
            simp only [nz1, nz2, nz3]
            refine wpList_nil ?_
            refine then_n (hK94 _ _ ?_)
            refine wp_ret ?_
            refine then_r ?_
            refine then_r ?_
            refine blk_r ?_
            refine then_r ?_
            refine blk_r ?_
            refine then_r ?_
            refine then_r ?_
            refine blk_r ?_
            refine then_r ?_
            refine blk_r ?_
            refine then_r ?_
            refine then_r ?_
            have he95 : rcompare_m_l1 a b x39 x40 ((((((rrunes_m a).length : Nat) : Int) + (((rrunes_m b).length : Nat) : Int)) - (x39 + x40)).toNat + 1) (x39, x40) = .inr (-1) := (hi60.trans (show rcompare_m_b1 a b x39 x40 (rcompare_m_l1 a b x39 x40 k59) x56 x57 = .inr (-1) from by unfold rcompare_m_b1; rw [if_pos hs71, if_pos hs74, if_pos hc90, if_pos hc93] <;> rfl))
            have he96 : rcompare_m_l0 a b ((((((rrunes_m a).length : Nat) : Int) + (((rrunes_m b).length : Nat) : Int)) - (0 + 0)).toNat + 1) (0, 0) = .inr (-1) := (hi43.trans (show rcompare_m_b0 a b (rcompare_m_l0 a b k42) x39 x40 = .inr (-1) from by unfold rcompare_m_b0; rw [if_pos hs54, he95] <;> rfl))
            have he97 : rcompare_m a b = -1 := (show rcompare_m a b = -1 from by unfold rcompare_m; rw [if_neg hs6, if_neg hc13, he96] <;> rfl)
            exact ⟨rfl, .int .i64 (-1), res_t rfl rfl, ⟨by (rw [he97]; try rfl), hm86.below⟩⟩
          refine wp_skip ?_
          refine then_n (hK91 _ _ ?_)
          refine wp_seq_k (fun K98 hK98 => ?_)
          refine wp_region_lit ?_
          refine lvw 4 (.int .i64 1) rfl rfl (run_as rfl rfl) ?_
          simp only [nz1, nz2, nz3]
          refine wpList_nil ?_
          refine then_n (hK98 _ _ ?_)
          refine wp_ret ?_
          refine then_r ?_
          refine blk_r ?_
          refine then_r ?_
          refine blk_r ?_
          refine then_r ?_
          refine then_r ?_
          refine blk_r ?_
          refine then_r ?_
          refine blk_r ?_
          refine then_r ?_
          refine then_r ?_
          have he99 : rcompare_m_l1 a b x39 x40 ((((((rrunes_m a).length : Nat) : Int) + (((rrunes_m b).length : Nat) : Int)) - (x39 + x40)).toNat + 1) (x39, x40) = .inr 1 := (hi60.trans (show rcompare_m_b1 a b x39 x40 (rcompare_m_l1 a b x39 x40 k59) x56 x57 = .inr 1 from by unfold rcompare_m_b1; rw [if_pos hs71, if_pos hs74, if_pos hc90, if_neg hc93] <;> rfl))
          have he100 : rcompare_m_l0 a b ((((((rrunes_m a).length : Nat) : Int) + (((rrunes_m b).length : Nat) : Int)) - (0 + 0)).toNat + 1) (0, 0) = .inr 1 := (hi43.trans (show rcompare_m_b0 a b (rcompare_m_l0 a b k42) x39 x40 = .inr 1 from by unfold rcompare_m_b0; rw [if_pos hs54, he99] <;> rfl))
          have he101 : rcompare_m a b = 1 := (show rcompare_m a b = 1 from by unfold rcompare_m; rw [if_neg hs6, if_neg hc13, he100] <;> rfl)
          exact ⟨rfl, .int .i64 1, res_t rfl rfl, ⟨by (rw [he101]; try rfl), hm86.below⟩⟩
        simp only [nz1, nz2, nz3]
        refine lvw 49 (.bool false) rfl rfl (run_pick rfl rfl rfl) ?_
        simp only [nz1, nz2, nz3]
        refine lvw 50 (.bool false) rfl rfl (run_mv rfl rfl) ?_
        simp only [nz1, nz2, nz3]
        refine lvw 51 (.int .i64 (x57)) rfl rfl (run_mv rfl rfl) ?_
        simp only [nz1, nz2, nz3]
        refine lvw 52 (v30) rfl rfl (run_mv rfl rfl) ?_
        simp only [nz1, nz2, nz3]
        refine lvw 53 (.int .i64 (((rrunes_m b).length : Nat) : Int)) rfl rfl (s_len (Rs.row (hm73.row 1 rfl)) rfl Tryd.underlying53 rfl) ?_
        simp only [nz1, nz2, nz3]
        refine lvb 54 (x57 < (((rrunes_m b).length : Nat) : Int)) rfl rfl (z_lss x57 (((rrunes_m b).length : Nat) : Int) rfl rfl rfl) (fun hs103 => ?_) (fun hs103 => ?_)
        rotate_left
        · simp only [nz1, nz2, nz3]
          refine lvw 55 (.bool false) rfl rfl (run_mv rfl rfl) ?_
          simp only [nz1, nz2, nz3]
          refine lst_skip 56 rfl rfl ?_
          simp only [nz1, nz2, nz3]
          refine lst_skip 57 rfl rfl ?_
          simp only [nz1, nz2, nz3]
          refine lst_skip 58 rfl rfl ?_
          simp only [nz1, nz2, nz3]
          refine lst_skip 59 rfl rfl ?_
          simp only [nz1, nz2, nz3]
          refine lst_skip 60 rfl rfl ?_
          simp only [nz1, nz2, nz3]
          refine lst_skip 61 rfl rfl ?_
          simp only [nz1, nz2, nz3]
          refine lvw 62 (.bool false) rfl rfl (run_pickf rfl rfl rfl) ?_
          simp only [nz1, nz2, nz3]
          refine lvw 63 (.bool false) rfl rfl (run_pickf rfl rfl rfl) ?_
          simp only [nz1, nz2, nz3]
          refine wpList_nil ?_
          refine then_n (hK70 _ _ ?_)
          refine cond_f rfl ?_
          refine wp_exit ?_
          refine then_x ?_
          refine then_x ?_
          refine blk_x ?_
          refine then_n ?_
          exact ⟨x56, x57, (fun qq => bif Nat.blt qq 24 then List.getD [u1 0, u1 1, u1 2, .int .i64 (x56), v21, .int .i64 (((rrunes_m a).length : Nat) : Int), .bool true, .bool true, v21, .int .i64 (x56), .pointer (some ⟨(bk v21), (po v21 + x56.toNat * 1), none⟩), .int .i32 (((rrunes_m a).getD x56.toNat 0)), .bool (decide (48 ≤ ((rrunes_m a).getD x56.toNat 0) ∧ ((rrunes_m a).getD x56.toNat 0) ≤ 57)), .bool false, .bool false, .bool false, .int .i64 (x57), v30, .int .i64 (((rrunes_m b).length : Nat) : Int), .bool false, .bool false, undef, undef, undef] qq undef else List.getD [undef, undef, undef, .bool false, .bool false, u1 29, u1 30, u1 31, u1 32, u1 33, u1 34, u1 35, u1 36, u1 37, u1 38, u1 39, u1 40, u1 41, u1 42, u1 43, u1 44, u1 45, u1 46] (qq - 24) undef), (hi60.trans (show rcompare_m_b1 a b x39 x40 (rcompare_m_l1 a b x39 x40 k59) x56 x57 = .inl (x56, x57) from by unfold rcompare_m_b1; rw [if_pos hs71, if_neg hs74, if_neg hs103] <;> rfl)), (by first | omega | (simp; done) | (simp; omega) | (simp at *; omega)), rfl, hm73⟩
        simp only [nz1, nz2, nz3]
        refine lvw 55 (.bool true) rfl rfl (run_mv rfl rfl) ?_
        simp only [nz1, nz2, nz3]
        refine lvw 56 (v30) rfl rfl (run_mv rfl rfl) ?_
        simp only [nz1, nz2, nz3]
        refine lvw 57 (.int .i64 (x57)) rfl rfl (run_mv rfl rfl) ?_
        simp only [nz1, nz2, nz3]
        refine lvw 58 (.pointer (some ⟨(bk v30), (po v30 + x57.toNat * 1), none⟩)) rfl rfl (r_ixvZ (Rs.row (hm73.row 1 rfl)) x57 (by omega) (by omega) Tryd.underlying53 sz_21 rfl rfl rfl) ?_
        simp only [nz1, nz2, nz3]
        refine lvw 59 (.int .i32 (((rrunes_m b).getD x57.toNat 0))) rfl rfl (r_cellw (Rs.cell (Rs.row (hm73.row 1 rfl)) eR_len 0 x57.toNat (by omega) 0 _ rfl) Tryd.underlying21 rfl rfl rfl) ?_
        simp only [nz1, nz2, nz3]
        refine lst rfl (m_call hm73 60 (.bool (decide (48 ≤ ((rrunes_m b).getD x57.toNat 0) ∧ ((rrunes_m b).getD x57.toNat 0) ≤ 57))) rfl (run_rdigit rfl rfl) (rdigd_any ((rrunes_m b).getD x57.toNat 0)  _  ) (fun w104 (hm105 : Mm none (fun _ => True) w w104 [.row v21 (rrunes_m a).length ((rrunes_m a).flatMap eR) 21 1, .row v30 (rrunes_m b).length ((rrunes_m b).flatMap eR) 21 1]) => ?_))
        simp only [nz1, nz2, nz3]
        refine lvw 61 (.bool (decide (¬ (48 ≤ ((rrunes_m b).getD x57.toNat 0) ∧ ((rrunes_m b).getD x57.toNat 0) ≤ 57)))) rfl rfl (r_notD (48 ≤ ((rrunes_m b).getD x57.toNat 0) ∧ ((rrunes_m b).getD x57.toNat 0) ≤ 57) rfl rfl) ?_
        simp only [nz1, nz2, nz3]
        refine lvw 62 (.bool (decide (¬ (48 ≤ ((rrunes_m b).getD x57.toNat 0) ∧ ((rrunes_m b).getD x57.toNat 0) ≤ 57)))) rfl rfl (run_pick rfl rfl rfl) ?_
        simp only [nz1, nz2, nz3]
        refine lvw 63 (.bool (decide (¬ (48 ≤ ((rrunes_m b).getD x57.toNat 0) ∧ ((rrunes_m b).getD x57.toNat 0) ≤ 57)))) rfl rfl (run_pickf rfl rfl rfl) ?_
        simp only [nz1, nz2, nz3]
        refine wpList_nil ?_
        refine then_n (hK70 _ _ ?_)
        refine cond_d (¬ (48 ≤ ((rrunes_m b).getD x57.toNat 0) ∧ ((rrunes_m b).getD x57.toNat 0) ≤ 57)) rfl (fun hc106 => ?_) (fun hc106 => ?_)
        rotate_left
        · refine wp_exit ?_
          refine then_x ?_
          refine then_x ?_
          refine blk_x ?_
          refine then_n ?_
          exact ⟨x56, x57, (fun qq => bif Nat.blt qq 24 then List.getD [u1 0, u1 1, u1 2, .int .i64 (x56), v21, .int .i64 (((rrunes_m a).length : Nat) : Int), .bool true, .bool true, v21, .int .i64 (x56), .pointer (some ⟨(bk v21), (po v21 + x56.toNat * 1), none⟩), .int .i32 (((rrunes_m a).getD x56.toNat 0)), .bool (decide (48 ≤ ((rrunes_m a).getD x56.toNat 0) ∧ ((rrunes_m a).getD x56.toNat 0) ≤ 57)), .bool false, .bool false, .bool false, .int .i64 (x57), v30, .int .i64 (((rrunes_m b).length : Nat) : Int), .bool true, .bool true, v30, .int .i64 (x57), .pointer (some ⟨(bk v30), (po v30 + x57.toNat * 1), none⟩)] qq undef else List.getD [.int .i32 (((rrunes_m b).getD x57.toNat 0)), .bool (decide (48 ≤ ((rrunes_m b).getD x57.toNat 0) ∧ ((rrunes_m b).getD x57.toNat 0) ≤ 57)), .bool (decide (¬ (48 ≤ ((rrunes_m b).getD x57.toNat 0) ∧ ((rrunes_m b).getD x57.toNat 0) ≤ 57))), .bool (decide (¬ (48 ≤ ((rrunes_m b).getD x57.toNat 0) ∧ ((rrunes_m b).getD x57.toNat 0) ≤ 57))), .bool (decide (¬ (48 ≤ ((rrunes_m b).getD x57.toNat 0) ∧ ((rrunes_m b).getD x57.toNat 0) ≤ 57))), u1 29, u1 30, u1 31, u1 32, u1 33, u1 34, u1 35, u1 36, u1 37, u1 38, u1 39, u1 40, u1 41, u1 42, u1 43, u1 44, u1 45, u1 46] (qq - 24) undef), (hi60.trans (show rcompare_m_b1 a b x39 x40 (rcompare_m_l1 a b x39 x40 k59) x56 x57 = .inl (x56, x57) from by unfold rcompare_m_b1; rw [if_pos hs71, if_neg hs74, if_pos hs103, if_neg hc106] <;> rfl)), (by first | omega | (simp; done) | (simp; omega) | (simp at *; omega)), rfl, hm105⟩
        refine wp_skip ?_
        refine then_n (hK69 _ _ ?_)
        refine wp_block ?_
        refine wp_seq_k (fun K107 hK107 => ?_)
        refine wp_region_lit ?_
        refine lvw 64 (v21) rfl rfl (run_mv rfl rfl) ?_
        simp only [nz1, nz2, nz3]
        refine lvw 65 (.int .i64 (x56)) rfl rfl (run_mv rfl rfl) ?_
        simp only [nz1, nz2, nz3]
        refine lst rfl (m_call hm105 66 (.int .i32 ((rat_m (rrunes_m a) x56))) rfl (run_rat rfl rfl rfl) (rat_any (rrunes_m a) x56 v21 _ (Rs.row (hm105.row 0 rfl)) (by first | omega | assumption | exact Nat.le_trans (rrunes_ok (by assumption)).2.2 (by decide) | (simp; done) | (simp; omega) | (simp only [List.length_append, List.length_cons, List.length_nil]; omega) | (simp only [List.length_append, List.length_cons, List.length_nil] at *; omega) | decide)) (fun w108 (hm109 : Mm none (fun _ => True) w w108 [.row v21 (rrunes_m a).length ((rrunes_m a).flatMap eR) 21 1, .row v30 (rrunes_m b).length ((rrunes_m b).flatMap eR) 21 1]) => ?_))
        have hf110 : (x56 < (((rrunes_m a).length : Nat) : Int) ∧ (rat_m (rrunes_m a) x56) = (rrunes_m a).getD x56.toNat 0 ∧ 43 ≤ (rrunes_m a).getD x56.toNat 0 ∧ (rrunes_m a).getD x56.toNat 0 ≤ 126) ∨ ((((rrunes_m a).length : Nat) : Int) ≤ x56 ∧ (rat_m (rrunes_m a) x56) = 0) := rat_rng a x56 (by assumption) (by omega)
        simp only [nz1, nz2, nz3]
        refine lst rfl (m_call hm109 67 (.int .i64 ((rweight_m (rat_m (rrunes_m a) x56)))) rfl (run_rweight rfl rfl) (rweight_any (rat_m (rrunes_m a) x56)  _  (by first | omega | assumption | exact Nat.le_trans (rrunes_ok (by assumption)).2.2 (by decide) | (simp; done) | (simp; omega) | (simp only [List.length_append, List.length_cons, List.length_nil]; omega) | (simp only [List.length_append, List.length_cons, List.length_nil] at *; omega) | decide) (by first | omega | assumption | exact Nat.le_trans (rrunes_ok (by assumption)).2.2 (by decide) | (simp; done) | (simp; omega) | (simp only [List.length_append, List.length_cons, List.length_nil]; omega) | (simp only [List.length_append, List.length_cons, List.length_nil] at *; omega) | decide)) (fun w111 (hm112 : Mm none (fun _ => True) w w111 [.row v21 (rrunes_m a).length ((rrunes_m a).flatMap eR) 21 1, .row v30 (rrunes_m b).length ((rrunes_m b).flatMap eR) 21 1]) => ?_))
        have hf113 : ((rweight_m (rat_m (rrunes_m a) x56)) = 0 ∧ ((rat_m (rrunes_m a) x56) = 0 ∨ (48 ≤ (rat_m (rrunes_m a) x56) ∧ (rat_m (rrunes_m a) x56) ≤ 57))) ∨ ((rweight_m (rat_m (rrunes_m a) x56)) ≠ 0 ∧ ¬ (rat_m (rrunes_m a) x56) = 0 ∧ ¬ (48 ≤ (rat_m (rrunes_m a) x56) ∧ (rat_m (rrunes_m a) x56) ≤ 57)) := rweight_fact (rat_m (rrunes_m a) x56) (by omega)
        simp only [nz1, nz2, nz3]
        refine lvw 68 (v30) rfl rfl (run_mv rfl rfl) ?_
        simp only [nz1, nz2, nz3]
        refine lvw 69 (.int .i64 (x57)) rfl rfl (run_mv rfl rfl) ?_
        simp only [nz1, nz2, nz3]
        refine lst rfl (m_call hm112 70 (.int .i32 ((rat_m (rrunes_m b) x57))) rfl (run_rat rfl rfl rfl) (rat_any (rrunes_m b) x57 v30 _ (Rs.row (hm112.row 1 rfl)) (by first | omega | assumption | exact Nat.le_trans (rrunes_ok (by assumption)).2.2 (by decide) | (simp; done) | (simp; omega) | (simp only [List.length_append, List.length_cons, List.length_nil]; omega) | (simp only [List.length_append, List.length_cons, List.length_nil] at *; omega) | decide)) (fun w114 (hm115 : Mm none (fun _ => True) w w114 [.row v21 (rrunes_m a).length ((rrunes_m a).flatMap eR) 21 1, .row v30 (rrunes_m b).length ((rrunes_m b).flatMap eR) 21 1]) => ?_))
        have hf116 : (x57 < (((rrunes_m b).length : Nat) : Int) ∧ (rat_m (rrunes_m b) x57) = (rrunes_m b).getD x57.toNat 0 ∧ 43 ≤ (rrunes_m b).getD x57.toNat 0 ∧ (rrunes_m b).getD x57.toNat 0 ≤ 126) ∨ ((((rrunes_m b).length : Nat) : Int) ≤ x57 ∧ (rat_m (rrunes_m b) x57) = 0) := rat_rng b x57 (by assumption) (by omega)
        simp only [nz1, nz2, nz3]
        refine lst rfl (m_call hm115 71 (.int .i64 ((rweight_m (rat_m (rrunes_m b) x57)))) rfl (run_rweight rfl rfl) (rweight_any (rat_m (rrunes_m b) x57)  _  (by first | omega | assumption | exact Nat.le_trans (rrunes_ok (by assumption)).2.2 (by decide) | (simp; done) | (simp; omega) | (simp only [List.length_append, List.length_cons, List.length_nil]; omega) | (simp only [List.length_append, List.length_cons, List.length_nil] at *; omega) | decide) (by first | omega | assumption | exact Nat.le_trans (rrunes_ok (by assumption)).2.2 (by decide) | (simp; done) | (simp; omega) | (simp only [List.length_append, List.length_cons, List.length_nil]; omega) | (simp only [List.length_append, List.length_cons, List.length_nil] at *; omega) | decide)) (fun w117 (hm118 : Mm none (fun _ => True) w w117 [.row v21 (rrunes_m a).length ((rrunes_m a).flatMap eR) 21 1, .row v30 (rrunes_m b).length ((rrunes_m b).flatMap eR) 21 1]) => ?_))
        have hf119 : ((rweight_m (rat_m (rrunes_m b) x57)) = 0 ∧ ((rat_m (rrunes_m b) x57) = 0 ∨ (48 ≤ (rat_m (rrunes_m b) x57) ∧ (rat_m (rrunes_m b) x57) ≤ 57))) ∨ ((rweight_m (rat_m (rrunes_m b) x57)) ≠ 0 ∧ ¬ (rat_m (rrunes_m b) x57) = 0 ∧ ¬ (48 ≤ (rat_m (rrunes_m b) x57) ∧ (rat_m (rrunes_m b) x57) ≤ 57)) := rweight_fact (rat_m (rrunes_m b) x57) (by omega)
        simp only [nz1, nz2, nz3]
        refine lvw 9 (.int .i64 ((rweight_m (rat_m (rrunes_m a) x56)))) rfl rfl (run_as rfl rfl) ?_
        simp only [nz1, nz2, nz3]
        refine lvw 10 (.int .i64 ((rweight_m (rat_m (rrunes_m b) x57)))) rfl rfl (run_as rfl rfl) ?_
        simp only [nz1, nz2, nz3]
        refine wpList_nil ?_
        refine then_n (hK107 _ _ ?_)
        refine wp_seq_k (fun K120 hK120 => ?_)
        refine wp_seq_k (fun K121 hK121 => ?_)
        refine wp_region_lit ?_
        refine lvw 72 (.int .i64 ((rweight_m (rat_m (rrunes_m a) x56)))) rfl rfl (run_mv rfl rfl) ?_
        simp only [nz1, nz2, nz3]
        refine lvw 73 (.int .i64 ((rweight_m (rat_m (rrunes_m b) x57)))) rfl rfl (run_mv rfl rfl) ?_
        simp only [nz1, nz2, nz3]
        refine lvw 74 (.bool (decide (¬ (rweight_m (rat_m (rrunes_m a) x56)) = (rweight_m (rat_m (rrunes_m b) x57))))) rfl rfl (z_neq (rweight_m (rat_m (rrunes_m a) x56)) (rweight_m (rat_m (rrunes_m b) x57)) rfl rfl rfl) ?_
        simp only [nz1, nz2, nz3]
        refine wpList_nil ?_
        refine then_n (hK121 _ _ ?_)
        refine cond_d (¬ (rweight_m (rat_m (rrunes_m a) x56)) = (rweight_m (rat_m (rrunes_m b) x57))) rfl (fun hc122 => ?_) (fun hc122 => ?_)
        rotate_left
        · refine wp_skip ?_
          refine then_n (hK120 _ _ ?_)
          refine wp_seq_k (fun K134 hK134 => ?_)
          refine wp_region_lit ?_
          refine lvw 78 (.int .i64 (x56)) rfl rfl (run_mv rfl rfl) ?_
          simp only [nz1, nz2, nz3]
          refine lvw 79 (.int .i64 ((x56 + (1 : Int)))) rfl rfl (z_add x56 (1 : Int) _ (by rw [IntKind.wrap_i64]; omega) rfl rfl rfl) ?_
          simp only [nz1, nz2, nz3]
          refine lvw 7 (.int .i64 ((x56 + (1 : Int)))) rfl rfl (run_as rfl rfl) ?_
          simp only [nz1, nz2, nz3]
          refine wpList_nil ?_
          refine then_n (hK134 _ _ ?_)
          refine wp_region_lit ?_
          refine lvw 80 (.int .i64 (x57)) rfl rfl (run_mv rfl rfl) ?_
          simp only [nz1, nz2, nz3]
          refine lvw 81 (.int .i64 ((x57 + (1 : Int)))) rfl rfl (z_add x57 (1 : Int) _ (by rw [IntKind.wrap_i64]; omega) rfl rfl rfl) ?_
          simp only [nz1, nz2, nz3]
          refine lvw 8 (.int .i64 ((x57 + (1 : Int)))) rfl rfl (run_as rfl rfl) ?_
          simp only [nz1, nz2, nz3]
          refine wpList_nil ?_
          refine blk_n ?_
          refine then_n (hR66 _ _ _ ⟨k59, (x56 + (1 : Int)), (x57 + (1 : Int)), (fun qq => bif Nat.blt qq 24 then List.getD [u1 0, .int .i64 ((rweight_m (rat_m (rrunes_m a) x56))), .int .i64 ((rweight_m (rat_m (rrunes_m b) x57))), .int .i64 (x56), v21, .int .i64 (((rrunes_m a).length : Nat) : Int), .bool true, .bool true, v21, .int .i64 (x56), .pointer (some ⟨(bk v21), (po v21 + x56.toNat * 1), none⟩), .int .i32 (((rrunes_m a).getD x56.toNat 0)), .bool (decide (48 ≤ ((rrunes_m a).getD x56.toNat 0) ∧ ((rrunes_m a).getD x56.toNat 0) ≤ 57)), .bool false, .bool false, .bool false, .int .i64 (x57), v30, .int .i64 (((rrunes_m b).length : Nat) : Int), .bool true, .bool true, v30, .int .i64 (x57), .pointer (some ⟨(bk v30), (po v30 + x57.toNat * 1), none⟩)] qq undef else List.getD [.int .i32 (((rrunes_m b).getD x57.toNat 0)), .bool (decide (48 ≤ ((rrunes_m b).getD x57.toNat 0) ∧ ((rrunes_m b).getD x57.toNat 0) ≤ 57)), .bool (decide (¬ (48 ≤ ((rrunes_m b).getD x57.toNat 0) ∧ ((rrunes_m b).getD x57.toNat 0) ≤ 57))), .bool (decide (¬ (48 ≤ ((rrunes_m b).getD x57.toNat 0) ∧ ((rrunes_m b).getD x57.toNat 0) ≤ 57))), .bool (decide (¬ (48 ≤ ((rrunes_m b).getD x57.toNat 0) ∧ ((rrunes_m b).getD x57.toNat 0) ≤ 57))), v21, .int .i64 (x56), .int .i32 ((rat_m (rrunes_m a) x56)), .int .i64 ((rweight_m (rat_m (rrunes_m a) x56))), v30, .int .i64 (x57), .int .i32 ((rat_m (rrunes_m b) x57)), .int .i64 ((rweight_m (rat_m (rrunes_m b) x57))), .int .i64 ((rweight_m (rat_m (rrunes_m a) x56))), .int .i64 ((rweight_m (rat_m (rrunes_m b) x57))), .bool (decide (¬ (rweight_m (rat_m (rrunes_m a) x56)) = (rweight_m (rat_m (rrunes_m b) x57)))), u1 40, u1 41, u1 42, .int .i64 (x56), .int .i64 ((x56 + (1 : Int))), .int .i64 (x57), .int .i64 ((x57 + (1 : Int)))] (qq - 24) undef), rfl, (by first | omega | (simp; omega) | (simp at *; omega)), (hi60.trans (show rcompare_m_b1 a b x39 x40 (rcompare_m_l1 a b x39 x40 k59) x56 x57 = rcompare_m_l1 a b x39 x40 k59 ((x56 + (1 : Int)), (x57 + (1 : Int))) from by unfold rcompare_m_b1; rw [if_pos hs71, if_neg hs74, if_pos hs103, if_pos hc106, if_neg hc122] <;> rfl)), (by first | omega | (simp; done) | (simp; omega) | (simp at *; omega)), rfl, hm118⟩ ?_)
          omega
        refine wp_seq_k (fun K123 hK123 => ?_)
        refine wp_seq_k (fun K124 hK124 => ?_)
        refine wp_region_lit ?_
        refine lvw 75 (.int .i64 ((rweight_m (rat_m (rrunes_m a) x56)))) rfl rfl (run_mv rfl rfl) ?_
        simp only [nz1, nz2, nz3]
        refine lvw 76 (.int .i64 ((rweight_m (rat_m (rrunes_m b) x57)))) rfl rfl (run_mv rfl rfl) ?_
        simp only [nz1, nz2, nz3]
        refine lvw 77 (.bool (decide ((rweight_m (rat_m (rrunes_m a) x56)) < (rweight_m (rat_m (rrunes_m b) x57))))) rfl rfl (z_lss (rweight_m (rat_m (rrunes_m a) x56)) (rweight_m (rat_m (rrunes_m b) x57)) rfl rfl rfl) ?_
        simp only [nz1, nz2, nz3]
        refine wpList_nil ?_
        refine then_n (hK124 _ _ ?_)
        refine cond_d ((rweight_m (rat_m (rrunes_m a) x56)) < (rweight_m (rat_m (rrunes_m b) x57))) rfl (fun hc125 => ?_) (fun hc125 => ?_)
        · refine wp_seq_k (fun K126 hK126 => ?_)
          refine wp_region_lit ?_
          refine lvw 4 (.int .i64 (-1)) rfl rfl (run_as rfl rfl) ?_
          simp only [nz1, nz2, nz3]
          refine wpList_nil ?_
          refine then_n (hK126 _ _ ?_)
          refine wp_ret ?_
          refine then_r ?_
          refine then_r ?_
          refine blk_r ?_
          refine then_r ?_
          refine blk_r ?_
          refine then_r ?_
          refine then_r ?_
          refine blk_r ?_
          refine then_r ?_
          refine blk_r ?_
          refine then_r ?_
          refine then_r ?_
          have he127 : rcompare_m_l1 a b x39 x40 ((((((rrunes_m a).length : Nat) : Int) + (((rrunes_m b).length : Nat) : Int)) - (x39 + x40)).toNat + 1) (x39, x40) = .inr (-1) := (hi60.trans (show rcompare_m_b1 a b x39 x40 (rcompare_m_l1 a b x39 x40 k59) x56 x57 = .inr (-1) from by unfold rcompare_m_b1; rw [if_pos hs71, if_neg hs74, if_pos hs103, if_pos hc106, if_pos hc122, if_pos hc125] <;> rfl))
          have he128 : rcompare_m_l0 a b ((((((rrunes_m a).length : Nat) : Int) + (((rrunes_m b).length : Nat) : Int)) - (0 + 0)).toNat + 1) (0, 0) = .inr (-1) := (hi43.trans (show rcompare_m_b0 a b (rcompare_m_l0 a b k42) x39 x40 = .inr (-1) from by unfold rcompare_m_b0; rw [if_pos hs54, he127] <;> rfl))
          have he129 : rcompare_m a b = -1 := (show rcompare_m a b = -1 from by unfold rcompare_m; rw [if_neg hs6, if_neg hc13, he128] <;> rfl)
          exact ⟨rfl, .int .i64 (-1), res_t rfl rfl, ⟨by (rw [he129]; try rfl), hm118.below⟩⟩
        refine wp_skip ?_
        refine then_n (hK123 _ _ ?_)
        refine wp_seq_k (fun K130 hK130 => ?_)
        refine wp_region_lit ?_
        refine lvw 4 (.int .i64 1) rfl rfl (run_as rfl rfl) ?_
        simp only [nz1, nz2, nz3]
        refine wpList_nil ?_
        refine then_n (hK130 _ _ ?_)
        refine wp_ret ?_
        refine then_r ?_
        refine blk_r ?_
        refine then_r ?_
        refine blk_r ?_
        refine then_r ?_
        refine then_r ?_
        refine blk_r ?_
        refine then_r ?_
        refine blk_r ?_
        refine then_r ?_
        refine then_r ?_
        have he131 : rcompare_m_l1 a b x39 x40 ((((((rrunes_m a).length : Nat) : Int) + (((rrunes_m b).length : Nat) : Int)) - (x39 + x40)).toNat + 1) (x39, x40) = .inr 1 := (hi60.trans (show rcompare_m_b1 a b x39 x40 (rcompare_m_l1 a b x39 x40 k59) x56 x57 = .inr 1 from by unfold rcompare_m_b1; rw [if_pos hs71, if_neg hs74, if_pos hs103, if_pos hc106, if_pos hc122, if_neg hc125] <;> rfl))
        have he132 : rcompare_m_l0 a b ((((((rrunes_m a).length : Nat) : Int) + (((rrunes_m b).length : Nat) : Int)) - (0 + 0)).toNat + 1) (0, 0) = .inr 1 := (hi43.trans (show rcompare_m_b0 a b (rcompare_m_l0 a b k42) x39 x40 = .inr 1 from by unfold rcompare_m_b0; rw [if_pos hs54, he131] <;> rfl))
        have he133 : rcompare_m a b = 1 := (show rcompare_m a b = 1 from by unfold rcompare_m; rw [if_neg hs6, if_neg hc13, he132] <;> rfl)
        exact ⟨rfl, .int .i64 1, res_t rfl rfl, ⟨by (rw [he133]; try rfl), hm118.below⟩⟩
      rintro _ w167 ⟨y61, y62, yu1, hx63, hri, rfl, hm168⟩
      have hq169 : rcompare_m_l0 a b ((((((rrunes_m a).length : Nat) : Int) + (((rrunes_m b).length : Nat) : Int)) - (0 + 0)).toNat + 1) (0, 0) = rcompare_m_k1 a b x39 x40 (rcompare_m_l0 a b k42) y61 y62 := (hi43.trans (show rcompare_m_b0 a b (rcompare_m_l0 a b k42) x39 x40 = rcompare_m_k1 a b x39 x40 (rcompare_m_l0 a b k42) y61 y62 from by unfold rcompare_m_b0; rw [if_pos hs54, hx63] <;> rfl))
      refine then_n (hK55 _ _ ?_)
      refine wp_seq_k (fun K170 hK170 => ?_)
      refine wp_region_lit ?_
      refine lvw 11 (.string (tx ([]))) rfl rfl (run_as rfl rfl) ?_
      simp only [nz1, nz2, nz3]
      refine lvw 12 (.string (tx ([]))) rfl rfl (run_as rfl rfl) ?_
      simp only [nz1, nz2, nz3]
      refine wpList_nil ?_
      refine then_n (hK170 _ _ ?_)
      refine wp_seq_k (fun K171 hK171 => ?_)
      refine wp_region_lit ?_
      refine lvw 83 (v21) rfl rfl (run_mv rfl rfl) ?_
      simp only [nz1, nz2, nz3]
      refine lvw 84 (.int .i64 (y61)) rfl rfl (run_mv rfl rfl) ?_
      simp only [nz1, nz2, nz3]
      refine lst rfl (m_call hm168 85 (.tuple #[.string (tx ((rnumber_m (rrunes_m a) y61).1)), .int .i64 ((rnumber_m (rrunes_m a) y61).2)]) rfl (run_rnumber rfl rfl rfl) (rnumber_any (rrunes_m a) y61 v21 _ (Rs.row (hm168.row 0 rfl)) (by first | omega | assumption | exact Nat.le_trans (rrunes_ok (by assumption)).2.2 (by decide) | (simp; done) | (simp; omega) | (simp only [List.length_append, List.length_cons, List.length_nil]; omega) | (simp only [List.length_append, List.length_cons, List.length_nil] at *; omega) | decide) (by first | omega | assumption | exact Nat.le_trans (rrunes_ok (by assumption)).2.2 (by decide) | (simp; done) | (simp; omega) | (simp only [List.length_append, List.length_cons, List.length_nil]; omega) | (simp only [List.length_append, List.length_cons, List.length_nil] at *; omega) | decide) (by first | omega | assumption | exact Nat.le_trans (rrunes_ok (by assumption)).2.2 (by decide) | (simp; done) | (simp; omega) | (simp only [List.length_append, List.length_cons, List.length_nil]; omega) | (simp only [List.length_append, List.length_cons, List.length_nil] at *; omega) | decide)) (fun w172 (hm173 : Mm none (fun _ => True) w w172 [.row v21 (rrunes_m a).length ((rrunes_m a).flatMap eR) 21 1, .row v30 (rrunes_m b).length ((rrunes_m b).flatMap eR) 21 1]) => ?_))
      have hf174 : y61 ≤ (rnumber_m (rrunes_m a) y61).2 ∧ (rnumber_m (rrunes_m a) y61).2 ≤ (((rrunes_m a).length : Nat) : Int) ∧ (y61 < (rnumber_m (rrunes_m a) y61).2 ∨ (((rrunes_m a).length : Nat) : Int) ≤ y61 ∨ ¬ (48 ≤ (rrunes_m a).getD y61.toNat 0 ∧ (rrunes_m a).getD y61.toNat 0 ≤ 57)) := rnum_fact a y61 (by assumption) (by omega) (by omega)
      simp only [nz1, nz2, nz3]
      refine lvw 82 (.tuple #[.string (tx ((rnumber_m (rrunes_m a) y61).1)), .int .i64 ((rnumber_m (rrunes_m a) y61).2)]) rfl rfl (run_mv rfl rfl) ?_
      simp only [nz1, nz2, nz3]
      refine lvw 86 (.string (tx ((rnumber_m (rrunes_m a) y61).1))) rfl rfl (run_ex rfl rfl rfl) ?_
      simp only [nz1, nz2, nz3]
      refine lvw 87 (.int .i64 ((rnumber_m (rrunes_m a) y61).2)) rfl rfl (run_ex rfl rfl rfl) ?_
      simp only [nz1, nz2, nz3]
      refine lvw 11 (.string (tx ((rnumber_m (rrunes_m a) y61).1))) rfl rfl (run_as rfl rfl) ?_
      simp only [nz1, nz2, nz3]
      refine lvw 7 (.int .i64 ((rnumber_m (rrunes_m a) y61).2)) rfl rfl (run_as rfl rfl) ?_
      simp only [nz1, nz2, nz3]
      refine wpList_nil ?_
      refine then_n (hK171 _ _ ?_)
      refine wp_seq_k (fun K175 hK175 => ?_)
      refine wp_region_lit ?_
      refine lvw 89 (v30) rfl rfl (run_mv rfl rfl) ?_
      simp only [nz1, nz2, nz3]
      refine lvw 90 (.int .i64 (y62)) rfl rfl (run_mv rfl rfl) ?_
      simp only [nz1, nz2, nz3]
      refine lst rfl (m_call hm173 91 (.tuple #[.string (tx ((rnumber_m (rrunes_m b) y62).1)), .int .i64 ((rnumber_m (rrunes_m b) y62).2)]) rfl (run_rnumber rfl rfl rfl) (rnumber_any (rrunes_m b) y62 v30 _ (Rs.row (hm173.row 1 rfl)) (by first | omega | assumption | exact Nat.le_trans (rrunes_ok (by assumption)).2.2 (by decide) | (simp; done) | (simp; omega) | (simp only [List.length_append, List.length_cons, List.length_nil]; omega) | (simp only [List.length_append, List.length_cons, List.length_nil] at *; omega) | decide) (by first | omega | assumption | exact Nat.le_trans (rrunes_ok (by assumption)).2.2 (by decide) | (simp; done) | (simp; omega) | (simp only [List.length_append, List.length_cons, List.length_nil]; omega) | (simp only [List.length_append, List.length_cons, List.length_nil] at *; omega) | decide) (by first | omega | assumption | exact Nat.le_trans (rrunes_ok (by assumption)).2.2 (by decide) | (simp; done) | (simp; omega) | (simp only [List.length_append, List.length_cons, List.length_nil]; omega) | (simp only [List.length_append, List.length_cons, List.length_nil] at *; omega) | decide)) (fun w176 (hm177 : Mm none (fun _ => True) w w176 [.row v21 (rrunes_m a).length ((rrunes_m a).flatMap eR) 21 1, .row v30 (rrunes_m b).length ((rrunes_m b).flatMap eR) 21 1]) => ?_))
      have hf178 : y62 ≤ (rnumber_m (rrunes_m b) y62).2 ∧ (rnumber_m (rrunes_m b) y62).2 ≤ (((rrunes_m b).length : Nat) : Int) ∧ (y62 < (rnumber_m (rrunes_m b) y62).2 ∨ (((rrunes_m b).length : Nat) : Int) ≤ y62 ∨ ¬ (48 ≤ (rrunes_m b).getD y62.toNat 0 ∧ (rrunes_m b).getD y62.toNat 0 ≤ 57)) := rnum_fact b y62 (by assumption) (by omega) (by omega)
      simp only [nz1, nz2, nz3]
      refine lvw 88 (.tuple #[.string (tx ((rnumber_m (rrunes_m b) y62).1)), .int .i64 ((rnumber_m (rrunes_m b) y62).2)]) rfl rfl (run_mv rfl rfl) ?_
      simp only [nz1, nz2, nz3]
      refine lvw 92 (.string (tx ((rnumber_m (rrunes_m b) y62).1))) rfl rfl (run_ex rfl rfl rfl) ?_
      simp only [nz1, nz2, nz3]
      refine lvw 93 (.int .i64 ((rnumber_m (rrunes_m b) y62).2)) rfl rfl (run_ex rfl rfl rfl) ?_
      simp only [nz1, nz2, nz3]
      refine lvw 12 (.string (tx ((rnumber_m (rrunes_m b) y62).1))) rfl rfl (run_as rfl rfl) ?_
      simp only [nz1, nz2, nz3]
      refine lvw 8 (.int .i64 ((rnumber_m (rrunes_m b) y62).2)) rfl rfl (run_as rfl rfl) ?_
      simp only [nz1, nz2, nz3]
      refine wpList_nil ?_
      refine then_n (hK175 _ _ ?_)
      refine wp_block ?_
      refine wp_seq_k (fun K179 hK179 => ?_)
      refine wp_region_lit ?_
      refine lvw 95 (.string (tx ((rnumber_m (rrunes_m a) y61).1))) rfl rfl (run_mv rfl rfl) ?_
      simp only [nz1, nz2, nz3]
      refine lvw 96 (.int .i64 ((((rnumber_m (rrunes_m a) y61).1).length : Nat) : Int)) rfl rfl (t_len rfl Tryd.underlying9 rfl) ?_
      simp only [nz1, nz2, nz3]
      refine lvw 97 (.string (tx ((rnumber_m (rrunes_m b) y62).1))) rfl rfl (run_mv rfl rfl) ?_
      simp only [nz1, nz2, nz3]
      refine lvw 98 (.int .i64 ((((rnumber_m (rrunes_m b) y62).1).length : Nat) : Int)) rfl rfl (t_len rfl Tryd.underlying9 rfl) ?_
      simp only [nz1, nz2, nz3]
      refine lvb 99 (((rnumber_m (rrunes_m a) y61).1).length < ((rnumber_m (rrunes_m b) y62).1).length) rfl rfl (r_lss (((rnumber_m (rrunes_m a) y61).1).length) (((rnumber_m (rrunes_m b) y62).1).length) rfl rfl rfl) (fun hs180 => ?_) (fun hs180 => ?_)
      · simp only [nz1, nz2, nz3]
        refine lvw 100 (.bool true) rfl rfl (run_mv rfl rfl) ?_
        simp only [nz1, nz2, nz3]
        refine lst_skip 101 rfl rfl ?_
        simp only [nz1, nz2, nz3]
        refine lst_skip 102 rfl rfl ?_
        simp only [nz1, nz2, nz3]
        refine lst_skip 103 rfl rfl ?_
        simp only [nz1, nz2, nz3]
        refine lst_skip 104 rfl rfl ?_
        simp only [nz1, nz2, nz3]
        refine lst_skip 105 rfl rfl ?_
        simp only [nz1, nz2, nz3]
        refine lst_skip 106 rfl rfl ?_
        simp only [nz1, nz2, nz3]
        refine lst_skip 107 rfl rfl ?_
        simp only [nz1, nz2, nz3]
        refine lst_skip 108 rfl rfl ?_
        simp only [nz1, nz2, nz3]
        refine lst_skip 109 rfl rfl ?_
        simp only [nz1, nz2, nz3]
        refine lst_skip 110 rfl rfl ?_
        simp only [nz1, nz2, nz3]
        refine lvw 111 (.bool true) rfl rfl (run_pick rfl rfl rfl) ?_
        simp only [nz1, nz2, nz3]
        refine lvw 94 (.bool true) rfl rfl (run_as rfl rfl) ?_
        simp only [nz1, nz2, nz3]
        refine wpList_nil ?_
        refine then_n (hK179 _ _ ?_)
        refine cond_t rfl ?_
        refine wp_seq_k (fun K181 hK181 => ?_)
        refine wp_region_lit ?_
        refine lvw 4 (.int .i64 (-1)) rfl rfl (run_as rfl rfl) ?_
        simp only [nz1, nz2, nz3]
        refine wpList_nil ?_
        refine then_n (hK181 _ _ ?_)
        refine wp_ret ?_
        refine blk_r ?_
        refine blk_r ?_
        refine then_r ?_
        refine blk_r ?_
        refine then_r ?_
        refine then_r ?_
        have he182 : rcompare_m_l0 a b ((((((rrunes_m a).length : Nat) : Int) + (((rrunes_m b).length : Nat) : Int)) - (0 + 0)).toNat + 1) (0, 0) = .inr (-1) := (hq169.trans (show rcompare_m_k1 a b x39 x40 (rcompare_m_l0 a b k42) y61 y62 = .inr (-1) from by unfold rcompare_m_k1; rw [if_pos hs180] <;> rfl))
        have he183 : rcompare_m a b = -1 := (show rcompare_m a b = -1 from by unfold rcompare_m; rw [if_neg hs6, if_neg hc13, he182] <;> rfl)
        exact ⟨rfl, .int .i64 (-1), res_t rfl rfl, ⟨by (rw [he183]; try rfl), hm177.below⟩⟩
      simp only [nz1, nz2, nz3]
      refine lvw 100 (.bool false) rfl rfl (run_mv rfl rfl) ?_
      simp only [nz1, nz2, nz3]
      refine lvw 101 (.string (tx ((rnumber_m (rrunes_m a) y61).1))) rfl rfl (run_mv rfl rfl) ?_
      simp only [nz1, nz2, nz3]
      refine lvw 102 (.int .i64 ((((rnumber_m (rrunes_m a) y61).1).length : Nat) : Int)) rfl rfl (t_len rfl Tryd.underlying9 rfl) ?_
      simp only [nz1, nz2, nz3]
      refine lvw 103 (.string (tx ((rnumber_m (rrunes_m b) y62).1))) rfl rfl (run_mv rfl rfl) ?_
      simp only [nz1, nz2, nz3]
      refine lvw 104 (.int .i64 ((((rnumber_m (rrunes_m b) y62).1).length : Nat) : Int)) rfl rfl (t_len rfl Tryd.underlying9 rfl) ?_
      simp only [nz1, nz2, nz3]
      refine lvb 105 (((rnumber_m (rrunes_m a) y61).1).length = ((rnumber_m (rrunes_m b) y62).1).length) rfl rfl (r_eql (((rnumber_m (rrunes_m a) y61).1).length) (((rnumber_m (rrunes_m b) y62).1).length) rfl rfl rfl) (fun hs184 => ?_) (fun hs184 => ?_)
      rotate_left
      · simp only [nz1, nz2, nz3]
        refine lvw 106 (.bool false) rfl rfl (run_mv rfl rfl) ?_
        simp only [nz1, nz2, nz3]
        refine lst_skip 107 rfl rfl ?_
        simp only [nz1, nz2, nz3]
        refine lst_skip 108 rfl rfl ?_
        simp only [nz1, nz2, nz3]
        refine lst_skip 109 rfl rfl ?_
        simp only [nz1, nz2, nz3]
        refine lvw 110 (.bool false) rfl rfl (run_pickf rfl rfl rfl) ?_
        simp only [nz1, nz2, nz3]
        refine lvw 111 (.bool false) rfl rfl (run_pickf rfl rfl rfl) ?_
        simp only [nz1, nz2, nz3]
        refine lvw 94 (.bool false) rfl rfl (run_as rfl rfl) ?_
        simp only [nz1, nz2, nz3]
        refine wpList_nil ?_
        refine then_n (hK179 _ _ ?_)
        refine cond_f rfl ?_
        refine wp_seq_k (fun K198 hK198 => ?_)
        refine wp_region_lit ?_
        refine lvw 113 (.string (tx ((rnumber_m (rrunes_m a) y61).1))) rfl rfl (run_mv rfl rfl) ?_
        simp only [nz1, nz2, nz3]
        refine lvw 114 (.int .i64 ((((rnumber_m (rrunes_m a) y61).1).length : Nat) : Int)) rfl rfl (t_len rfl Tryd.underlying9 rfl) ?_
        simp only [nz1, nz2, nz3]
        refine lvw 115 (.string (tx ((rnumber_m (rrunes_m b) y62).1))) rfl rfl (run_mv rfl rfl) ?_
        simp only [nz1, nz2, nz3]
        refine lvw 116 (.int .i64 ((((rnumber_m (rrunes_m b) y62).1).length : Nat) : Int)) rfl rfl (t_len rfl Tryd.underlying9 rfl) ?_
        simp only [nz1, nz2, nz3]
        refine lvb 117 (((rnumber_m (rrunes_m b) y62).1).length < ((rnumber_m (rrunes_m a) y61).1).length) rfl rfl (r_gtr (((rnumber_m (rrunes_m a) y61).1).length) (((rnumber_m (rrunes_m b) y62).1).length) rfl rfl rfl) (fun hs199 => ?_) (fun hs199 => ?_)
        · simp only [nz1, nz2, nz3]
          refine lvw 118 (.bool true) rfl rfl (run_mv rfl rfl) ?_
          simp only [nz1, nz2, nz3]
          refine lst_skip 119 rfl rfl ?_
          simp only [nz1, nz2, nz3]
          refine lst_skip 120 rfl rfl ?_
          simp only [nz1, nz2, nz3]
          refine lst_skip 121 rfl rfl ?_
          simp only [nz1, nz2, nz3]
          refine lvw 122 (.bool true) rfl rfl (run_pick rfl rfl rfl) ?_
          simp only [nz1, nz2, nz3]
          refine lvw 112 (.bool true) rfl rfl (run_as rfl rfl) ?_
          simp only [nz1, nz2, nz3]
          refine wpList_nil ?_
          refine then_n (hK198 _ _ ?_)
          refine cond_t rfl ?_
          refine wp_seq_k (fun K200 hK200 => ?_)
          refine wp_region_lit ?_
          refine lvw 4 (.int .i64 1) rfl rfl (run_as rfl rfl) ?_
          simp only [nz1, nz2, nz3]
          refine wpList_nil ?_
          refine then_n (hK200 _ _ ?_)
          refine wp_ret ?_
          refine blk_r ?_
          refine blk_r ?_
          refine then_r ?_
          refine blk_r ?_
          refine then_r ?_
          refine then_r ?_
          have he201 : rcompare_m_l0 a b ((((((rrunes_m a).length : Nat) : Int) + (((rrunes_m b).length : Nat) : Int)) - (0 + 0)).toNat + 1) (0, 0) = .inr 1 := (hq169.trans (show rcompare_m_k1 a b x39 x40 (rcompare_m_l0 a b k42) y61 y62 = .inr 1 from by unfold rcompare_m_k1; rw [if_neg hs180, if_neg hs184, if_pos hs199] <;> rfl))
          have he202 : rcompare_m a b = 1 := (show rcompare_m a b = 1 from by unfold rcompare_m; rw [if_neg hs6, if_neg hc13, he201] <;> rfl)
          exact ⟨rfl, .int .i64 1, res_t rfl rfl, ⟨by (rw [he202]; try rfl), hm177.below⟩⟩
        simp only [nz1, nz2, nz3]
        refine lvw 118 (.bool false) rfl rfl (run_mv rfl rfl) ?_
        simp only [nz1, nz2, nz3]
        refine lvw 119 (.string (tx ((rnumber_m (rrunes_m a) y61).1))) rfl rfl (run_mv rfl rfl) ?_
        simp only [nz1, nz2, nz3]
        refine lvw 120 (.string (tx ((rnumber_m (rrunes_m b) y62).1))) rfl rfl (run_mv rfl rfl) ?_
        simp only [nz1, nz2, nz3]
        refine lvw 121 (.bool ((!lt' ((rnumber_m (rrunes_m a) y61).1) ((rnumber_m (rrunes_m b) y62).1) && !decide ((rnumber_m (rrunes_m a) y61).1 = (rnumber_m (rrunes_m b) y62).1)))) rfl rfl (t_gtr ((rnumber_m (rrunes_m a) y61).1) ((rnumber_m (rrunes_m b) y62).1) rfl rfl rfl) ?_
        simp only [nz1, nz2, nz3]
        refine lvw 122 (.bool ((!lt' ((rnumber_m (rrunes_m a) y61).1) ((rnumber_m (rrunes_m b) y62).1) && !decide ((rnumber_m (rrunes_m a) y61).1 = (rnumber_m (rrunes_m b) y62).1)))) rfl rfl (run_pickf rfl rfl rfl) ?_
        simp only [nz1, nz2, nz3]
        refine lvw 112 (.bool ((!lt' ((rnumber_m (rrunes_m a) y61).1) ((rnumber_m (rrunes_m b) y62).1) && !decide ((rnumber_m (rrunes_m a) y61).1 = (rnumber_m (rrunes_m b) y62).1)))) rfl rfl (run_as rfl rfl) ?_
        simp only [nz1, nz2, nz3]
        refine wpList_nil ?_
        refine then_n (hK198 _ _ ?_)
        refine cond_B (!lt' ((rnumber_m (rrunes_m a) y61).1) ((rnumber_m (rrunes_m b) y62).1) && !decide ((rnumber_m (rrunes_m a) y61).1 = (rnumber_m (rrunes_m b) y62).1)) rfl (fun hc203 => ?_) (fun hc203 => ?_)
        rotate_left
        · refine wp_skip ?_
          refine blk_n ?_
          refine blk_n ?_
          refine then_n (hR49 _ _ _ ⟨k42, (rnumber_m (rrunes_m a) y61).2, (rnumber_m (rrunes_m b) y62).2, (fun qq => bif Nat.blt qq 24 then List.getD [yu1 0, yu1 1, yu1 2, .string (tx ((rnumber_m (rrunes_m a) y61).1)), .string (tx ((rnumber_m (rrunes_m b) y62).1)), .int .i64 (x39), v21, .int .i64 (((rrunes_m a).length : Nat) : Int), .bool true, .bool true, undef, undef, undef, undef, .bool true, yu1 3, yu1 4, yu1 5, yu1 6, yu1 7, yu1 8, yu1 9, yu1 10, yu1 11] qq undef else bif Nat.blt qq 48 then List.getD [yu1 12, yu1 13, yu1 14, yu1 15, yu1 16, yu1 17, yu1 18, yu1 19, yu1 20, yu1 21, yu1 22, yu1 23, yu1 24, yu1 25, yu1 26, yu1 27, yu1 28, yu1 29, yu1 30, yu1 31, yu1 32, yu1 33, yu1 34, yu1 35] (qq - 24) undef else bif Nat.blt qq 72 then List.getD [yu1 36, yu1 37, yu1 38, yu1 39, yu1 40, yu1 41, yu1 42, yu1 43, yu1 44, yu1 45, yu1 46, .tuple #[.string (tx ((rnumber_m (rrunes_m a) y61).1)), .int .i64 ((rnumber_m (rrunes_m a) y61).2)], v21, .int .i64 (y61), .tuple #[.string (tx ((rnumber_m (rrunes_m a) y61).1)), .int .i64 ((rnumber_m (rrunes_m a) y61).2)], .string (tx ((rnumber_m (rrunes_m a) y61).1)), .int .i64 ((rnumber_m (rrunes_m a) y61).2), .tuple #[.string (tx ((rnumber_m (rrunes_m b) y62).1)), .int .i64 ((rnumber_m (rrunes_m b) y62).2)], v30, .int .i64 (y62), .tuple #[.string (tx ((rnumber_m (rrunes_m b) y62).1)), .int .i64 ((rnumber_m (rrunes_m b) y62).2)], .string (tx ((rnumber_m (rrunes_m b) y62).1)), .int .i64 ((rnumber_m (rrunes_m b) y62).2), .bool false] (qq - 48) undef else bif Nat.blt qq 96 then List.getD [.string (tx ((rnumber_m (rrunes_m a) y61).1)), .int .i64 ((((rnumber_m (rrunes_m a) y61).1).length : Nat) : Int), .string (tx ((rnumber_m (rrunes_m b) y62).1)), .int .i64 ((((rnumber_m (rrunes_m b) y62).1).length : Nat) : Int), .bool false, .bool false, .string (tx ((rnumber_m (rrunes_m a) y61).1)), .int .i64 ((((rnumber_m (rrunes_m a) y61).1).length : Nat) : Int), .string (tx ((rnumber_m (rrunes_m b) y62).1)), .int .i64 ((((rnumber_m (rrunes_m b) y62).1).length : Nat) : Int), .bool false, .bool false, undef, undef, undef, .bool false, .bool false, .bool ((!lt' ((rnumber_m (rrunes_m a) y61).1) ((rnumber_m (rrunes_m b) y62).1) && !decide ((rnumber_m (rrunes_m a) y61).1 = (rnumber_m (rrunes_m b) y62).1))), .string (tx ((rnumber_m (rrunes_m a) y61).1)), .int .i64 ((((rnumber_m (rrunes_m a) y61).1).length : Nat) : Int), .string (tx ((rnumber_m (rrunes_m b) y62).1)), .int .i64 ((((rnumber_m (rrunes_m b) y62).1).length : Nat) : Int), .bool false, .bool false] (qq - 72) undef else List.getD [.string (tx ((rnumber_m (rrunes_m a) y61).1)), .string (tx ((rnumber_m (rrunes_m b) y62).1)), .bool ((!lt' ((rnumber_m (rrunes_m a) y61).1) ((rnumber_m (rrunes_m b) y62).1) && !decide ((rnumber_m (rrunes_m a) y61).1 = (rnumber_m (rrunes_m b) y62).1))), .bool ((!lt' ((rnumber_m (rrunes_m a) y61).1) ((rnumber_m (rrunes_m b) y62).1) && !decide ((rnumber_m (rrunes_m a) y61).1 = (rnumber_m (rrunes_m b) y62).1)))] (qq - 96) undef), rfl, (by first | omega | (simp; omega) | (simp at *; omega)), (hq169.trans (show rcompare_m_k1 a b x39 x40 (rcompare_m_l0 a b k42) y61 y62 = rcompare_m_l0 a b k42 ((rnumber_m (rrunes_m a) y61).2, (rnumber_m (rrunes_m b) y62).2) from by unfold rcompare_m_k1; rw [if_neg hs180, if_neg hs184, if_neg hs199, if_neg hc203] <;> rfl)), (by first | omega | (simp; done) | (simp; omega) | (simp at *; omega)), rfl, hm177⟩ ?_)
          omega
        refine wp_seq_k (fun K204 hK204 => ?_)
        refine wp_region_lit ?_
        refine lvw 4 (.int .i64 1) rfl rfl (run_as rfl rfl) ?_
        simp only [nz1, nz2, nz3]
        refine wpList_nil ?_
        refine then_n (hK204 _ _ ?_)
        refine wp_ret ?_
        refine blk_r ?_
        refine blk_r ?_
        refine then_r ?_
        refine blk_r ?_
        refine then_r ?_
        refine then_r ?_
        have he205 : rcompare_m_l0 a b ((((((rrunes_m a).length : Nat) : Int) + (((rrunes_m b).length : Nat) : Int)) - (0 + 0)).toNat + 1) (0, 0) = .inr 1 := (hq169.trans (show rcompare_m_k1 a b x39 x40 (rcompare_m_l0 a b k42) y61 y62 = .inr 1 from by unfold rcompare_m_k1; rw [if_neg hs180, if_neg hs184, if_neg hs199, if_pos hc203] <;> rfl))
        have he206 : rcompare_m a b = 1 := (show rcompare_m a b = 1 from by unfold rcompare_m; rw [if_neg hs6, if_neg hc13, he205] <;> rfl)
        exact ⟨rfl, .int .i64 1, res_t rfl rfl, ⟨by (rw [he206]; try rfl), hm177.below⟩⟩
      simp only [nz1, nz2, nz3]
      refine lvw 106 (.bool true) rfl rfl (run_mv rfl rfl) ?_
      simp only [nz1, nz2, nz3]
      refine lvw 107 (.string (tx ((rnumber_m (rrunes_m a) y61).1))) rfl rfl (run_mv rfl rfl) ?_
      simp only [nz1, nz2, nz3]
      refine lvw 108 (.string (tx ((rnumber_m (rrunes_m b) y62).1))) rfl rfl (run_mv rfl rfl) ?_
      simp only [nz1, nz2, nz3]
      refine lvw 109 (.bool (lt' ((rnumber_m (rrunes_m a) y61).1) ((rnumber_m (rrunes_m b) y62).1))) rfl rfl (t_lss ((rnumber_m (rrunes_m a) y61).1) ((rnumber_m (rrunes_m b) y62).1) rfl rfl rfl) ?_
      simp only [nz1, nz2, nz3]
      refine lvw 110 (.bool (lt' ((rnumber_m (rrunes_m a) y61).1) ((rnumber_m (rrunes_m b) y62).1))) rfl rfl (run_pick rfl rfl rfl) ?_
      simp only [nz1, nz2, nz3]
      refine lvw 111 (.bool (lt' ((rnumber_m (rrunes_m a) y61).1) ((rnumber_m (rrunes_m b) y62).1))) rfl rfl (run_pickf rfl rfl rfl) ?_
      simp only [nz1, nz2, nz3]
      refine lvw 94 (.bool (lt' ((rnumber_m (rrunes_m a) y61).1) ((rnumber_m (rrunes_m b) y62).1))) rfl rfl (run_as rfl rfl) ?_
      simp only [nz1, nz2, nz3]
      refine wpList_nil ?_
      refine then_n (hK179 _ _ ?_)
      refine cond_B (lt' ((rnumber_m (rrunes_m a) y61).1) ((rnumber_m (rrunes_m b) y62).1)) rfl (fun hc185 => ?_) (fun hc185 => ?_)
      · refine wp_seq_k (fun K186 hK186 => ?_)
        refine wp_region_lit ?_
        refine lvw 4 (.int .i64 (-1)) rfl rfl (run_as rfl rfl) ?_
        simp only [nz1, nz2, nz3]
        refine wpList_nil ?_
        refine then_n (hK186 _ _ ?_)
        refine wp_ret ?_
        refine blk_r ?_
        refine blk_r ?_
        refine then_r ?_
        refine blk_r ?_
        refine then_r ?_
        refine then_r ?_
        have he187 : rcompare_m_l0 a b ((((((rrunes_m a).length : Nat) : Int) + (((rrunes_m b).length : Nat) : Int)) - (0 + 0)).toNat + 1) (0, 0) = .inr (-1) := (hq169.trans (show rcompare_m_k1 a b x39 x40 (rcompare_m_l0 a b k42) y61 y62 = .inr (-1) from by unfold rcompare_m_k1; rw [if_neg hs180, if_pos hs184, if_pos hc185] <;> rfl))
        have he188 : rcompare_m a b = -1 := (show rcompare_m a b = -1 from by unfold rcompare_m; rw [if_neg hs6, if_neg hc13, he187] <;> rfl)
        exact ⟨rfl, .int .i64 (-1), res_t rfl rfl, ⟨by (rw [he188]; try rfl), hm177.below⟩⟩
      refine wp_seq_k (fun K189 hK189 => ?_)
      refine wp_region_lit ?_
      refine lvw 113 (.string (tx ((rnumber_m (rrunes_m a) y61).1))) rfl rfl (run_mv rfl rfl) ?_
      simp only [nz1, nz2, nz3]
      refine lvw 114 (.int .i64 ((((rnumber_m (rrunes_m a) y61).1).length : Nat) : Int)) rfl rfl (t_len rfl Tryd.underlying9 rfl) ?_
      simp only [nz1, nz2, nz3]
      refine lvw 115 (.string (tx ((rnumber_m (rrunes_m b) y62).1))) rfl rfl (run_mv rfl rfl) ?_
      simp only [nz1, nz2, nz3]
      refine lvw 116 (.int .i64 ((((rnumber_m (rrunes_m b) y62).1).length : Nat) : Int)) rfl rfl (t_len rfl Tryd.underlying9 rfl) ?_
      simp only [nz1, nz2, nz3]
      refine lvb 117 (((rnumber_m (rrunes_m b) y62).1).length < ((rnumber_m (rrunes_m a) y61).1).length) rfl rfl (r_gtr (((rnumber_m (rrunes_m a) y61).1).length) (((rnumber_m (rrunes_m b) y62).1).length) rfl rfl rfl) (fun hs190 => ?_) (fun hs190 => ?_)
      · simp only [nz1, nz2, nz3]
        refine lvw 118 (.bool true) rfl rfl (run_mv rfl rfl) ?_
        simp only [nz1, nz2, nz3]
        refine lst_skip 119 rfl rfl ?_
        simp only [nz1, nz2, nz3]
        refine lst_skip 120 rfl rfl ?_
        simp only [nz1, nz2, nz3]
        refine lst_skip 121 rfl rfl ?_
        simp only [nz1, nz2, nz3]
        refine lvw 122 (.bool true) rfl rfl (run_pick rfl rfl rfl) ?_
        simp only [nz1, nz2, nz3]
        refine lvw 112 (.bool true) rfl rfl (run_as rfl rfl) ?_
        simp only [nz1, nz2, nz3]
        refine wpList_nil ?_
        refine then_n (hK189 _ _ ?_)
        refine cond_t rfl ?_
        refine wp_seq_k (fun K191 hK191 => ?_)
        refine wp_region_lit ?_
        refine lvw 4 (.int .i64 1) rfl rfl (run_as rfl rfl) ?_
        simp only [nz1, nz2, nz3]
        refine wpList_nil ?_
        refine then_n (hK191 _ _ ?_)
        refine wp_ret ?_
        refine blk_r ?_
        refine blk_r ?_
        refine then_r ?_
        refine blk_r ?_
        refine then_r ?_
        refine then_r ?_
        have he192 : rcompare_m_l0 a b ((((((rrunes_m a).length : Nat) : Int) + (((rrunes_m b).length : Nat) : Int)) - (0 + 0)).toNat + 1) (0, 0) = .inr 1 := (hq169.trans (show rcompare_m_k1 a b x39 x40 (rcompare_m_l0 a b k42) y61 y62 = .inr 1 from by unfold rcompare_m_k1; rw [if_neg hs180, if_pos hs184, if_neg hc185, if_pos hs190] <;> rfl))
        have he193 : rcompare_m a b = 1 := (show rcompare_m a b = 1 from by unfold rcompare_m; rw [if_neg hs6, if_neg hc13, he192] <;> rfl)
        exact ⟨rfl, .int .i64 1, res_t rfl rfl, ⟨by (rw [he193]; try rfl), hm177.below⟩⟩
      simp only [nz1, nz2, nz3]
      refine lvw 118 (.bool false) rfl rfl (run_mv rfl rfl) ?_
      simp only [nz1, nz2, nz3]
      refine lvw 119 (.string (tx ((rnumber_m (rrunes_m a) y61).1))) rfl rfl (run_mv rfl rfl) ?_
      simp only [nz1, nz2, nz3]
      refine lvw 120 (.string (tx ((rnumber_m (rrunes_m b) y62).1))) rfl rfl (run_mv rfl rfl) ?_
      simp only [nz1, nz2, nz3]
      refine lvw 121 (.bool ((!lt' ((rnumber_m (rrunes_m a) y61).1) ((rnumber_m (rrunes_m b) y62).1) && !decide ((rnumber_m (rrunes_m a) y61).1 = (rnumber_m (rrunes_m b) y62).1)))) rfl rfl (t_gtr ((rnumber_m (rrunes_m a) y61).1) ((rnumber_m (rrunes_m b) y62).1) rfl rfl rfl) ?_
      simp only [nz1, nz2, nz3]
      refine lvw 122 (.bool ((!lt' ((rnumber_m (rrunes_m a) y61).1) ((rnumber_m (rrunes_m b) y62).1) && !decide ((rnumber_m (rrunes_m a) y61).1 = (rnumber_m (rrunes_m b) y62).1)))) rfl rfl (run_pickf rfl rfl rfl) ?_
      simp only [nz1, nz2, nz3]
      refine lvw 112 (.bool ((!lt' ((rnumber_m (rrunes_m a) y61).1) ((rnumber_m (rrunes_m b) y62).1) && !decide ((rnumber_m (rrunes_m a) y61).1 = (rnumber_m (rrunes_m b) y62).1)))) rfl rfl (run_as rfl rfl) ?_
      simp only [nz1, nz2, nz3]
      refine wpList_nil ?_
      refine then_n (hK189 _ _ ?_)
      refine cond_B (!lt' ((rnumber_m (rrunes_m a) y61).1) ((rnumber_m (rrunes_m b) y62).1) && !decide ((rnumber_m (rrunes_m a) y61).1 = (rnumber_m (rrunes_m b) y62).1)) rfl (fun hc194 => ?_) (fun hc194 => ?_)
      rotate_left
      · refine wp_skip ?_
        refine blk_n ?_
        refine blk_n ?_
        refine then_n (hR49 _ _ _ ⟨k42, (rnumber_m (rrunes_m a) y61).2, (rnumber_m (rrunes_m b) y62).2, (fun qq => bif Nat.blt qq 24 then List.getD [yu1 0, yu1 1, yu1 2, .string (tx ((rnumber_m (rrunes_m a) y61).1)), .string (tx ((rnumber_m (rrunes_m b) y62).1)), .int .i64 (x39), v21, .int .i64 (((rrunes_m a).length : Nat) : Int), .bool true, .bool true, undef, undef, undef, undef, .bool true, yu1 3, yu1 4, yu1 5, yu1 6, yu1 7, yu1 8, yu1 9, yu1 10, yu1 11] qq undef else bif Nat.blt qq 48 then List.getD [yu1 12, yu1 13, yu1 14, yu1 15, yu1 16, yu1 17, yu1 18, yu1 19, yu1 20, yu1 21, yu1 22, yu1 23, yu1 24, yu1 25, yu1 26, yu1 27, yu1 28, yu1 29, yu1 30, yu1 31, yu1 32, yu1 33, yu1 34, yu1 35] (qq - 24) undef else bif Nat.blt qq 72 then List.getD [yu1 36, yu1 37, yu1 38, yu1 39, yu1 40, yu1 41, yu1 42, yu1 43, yu1 44, yu1 45, yu1 46, .tuple #[.string (tx ((rnumber_m (rrunes_m a) y61).1)), .int .i64 ((rnumber_m (rrunes_m a) y61).2)], v21, .int .i64 (y61), .tuple #[.string (tx ((rnumber_m (rrunes_m a) y61).1)), .int .i64 ((rnumber_m (rrunes_m a) y61).2)], .string (tx ((rnumber_m (rrunes_m a) y61).1)), .int .i64 ((rnumber_m (rrunes_m a) y61).2), .tuple #[.string (tx ((rnumber_m (rrunes_m b) y62).1)), .int .i64 ((rnumber_m (rrunes_m b) y62).2)], v30, .int .i64 (y62), .tuple #[.string (tx ((rnumber_m (rrunes_m b) y62).1)), .int .i64 ((rnumber_m (rrunes_m b) y62).2)], .string (tx ((rnumber_m (rrunes_m b) y62).1)), .int .i64 ((rnumber_m (rrunes_m b) y62).2), .bool (lt' ((rnumber_m (rrunes_m a) y61).1) ((rnumber_m (rrunes_m b) y62).1))] (qq - 48) undef else bif Nat.blt qq 96 then List.getD [.string (tx ((rnumber_m (rrunes_m a) y61).1)), .int .i64 ((((rnumber_m (rrunes_m a) y61).1).length : Nat) : Int), .string (tx ((rnumber_m (rrunes_m b) y62).1)), .int .i64 ((((rnumber_m (rrunes_m b) y62).1).length : Nat) : Int), .bool false, .bool false, .string (tx ((rnumber_m (rrunes_m a) y61).1)), .int .i64 ((((rnumber_m (rrunes_m a) y61).1).length : Nat) : Int), .string (tx ((rnumber_m (rrunes_m b) y62).1)), .int .i64 ((((rnumber_m (rrunes_m b) y62).1).length : Nat) : Int), .bool true, .bool true, .string (tx ((rnumber_m (rrunes_m a) y61).1)), .string (tx ((rnumber_m (rrunes_m b) y62).1)), .bool (lt' ((rnumber_m (rrunes_m a) y61).1) ((rnumber_m (rrunes_m b) y62).1)), .bool (lt' ((rnumber_m (rrunes_m a) y61).1) ((rnumber_m (rrunes_m b) y62).1)), .bool (lt' ((rnumber_m (rrunes_m a) y61).1) ((rnumber_m (rrunes_m b) y62).1)), .bool ((!lt' ((rnumber_m (rrunes_m a) y61).1) ((rnumber_m (rrunes_m b) y62).1) && !decide ((rnumber_m (rrunes_m a) y61).1 = (rnumber_m (rrunes_m b) y62).1))), .string (tx ((rnumber_m (rrunes_m a) y61).1)), .int .i64 ((((rnumber_m (rrunes_m a) y61).1).length : Nat) : Int), .string (tx ((rnumber_m (rrunes_m b) y62).1)), .int .i64 ((((rnumber_m (rrunes_m b) y62).1).length : Nat) : Int), .bool false, .bool false] (qq - 72) undef else List.getD [.string (tx ((rnumber_m (rrunes_m a) y61).1)), .string (tx ((rnumber_m (rrunes_m b) y62).1)), .bool ((!lt' ((rnumber_m (rrunes_m a) y61).1) ((rnumber_m (rrunes_m b) y62).1) && !decide ((rnumber_m (rrunes_m a) y61).1 = (rnumber_m (rrunes_m b) y62).1))), .bool ((!lt' ((rnumber_m (rrunes_m a) y61).1) ((rnumber_m (rrunes_m b) y62).1) && !decide ((rnumber_m (rrunes_m a) y61).1 = (rnumber_m (rrunes_m b) y62).1)))] (qq - 96) undef), rfl, (by first | omega | (simp; omega) | (simp at *; omega)), (hq169.trans (show rcompare_m_k1 a b x39 x40 (rcompare_m_l0 a b k42) y61 y62 = rcompare_m_l0 a b k42 ((rnumber_m (rrunes_m a) y61).2, (rnumber_m (rrunes_m b) y62).2) from by unfold rcompare_m_k1; rw [if_neg hs180, if_pos hs184, if_neg hc185, if_neg hs190, if_neg hc194] <;> rfl)), (by first | omega | (simp; done) | (simp; omega) | (simp at *; omega)), rfl, hm177⟩ ?_)
        omega
      refine wp_seq_k (fun K195 hK195 => ?_)
      refine wp_region_lit ?_
      refine lvw 4 (.int .i64 1) rfl rfl (run_as rfl rfl) ?_
      simp only [nz1, nz2, nz3]
      refine wpList_nil ?_
      refine then_n (hK195 _ _ ?_)
      refine wp_ret ?_
      refine blk_r ?_
      refine blk_r ?_
      refine then_r ?_
      refine blk_r ?_
      refine then_r ?_
      refine then_r ?_
      have he196 : rcompare_m_l0 a b ((((((rrunes_m a).length : Nat) : Int) + (((rrunes_m b).length : Nat) : Int)) - (0 + 0)).toNat + 1) (0, 0) = .inr 1 := (hq169.trans (show rcompare_m_k1 a b x39 x40 (rcompare_m_l0 a b k42) y61 y62 = .inr 1 from by unfold rcompare_m_k1; rw [if_neg hs180, if_pos hs184, if_neg hc185, if_neg hs190, if_pos hc194] <;> rfl))
      have he197 : rcompare_m a b = 1 := (show rcompare_m a b = 1 from by unfold rcompare_m; rw [if_neg hs6, if_neg hc13, he196] <;> rfl)
      exact ⟨rfl, .int .i64 1, res_t rfl rfl, ⟨by (rw [he197]; try rfl), hm177.below⟩⟩
    simp only [nz1, nz2, nz3]
    refine lvw 32 (.bool false) rfl rfl (run_mv rfl rfl) ?_
    simp only [nz1, nz2, nz3]
    refine lvw 33 (.int .i64 (x40)) rfl rfl (run_mv rfl rfl) ?_
    simp only [nz1, nz2, nz3]
    refine lvw 34 (v30) rfl rfl (run_mv rfl rfl) ?_
    simp only [nz1, nz2, nz3]
    refine lvw 35 (.int .i64 (((rrunes_m b).length : Nat) : Int)) rfl rfl (s_len (Rs.row (hm48.row 1 rfl)) rfl Tryd.underlying53 rfl) ?_
    simp only [nz1, nz2, nz3]
    refine lvw 36 (.bool (decide (x40 < (((rrunes_m b).length : Nat) : Int)))) rfl rfl (z_lss x40 (((rrunes_m b).length : Nat) : Int) rfl rfl rfl) ?_
    simp only [nz1, nz2, nz3]
    refine lvw 37 (.bool (decide (x40 < (((rrunes_m b).length : Nat) : Int)))) rfl rfl (run_pickf rfl rfl rfl) ?_
    simp only [nz1, nz2, nz3]
    refine wpList_nil ?_
    refine then_n (hK53 _ _ ?_)
    refine cond_d (x40 < (((rrunes_m b).length : Nat) : Int)) rfl (fun hc207 => ?_) (fun hc207 => ?_)
    rotate_left
    · refine wp_exit ?_
      refine then_x ?_
      refine then_x ?_
      refine blk_x ?_
      refine then_n ?_
      exact ⟨x39, x40, (fun qq => bif Nat.blt qq 24 then List.getD [u0 0, u0 1, u0 2, u0 3, u0 4, .int .i64 (x39), v21, .int .i64 (((rrunes_m a).length : Nat) : Int), .bool false, .bool false, .int .i64 (x40), v30, .int .i64 (((rrunes_m b).length : Nat) : Int), .bool (decide (x40 < (((rrunes_m b).length : Nat) : Int))), .bool (decide (x40 < (((rrunes_m b).length : Nat) : Int))), u0 15, u0 16, u0 17, u0 18, u0 19, u0 20, u0 21, u0 22, u0 23] qq undef else bif Nat.blt qq 48 then List.getD [u0 24, u0 25, u0 26, u0 27, u0 28, u0 29, u0 30, u0 31, u0 32, u0 33, u0 34, u0 35, u0 36, u0 37, u0 38, u0 39, u0 40, u0 41, u0 42, u0 43, u0 44, u0 45, u0 46, u0 47] (qq - 24) undef else bif Nat.blt qq 72 then List.getD [u0 48, u0 49, u0 50, u0 51, u0 52, u0 53, u0 54, u0 55, u0 56, u0 57, u0 58, u0 59, u0 60, u0 61, u0 62, u0 63, u0 64, u0 65, u0 66, u0 67, u0 68, u0 69, u0 70, u0 71] (qq - 48) undef else bif Nat.blt qq 96 then List.getD [u0 72, u0 73, u0 74, u0 75, u0 76, u0 77, u0 78, u0 79, u0 80, u0 81, u0 82, u0 83, u0 84, u0 85, u0 86, u0 87, u0 88, u0 89, u0 90, u0 91, u0 92, u0 93, u0 94, u0 95] (qq - 72) undef else List.getD [u0 96, u0 97, u0 98, u0 99] (qq - 96) undef), (hi43.trans (show rcompare_m_b0 a b (rcompare_m_l0 a b k42) x39 x40 = .inl (x39, x40) from by unfold rcompare_m_b0; rw [if_neg hs54, if_neg hc207] <;> rfl)), (by first | omega | (simp; done) | (simp; omega) | (simp at *; omega)), rfl, hm48⟩
    refine wp_skip ?_
    refine then_n (hK52 _ _ ?_)
    refine wp_block ?_
    refine wp_seq_k (fun K208 hK208 => ?_)
    refine wp_cutK (fun a' w' => ∃ (y214 : Int) (y215 : Int) (yu1 : Nat → Value), rcompare_m_l1 a b x39 x40 ((((((rrunes_m a).length : Nat) : Int) + (((rrunes_m b).length : Nat) : Int)) - (x39 + x40)).toNat + 1) (x39, x40) = .inl (y214, y215) ∧ (x39 ≤ y214 ∧ y214 ≤ (((rrunes_m a).length : Nat) : Int) ∧ x40 ≤ y215 ∧ y215 ≤ (((rrunes_m b).length : Nat) : Int) ∧ ((((rrunes_m a).length : Nat) : Int) ≤ y214 ∨ (48 ≤ (rrunes_m a).getD y214.toNat 0 ∧ (rrunes_m a).getD y214.toNat 0 ≤ 57)) ∧ ((((rrunes_m b).length : Nat) : Int) ≤ y215 ∨ (48 ≤ (rrunes_m b).getD y215.toNat 0 ∧ (rrunes_m b).getD y215.toNat 0 ≤ 57))) ∧ a' = ⟨#[.string (tx a), .string (tx b), undef, undef, yu1 0, v21, v30, .int .i64 (y214), .int .i64 (y215), yu1 1, yu1 2, u0 3, u0 4, .string (tx a), .bool ((rcheck_m a)), .bool false, .bool false, .string (tx b), .bool ((rcheck_m b)), .bool (!(rcheck_m b)), .bool (!(rcheck_m b)), undef, undef, undef, .string (tx a), v21, .string (tx b), v30, .int .i64 (x39), v21, .int .i64 (((rrunes_m a).length : Nat) : Int), .bool false, .bool false, .int .i64 (x40), v30, .int .i64 (((rrunes_m b).length : Nat) : Int), .bool (decide (x40 < (((rrunes_m b).length : Nat) : Int))), .bool (decide (x40 < (((rrunes_m b).length : Nat) : Int))), yu1 3, yu1 4, yu1 5, yu1 6, yu1 7, yu1 8, yu1 9, yu1 10, yu1 11, yu1 12, yu1 13, yu1 14, yu1 15, yu1 16, yu1 17, yu1 18, yu1 19, yu1 20, yu1 21, yu1 22, yu1 23, yu1 24, yu1 25, yu1 26, yu1 27, yu1 28, yu1 29, yu1 30, yu1 31, yu1 32, yu1 33, yu1 34, yu1 35, yu1 36, yu1 37, yu1 38, yu1 39, yu1 40, yu1 41, yu1 42, yu1 43, yu1 44, yu1 45, yu1 46, u0 59, u0 60, u0 61, u0 62, u0 63, u0 64, u0 65, u0 66, u0 67, u0 68, u0 69, u0 70, u0 71, u0 72, u0 73, u0 74, u0 75, u0 76, u0 77, u0 78, u0 79, u0 80, u0 81, u0 82, u0 83, u0 84, u0 85, u0 86, u0 87, u0 88, u0 89, u0 90, u0 91, u0 92, u0 93, u0 94, u0 95, u0 96, u0 97, u0 98, u0 99], []⟩ ∧ Mm none (fun _ => True) w w' [.row v21 (rrunes_m a).length ((rrunes_m a).flatMap eR) 21 1, .row v30 (rrunes_m b).length ((rrunes_m b).flatMap eR) 21 1]) ?_ ?_
    · refine wp_block ?_
      refine wp_loop_n (fun n' a' w' => ∃ (n211 : Nat) (x209 : Int) (x210 : Int) (u1 : Nat → Value), n' = n211 ∧ (((((rrunes_m a).length : Nat) : Int) + (((rrunes_m b).length : Nat) : Int)) - (x209 + x210)).toNat < n211 ∧ rcompare_m_l1 a b x39 x40 ((((((rrunes_m a).length : Nat) : Int) + (((rrunes_m b).length : Nat) : Int)) - (x39 + x40)).toNat + 1) (x39, x40) = rcompare_m_l1 a b x39 x40 n211 (x209, x210) ∧ (x39 ≤ x209 ∧ x209 ≤ (((rrunes_m a).length : Nat) : Int) ∧ x40 ≤ x210 ∧ x210 ≤ (((rrunes_m b).length : Nat) : Int)) ∧ a' = ⟨#[.string (tx a), .string (tx b), undef, undef, u1 0, v21, v30, .int .i64 (x209), .int .i64 (x210), u1 1, u1 2, u0 3, u0 4, .string (tx a), .bool ((rcheck_m a)), .bool false, .bool false, .string (tx b), .bool ((rcheck_m b)), .bool (!(rcheck_m b)), .bool (!(rcheck_m b)), undef, undef, undef, .string (tx a), v21, .string (tx b), v30, .int .i64 (x39), v21, .int .i64 (((rrunes_m a).length : Nat) : Int), .bool false, .bool false, .int .i64 (x40), v30, .int .i64 (((rrunes_m b).length : Nat) : Int), .bool (decide (x40 < (((rrunes_m b).length : Nat) : Int))), .bool (decide (x40 < (((rrunes_m b).length : Nat) : Int))), u1 3, u1 4, u1 5, u1 6, u1 7, u1 8, u1 9, u1 10, u1 11, u1 12, u1 13, u1 14, u1 15, u1 16, u1 17, u1 18, u1 19, u1 20, u1 21, u1 22, u1 23, u1 24, u1 25, u1 26, u1 27, u1 28, u1 29, u1 30, u1 31, u1 32, u1 33, u1 34, u1 35, u1 36, u1 37, u1 38, u1 39, u1 40, u1 41, u1 42, u1 43, u1 44, u1 45, u1 46, u0 59, u0 60, u0 61, u0 62, u0 63, u0 64, u0 65, u0 66, u0 67, u0 68, u0 69, u0 70, u0 71, u0 72, u0 73, u0 74, u0 75, u0 76, u0 77, u0 78, u0 79, u0 80, u0 81, u0 82, u0 83, u0 84, u0 85, u0 86, u0 87, u0 88, u0 89, u0 90, u0 91, u0 92, u0 93, u0 94, u0 95, u0 96, u0 97, u0 98, u0 99], []⟩ ∧ Mm none (fun _ => True) w w' [.row v21 (rrunes_m a).length ((rrunes_m a).flatMap eR) 21 1, .row v30 (rrunes_m b).length ((rrunes_m b).flatMap eR) 21 1]) ⟨((((((rrunes_m a).length : Nat) : Int) + (((rrunes_m b).length : Nat) : Int)) - (x39 + x40)).toNat + 1), x39, x40, (fun qq => bif Nat.blt qq 24 then List.getD [u0 0, u0 1, u0 2, u0 15, u0 16, u0 17, u0 18, u0 19, u0 20, u0 21, u0 22, u0 23, u0 24, u0 25, u0 26, u0 27, u0 28, u0 29, u0 30, u0 31, u0 32, u0 33, u0 34, u0 35] qq undef else List.getD [u0 36, u0 37, u0 38, u0 39, u0 40, u0 41, u0 42, u0 43, u0 44, u0 45, u0 46, u0 47, u0 48, u0 49, u0 50, u0 51, u0 52, u0 53, u0 54, u0 55, u0 56, u0 57, u0 58] (qq - 24) undef), rfl, Nat.lt_succ_self _, rfl, (by first | omega | (simp; done) | (simp; omega) | (simp at *; omega)), rfl, hm48⟩ ?_
      rintro n211 _ w217 ⟨_, x209, x210, u1, rfl, hl221, hi213, hri, rfl, hm218⟩ R219 hR219
      obtain ⟨k212, rfl⟩ : ∃ k, n211 = k + 1 := ⟨n211 - 1, by omega⟩
      refine wp_seq_k (fun K222 hK222 => ?_)
      refine wp_seq_k (fun K223 hK223 => ?_)
      refine wp_region_lit ?_
      refine lvw 38 (.int .i64 (x209)) rfl rfl (run_mv rfl rfl) ?_
      simp only [nz1, nz2, nz3]
      refine lvw 39 (v21) rfl rfl (run_mv rfl rfl) ?_
      simp only [nz1, nz2, nz3]
      refine lvw 40 (.int .i64 (((rrunes_m a).length : Nat) : Int)) rfl rfl (s_len (Rs.row (hm218.row 0 rfl)) rfl Tryd.underlying53 rfl) ?_
      simp only [nz1, nz2, nz3]
      refine lvb 41 (x209 < (((rrunes_m a).length : Nat) : Int)) rfl rfl (z_lss x209 (((rrunes_m a).length : Nat) : Int) rfl rfl rfl) (fun hs224 => ?_) (fun hs224 => ?_)
      rotate_left
      · simp only [nz1, nz2, nz3]
        refine lvw 42 (.bool false) rfl rfl (run_mv rfl rfl) ?_
        simp only [nz1, nz2, nz3]
        refine lst_skip 43 rfl rfl ?_
        simp only [nz1, nz2, nz3]
        refine lst_skip 44 rfl rfl ?_
        simp only [nz1, nz2, nz3]
        refine lst_skip 45 rfl rfl ?_
        simp only [nz1, nz2, nz3]
        refine lst_skip 46 rfl rfl ?_
        simp only [nz1, nz2, nz3]
        refine lst_skip 47 rfl rfl ?_
        simp only [nz1, nz2, nz3]
        refine lst_skip 48 rfl rfl ?_
        simp only [nz1, nz2, nz3]
        refine lvw 49 (.bool false) rfl rfl (run_pickf rfl rfl rfl) ?_
        simp only [nz1, nz2, nz3]
        refine lvw 50 (.bool false) rfl rfl (run_mv rfl rfl) ?_
        simp only [nz1, nz2, nz3]
        refine lvw 51 (.int .i64 (x210)) rfl rfl (run_mv rfl rfl) ?_
        simp only [nz1, nz2, nz3]
        refine lvw 52 (v30) rfl rfl (run_mv rfl rfl) ?_
        simp only [nz1, nz2, nz3]
        refine lvw 53 (.int .i64 (((rrunes_m b).length : Nat) : Int)) rfl rfl (s_len (Rs.row (hm218.row 1 rfl)) rfl Tryd.underlying53 rfl) ?_
        simp only [nz1, nz2, nz3]
        refine lvb 54 (x210 < (((rrunes_m b).length : Nat) : Int)) rfl rfl (z_lss x210 (((rrunes_m b).length : Nat) : Int) rfl rfl rfl) (fun hs288 => ?_) (fun hs288 => ?_)
        rotate_left
        · simp only [nz1, nz2, nz3]
          refine lvw 55 (.bool false) rfl rfl (run_mv rfl rfl) ?_
          simp only [nz1, nz2, nz3]
          refine lst_skip 56 rfl rfl ?_
          simp only [nz1, nz2, nz3]
          refine lst_skip 57 rfl rfl ?_
          simp only [nz1, nz2, nz3]
          refine lst_skip 58 rfl rfl ?_
          simp only [nz1, nz2, nz3]
          refine lst_skip 59 rfl rfl ?_
          simp only [nz1, nz2, nz3]
          refine lst_skip 60 rfl rfl ?_
          simp only [nz1, nz2, nz3]
          refine lst_skip 61 rfl rfl ?_
          simp only [nz1, nz2, nz3]
          refine lvw 62 (.bool false) rfl rfl (run_pickf rfl rfl rfl) ?_
          simp only [nz1, nz2, nz3]
          refine lvw 63 (.bool false) rfl rfl (run_pickf rfl rfl rfl) ?_
          simp only [nz1, nz2, nz3]
          refine wpList_nil ?_
          refine then_n (hK223 _ _ ?_)
          refine cond_f rfl ?_
          refine wp_exit ?_
          refine then_x ?_
          refine then_x ?_
          refine blk_x ?_
          refine then_n ?_
          exact ⟨x209, x210, (fun qq => bif Nat.blt qq 24 then List.getD [u1 0, u1 1, u1 2, .int .i64 (x209), v21, .int .i64 (((rrunes_m a).length : Nat) : Int), .bool false, .bool false, undef, undef, undef, undef, undef, undef, .bool false, .bool false, .int .i64 (x210), v30, .int .i64 (((rrunes_m b).length : Nat) : Int), .bool false, .bool false, undef, undef, undef] qq undef else List.getD [undef, undef, undef, .bool false, .bool false, u1 29, u1 30, u1 31, u1 32, u1 33, u1 34, u1 35, u1 36, u1 37, u1 38, u1 39, u1 40, u1 41, u1 42, u1 43, u1 44, u1 45, u1 46] (qq - 24) undef), (hi213.trans (show rcompare_m_b1 a b x39 x40 (rcompare_m_l1 a b x39 x40 k212) x209 x210 = .inl (x209, x210) from by unfold rcompare_m_b1; rw [if_neg hs224, if_neg hs288] <;> rfl)), (by first | omega | (simp; done) | (simp; omega) | (simp at *; omega)), rfl, hm218⟩
        simp only [nz1, nz2, nz3]
        refine lvw 55 (.bool true) rfl rfl (run_mv rfl rfl) ?_
        simp only [nz1, nz2, nz3]
        refine lvw 56 (v30) rfl rfl (run_mv rfl rfl) ?_
        simp only [nz1, nz2, nz3]
        refine lvw 57 (.int .i64 (x210)) rfl rfl (run_mv rfl rfl) ?_
        simp only [nz1, nz2, nz3]
        refine lvw 58 (.pointer (some ⟨(bk v30), (po v30 + x210.toNat * 1), none⟩)) rfl rfl (r_ixvZ (Rs.row (hm218.row 1 rfl)) x210 (by omega) (by omega) Tryd.underlying53 sz_21 rfl rfl rfl) ?_
        simp only [nz1, nz2, nz3]
        refine lvw 59 (.int .i32 (((rrunes_m b).getD x210.toNat 0))) rfl rfl (r_cellw (Rs.cell (Rs.row (hm218.row 1 rfl)) eR_len 0 x210.toNat (by omega) 0 _ rfl) Tryd.underlying21 rfl rfl rfl) ?_
        simp only [nz1, nz2, nz3]
        refine lst rfl (m_call hm218 60 (.bool (decide (48 ≤ ((rrunes_m b).getD x210.toNat 0) ∧ ((rrunes_m b).getD x210.toNat 0) ≤ 57))) rfl (run_rdigit rfl rfl) (rdigd_any ((rrunes_m b).getD x210.toNat 0)  _  ) (fun w289 (hm290 : Mm none (fun _ => True) w w289 [.row v21 (rrunes_m a).length ((rrunes_m a).flatMap eR) 21 1, .row v30 (rrunes_m b).length ((rrunes_m b).flatMap eR) 21 1]) => ?_))
        simp only [nz1, nz2, nz3]
        refine lvw 61 (.bool (decide (¬ (48 ≤ ((rrunes_m b).getD x210.toNat 0) ∧ ((rrunes_m b).getD x210.toNat 0) ≤ 57)))) rfl rfl (r_notD (48 ≤ ((rrunes_m b).getD x210.toNat 0) ∧ ((rrunes_m b).getD x210.toNat 0) ≤ 57) rfl rfl) ?_
        simp only [nz1, nz2, nz3]
        refine lvw 62 (.bool (decide (¬ (48 ≤ ((rrunes_m b).getD x210.toNat 0) ∧ ((rrunes_m b).getD x210.toNat 0) ≤ 57)))) rfl rfl (run_pick rfl rfl rfl) ?_
        simp only [nz1, nz2, nz3]
        refine lvw 63 (.bool (decide (¬ (48 ≤ ((rrunes_m b).getD x210.toNat 0) ∧ ((rrunes_m b).getD x210.toNat 0) ≤ 57)))) rfl rfl (run_pickf rfl rfl rfl) ?_
        simp only [nz1, nz2, nz3]
        refine wpList_nil ?_
        refine then_n (hK223 _ _ ?_)
        refine cond_d (¬ (48 ≤ ((rrunes_m b).getD x210.toNat 0) ∧ ((rrunes_m b).getD x210.toNat 0) ≤ 57)) rfl (fun hc291 => ?_) (fun hc291 => ?_)
        rotate_left
        · refine wp_exit ?_
          refine then_x ?_
          refine then_x ?_
          refine blk_x ?_
          refine then_n ?_
          exact ⟨x209, x210, (fun qq => bif Nat.blt qq 24 then List.getD [u1 0, u1 1, u1 2, .int .i64 (x209), v21, .int .i64 (((rrunes_m a).length : Nat) : Int), .bool false, .bool false, undef, undef, undef, undef, undef, undef, .bool false, .bool false, .int .i64 (x210), v30, .int .i64 (((rrunes_m b).length : Nat) : Int), .bool true, .bool true, v30, .int .i64 (x210), .pointer (some ⟨(bk v30), (po v30 + x210.toNat * 1), none⟩)] qq undef else List.getD [.int .i32 (((rrunes_m b).getD x210.toNat 0)), .bool (decide (48 ≤ ((rrunes_m b).getD x210.toNat 0) ∧ ((rrunes_m b).getD x210.toNat 0) ≤ 57)), .bool (decide (¬ (48 ≤ ((rrunes_m b).getD x210.toNat 0) ∧ ((rrunes_m b).getD x210.toNat 0) ≤ 57))), .bool (decide (¬ (48 ≤ ((rrunes_m b).getD x210.toNat 0) ∧ ((rrunes_m b).getD x210.toNat 0) ≤ 57))), .bool (decide (¬ (48 ≤ ((rrunes_m b).getD x210.toNat 0) ∧ ((rrunes_m b).getD x210.toNat 0) ≤ 57))), u1 29, u1 30, u1 31, u1 32, u1 33, u1 34, u1 35, u1 36, u1 37, u1 38, u1 39, u1 40, u1 41, u1 42, u1 43, u1 44, u1 45, u1 46] (qq - 24) undef), (hi213.trans (show rcompare_m_b1 a b x39 x40 (rcompare_m_l1 a b x39 x40 k212) x209 x210 = .inl (x209, x210) from by unfold rcompare_m_b1; rw [if_neg hs224, if_pos hs288, if_neg hc291] <;> rfl)), (by first | omega | (simp; done) | (simp; omega) | (simp at *; omega)), rfl, hm290⟩
        refine wp_skip ?_
        refine then_n (hK222 _ _ ?_)
        refine wp_block ?_
        refine wp_seq_k (fun K292 hK292 => ?_)
        refine wp_region_lit ?_
        refine lvw 64 (v21) rfl rfl (run_mv rfl rfl) ?_
        simp only [nz1, nz2, nz3]
        refine lvw 65 (.int .i64 (x209)) rfl rfl (run_mv rfl rfl) ?_
        simp only [nz1, nz2, nz3]
        refine lst rfl (m_call hm290 66 (.int .i32 ((rat_m (rrunes_m a) x209))) rfl (run_rat rfl rfl rfl) (rat_any (rrunes_m a) x209 v21 _ (Rs.row (hm290.row 0 rfl)) (by first | omega | assumption | exact Nat.le_trans (rrunes_ok (by assumption)).2.2 (by decide) | (simp; done) | (simp; omega) | (simp only [List.length_append, List.length_cons, List.length_nil]; omega) | (simp only [List.length_append, List.length_cons, List.length_nil] at *; omega) | decide)) (fun w293 (hm294 : Mm none (fun _ => True) w w293 [.row v21 (rrunes_m a).length ((rrunes_m a).flatMap eR) 21 1, .row v30 (rrunes_m b).length ((rrunes_m b).flatMap eR) 21 1]) => ?_))
        have hf295 : (x209 < (((rrunes_m a).length : Nat) : Int) ∧ (rat_m (rrunes_m a) x209) = (rrunes_m a).getD x209.toNat 0 ∧ 43 ≤ (rrunes_m a).getD x209.toNat 0 ∧ (rrunes_m a).getD x209.toNat 0 ≤ 126) ∨ ((((rrunes_m a).length : Nat) : Int) ≤ x209 ∧ (rat_m (rrunes_m a) x209) = 0) := rat_rng a x209 (by assumption) (by omega)
        simp only [nz1, nz2, nz3]
        refine lst rfl (m_call hm294 67 (.int .i64 ((rweight_m (rat_m (rrunes_m a) x209)))) rfl (run_rweight rfl rfl) (rweight_any (rat_m (rrunes_m a) x209)  _  (by first | omega | assumption | exact Nat.le_trans (rrunes_ok (by assumption)).2.2 (by decide) | (simp; done) | (simp; omega) | (simp only [List.length_append, List.length_cons, List.length_nil]; omega) | (simp only [List.length_append, List.length_cons, List.length_nil] at *; omega) | decide) (by first | omega | assumption | exact Nat.le_trans (rrunes_ok (by assumption)).2.2 (by decide) | (simp; done) | (simp; omega) | (simp only [List.length_append, List.length_cons, List.length_nil]; omega) | (simp only [List.length_append, List.length_cons, List.length_nil] at *; omega) | decide)) (fun w296 (hm297 : Mm none (fun _ => True) w w296 [.row v21 (rrunes_m a).length ((rrunes_m a).flatMap eR) 21 1, .row v30 (rrunes_m b).length ((rrunes_m b).flatMap eR) 21 1]) => ?_))
        have hf298 : ((rweight_m (rat_m (rrunes_m a) x209)) = 0 ∧ ((rat_m (rrunes_m a) x209) = 0 ∨ (48 ≤ (rat_m (rrunes_m a) x209) ∧ (rat_m (rrunes_m a) x209) ≤ 57))) ∨ ((rweight_m (rat_m (rrunes_m a) x209)) ≠ 0 ∧ ¬ (rat_m (rrunes_m a) x209) = 0 ∧ ¬ (48 ≤ (rat_m (rrunes_m a) x209) ∧ (rat_m (rrunes_m a) x209) ≤ 57)) := rweight_fact (rat_m (rrunes_m a) x209) (by omega)
        simp only [nz1, nz2, nz3]
        refine lvw 68 (v30) rfl rfl (run_mv rfl rfl) ?_
        simp only [nz1, nz2, nz3]
        refine lvw 69 (.int .i64 (x210)) rfl rfl (run_mv rfl rfl) ?_
        simp only [nz1, nz2, nz3]
        refine lst rfl (m_call hm297 70 (.int .i32 ((rat_m (rrunes_m b) x210))) rfl (run_rat rfl rfl rfl) (rat_any (rrunes_m b) x210 v30 _ (Rs.row (hm297.row 1 rfl)) (by first | omega | assumption | exact Nat.le_trans (rrunes_ok (by assumption)).2.2 (by decide) | (simp; done) | (simp; omega) | (simp only [List.length_append, List.length_cons, List.length_nil]; omega) | (simp only [List.length_append, List.length_cons, List.length_nil] at *; omega) | decide)) (fun w299 (hm300 : Mm none (fun _ => True) w w299 [.row v21 (rrunes_m a).length ((rrunes_m a).flatMap eR) 21 1, .row v30 (rrunes_m b).length ((rrunes_m b).flatMap eR) 21 1]) => ?_))
        have hf301 : (x210 < (((rrunes_m b).length : Nat) : Int) ∧ (rat_m (rrunes_m b) x210) = (rrunes_m b).getD x210.toNat 0 ∧ 43 ≤ (rrunes_m b).getD x210.toNat 0 ∧ (rrunes_m b).getD x210.toNat 0 ≤ 126) ∨ ((((rrunes_m b).length : Nat) : Int) ≤ x210 ∧ (rat_m (rrunes_m b) x210) = 0) := rat_rng b x210 (by assumption) (by omega)
        simp only [nz1, nz2, nz3]
        refine lst rfl (m_call hm300 71 (.int .i64 ((rweight_m (rat_m (rrunes_m b) x210)))) rfl (run_rweight rfl rfl) (rweight_any (rat_m (rrunes_m b) x210)  _  (by first | omega | assumption | exact Nat.le_trans (rrunes_ok (by assumption)).2.2 (by decide) | (simp; done) | (simp; omega) | (simp only [List.length_append, List.length_cons, List.length_nil]; omega) | (simp only [List.length_append, List.length_cons, List.length_nil] at *; omega) | decide) (by first | omega | assumption | exact Nat.le_trans (rrunes_ok (by assumption)).2.2 (by decide) | (simp; done) | (simp; omega) | (simp only [List.length_append, List.length_cons, List.length_nil]; omega) | (simp only [List.length_append, List.length_cons, List.length_nil] at *; omega) | decide)) (fun w302 (hm303 : Mm none (fun _ => True) w w302 [.row v21 (rrunes_m a).length ((rrunes_m a).flatMap eR) 21 1, .row v30 (rrunes_m b).length ((rrunes_m b).flatMap eR) 21 1]) => ?_))
        have hf304 : ((rweight_m (rat_m (rrunes_m b) x210)) = 0 ∧ ((rat_m (rrunes_m b) x210) = 0 ∨ (48 ≤ (rat_m (rrunes_m b) x210) ∧ (rat_m (rrunes_m b) x210) ≤ 57))) ∨ ((rweight_m (rat_m (rrunes_m b) x210)) ≠ 0 ∧ ¬ (rat_m (rrunes_m b) x210) = 0 ∧ ¬ (48 ≤ (rat_m (rrunes_m b) x210) ∧ (rat_m (rrunes_m b) x210) ≤ 57)) := rweight_fact (rat_m (rrunes_m b) x210) (by omega)
        simp only [nz1, nz2, nz3]
        refine lvw 9 (.int .i64 ((rweight_m (rat_m (rrunes_m a) x209)))) rfl rfl (run_as rfl rfl) ?_
        simp only [nz1, nz2, nz3]
        refine lvw 10 (.int .i64 ((rweight_m (rat_m (rrunes_m b) x210)))) rfl rfl (run_as rfl rfl) ?_
        simp only [nz1, nz2, nz3]
        refine wpList_nil ?_
        refine then_n (hK292 _ _ ?_)
        refine wp_seq_k (fun K305 hK305 => ?_)
        refine wp_seq_k (fun K306 hK306 => ?_)
        refine wp_region_lit ?_
        refine lvw 72 (.int .i64 ((rweight_m (rat_m (rrunes_m a) x209)))) rfl rfl (run_mv rfl rfl) ?_
        simp only [nz1, nz2, nz3]
        refine lvw 73 (.int .i64 ((rweight_m (rat_m (rrunes_m b) x210)))) rfl rfl (run_mv rfl rfl) ?_
        simp only [nz1, nz2, nz3]
        refine lvw 74 (.bool (decide (¬ (rweight_m (rat_m (rrunes_m a) x209)) = (rweight_m (rat_m (rrunes_m b) x210))))) rfl rfl (z_neq (rweight_m (rat_m (rrunes_m a) x209)) (rweight_m (rat_m (rrunes_m b) x210)) rfl rfl rfl) ?_
        simp only [nz1, nz2, nz3]
        refine wpList_nil ?_
        refine then_n (hK306 _ _ ?_)
        refine cond_d (¬ (rweight_m (rat_m (rrunes_m a) x209)) = (rweight_m (rat_m (rrunes_m b) x210))) rfl (fun hc307 => ?_) (fun hc307 => ?_)
        rotate_left
        · refine wp_skip ?_
          refine then_n (hK305 _ _ ?_)
          refine wp_seq_k (fun K319 hK319 => ?_)
          refine wp_region_lit ?_
          refine lvw 78 (.int .i64 (x209)) rfl rfl (run_mv rfl rfl) ?_
          simp only [nz1, nz2, nz3]
          refine lvw 79 (.int .i64 ((x209 + (1 : Int)))) rfl rfl (z_add x209 (1 : Int) _ (by rw [IntKind.wrap_i64]; omega) rfl rfl rfl) ?_
          simp only [nz1, nz2, nz3]
          refine lvw 7 (.int .i64 ((x209 + (1 : Int)))) rfl rfl (run_as rfl rfl) ?_
          simp only [nz1, nz2, nz3]
          refine wpList_nil ?_
          refine then_n (hK319 _ _ ?_)
          refine wp_region_lit ?_
          refine lvw 80 (.int .i64 (x210)) rfl rfl (run_mv rfl rfl) ?_
          simp only [nz1, nz2, nz3]
          refine lvw 81 (.int .i64 ((x210 + (1 : Int)))) rfl rfl (z_add x210 (1 : Int) _ (by rw [IntKind.wrap_i64]; omega) rfl rfl rfl) ?_
          simp only [nz1, nz2, nz3]
          refine lvw 8 (.int .i64 ((x210 + (1 : Int)))) rfl rfl (run_as rfl rfl) ?_
          simp only [nz1, nz2, nz3]
          refine wpList_nil ?_
          refine blk_n ?_
          refine then_n (hR219 _ _ _ ⟨k212, (x209 + (1 : Int)), (x210 + (1 : Int)), (fun qq => bif Nat.blt qq 24 then List.getD [u1 0, .int .i64 ((rweight_m (rat_m (rrunes_m a) x209))), .int .i64 ((rweight_m (rat_m (rrunes_m b) x210))), .int .i64 (x209), v21, .int .i64 (((rrunes_m a).length : Nat) : Int), .bool false, .bool false, undef, undef, undef, undef, undef, undef, .bool false, .bool false, .int .i64 (x210), v30, .int .i64 (((rrunes_m b).length : Nat) : Int), .bool true, .bool true, v30, .int .i64 (x210), .pointer (some ⟨(bk v30), (po v30 + x210.toNat * 1), none⟩)] qq undef else List.getD [.int .i32 (((rrunes_m b).getD x210.toNat 0)), .bool (decide (48 ≤ ((rrunes_m b).getD x210.toNat 0) ∧ ((rrunes_m b).getD x210.toNat 0) ≤ 57)), .bool (decide (¬ (48 ≤ ((rrunes_m b).getD x210.toNat 0) ∧ ((rrunes_m b).getD x210.toNat 0) ≤ 57))), .bool (decide (¬ (48 ≤ ((rrunes_m b).getD x210.toNat 0) ∧ ((rrunes_m b).getD x210.toNat 0) ≤ 57))), .bool (decide (¬ (48 ≤ ((rrunes_m b).getD x210.toNat 0) ∧ ((rrunes_m b).getD x210.toNat 0) ≤ 57))), v21, .int .i64 (x209), .int .i32 ((rat_m (rrunes_m a) x209)), .int .i64 ((rweight_m (rat_m (rrunes_m a) x209))), v30, .int .i64 (x210), .int .i32 ((rat_m (rrunes_m b) x210)), .int .i64 ((rweight_m (rat_m (rrunes_m b) x210))), .int .i64 ((rweight_m (rat_m (rrunes_m a) x209))), .int .i64 ((rweight_m (rat_m (rrunes_m b) x210))), .bool (decide (¬ (rweight_m (rat_m (rrunes_m a) x209)) = (rweight_m (rat_m (rrunes_m b) x210)))), u1 40, u1 41, u1 42, .int .i64 (x209), .int .i64 ((x209 + (1 : Int))), .int .i64 (x210), .int .i64 ((x210 + (1 : Int)))] (qq - 24) undef), rfl, (by first | omega | (simp; omega) | (simp at *; omega)), (hi213.trans (show rcompare_m_b1 a b x39 x40 (rcompare_m_l1 a b x39 x40 k212) x209 x210 = rcompare_m_l1 a b x39 x40 k212 ((x209 + (1 : Int)), (x210 + (1 : Int))) from by unfold rcompare_m_b1; rw [if_neg hs224, if_pos hs288, if_pos hc291, if_neg hc307] <;> rfl)), (by first | omega | (simp; done) | (simp; omega) | (simp at *; omega)), rfl, hm303⟩ ?_)
          omega
        refine wp_seq_k (fun K308 hK308 => ?_)
        refine wp_seq_k (fun K309 hK309 => ?_)
        refine wp_region_lit ?_
        refine lvw 75 (.int .i64 ((rweight_m (rat_m (rrunes_m a) x209)))) rfl rfl (run_mv rfl rfl) ?_
        simp only [nz1, nz2, nz3]
        refine lvw 76 (.int .i64 ((rweight_m (rat_m (rrunes_m b) x210)))) rfl rfl (run_mv rfl rfl) ?_
        simp only [nz1, nz2, nz3]
        refine lvw 77 (.bool (decide ((rweight_m (rat_m (rrunes_m a) x209)) < (rweight_m (rat_m (rrunes_m b) x210))))) rfl rfl (z_lss (rweight_m (rat_m (rrunes_m a) x209)) (rweight_m (rat_m (rrunes_m b) x210)) rfl rfl rfl) ?_
        simp only [nz1, nz2, nz3]
        refine wpList_nil ?_
        refine then_n (hK309 _ _ ?_)
        refine cond_d ((rweight_m (rat_m (rrunes_m a) x209)) < (rweight_m (rat_m (rrunes_m b) x210))) rfl (fun hc310 => ?_) (fun hc310 => ?_)
        · refine wp_seq_k (fun K311 hK311 => ?_)
          refine wp_region_lit ?_
          refine lvw 4 (.int .i64 (-1)) rfl rfl (run_as rfl rfl) ?_
          simp only [nz1, nz2, nz3]
          refine wpList_nil ?_
          refine then_n (hK311 _ _ ?_)
          refine wp_ret ?_
          refine then_r ?_
          refine then_r ?_
          refine blk_r ?_
          refine then_r ?_
          refine blk_r ?_
          refine then_r ?_
          refine then_r ?_
          refine blk_r ?_
          refine then_r ?_
          refine blk_r ?_
          refine then_r ?_
          refine then_r ?_
          have he312 : rcompare_m_l1 a b x39 x40 ((((((rrunes_m a).length : Nat) : Int) + (((rrunes_m b).length : Nat) : Int)) - (x39 + x40)).toNat + 1) (x39, x40) = .inr (-1) := (hi213.trans (show rcompare_m_b1 a b x39 x40 (rcompare_m_l1 a b x39 x40 k212) x209 x210 = .inr (-1) from by unfold rcompare_m_b1; rw [if_neg hs224, if_pos hs288, if_pos hc291, if_pos hc307, if_pos hc310] <;> rfl))
          have he313 : rcompare_m_l0 a b ((((((rrunes_m a).length : Nat) : Int) + (((rrunes_m b).length : Nat) : Int)) - (0 + 0)).toNat + 1) (0, 0) = .inr (-1) := (hi43.trans (show rcompare_m_b0 a b (rcompare_m_l0 a b k42) x39 x40 = .inr (-1) from by unfold rcompare_m_b0; rw [if_neg hs54, if_pos hc207, he312] <;> rfl))
          have he314 : rcompare_m a b = -1 := (show rcompare_m a b = -1 from by unfold rcompare_m; rw [if_neg hs6, if_neg hc13, he313] <;> rfl)
          exact ⟨rfl, .int .i64 (-1), res_t rfl rfl, ⟨by (rw [he314]; try rfl), hm303.below⟩⟩
        refine wp_skip ?_
        refine then_n (hK308 _ _ ?_)
        refine wp_seq_k (fun K315 hK315 => ?_)
        refine wp_region_lit ?_
        refine lvw 4 (.int .i64 1) rfl rfl (run_as rfl rfl) ?_
        simp only [nz1, nz2, nz3]
        refine wpList_nil ?_
        refine then_n (hK315 _ _ ?_)
        refine wp_ret ?_
        refine then_r ?_
        refine blk_r ?_
        refine then_r ?_
        refine blk_r ?_
        refine then_r ?_
        refine then_r ?_
        refine blk_r ?_
        refine then_r ?_
        refine blk_r ?_
        refine then_r ?_
        refine then_r ?_
        have he316 : rcompare_m_l1 a b x39 x40 ((((((rrunes_m a).length : Nat) : Int) + (((rrunes_m b).length : Nat) : Int)) - (x39 + x40)).toNat + 1) (x39, x40) = .inr 1 := (hi213.trans (show rcompare_m_b1 a b x39 x40 (rcompare_m_l1 a b x39 x40 k212) x209 x210 = .inr 1 from by unfold rcompare_m_b1; rw [if_neg hs224, if_pos hs288, if_pos hc291, if_pos hc307, if_neg hc310] <;> rfl))
        have he317 : rcompare_m_l0 a b ((((((rrunes_m a).length : Nat) : Int) + (((rrunes_m b).length : Nat) : Int)) - (0 + 0)).toNat + 1) (0, 0) = .inr 1 := (hi43.trans (show rcompare_m_b0 a b (rcompare_m_l0 a b k42) x39 x40 = .inr 1 from by unfold rcompare_m_b0; rw [if_neg hs54, if_pos hc207, he316] <;> rfl))
        have he318 : rcompare_m a b = 1 := (show rcompare_m a b = 1 from by unfold rcompare_m; rw [if_neg hs6, if_neg hc13, he317] <;> rfl)
        exact ⟨rfl, .int .i64 1, res_t rfl rfl, ⟨by (rw [he318]; try rfl), hm303.below⟩⟩
      simp only [nz1, nz2, nz3]
      refine lvw 42 (.bool true) rfl rfl (run_mv rfl rfl) ?_
      simp only [nz1, nz2, nz3]
      refine lvw 43 (v21) rfl rfl (run_mv rfl rfl) ?_
      simp only [nz1, nz2, nz3]
      refine lvw 44 (.int .i64 (x209)) rfl rfl (run_mv rfl rfl) ?_
      simp only [nz1, nz2, nz3]
      refine lvw 45 (.pointer (some ⟨(bk v21), (po v21 + x209.toNat * 1), none⟩)) rfl rfl (r_ixvZ (Rs.row (hm218.row 0 rfl)) x209 (by omega) (by omega) Tryd.underlying53 sz_21 rfl rfl rfl) ?_
      simp only [nz1, nz2, nz3]
      refine lvw 46 (.int .i32 (((rrunes_m a).getD x209.toNat 0))) rfl rfl (r_cellw (Rs.cell (Rs.row (hm218.row 0 rfl)) eR_len 0 x209.toNat (by omega) 0 _ rfl) Tryd.underlying21 rfl rfl rfl) ?_
      simp only [nz1, nz2, nz3]
      refine lst rfl (m_call hm218 47 (.bool (decide (48 ≤ ((rrunes_m a).getD x209.toNat 0) ∧ ((rrunes_m a).getD x209.toNat 0) ≤ 57))) rfl (run_rdigit rfl rfl) (rdigd_any ((rrunes_m a).getD x209.toNat 0)  _  ) (fun w225 (hm226 : Mm none (fun _ => True) w w225 [.row v21 (rrunes_m a).length ((rrunes_m a).flatMap eR) 21 1, .row v30 (rrunes_m b).length ((rrunes_m b).flatMap eR) 21 1]) => ?_))
      simp only [nz1, nz2, nz3]
      refine lvb 48 (¬ (48 ≤ ((rrunes_m a).getD x209.toNat 0) ∧ ((rrunes_m a).getD x209.toNat 0) ≤ 57)) rfl rfl (r_notD (48 ≤ ((rrunes_m a).getD x209.toNat 0) ∧ ((rrunes_m a).getD x209.toNat 0) ≤ 57) rfl rfl) (fun hs227 => ?_) (fun hs227 => ?_)
      · simp only [nz1, nz2, nz3]
        refine lvw 49 (.bool true) rfl rfl (run_pick rfl rfl rfl) ?_
        simp only [nz1, nz2, nz3]
        refine lvw 50 (.bool true) rfl rfl (run_mv rfl rfl) ?_
        simp only [nz1, nz2, nz3]
        refine lst_skip 51 rfl rfl ?_
        simp only [nz1, nz2, nz3]
        refine lst_skip 52 rfl rfl ?_
        simp only [nz1, nz2, nz3]
        refine lst_skip 53 rfl rfl ?_
        simp only [nz1, nz2, nz3]
        refine lst_skip 54 rfl rfl ?_
        simp only [nz1, nz2, nz3]
        refine lst_skip 55 rfl rfl ?_
        simp only [nz1, nz2, nz3]
        refine lst_skip 56 rfl rfl ?_
        simp only [nz1, nz2, nz3]
        refine lst_skip 57 rfl rfl ?_
        simp only [nz1, nz2, nz3]
        refine lst_skip 58 rfl rfl ?_
        simp only [nz1, nz2, nz3]
        refine lst_skip 59 rfl rfl ?_
        simp only [nz1, nz2, nz3]
        refine lst_skip 60 rfl rfl ?_
        simp only [nz1, nz2, nz3]
        refine lst_skip 61 rfl rfl ?_
        simp only [nz1, nz2, nz3]
        refine lst_skip 62 rfl rfl ?_
        simp only [nz1, nz2, nz3]
        refine lvw 63 (.bool true) rfl rfl (run_pick rfl rfl rfl) ?_
        simp only [nz1, nz2, nz3]
        refine wpList_nil ?_
        refine then_n (hK223 _ _ ?_)
        refine cond_t rfl ?_
        refine wp_skip ?_
        refine then_n (hK222 _ _ ?_)
        refine wp_block ?_
        refine wp_seq_k (fun K228 hK228 => ?_)
        refine wp_region_lit ?_
        refine lvw 64 (v21) rfl rfl (run_mv rfl rfl) ?_
        simp only [nz1, nz2, nz3]
        refine lvw 65 (.int .i64 (x209)) rfl rfl (run_mv rfl rfl) ?_
        simp only [nz1, nz2, nz3]
        refine lst rfl (m_call hm226 66 (.int .i32 ((rat_m (rrunes_m a) x209))) rfl (run_rat rfl rfl rfl) (rat_any (rrunes_m a) x209 v21 _ (Rs.row (hm226.row 0 rfl)) (by first | omega | assumption | exact Nat.le_trans (rrunes_ok (by assumption)).2.2 (by decide) | (simp; done) | (simp; omega) | (simp only [List.length_append, List.length_cons, List.length_nil]; omega) | (simp only [List.length_append, List.length_cons, List.length_nil] at *; omega) | decide)) (fun w229 (hm230 : Mm none (fun _ => True) w w229 [.row v21 (rrunes_m a).length ((rrunes_m a).flatMap eR) 21 1, .row v30 (rrunes_m b).length ((rrunes_m b).flatMap eR) 21 1]) => ?_))
        have hf231 : (x209 < (((rrunes_m a).length : Nat) : Int) ∧ (rat_m (rrunes_m a) x209) = (rrunes_m a).getD x209.toNat 0 ∧ 43 ≤ (rrunes_m a).getD x209.toNat 0 ∧ (rrunes_m a).getD x209.toNat 0 ≤ 126) ∨ ((((rrunes_m a).length : Nat) : Int) ≤ x209 ∧ (rat_m (rrunes_m a) x209) = 0) := rat_rng a x209 (by assumption) (by omega)
        simp only [nz1, nz2, nz3]
        refine lst rfl (m_call hm230 67 (.int .i64 ((rweight_m (rat_m (rrunes_m a) x209)))) rfl (run_rweight rfl rfl) (rweight_any (rat_m (rrunes_m a) x209)  _  (by first | omega | assumption | exact Nat.le_trans (rrunes_ok (by assumption)).2.2 (by decide) | (simp; done) | (simp; omega) | (simp only [List.length_append, List.length_cons, List.length_nil]; omega) | (simp only [List.length_append, List.length_cons, List.length_nil] at *; omega) | decide) (by first | omega | assumption | exact Nat.le_trans (rrunes_ok (by assumption)).2.2 (by decide) | (simp; done) | (simp; omega) | (simp only [List.length_append, List.length_cons, List.length_nil]; omega) | (simp only [List.length_append, List.length_cons, List.length_nil] at *; omega) | decide)) (fun w232 (hm233 : Mm none (fun _ => True) w w232 [.row v21 (rrunes_m a).length ((rrunes_m a).flatMap eR) 21 1, .row v30 (rrunes_m b).length ((rrunes_m b).flatMap eR) 21 1]) => ?_))
        have hf234 : ((rweight_m (rat_m (rrunes_m a) x209)) = 0 ∧ ((rat_m (rrunes_m a) x209) = 0 ∨ (48 ≤ (rat_m (rrunes_m a) x209) ∧ (rat_m (rrunes_m a) x209) ≤ 57))) ∨ ((rweight_m (rat_m (rrunes_m a) x209)) ≠ 0 ∧ ¬ (rat_m (rrunes_m a) x209) = 0 ∧ ¬ (48 ≤ (rat_m (rrunes_m a) x209) ∧ (rat_m (rrunes_m a) x209) ≤ 57)) := rweight_fact (rat_m (rrunes_m a) x209) (by omega)
        simp only [nz1, nz2, nz3]
        refine lvw 68 (v30) rfl rfl (run_mv rfl rfl) ?_
        simp only [nz1, nz2, nz3]
        refine lvw 69 (.int .i64 (x210)) rfl rfl (run_mv rfl rfl) ?_
        simp only [nz1, nz2, nz3]
        refine lst rfl (m_call hm233 70 (.int .i32 ((rat_m (rrunes_m b) x210))) rfl (run_rat rfl rfl rfl) (rat_any (rrunes_m b) x210 v30 _ (Rs.row (hm233.row 1 rfl)) (by first | omega | assumption | exact Nat.le_trans (rrunes_ok (by assumption)).2.2 (by decide) | (simp; done) | (simp; omega) | (simp only [List.length_append, List.length_cons, List.length_nil]; omega) | (simp only [List.length_append, List.length_cons, List.length_nil] at *; omega) | decide)) (fun w235 (hm236 : Mm none (fun _ => True) w w235 [.row v21 (rrunes_m a).length ((rrunes_m a).flatMap eR) 21 1, .row v30 (rrunes_m b).length ((rrunes_m b).flatMap eR) 21 1]) => ?_))
        have hf237 : (x210 < (((rrunes_m b).length : Nat) : Int) ∧ (rat_m (rrunes_m b) x210) = (rrunes_m b).getD x210.toNat 0 ∧ 43 ≤ (rrunes_m b).getD x210.toNat 0 ∧ (rrunes_m b).getD x210.toNat 0 ≤ 126) ∨ ((((rrunes_m b).length : Nat) : Int) ≤ x210 ∧ (rat_m (rrunes_m b) x210) = 0) := rat_rng b x210 (by assumption) (by omega)
        simp only [nz1, nz2, nz3]
        refine lst rfl (m_call hm236 71 (.int .i64 ((rweight_m (rat_m (rrunes_m b) x210)))) rfl (run_rweight rfl rfl) (rweight_any (rat_m (rrunes_m b) x210)  _  (by first | omega | assumption | exact Nat.le_trans (rrunes_ok (by assumption)).2.2 (by decide) | (simp; done) | (simp; omega) | (simp only [List.length_append, List.length_cons, List.length_nil]; omega) | (simp only [List.length_append, List.length_cons, List.length_nil] at *; omega) | decide) (by first | omega | assumption | exact Nat.le_trans (rrunes_ok (by assumption)).2.2 (by decide) | (simp; done) | (simp; omega) | (simp only [List.length_append, List.length_cons, List.length_nil]; omega) | (simp only [List.length_append, List.length_cons, List.length_nil] at *; omega) | decide)) (fun w238 (hm239 : Mm none (fun _ => True) w w238 [.row v21 (rrunes_m a).length ((rrunes_m a).flatMap eR) 21 1, .row v30 (rrunes_m b).length ((rrunes_m b).flatMap eR) 21 1]) => ?_))
        have hf240 : ((rweight_m (rat_m (rrunes_m b) x210)) = 0 ∧ ((rat_m (rrunes_m b) x210) = 0 ∨ (48 ≤ (rat_m (rrunes_m b) x210) ∧ (rat_m (rrunes_m b) x210) ≤ 57))) ∨ ((rweight_m (rat_m (rrunes_m b) x210)) ≠ 0 ∧ ¬ (rat_m (rrunes_m b) x210) = 0 ∧ ¬ (48 ≤ (rat_m (rrunes_m b) x210) ∧ (rat_m (rrunes_m b) x210) ≤ 57)) := rweight_fact (rat_m (rrunes_m b) x210) (by omega)
        simp only [nz1, nz2, nz3]
        refine lvw 9 (.int .i64 ((rweight_m (rat_m (rrunes_m a) x209)))) rfl rfl (run_as rfl rfl) ?_
        simp only [nz1, nz2, nz3]
        refine lvw 10 (.int .i64 ((rweight_m (rat_m (rrunes_m b) x210)))) rfl rfl (run_as rfl rfl) ?_
        simp only [nz1, nz2, nz3]
        refine wpList_nil ?_
        refine then_n (hK228 _ _ ?_)
        refine wp_seq_k (fun K241 hK241 => ?_)
        refine wp_seq_k (fun K242 hK242 => ?_)
        refine wp_region_lit ?_
        refine lvw 72 (.int .i64 ((rweight_m (rat_m (rrunes_m a) x209)))) rfl rfl (run_mv rfl rfl) ?_
        simp only [nz1, nz2, nz3]
        refine lvw 73 (.int .i64 ((rweight_m (rat_m (rrunes_m b) x210)))) rfl rfl (run_mv rfl rfl) ?_
        simp only [nz1, nz2, nz3]
        refine lvw 74 (.bool (decide (¬ (rweight_m (rat_m (rrunes_m a) x209)) = (rweight_m (rat_m (rrunes_m b) x210))))) rfl rfl (z_neq (rweight_m (rat_m (rrunes_m a) x209)) (rweight_m (rat_m (rrunes_m b) x210)) rfl rfl rfl) ?_
        simp only [nz1, nz2, nz3]
        refine wpList_nil ?_
        refine then_n (hK242 _ _ ?_)
        refine cond_d (¬ (rweight_m (rat_m (rrunes_m a) x209)) = (rweight_m (rat_m (rrunes_m b) x210))) rfl (fun hc243 => ?_) (fun hc243 => ?_)
        rotate_left
        · refine wp_skip ?_
          refine then_n (hK241 _ _ ?_)
          refine wp_seq_k (fun K255 hK255 => ?_)
          refine wp_region_lit ?_
          refine lvw 78 (.int .i64 (x209)) rfl rfl (run_mv rfl rfl) ?_
          simp only [nz1, nz2, nz3]
          refine lvw 79 (.int .i64 ((x209 + (1 : Int)))) rfl rfl (z_add x209 (1 : Int) _ (by rw [IntKind.wrap_i64]; omega) rfl rfl rfl) ?_
          simp only [nz1, nz2, nz3]
          refine lvw 7 (.int .i64 ((x209 + (1 : Int)))) rfl rfl (run_as rfl rfl) ?_
          simp only [nz1, nz2, nz3]
          refine wpList_nil ?_
          refine then_n (hK255 _ _ ?_)
          refine wp_region_lit ?_
          refine lvw 80 (.int .i64 (x210)) rfl rfl (run_mv rfl rfl) ?_
          simp only [nz1, nz2, nz3]
          refine lvw 81 (.int .i64 ((x210 + (1 : Int)))) rfl rfl (z_add x210 (1 : Int) _ (by rw [IntKind.wrap_i64]; omega) rfl rfl rfl) ?_
          simp only [nz1, nz2, nz3]
          refine lvw 8 (.int .i64 ((x210 + (1 : Int)))) rfl rfl (run_as rfl rfl) ?_
          simp only [nz1, nz2, nz3]
          refine wpList_nil ?_
          refine blk_n ?_
          refine then_n (hR219 _ _ _ ⟨k212, (x209 + (1 : Int)), (x210 + (1 : Int)), (fun qq => bif Nat.blt qq 24 then List.getD [u1 0, .int .i64 ((rweight_m (rat_m (rrunes_m a) x209))), .int .i64 ((rweight_m (rat_m (rrunes_m b) x210))), .int .i64 (x209), v21, .int .i64 (((rrunes_m a).length : Nat) : Int), .bool true, .bool true, v21, .int .i64 (x209), .pointer (some ⟨(bk v21), (po v21 + x209.toNat * 1), none⟩), .int .i32 (((rrunes_m a).getD x209.toNat 0)), .bool (decide (48 ≤ ((rrunes_m a).getD x209.toNat 0) ∧ ((rrunes_m a).getD x209.toNat 0) ≤ 57)), .bool true, .bool true, .bool true, undef, undef, undef, undef, undef, undef, undef, undef] qq undef else List.getD [undef, undef, undef, undef, .bool true, v21, .int .i64 (x209), .int .i32 ((rat_m (rrunes_m a) x209)), .int .i64 ((rweight_m (rat_m (rrunes_m a) x209))), v30, .int .i64 (x210), .int .i32 ((rat_m (rrunes_m b) x210)), .int .i64 ((rweight_m (rat_m (rrunes_m b) x210))), .int .i64 ((rweight_m (rat_m (rrunes_m a) x209))), .int .i64 ((rweight_m (rat_m (rrunes_m b) x210))), .bool (decide (¬ (rweight_m (rat_m (rrunes_m a) x209)) = (rweight_m (rat_m (rrunes_m b) x210)))), u1 40, u1 41, u1 42, .int .i64 (x209), .int .i64 ((x209 + (1 : Int))), .int .i64 (x210), .int .i64 ((x210 + (1 : Int)))] (qq - 24) undef), rfl, (by first | omega | (simp; omega) | (simp at *; omega)), (hi213.trans (show rcompare_m_b1 a b x39 x40 (rcompare_m_l1 a b x39 x40 k212) x209 x210 = rcompare_m_l1 a b x39 x40 k212 ((x209 + (1 : Int)), (x210 + (1 : Int))) from by unfold rcompare_m_b1; rw [if_pos hs224, if_pos hs227, if_neg hc243] <;> rfl)), (by first | omega | (simp; done) | (simp; omega) | (simp at *; omega)), rfl, hm239⟩ ?_)
          omega
        refine wp_seq_k (fun K244 hK244 => ?_)
        refine wp_seq_k (fun K245 hK245 => ?_)
        refine wp_region_lit ?_
        refine lvw 75 (.int .i64 ((rweight_m (rat_m (rrunes_m a) x209)))) rfl rfl (run_mv rfl rfl) ?_
        simp only [nz1, nz2, nz3]
        refine lvw 76 (.int .i64 ((rweight_m (rat_m (rrunes_m b) x210)))) rfl rfl (run_mv rfl rfl) ?_
        simp only [nz1, nz2, nz3]
        refine lvw 77 (.bool (decide ((rweight_m (rat_m (rrunes_m a) x209)) < (rweight_m (rat_m (rrunes_m b) x210))))) rfl rfl (z_lss (rweight_m (rat_m (rrunes_m a) x209)) (rweight_m (rat_m (rrunes_m b) x210)) rfl rfl rfl) ?_
        simp only [nz1, nz2, nz3]
        refine wpList_nil ?_
        refine then_n (hK245 _ _ ?_)
        refine cond_d ((rweight_m (rat_m (rrunes_m a) x209)) < (rweight_m (rat_m (rrunes_m b) x210))) rfl (fun hc246 => ?_) (fun hc246 => ?_)
        · refine wp_seq_k (fun K247 hK247 => ?_)
          refine wp_region_lit ?_
          refine lvw 4 (.int .i64 (-1)) rfl rfl (run_as rfl rfl) ?_
          simp only [nz1, nz2, nz3]
          refine wpList_nil ?_
          refine then_n (hK247 _ _ ?_)
          refine wp_ret ?_
          refine then_r ?_
          refine then_r ?_
          refine blk_r ?_
          refine then_r ?_
          refine blk_r ?_
          refine then_r ?_
          refine then_r ?_
          refine blk_r ?_
          refine then_r ?_
          refine blk_r ?_
          refine then_r ?_
          refine then_r ?_
          have he248 : rcompare_m_l1 a b x39 x40 ((((((rrunes_m a).length : Nat) : Int) + (((rrunes_m b).length : Nat) : Int)) - (x39 + x40)).toNat + 1) (x39, x40) = .inr (-1) := (hi213.trans (show rcompare_m_b1 a b x39 x40 (rcompare_m_l1 a b x39 x40 k212) x209 x210 = .inr (-1) from by unfold rcompare_m_b1; rw [if_pos hs224, if_pos hs227, if_pos hc243, if_pos hc246] <;> rfl))
          have he249 : rcompare_m_l0 a b ((((((rrunes_m a).length : Nat) : Int) + (((rrunes_m b).length : Nat) : Int)) - (0 + 0)).toNat + 1) (0, 0) = .inr (-1) := (hi43.trans (show rcompare_m_b0 a b (rcompare_m_l0 a b k42) x39 x40 = .inr (-1) from by unfold rcompare_m_b0; rw [if_neg hs54, if_pos hc207, he248] <;> rfl))
          have he250 : rcompare_m a b = -1 := (show rcompare_m a b = -1 from by unfold rcompare_m; rw [if_neg hs6, if_neg hc13, he249] <;> rfl)
          exact ⟨rfl, .int .i64 (-1), res_t rfl rfl, ⟨by (rw [he250]; try rfl), hm239.below⟩⟩
        refine wp_skip ?_
        refine then_n (hK244 _ _ ?_)
        refine wp_seq_k (fun K251 hK251 => ?_)
        refine wp_region_lit ?_
        refine lvw 4 (.int .i64 1) rfl rfl (run_as rfl rfl) ?_
        simp only [nz1, nz2, nz3]
        refine wpList_nil ?_
        refine then_n (hK251 _ _ ?_)
        refine wp_ret ?_
        refine then_r ?_
        refine blk_r ?_
        refine then_r ?_
        refine blk_r ?_
        refine then_r ?_
        refine then_r ?_
        refine blk_r ?_
        refine then_r ?_
        refine blk_r ?_
        refine then_r ?_
        refine then_r ?_
        have he252 : rcompare_m_l1 a b x39 x40 ((((((rrunes_m a).length : Nat) : Int) + (((rrunes_m b).length : Nat) : Int)) - (x39 + x40)).toNat + 1) (x39, x40) = .inr 1 := (hi213.trans (show rcompare_m_b1 a b x39 x40 (rcompare_m_l1 a b x39 x40 k212) x209 x210 = .inr 1 from by unfold rcompare_m_b1; rw [if_pos hs224, if_pos hs227, if_pos hc243, if_neg hc246] <;> rfl))
        have he253 : rcompare_m_l0 a b ((((((rrunes_m a).length : Nat) : Int) + (((rrunes_m b).length : Nat) : Int)) - (0 + 0)).toNat + 1) (0, 0) = .inr 1 := (hi43.trans (show rcompare_m_b0 a b (rcompare_m_l0 a b k42) x39 x40 = .inr 1 from by unfold rcompare_m_b0; rw [if_neg hs54, if_pos hc207, he252] <;> rfl))
        have he254 : rcompare_m a b = 1 := (show rcompare_m a b = 1 from by unfold rcompare_m; rw [if_neg hs6, if_neg hc13, he253] <;> rfl)
        exact ⟨rfl, .int .i64 1, res_t rfl rfl, ⟨by (rw [he254]; try rfl), hm239.below⟩⟩
      simp only [nz1, nz2, nz3]
      refine lvw 49 (.bool false) rfl rfl (run_pick rfl rfl rfl) ?_
      simp only [nz1, nz2, nz3]
      refine lvw 50 (.bool false) rfl rfl (run_mv rfl rfl) ?_
      simp only [nz1, nz2, nz3]
      refine lvw 51 (.int .i64 (x210)) rfl rfl (run_mv rfl rfl) ?_
      simp only [nz1, nz2, nz3]
      refine lvw 52 (v30) rfl rfl (run_mv rfl rfl) ?_
      simp only [nz1, nz2, nz3]
      refine lvw 53 (.int .i64 (((rrunes_m b).length : Nat) : Int)) rfl rfl (s_len (Rs.row (hm226.row 1 rfl)) rfl Tryd.underlying53 rfl) ?_
      simp only [nz1, nz2, nz3]
      refine lvb 54 (x210 < (((rrunes_m b).length : Nat) : Int)) rfl rfl (z_lss x210 (((rrunes_m b).length : Nat) : Int) rfl rfl rfl) (fun hs256 => ?_) (fun hs256 => ?_)
      rotate_left
      · simp only [nz1, nz2, nz3]
        refine lvw 55 (.bool false) rfl rfl (run_mv rfl rfl) ?_
        simp only [nz1, nz2, nz3]
        refine lst_skip 56 rfl rfl ?_
        simp only [nz1, nz2, nz3]
        refine lst_skip 57 rfl rfl ?_
        simp only [nz1, nz2, nz3]
        refine lst_skip 58 rfl rfl ?_
        simp only [nz1, nz2, nz3]
        refine lst_skip 59 rfl rfl ?_
        simp only [nz1, nz2, nz3]
        refine lst_skip 60 rfl rfl ?_
        simp only [nz1, nz2, nz3]
        refine lst_skip 61 rfl rfl ?_
        simp only [nz1, nz2, nz3]
        refine lvw 62 (.bool false) rfl rfl (run_pickf rfl rfl rfl) ?_
        simp only [nz1, nz2, nz3]
        refine lvw 63 (.bool false) rfl rfl (run_pickf rfl rfl rfl) ?_
        simp only [nz1, nz2, nz3]
        refine wpList_nil ?_
        refine then_n (hK223 _ _ ?_)
        refine cond_f rfl ?_
        refine wp_exit ?_
        refine then_x ?_
        refine then_x ?_
        refine blk_x ?_
        refine then_n ?_
        exact ⟨x209, x210, (fun qq => bif Nat.blt qq 24 then List.getD [u1 0, u1 1, u1 2, .int .i64 (x209), v21, .int .i64 (((rrunes_m a).length : Nat) : Int), .bool true, .bool true, v21, .int .i64 (x209), .pointer (some ⟨(bk v21), (po v21 + x209.toNat * 1), none⟩), .int .i32 (((rrunes_m a).getD x209.toNat 0)), .bool (decide (48 ≤ ((rrunes_m a).getD x209.toNat 0) ∧ ((rrunes_m a).getD x209.toNat 0) ≤ 57)), .bool false, .bool false, .bool false, .int .i64 (x210), v30, .int .i64 (((rrunes_m b).length : Nat) : Int), .bool false, .bool false, undef, undef, undef] qq undef else List.getD [undef, undef, undef, .bool false, .bool false, u1 29, u1 30, u1 31, u1 32, u1 33, u1 34, u1 35, u1 36, u1 37, u1 38, u1 39, u1 40, u1 41, u1 42, u1 43, u1 44, u1 45, u1 46] (qq - 24) undef), (hi213.trans (show rcompare_m_b1 a b x39 x40 (rcompare_m_l1 a b x39 x40 k212) x209 x210 = .inl (x209, x210) from by unfold rcompare_m_b1; rw [if_pos hs224, if_neg hs227, if_neg hs256] <;> rfl)), (by first | omega | (simp; done) | (simp; omega) | (simp at *; omega)), rfl, hm226⟩
      simp only [nz1, nz2, nz3]
      refine lvw 55 (.bool true) rfl rfl (run_mv rfl rfl) ?_
      simp only [nz1, nz2, nz3]
      refine lvw 56 (v30) rfl rfl (run_mv rfl rfl) ?_
      simp only [nz1, nz2, nz3]
      refine lvw 57 (.int .i64 (x210)) rfl rfl (run_mv rfl rfl) ?_
      simp only [nz1, nz2, nz3]
      refine lvw 58 (.pointer (some ⟨(bk v30), (po v30 + x210.toNat * 1), none⟩)) rfl rfl (r_ixvZ (Rs.row (hm226.row 1 rfl)) x210 (by omega) (by omega) Tryd.underlying53 sz_21 rfl rfl rfl) ?_
      simp only [nz1, nz2, nz3]
      refine lvw 59 (.int .i32 (((rrunes_m b).getD x210.toNat 0))) rfl rfl (r_cellw (Rs.cell (Rs.row (hm226.row 1 rfl)) eR_len 0 x210.toNat (by omega) 0 _ rfl) Tryd.underlying21 rfl rfl rfl) ?_
      simp only [nz1, nz2, nz3]
      refine lst rfl (m_call hm226 60 (.bool (decide (48 ≤ ((rrunes_m b).getD x210.toNat 0) ∧ ((rrunes_m b).getD x210.toNat 0) ≤ 57))) rfl (run_rdigit rfl rfl) (rdigd_any ((rrunes_m b).getD x210.toNat 0)  _  ) (fun w257 (hm258 : Mm none (fun _ => True) w w257 [.row v21 (rrunes_m a).length ((rrunes_m a).flatMap eR) 21 1, .row v30 (rrunes_m b).length ((rrunes_m b).flatMap eR) 21 1]) => ?_))
      simp only [nz1, nz2, nz3]
      refine lvw 61 (.bool (decide (¬ (48 ≤ ((rrunes_m b).getD x210.toNat 0) ∧ ((rrunes_m b).getD x210.toNat 0) ≤ 57)))) rfl rfl (r_notD (48 ≤ ((rrunes_m b).getD x210.toNat 0) ∧ ((rrunes_m b).getD x210.toNat 0) ≤ 57) rfl rfl) ?_
      simp only [nz1, nz2, nz3]
      refine lvw 62 (.bool (decide (¬ (48 ≤ ((rrunes_m b).getD x210.toNat 0) ∧ ((rrunes_m b).getD x210.toNat 0) ≤ 57)))) rfl rfl (run_pick rfl rfl rfl) ?_
      simp only [nz1, nz2, nz3]
      refine lvw 63 (.bool (decide (¬ (48 ≤ ((rrunes_m b).getD x210.toNat 0) ∧ ((rrunes_m b).getD x210.toNat 0) ≤ 57)))) rfl rfl (run_pickf rfl rfl rfl) ?_
      simp only [nz1, nz2, nz3]
      refine wpList_nil ?_
      refine then_n (hK223 _ _ ?_)
      refine cond_d (¬ (48 ≤ ((rrunes_m b).getD x210.toNat 0) ∧ ((rrunes_m b).getD x210.toNat 0) ≤ 57)) rfl (fun hc259 => ?_) (fun hc259 => ?_)
      rotate_left
      · refine wp_exit ?_
        refine then_x ?_
        refine then_x ?_
        refine blk_x ?_
        refine then_n ?_
        exact ⟨x209, x210, (fun qq => bif Nat.blt qq 24 then List.getD [u1 0, u1 1, u1 2, .int .i64 (x209), v21, .int .i64 (((rrunes_m a).length : Nat) : Int), .bool true, .bool true, v21, .int .i64 (x209), .pointer (some ⟨(bk v21), (po v21 + x209.toNat * 1), none⟩), .int .i32 (((rrunes_m a).getD x209.toNat 0)), .bool (decide (48 ≤ ((rrunes_m a).getD x209.toNat 0) ∧ ((rrunes_m a).getD x209.toNat 0) ≤ 57)), .bool false, .bool false, .bool false, .int .i64 (x210), v30, .int .i64 (((rrunes_m b).length : Nat) : Int), .bool true, .bool true, v30, .int .i64 (x210), .pointer (some ⟨(bk v30), (po v30 + x210.toNat * 1), none⟩)] qq undef else List.getD [.int .i32 (((rrunes_m b).getD x210.toNat 0)), .bool (decide (48 ≤ ((rrunes_m b).getD x210.toNat 0) ∧ ((rrunes_m b).getD x210.toNat 0) ≤ 57)), .bool (decide (¬ (48 ≤ ((rrunes_m b).getD x210.toNat 0) ∧ ((rrunes_m b).getD x210.toNat 0) ≤ 57))), .bool (decide (¬ (48 ≤ ((rrunes_m b).getD x210.toNat 0) ∧ ((rrunes_m b).getD x210.toNat 0) ≤ 57))), .bool (decide (¬ (48 ≤ ((rrunes_m b).getD x210.toNat 0) ∧ ((rrunes_m b).getD x210.toNat 0) ≤ 57))), u1 29, u1 30, u1 31, u1 32, u1 33, u1 34, u1 35, u1 36, u1 37, u1 38, u1 39, u1 40, u1 41, u1 42, u1 43, u1 44, u1 45, u1 46] (qq - 24) undef), (hi213.trans (show rcompare_m_b1 a b x39 x40 (rcompare_m_l1 a b x39 x40 k212) x209 x210 = .inl (x209, x210) from by unfold rcompare_m_b1; rw [if_pos hs224, if_neg hs227, if_pos hs256, if_neg hc259] <;> rfl)), (by first | omega | (simp; done) | (simp; omega) | (simp at *; omega)), rfl, hm258⟩
      refine wp_skip ?_
      refine then_n (hK222 _ _ ?_)
      refine wp_block ?_
      refine wp_seq_k (fun K260 hK260 => ?_)
      refine wp_region_lit ?_
      refine lvw 64 (v21) rfl rfl (run_mv rfl rfl) ?_
      simp only [nz1, nz2, nz3]
      refine lvw 65 (.int .i64 (x209)) rfl rfl (run_mv rfl rfl) ?_
      simp only [nz1, nz2, nz3]
      refine lst rfl (m_call hm258 66 (.int .i32 ((rat_m (rrunes_m a) x209))) rfl (run_rat rfl rfl rfl) (rat_any (rrunes_m a) x209 v21 _ (Rs.row (hm258.row 0 rfl)) (by first | omega | assumption | exact Nat.le_trans (rrunes_ok (by assumption)).2.2 (by decide) | (simp; done) | (simp; omega) | (simp only [List.length_append, List.length_cons, List.length_nil]; omega) | (simp only [List.length_append, List.length_cons, List.length_nil] at *; omega) | decide)) (fun w261 (hm262 : Mm none (fun _ => True) w w261 [.row v21 (rrunes_m a).length ((rrunes_m a).flatMap eR) 21 1, .row v30 (rrunes_m b).length ((rrunes_m b).flatMap eR) 21 1]) => ?_))
      have hf263 : (x209 < (((rrunes_m a).length : Nat) : Int) ∧ (rat_m (rrunes_m a) x209) = (rrunes_m a).getD x209.toNat 0 ∧ 43 ≤ (rrunes_m a).getD x209.toNat 0 ∧ (rrunes_m a).getD x209.toNat 0 ≤ 126) ∨ ((((rrunes_m a).length : Nat) : Int) ≤ x209 ∧ (rat_m (rrunes_m a) x209) = 0) := rat_rng a x209 (by assumption) (by omega)
      simp only [nz1, nz2, nz3]
      refine lst rfl (m_call hm262 67 (.int .i64 ((rweight_m (rat_m (rrunes_m a) x209)))) rfl (run_rweight rfl rfl) (rweight_any (rat_m (rrunes_m a) x209)  _  (by first | omega | assumption | exact Nat.le_trans (rrunes_ok (by assumption)).2.2 (by decide) | (simp; done) | (simp; omega) | (simp only [List.length_append, List.length_cons, List.length_nil]; omega) | (simp only [List.length_append, List.length_cons, List.length_nil] at *; omega) | decide) (by first | omega | assumption | exact Nat.le_trans (rrunes_ok (by assumption)).2.2 (by decide) | (simp; done) | (simp; omega) | (simp only [List.length_append, List.length_cons, List.length_nil]; omega) | (simp only [List.length_append, List.length_cons, List.length_nil] at *; omega) | decide)) (fun w264 (hm265 : Mm none (fun _ => True) w w264 [.row v21 (rrunes_m a).length ((rrunes_m a).flatMap eR) 21 1, .row v30 (rrunes_m b).length ((rrunes_m b).flatMap eR) 21 1]) => ?_))
      have hf266 : ((rweight_m (rat_m (rrunes_m a) x209)) = 0 ∧ ((rat_m (rrunes_m a) x209) = 0 ∨ (48 ≤ (rat_m (rrunes_m a) x209) ∧ (rat_m (rrunes_m a) x209) ≤ 57))) ∨ ((rweight_m (rat_m (rrunes_m a) x209)) ≠ 0 ∧ ¬ (rat_m (rrunes_m a) x209) = 0 ∧ ¬ (48 ≤ (rat_m (rrunes_m a) x209) ∧ (rat_m (rrunes_m a) x209) ≤ 57)) := rweight_fact (rat_m (rrunes_m a) x209) (by omega)
      simp only [nz1, nz2, nz3]
      refine lvw 68 (v30) rfl rfl (run_mv rfl rfl) ?_
      simp only [nz1, nz2, nz3]
      refine lvw 69 (.int .i64 (x210)) rfl rfl (run_mv rfl rfl) ?_
      simp only [nz1, nz2, nz3]
      refine lst rfl (m_call hm265 70 (.int .i32 ((rat_m (rrunes_m b) x210))) rfl (run_rat rfl rfl rfl) (rat_any (rrunes_m b) x210 v30 _ (Rs.row (hm265.row 1 rfl)) (by first | omega | assumption | exact Nat.le_trans (rrunes_ok (by assumption)).2.2 (by decide) | (simp; done) | (simp; omega) | (simp only [List.length_append, List.length_cons, List.length_nil]; omega) | (simp only [List.length_append, List.length_cons, List.length_nil] at *; omega) | decide)) (fun w267 (hm268 : Mm none (fun _ => True) w w267 [.row v21 (rrunes_m a).length ((rrunes_m a).flatMap eR) 21 1, .row v30 (rrunes_m b).length ((rrunes_m b).flatMap eR) 21 1]) => ?_))
      have hf269 : (x210 < (((rrunes_m b).length : Nat) : Int) ∧ (rat_m (rrunes_m b) x210) = (rrunes_m b).getD x210.toNat 0 ∧ 43 ≤ (rrunes_m b).getD x210.toNat 0 ∧ (rrunes_m b).getD x210.toNat 0 ≤ 126) ∨ ((((rrunes_m b).length : Nat) : Int) ≤ x210 ∧ (rat_m (rrunes_m b) x210) = 0) := rat_rng b x210 (by assumption) (by omega)
      simp only [nz1, nz2, nz3]
      refine lst rfl (m_call hm268 71 (.int .i64 ((rweight_m (rat_m (rrunes_m b) x210)))) rfl (run_rweight rfl rfl) (rweight_any (rat_m (rrunes_m b) x210)  _  (by first | omega | assumption | exact Nat.le_trans (rrunes_ok (by assumption)).2.2 (by decide) | (simp; done) | (simp; omega) | (simp only [List.length_append, List.length_cons, List.length_nil]; omega) | (simp only [List.length_append, List.length_cons, List.length_nil] at *; omega) | decide) (by first | omega | assumption | exact Nat.le_trans (rrunes_ok (by assumption)).2.2 (by decide) | (simp; done) | (simp; omega) | (simp only [List.length_append, List.length_cons, List.length_nil]; omega) | (simp only [List.length_append, List.length_cons, List.length_nil] at *; omega) | decide)) (fun w270 (hm271 : Mm none (fun _ => True) w w270 [.row v21 (rrunes_m a).length ((rrunes_m a).flatMap eR) 21 1, .row v30 (rrunes_m b).length ((rrunes_m b).flatMap eR) 21 1]) => ?_))
      have hf272 : ((rweight_m (rat_m (rrunes_m b) x210)) = 0 ∧ ((rat_m (rrunes_m b) x210) = 0 ∨ (48 ≤ (rat_m (rrunes_m b) x210) ∧ (rat_m (rrunes_m b) x210) ≤ 57))) ∨ ((rweight_m (rat_m (rrunes_m b) x210)) ≠ 0 ∧ ¬ (rat_m (rrunes_m b) x210) = 0 ∧ ¬ (48 ≤ (rat_m (rrunes_m b) x210) ∧ (rat_m (rrunes_m b) x210) ≤ 57)) := rweight_fact (rat_m (rrunes_m b) x210) (by omega)
      simp only [nz1, nz2, nz3]
      refine lvw 9 (.int .i64 ((rweight_m (rat_m (rrunes_m a) x209)))) rfl rfl (run_as rfl rfl) ?_
      simp only [nz1, nz2, nz3]
      refine lvw 10 (.int .i64 ((rweight_m (rat_m (rrunes_m b) x210)))) rfl rfl (run_as rfl rfl) ?_
      simp only [nz1, nz2, nz3]
      refine wpList_nil ?_
      refine then_n (hK260 _ _ ?_)
      refine wp_seq_k (fun K273 hK273 => ?_)
      refine wp_seq_k (fun K274 hK274 => ?_)
      refine wp_region_lit ?_
      refine lvw 72 (.int .i64 ((rweight_m (rat_m (rrunes_m a) x209)))) rfl rfl (run_mv rfl rfl) ?_
      simp only [nz1, nz2, nz3]
      refine lvw 73 (.int .i64 ((rweight_m (rat_m (rrunes_m b) x210)))) rfl rfl (run_mv rfl rfl) ?_
      simp only [nz1, nz2, nz3]
      refine lvw 74 (.bool (decide (¬ (rweight_m (rat_m (rrunes_m a) x209)) = (rweight_m (rat_m (rrunes_m b) x210))))) rfl rfl (z_neq (rweight_m (rat_m (rrunes_m a) x209)) (rweight_m (rat_m (rrunes_m b) x210)) rfl rfl rfl) ?_
      simp only [nz1, nz2, nz3]
      refine wpList_nil ?_
      refine then_n (hK274 _ _ ?_)
      refine cond_d (¬ (rweight_m (rat_m (rrunes_m a) x209)) = (rweight_m (rat_m (rrunes_m b) x210))) rfl (fun hc275 => ?_) (fun hc275 => ?_)
      rotate_left
      · refine wp_skip ?_
        refine then_n (hK273 _ _ ?_)
        refine wp_seq_k (fun K287 hK287 => ?_)
        refine wp_region_lit ?_
        refine lvw 78 (.int .i64 (x209)) rfl rfl (run_mv rfl rfl) ?_
        simp only [nz1, nz2, nz3]
        refine lvw 79 (.int .i64 ((x209 + (1 : Int)))) rfl rfl (z_add x209 (1 : Int) _ (by rw [IntKind.wrap_i64]; omega) rfl rfl rfl) ?_
        simp only [nz1, nz2, nz3]
        refine lvw 7 (.int .i64 ((x209 + (1 : Int)))) rfl rfl (run_as rfl rfl) ?_
        simp only [nz1, nz2, nz3]
        refine wpList_nil ?_
        refine then_n (hK287 _ _ ?_)
        refine wp_region_lit ?_
        refine lvw 80 (.int .i64 (x210)) rfl rfl (run_mv rfl rfl) ?_
        simp only [nz1, nz2, nz3]
        refine lvw 81 (.int .i64 ((x210 + (1 : Int)))) rfl rfl (z_add x210 (1 : Int) _ (by rw [IntKind.wrap_i64]; omega) rfl rfl rfl) ?_
        simp only [nz1, nz2, nz3]
        refine lvw 8 (.int .i64 ((x210 + (1 : Int)))) rfl rfl (run_as rfl rfl) ?_
        simp only [nz1, nz2, nz3]
        refine wpList_nil ?_
        refine blk_n ?_
        refine then_n (hR219 _ _ _ ⟨k212, (x209 + (1 : Int)), (x210 + (1 : Int)), (fun qq => bif Nat.blt qq 24 then List.getD [u1 0, .int .i64 ((rweight_m (rat_m (rrunes_m a) x209))), .int .i64 ((rweight_m (rat_m (rrunes_m b) x210))), .int .i64 (x209), v21, .int .i64 (((rrunes_m a).length : Nat) : Int), .bool true, .bool true, v21, .int .i64 (x209), .pointer (some ⟨(bk v21), (po v21 + x209.toNat * 1), none⟩), .int .i32 (((rrunes_m a).getD x209.toNat 0)), .bool (decide (48 ≤ ((rrunes_m a).getD x209.toNat 0) ∧ ((rrunes_m a).getD x209.toNat 0) ≤ 57)), .bool false, .bool false, .bool false, .int .i64 (x210), v30, .int .i64 (((rrunes_m b).length : Nat) : Int), .bool true, .bool true, v30, .int .i64 (x210), .pointer (some ⟨(bk v30), (po v30 + x210.toNat * 1), none⟩)] qq undef else List.getD [.int .i32 (((rrunes_m b).getD x210.toNat 0)), .bool (decide (48 ≤ ((rrunes_m b).getD x210.toNat 0) ∧ ((rrunes_m b).getD x210.toNat 0) ≤ 57)), .bool (decide (¬ (48 ≤ ((rrunes_m b).getD x210.toNat 0) ∧ ((rrunes_m b).getD x210.toNat 0) ≤ 57))), .bool (decide (¬ (48 ≤ ((rrunes_m b).getD x210.toNat 0) ∧ ((rrunes_m b).getD x210.toNat 0) ≤ 57))), .bool (decide (¬ (48 ≤ ((rrunes_m b).getD x210.toNat 0) ∧ ((rrunes_m b).getD x210.toNat 0) ≤ 57))), v21, .int .i64 (x209), .int .i32 ((rat_m (rrunes_m a) x209)), .int .i64 ((rweight_m (rat_m (rrunes_m a) x209))), v30, .int .i64 (x210), .int .i32 ((rat_m (rrunes_m b) x210)), .int .i64 ((rweight_m (rat_m (rrunes_m b) x210))), .int .i64 ((rweight_m (rat_m (rrunes_m a) x209))), .int .i64 ((rweight_m (rat_m (rrunes_m b) x210))), .bool (decide (¬ (rweight_m (rat_m (rrunes_m a) x209)) = (rweight_m (rat_m (rrunes_m b) x210)))), u1 40, u1 41, u1 42, .int .i64 (x209), .int .i64 ((x209 + (1 : Int))), .int .i64 (x210), .int .i64 ((x210 + (1 : Int)))] (qq - 24) undef), rfl, (by first | omega | (simp; omega) | (simp at *; omega)), (hi213.trans (show rcompare_m_b1 a b x39 x40 (rcompare_m_l1 a b x39 x40 k212) x209 x210 = rcompare_m_l1 a b x39 x40 k212 ((x209 + (1 : Int)), (x210 + (1 : Int))) from by unfold rcompare_m_b1; rw [if_pos hs224, if_neg hs227, if_pos hs256, if_pos hc259, if_neg hc275] <;> rfl)), (by first | omega | (simp; done) | (simp; omega) | (simp at *; omega)), rfl, hm271⟩ ?_)
        omega
      refine wp_seq_k (fun K276 hK276 => ?_)
      refine wp_seq_k (fun K277 hK277 => ?_)
      refine wp_region_lit ?_
      refine lvw 75 (.int .i64 ((rweight_m (rat_m (rrunes_m a) x209)))) rfl rfl (run_mv rfl rfl) ?_
      simp only [nz1, nz2, nz3]
      refine lvw 76 (.int .i64 ((rweight_m (rat_m (rrunes_m b) x210)))) rfl rfl (run_mv rfl rfl) ?_
      simp only [nz1, nz2, nz3]
      refine lvw 77 (.bool (decide ((rweight_m (rat_m (rrunes_m a) x209)) < (rweight_m (rat_m (rrunes_m b) x210))))) rfl rfl (z_lss (rweight_m (rat_m (rrunes_m a) x209)) (rweight_m (rat_m (rrunes_m b) x210)) rfl rfl rfl) ?_
      simp only [nz1, nz2, nz3]
      refine wpList_nil ?_
      refine then_n (hK277 _ _ ?_)
      refine cond_d ((rweight_m (rat_m (rrunes_m a) x209)) < (rweight_m (rat_m (rrunes_m b) x210))) rfl (fun hc278 => ?_) (fun hc278 => ?_)
      · refine wp_seq_k (fun K279 hK279 => ?_)
        refine wp_region_lit ?_
        refine lvw 4 (.int .i64 (-1)) rfl rfl (run_as rfl rfl) ?_
        simp only [nz1, nz2, nz3]
        refine wpList_nil ?_
        refine then_n (hK279 _ _ ?_)
        refine wp_ret ?_
        refine then_r ?_
        refine then_r ?_
        refine blk_r ?_
        refine then_r ?_
        refine blk_r ?_
        refine then_r ?_
        refine then_r ?_
        refine blk_r ?_
        refine then_r ?_
        refine blk_r ?_
        refine then_r ?_
        refine then_r ?_
        have he280 : rcompare_m_l1 a b x39 x40 ((((((rrunes_m a).length : Nat) : Int) + (((rrunes_m b).length : Nat) : Int)) - (x39 + x40)).toNat + 1) (x39, x40) = .inr (-1) := (hi213.trans (show rcompare_m_b1 a b x39 x40 (rcompare_m_l1 a b x39 x40 k212) x209 x210 = .inr (-1) from by unfold rcompare_m_b1; rw [if_pos hs224, if_neg hs227, if_pos hs256, if_pos hc259, if_pos hc275, if_pos hc278] <;> rfl))
        have he281 : rcompare_m_l0 a b ((((((rrunes_m a).length : Nat) : Int) + (((rrunes_m b).length : Nat) : Int)) - (0 + 0)).toNat + 1) (0, 0) = .inr (-1) := (hi43.trans (show rcompare_m_b0 a b (rcompare_m_l0 a b k42) x39 x40 = .inr (-1) from by unfold rcompare_m_b0; rw [if_neg hs54, if_pos hc207, he280] <;> rfl))
        have he282 : rcompare_m a b = -1 := (show rcompare_m a b = -1 from by unfold rcompare_m; rw [if_neg hs6, if_neg hc13, he281] <;> rfl)
        exact ⟨rfl, .int .i64 (-1), res_t rfl rfl, ⟨by (rw [he282]; try rfl), hm271.below⟩⟩
      refine wp_skip ?_
      refine then_n (hK276 _ _ ?_)
      refine wp_seq_k (fun K283 hK283 => ?_)
      refine wp_region_lit ?_
      refine lvw 4 (.int .i64 1) rfl rfl (run_as rfl rfl) ?_
      simp only [nz1, nz2, nz3]
      refine wpList_nil ?_
      refine then_n (hK283 _ _ ?_)
      refine wp_ret ?_
      refine then_r ?_
      refine blk_r ?_
      refine then_r ?_
      refine blk_r ?_
      refine then_r ?_
      refine then_r ?_
      refine blk_r ?_
      refine then_r ?_
      refine blk_r ?_
      refine then_r ?_
      refine then_r ?_
      have he284 : rcompare_m_l1 a b x39 x40 ((((((rrunes_m a).length : Nat) : Int) + (((rrunes_m b).length : Nat) : Int)) - (x39 + x40)).toNat + 1) (x39, x40) = .inr 1 := (hi213.trans (show rcompare_m_b1 a b x39 x40 (rcompare_m_l1 a b x39 x40 k212) x209 x210 = .inr 1 from by unfold rcompare_m_b1; rw [if_pos hs224, if_neg hs227, if_pos hs256, if_pos hc259, if_pos hc275, if_neg hc278] <;> rfl))
      have he285 : rcompare_m_l0 a b ((((((rrunes_m a).length : Nat) : Int) + (((rrunes_m b).length : Nat) : Int)) - (0 + 0)).toNat + 1) (0, 0) = .inr 1 := (hi43.trans (show rcompare_m_b0 a b (rcompare_m_l0 a b k42) x39 x40 = .inr 1 from by unfold rcompare_m_b0; rw [if_neg hs54, if_pos hc207, he284] <;> rfl))
      have he286 : rcompare_m a b = 1 := (show rcompare_m a b = 1 from by unfold rcompare_m; rw [if_neg hs6, if_neg hc13, he285] <;> rfl)
      exact ⟨rfl, .int .i64 1, res_t rfl rfl, ⟨by (rw [he286]; try rfl), hm271.below⟩⟩
    rintro _ w320 ⟨y214, y215, yu1, hx216, hri, rfl, hm321⟩
    have hq322 : rcompare_m_l0 a b ((((((rrunes_m a).length : Nat) : Int) + (((rrunes_m b).length : Nat) : Int)) - (0 + 0)).toNat + 1) (0, 0) = rcompare_m_k1 a b x39 x40 (rcompare_m_l0 a b k42) y214 y215 := (hi43.trans (show rcompare_m_b0 a b (rcompare_m_l0 a b k42) x39 x40 = rcompare_m_k1 a b x39 x40 (rcompare_m_l0 a b k42) y214 y215 from by unfold rcompare_m_b0; rw [if_neg hs54, if_pos hc207, hx216] <;> rfl))
    refine then_n (hK208 _ _ ?_)
    refine wp_seq_k (fun K323 hK323 => ?_)
    refine wp_region_lit ?_
    refine lvw 11 (.string (tx ([]))) rfl rfl (run_as rfl rfl) ?_
    simp only [nz1, nz2, nz3]
    refine lvw 12 (.string (tx ([]))) rfl rfl (run_as rfl rfl) ?_
    simp only [nz1, nz2, nz3]
    refine wpList_nil ?_
    refine then_n (hK323 _ _ ?_)
    refine wp_seq_k (fun K324 hK324 => ?_)
    refine wp_region_lit ?_
    refine lvw 83 (v21) rfl rfl (run_mv rfl rfl) ?_
    simp only [nz1, nz2, nz3]
    refine lvw 84 (.int .i64 (y214)) rfl rfl (run_mv rfl rfl) ?_
    simp only [nz1, nz2, nz3]
    refine lst rfl (m_call hm321 85 (.tuple #[.string (tx ((rnumber_m (rrunes_m a) y214).1)), .int .i64 ((rnumber_m (rrunes_m a) y214).2)]) rfl (run_rnumber rfl rfl rfl) (rnumber_any (rrunes_m a) y214 v21 _ (Rs.row (hm321.row 0 rfl)) (by first | omega | assumption | exact Nat.le_trans (rrunes_ok (by assumption)).2.2 (by decide) | (simp; done) | (simp; omega) | (simp only [List.length_append, List.length_cons, List.length_nil]; omega) | (simp only [List.length_append, List.length_cons, List.length_nil] at *; omega) | decide) (by first | omega | assumption | exact Nat.le_trans (rrunes_ok (by assumption)).2.2 (by decide) | (simp; done) | (simp; omega) | (simp only [List.length_append, List.length_cons, List.length_nil]; omega) | (simp only [List.length_append, List.length_cons, List.length_nil] at *; omega) | decide) (by first | omega | assumption | exact Nat.le_trans (rrunes_ok (by assumption)).2.2 (by decide) | (simp; done) | (simp; omega) | (simp only [List.length_append, List.length_cons, List.length_nil]; omega) | (simp only [List.length_append, List.length_cons, List.length_nil] at *; omega) | decide)) (fun w325 (hm326 : Mm none (fun _ => True) w w325 [.row v21 (rrunes_m a).length ((rrunes_m a).flatMap eR) 21 1, .row v30 (rrunes_m b).length ((rrunes_m b).flatMap eR) 21 1]) => ?_))
    have hf327 : y214 ≤ (rnumber_m (rrunes_m a) y214).2 ∧ (rnumber_m (rrunes_m a) y214).2 ≤ (((rrunes_m a).length : Nat) : Int) ∧ (y214 < (rnumber_m (rrunes_m a) y214).2 ∨ (((rrunes_m a).length : Nat) : Int) ≤ y214 ∨ ¬ (48 ≤ (rrunes_m a).getD y214.toNat 0 ∧ (rrunes_m a).getD y214.toNat 0 ≤ 57)) := rnum_fact a y214 (by assumption) (by omega) (by omega)
    simp only [nz1, nz2, nz3]
    refine lvw 82 (.tuple #[.string (tx ((rnumber_m (rrunes_m a) y214).1)), .int .i64 ((rnumber_m (rrunes_m a) y214).2)]) rfl rfl (run_mv rfl rfl) ?_
    simp only [nz1, nz2, nz3]
    refine lvw 86 (.string (tx ((rnumber_m (rrunes_m a) y214).1))) rfl rfl (run_ex rfl rfl rfl) ?_
    simp only [nz1, nz2, nz3]
    refine lvw 87 (.int .i64 ((rnumber_m (rrunes_m a) y214).2)) rfl rfl (run_ex rfl rfl rfl) ?_
    simp only [nz1, nz2, nz3]
    refine lvw 11 (.string (tx ((rnumber_m (rrunes_m a) y214).1))) rfl rfl (run_as rfl rfl) ?_
    simp only [nz1, nz2, nz3]
    refine lvw 7 (.int .i64 ((rnumber_m (rrunes_m a) y214).2)) rfl rfl (run_as rfl rfl) ?_
    simp only [nz1, nz2, nz3]
    refine wpList_nil ?_
    refine then_n (hK324 _ _ ?_)
    refine wp_seq_k (fun K328 hK328 => ?_)
    refine wp_region_lit ?_
    refine lvw 89 (v30) rfl rfl (run_mv rfl rfl) ?_
    simp only [nz1, nz2, nz3]
    refine lvw 90 (.int .i64 (y215)) rfl rfl (run_mv rfl rfl) ?_
    simp only [nz1, nz2, nz3]
    refine lst rfl (m_call hm326 91 (.tuple #[.string (tx ((rnumber_m (rrunes_m b) y215).1)), .int .i64 ((rnumber_m (rrunes_m b) y215).2)]) rfl (run_rnumber rfl rfl rfl) (rnumber_any (rrunes_m b) y215 v30 _ (Rs.row (hm326.row 1 rfl)) (by first | omega | assumption | exact Nat.le_trans (rrunes_ok (by assumption)).2.2 (by decide) | (simp; done) | (simp; omega) | (simp only [List.length_append, List.length_cons, List.length_nil]; omega) | (simp only [List.length_append, List.length_cons, List.length_nil] at *; omega) | decide) (by first | omega | assumption | exact Nat.le_trans (rrunes_ok (by assumption)).2.2 (by decide) | (simp; done) | (simp; omega) | (simp only [List.length_append, List.length_cons, List.length_nil]; omega) | (simp only [List.length_append, List.length_cons, List.length_nil] at *; omega) | decide) (by first | omega | assumption | exact Nat.le_trans (rrunes_ok (by assumption)).2.2 (by decide) | (simp; done) | (simp; omega) | (simp only [List.length_append, List.length_cons, List.length_nil]; omega) | (simp only [List.length_append, List.length_cons, List.length_nil] at *; omega) | decide)) (fun w329 (hm330 : Mm none (fun _ => True) w w329 [.row v21 (rrunes_m a).length ((rrunes_m a).flatMap eR) 21 1, .row v30 (rrunes_m b).length ((rrunes_m b).flatMap eR) 21 1]) => ?_))
    have hf331 : y215 ≤ (rnumber_m (rrunes_m b) y215).2 ∧ (rnumber_m (rrunes_m b) y215).2 ≤ (((rrunes_m b).length : Nat) : Int) ∧ (y215 < (rnumber_m (rrunes_m b) y215).2 ∨ (((rrunes_m b).length : Nat) : Int) ≤ y215 ∨ ¬ (48 ≤ (rrunes_m b).getD y215.toNat 0 ∧ (rrunes_m b).getD y215.toNat 0 ≤ 57)) := rnum_fact b y215 (by assumption) (by omega) (by omega)
    simp only [nz1, nz2, nz3]
    refine lvw 88 (.tuple #[.string (tx ((rnumber_m (rrunes_m b) y215).1)), .int .i64 ((rnumber_m (rrunes_m b) y215).2)]) rfl rfl (run_mv rfl rfl) ?_
    simp only [nz1, nz2, nz3]
    refine lvw 92 (.string (tx ((rnumber_m (rrunes_m b) y215).1))) rfl rfl (run_ex rfl rfl rfl) ?_
    simp only [nz1, nz2, nz3]
    refine lvw 93 (.int .i64 ((rnumber_m (rrunes_m b) y215).2)) rfl rfl (run_ex rfl rfl rfl) ?_
    simp only [nz1, nz2, nz3]
    refine lvw 12 (.string (tx ((rnumber_m (rrunes_m b) y215).1))) rfl rfl (run_as rfl rfl) ?_
    simp only [nz1, nz2, nz3]
    refine lvw 8 (.int .i64 ((rnumber_m (rrunes_m b) y215).2)) rfl rfl (run_as rfl rfl) ?_
    simp only [nz1, nz2, nz3]
    refine wpList_nil ?_
    refine then_n (hK328 _ _ ?_)
    refine wp_block ?_
    refine wp_seq_k (fun K332 hK332 => ?_)
    refine wp_region_lit ?_
    refine lvw 95 (.string (tx ((rnumber_m (rrunes_m a) y214).1))) rfl rfl (run_mv rfl rfl) ?_
    simp only [nz1, nz2, nz3]
    refine lvw 96 (.int .i64 ((((rnumber_m (rrunes_m a) y214).1).length : Nat) : Int)) rfl rfl (t_len rfl Tryd.underlying9 rfl) ?_
    simp only [nz1, nz2, nz3]
    refine lvw 97 (.string (tx ((rnumber_m (rrunes_m b) y215).1))) rfl rfl (run_mv rfl rfl) ?_
    simp only [nz1, nz2, nz3]
    refine lvw 98 (.int .i64 ((((rnumber_m (rrunes_m b) y215).1).length : Nat) : Int)) rfl rfl (t_len rfl Tryd.underlying9 rfl) ?_
    simp only [nz1, nz2, nz3]
    refine lvb 99 (((rnumber_m (rrunes_m a) y214).1).length < ((rnumber_m (rrunes_m b) y215).1).length) rfl rfl (r_lss (((rnumber_m (rrunes_m a) y214).1).length) (((rnumber_m (rrunes_m b) y215).1).length) rfl rfl rfl) (fun hs333 => ?_) (fun hs333 => ?_)
    · simp only [nz1, nz2, nz3]
      refine lvw 100 (.bool true) rfl rfl (run_mv rfl rfl) ?_
      simp only [nz1, nz2, nz3]
      refine lst_skip 101 rfl rfl ?_
      simp only [nz1, nz2, nz3]
      refine lst_skip 102 rfl rfl ?_
      simp only [nz1, nz2, nz3]
      refine lst_skip 103 rfl rfl ?_
      simp only [nz1, nz2, nz3]
      refine lst_skip 104 rfl rfl ?_
      simp only [nz1, nz2, nz3]
      refine lst_skip 105 rfl rfl ?_
      simp only [nz1, nz2, nz3]
      refine lst_skip 106 rfl rfl ?_
      simp only [nz1, nz2, nz3]
      refine lst_skip 107 rfl rfl ?_
      simp only [nz1, nz2, nz3]
      refine lst_skip 108 rfl rfl ?_
      simp only [nz1, nz2, nz3]
      refine lst_skip 109 rfl rfl ?_
      simp only [nz1, nz2, nz3]
      refine lst_skip 110 rfl rfl ?_
      simp only [nz1, nz2, nz3]
      refine lvw 111 (.bool true) rfl rfl (run_pick rfl rfl rfl) ?_
      simp only [nz1, nz2, nz3]
      refine lvw 94 (.bool true) rfl rfl (run_as rfl rfl) ?_
      simp only [nz1, nz2, nz3]
      refine wpList_nil ?_
      refine then_n (hK332 _ _ ?_)
      refine cond_t rfl ?_
      refine wp_seq_k (fun K334 hK334 => ?_)
      refine wp_region_lit ?_
      refine lvw 4 (.int .i64 (-1)) rfl rfl (run_as rfl rfl) ?_
      simp only [nz1, nz2, nz3]
      refine wpList_nil ?_
      refine then_n (hK334 _ _ ?_)
      refine wp_ret ?_
      refine blk_r ?_
      refine blk_r ?_
      refine then_r ?_
      refine blk_r ?_
      refine then_r ?_
      refine then_r ?_
      have he335 : rcompare_m_l0 a b ((((((rrunes_m a).length : Nat) : Int) + (((rrunes_m b).length : Nat) : Int)) - (0 + 0)).toNat + 1) (0, 0) = .inr (-1) := (hq322.trans (show rcompare_m_k1 a b x39 x40 (rcompare_m_l0 a b k42) y214 y215 = .inr (-1) from by unfold rcompare_m_k1; rw [if_pos hs333] <;> rfl))
      have he336 : rcompare_m a b = -1 := (show rcompare_m a b = -1 from by unfold rcompare_m; rw [if_neg hs6, if_neg hc13, he335] <;> rfl)
      exact ⟨rfl, .int .i64 (-1), res_t rfl rfl, ⟨by (rw [he336]; try rfl), hm330.below⟩⟩
    simp only [nz1, nz2, nz3]
    refine lvw 100 (.bool false) rfl rfl (run_mv rfl rfl) ?_
    simp only [nz1, nz2, nz3]
    refine lvw 101 (.string (tx ((rnumber_m (rrunes_m a) y214).1))) rfl rfl (run_mv rfl rfl) ?_
    simp only [nz1, nz2, nz3]
    refine lvw 102 (.int .i64 ((((rnumber_m (rrunes_m a) y214).1).length : Nat) : Int)) rfl rfl (t_len rfl Tryd.underlying9 rfl) ?_
    simp only [nz1, nz2, nz3]
    refine lvw 103 (.string (tx ((rnumber_m (rrunes_m b) y215).1))) rfl rfl (run_mv rfl rfl) ?_
    simp only [nz1, nz2, nz3]
    refine lvw 104 (.int .i64 ((((rnumber_m (rrunes_m b) y215).1).length : Nat) : Int)) rfl rfl (t_len rfl Tryd.underlying9 rfl) ?_
    simp only [nz1, nz2, nz3]
    refine lvb 105 (((rnumber_m (rrunes_m a) y214).1).length = ((rnumber_m (rrunes_m b) y215).1).length) rfl rfl (r_eql (((rnumber_m (rrunes_m a) y214).1).length) (((rnumber_m (rrunes_m b) y215).1).length) rfl rfl rfl) (fun hs337 => ?_) (fun hs337 => ?_)
    rotate_left
    · simp only [nz1, nz2, nz3]
      refine lvw 106 (.bool false) rfl rfl (run_mv rfl rfl) ?_
      simp only [nz1, nz2, nz3]
      refine lst_skip 107 rfl rfl ?_
      simp only [nz1, nz2, nz3]
      refine lst_skip 108 rfl rfl ?_
      simp only [nz1, nz2, nz3]
      refine lst_skip 109 rfl rfl ?_
      simp only [nz1, nz2, nz3]
      refine lvw 110 (.bool false) rfl rfl (run_pickf rfl rfl rfl) ?_
      simp only [nz1, nz2, nz3]
      refine lvw 111 (.bool false) rfl rfl (run_pickf rfl rfl rfl) ?_
      simp only [nz1, nz2, nz3]
      refine lvw 94 (.bool false) rfl rfl (run_as rfl rfl) ?_
      simp only [nz1, nz2, nz3]
      refine wpList_nil ?_
      refine then_n (hK332 _ _ ?_)
      refine cond_f rfl ?_
      refine wp_seq_k (fun K351 hK351 => ?_)
      refine wp_region_lit ?_
      refine lvw 113 (.string (tx ((rnumber_m (rrunes_m a) y214).1))) rfl rfl (run_mv rfl rfl) ?_
      simp only [nz1, nz2, nz3]
      refine lvw 114 (.int .i64 ((((rnumber_m (rrunes_m a) y214).1).length : Nat) : Int)) rfl rfl (t_len rfl Tryd.underlying9 rfl) ?_
      simp only [nz1, nz2, nz3]
      refine lvw 115 (.string (tx ((rnumber_m (rrunes_m b) y215).1))) rfl rfl (run_mv rfl rfl) ?_
      simp only [nz1, nz2, nz3]
      refine lvw 116 (.int .i64 ((((rnumber_m (rrunes_m b) y215).1).length : Nat) : Int)) rfl rfl (t_len rfl Tryd.underlying9 rfl) ?_
      simp only [nz1, nz2, nz3]
      refine lvb 117 (((rnumber_m (rrunes_m b) y215).1).length < ((rnumber_m (rrunes_m a) y214).1).length) rfl rfl (r_gtr (((rnumber_m (rrunes_m a) y214).1).length) (((rnumber_m (rrunes_m b) y215).1).length) rfl rfl rfl) (fun hs352 => ?_) (fun hs352 => ?_)
      · simp only [nz1, nz2, nz3]
        refine lvw 118 (.bool true) rfl rfl (run_mv rfl rfl) ?_
        simp only [nz1, nz2, nz3]
        refine lst_skip 119 rfl rfl ?_
        simp only [nz1, nz2, nz3]
        refine lst_skip 120 rfl rfl ?_
        simp only [nz1, nz2, nz3]
        refine lst_skip 121 rfl rfl ?_
        simp only [nz1, nz2, nz3]
        refine lvw 122 (.bool true) rfl rfl (run_pick rfl rfl rfl) ?_
        simp only [nz1, nz2, nz3]
        refine lvw 112 (.bool true) rfl rfl (run_as rfl rfl) ?_
        simp only [nz1, nz2, nz3]
        refine wpList_nil ?_
        refine then_n (hK351 _ _ ?_)
        refine cond_t rfl ?_
        refine wp_seq_k (fun K353 hK353 => ?_)
        refine wp_region_lit ?_
        refine lvw 4 (.int .i64 1) rfl rfl (run_as rfl rfl) ?_
        simp only [nz1, nz2, nz3]
        refine wpList_nil ?_
        refine then_n (hK353 _ _ ?_)
        refine wp_ret ?_
        refine blk_r ?_
        refine blk_r ?_
        refine then_r ?_
        refine blk_r ?_
        refine then_r ?_
        refine then_r ?_
        have he354 : rcompare_m_l0 a b ((((((rrunes_m a).length : Nat) : Int) + (((rrunes_m b).length : Nat) : Int)) - (0 + 0)).toNat + 1) (0, 0) = .inr 1 := (hq322.trans (show rcompare_m_k1 a b x39 x40 (rcompare_m_l0 a b k42) y214 y215 = .inr 1 from by unfold rcompare_m_k1; rw [if_neg hs333, if_neg hs337, if_pos hs352] <;> rfl))
        have he355 : rcompare_m a b = 1 := (show rcompare_m a b = 1 from by unfold rcompare_m; rw [if_neg hs6, if_neg hc13, he354] <;> rfl)
        exact ⟨rfl, .int .i64 1, res_t rfl rfl, ⟨by (rw [he355]; try rfl), hm330.below⟩⟩
      simp only [nz1, nz2, nz3]
      refine lvw 118 (.bool false) rfl rfl (run_mv rfl rfl) ?_
      simp only [nz1, nz2, nz3]
      refine lvw 119 (.string (tx ((rnumber_m (rrunes_m a) y214).1))) rfl rfl (run_mv rfl rfl) ?_
      simp only [nz1, nz2, nz3]
      refine lvw 120 (.string (tx ((rnumber_m (rrunes_m b) y215).1))) rfl rfl (run_mv rfl rfl) ?_
      simp only [nz1, nz2, nz3]
      refine lvw 121 (.bool ((!lt' ((rnumber_m (rrunes_m a) y214).1) ((rnumber_m (rrunes_m b) y215).1) && !decide ((rnumber_m (rrunes_m a) y214).1 = (rnumber_m (rrunes_m b) y215).1)))) rfl rfl (t_gtr ((rnumber_m (rrunes_m a) y214).1) ((rnumber_m (rrunes_m b) y215).1) rfl rfl rfl) ?_
      simp only [nz1, nz2, nz3]
      refine lvw 122 (.bool ((!lt' ((rnumber_m (rrunes_m a) y214).1) ((rnumber_m (rrunes_m b) y215).1) && !decide ((rnumber_m (rrunes_m a) y214).1 = (rnumber_m (rrunes_m b) y215).1)))) rfl rfl (run_pickf rfl rfl rfl) ?_
      simp only [nz1, nz2, nz3]
      refine lvw 112 (.bool ((!lt' ((rnumber_m (rrunes_m a) y214).1) ((rnumber_m (rrunes_m b) y215).1) && !decide ((rnumber_m (rrunes_m a) y214).1 = (rnumber_m (rrunes_m b) y215).1)))) rfl rfl (run_as rfl rfl) ?_
      simp only [nz1, nz2, nz3]
      refine wpList_nil ?_
      refine then_n (hK351 _ _ ?_)
      refine cond_B (!lt' ((rnumber_m (rrunes_m a) y214).1) ((rnumber_m (rrunes_m b) y215).1) && !decide ((rnumber_m (rrunes_m a) y214).1 = (rnumber_m (rrunes_m b) y215).1)) rfl (fun hc356 => ?_) (fun hc356 => ?_)
      rotate_left
      · refine wp_skip ?_
        refine blk_n ?_
        refine blk_n ?_
        refine then_n (hR49 _ _ _ ⟨k42, (rnumber_m (rrunes_m a) y214).2, (rnumber_m (rrunes_m b) y215).2, (fun qq => bif Nat.blt qq 24 then List.getD [yu1 0, yu1 1, yu1 2, .string (tx ((rnumber_m (rrunes_m a) y214).1)), .string (tx ((rnumber_m (rrunes_m b) y215).1)), .int .i64 (x39), v21, .int .i64 (((rrunes_m a).length : Nat) : Int), .bool false, .bool false, .int .i64 (x40), v30, .int .i64 (((rrunes_m b).length : Nat) : Int), .bool (decide (x40 < (((rrunes_m b).length : Nat) : Int))), .bool (decide (x40 < (((rrunes_m b).length : Nat) : Int))), yu1 3, yu1 4, yu1 5, yu1 6, yu1 7, yu1 8, yu1 9, yu1 10, yu1 11] qq undef else bif Nat.blt qq 48 then List.getD [yu1 12, yu1 13, yu1 14, yu1 15, yu1 16, yu1 17, yu1 18, yu1 19, yu1 20, yu1 21, yu1 22, yu1 23, yu1 24, yu1 25, yu1 26, yu1 27, yu1 28, yu1 29, yu1 30, yu1 31, yu1 32, yu1 33, yu1 34, yu1 35] (qq - 24) undef else bif Nat.blt qq 72 then List.getD [yu1 36, yu1 37, yu1 38, yu1 39, yu1 40, yu1 41, yu1 42, yu1 43, yu1 44, yu1 45, yu1 46, .tuple #[.string (tx ((rnumber_m (rrunes_m a) y214).1)), .int .i64 ((rnumber_m (rrunes_m a) y214).2)], v21, .int .i64 (y214), .tuple #[.string (tx ((rnumber_m (rrunes_m a) y214).1)), .int .i64 ((rnumber_m (rrunes_m a) y214).2)], .string (tx ((rnumber_m (rrunes_m a) y214).1)), .int .i64 ((rnumber_m (rrunes_m a) y214).2), .tuple #[.string (tx ((rnumber_m (rrunes_m b) y215).1)), .int .i64 ((rnumber_m (rrunes_m b) y215).2)], v30, .int .i64 (y215), .tuple #[.string (tx ((rnumber_m (rrunes_m b) y215).1)), .int .i64 ((rnumber_m (rrunes_m b) y215).2)], .string (tx ((rnumber_m (rrunes_m b) y215).1)), .int .i64 ((rnumber_m (rrunes_m b) y215).2), .bool false] (qq - 48) undef else bif Nat.blt qq 96 then List.getD [.string (tx ((rnumber_m (rrunes_m a) y214).1)), .int .i64 ((((rnumber_m (rrunes_m a) y214).1).length : Nat) : Int), .string (tx ((rnumber_m (rrunes_m b) y215).1)), .int .i64 ((((rnumber_m (rrunes_m b) y215).1).length : Nat) : Int), .bool false, .bool false, .string (tx ((rnumber_m (rrunes_m a) y214).1)), .int .i64 ((((rnumber_m (rrunes_m a) y214).1).length : Nat) : Int), .string (tx ((rnumber_m (rrunes_m b) y215).1)), .int .i64 ((((rnumber_m (rrunes_m b) y215).1).length : Nat) : Int), .bool false, .bool false, undef, undef, undef, .bool false, .bool false, .bool ((!lt' ((rnumber_m (rrunes_m a) y214).1) ((rnumber_m (rrunes_m b) y215).1) && !decide ((rnumber_m (rrunes_m a) y214).1 = (rnumber_m (rrunes_m b) y215).1))), .string (tx ((rnumber_m (rrunes_m a) y214).1)), .int .i64 ((((rnumber_m (rrunes_m a) y214).1).length : Nat) : Int), .string (tx ((rnumber_m (rrunes_m b) y215).1)), .int .i64 ((((rnumber_m (rrunes_m b) y215).1).length : Nat) : Int), .bool false, .bool false] (qq - 72) undef else List.getD [.string (tx ((rnumber_m (rrunes_m a) y214).1)), .string (tx ((rnumber_m (rrunes_m b) y215).1)), .bool ((!lt' ((rnumber_m (rrunes_m a) y214).1) ((rnumber_m (rrunes_m b) y215).1) && !decide ((rnumber_m (rrunes_m a) y214).1 = (rnumber_m (rrunes_m b) y215).1))), .bool ((!lt' ((rnumber_m (rrunes_m a) y214).1) ((rnumber_m (rrunes_m b) y215).1) && !decide ((rnumber_m (rrunes_m a) y214).1 = (rnumber_m (rrunes_m b) y215).1)))] (qq - 96) undef), rfl, (by first | omega | (simp; omega) | (simp at *; omega)), (hq322.trans (show rcompare_m_k1 a b x39 x40 (rcompare_m_l0 a b k42) y214 y215 = rcompare_m_l0 a b k42 ((rnumber_m (rrunes_m a) y214).2, (rnumber_m (rrunes_m b) y215).2) from by unfold rcompare_m_k1; rw [if_neg hs333, if_neg hs337, if_neg hs352, if_neg hc356] <;> rfl)), (by first | omega | (simp; done) | (simp; omega) | (simp at *; omega)), rfl, hm330⟩ ?_)
        omega
      refine wp_seq_k (fun K357 hK357 => ?_)
      refine wp_region_lit ?_
      refine lvw 4 (.int .i64 1) rfl rfl (run_as rfl rfl) ?_
      simp only [nz1, nz2, nz3]
      refine wpList_nil ?_
      refine then_n (hK357 _ _ ?_)
      refine wp_ret ?_
      refine blk_r ?_
      refine blk_r ?_
      refine then_r ?_
      refine blk_r ?_
      refine then_r ?_
      refine then_r ?_
      have he358 : rcompare_m_l0 a b ((((((rrunes_m a).length : Nat) : Int) + (((rrunes_m b).length : Nat) : Int)) - (0 + 0)).toNat + 1) (0, 0) = .inr 1 := (hq322.trans (show rcompare_m_k1 a b x39 x40 (rcompare_m_l0 a b k42) y214 y215 = .inr 1 from by unfold rcompare_m_k1; rw [if_neg hs333, if_neg hs337, if_neg hs352, if_pos hc356] <;> rfl))
      have he359 : rcompare_m a b = 1 := (show rcompare_m a b = 1 from by unfold rcompare_m; rw [if_neg hs6, if_neg hc13, he358] <;> rfl)
      exact ⟨rfl, .int .i64 1, res_t rfl rfl, ⟨by (rw [he359]; try rfl), hm330.below⟩⟩
    simp only [nz1, nz2, nz3]
    refine lvw 106 (.bool true) rfl rfl (run_mv rfl rfl) ?_
    simp only [nz1, nz2, nz3]
    refine lvw 107 (.string (tx ((rnumber_m (rrunes_m a) y214).1))) rfl rfl (run_mv rfl rfl) ?_
    simp only [nz1, nz2, nz3]
    refine lvw 108 (.string (tx ((rnumber_m (rrunes_m b) y215).1))) rfl rfl (run_mv rfl rfl) ?_
    simp only [nz1, nz2, nz3]
    refine lvw 109 (.bool (lt' ((rnumber_m (rrunes_m a) y214).1) ((rnumber_m (rrunes_m b) y215).1))) rfl rfl (t_lss ((rnumber_m (rrunes_m a) y214).1) ((rnumber_m (rrunes_m b) y215).1) rfl rfl rfl) ?_
    simp only [nz1, nz2, nz3]
    refine lvw 110 (.bool (lt' ((rnumber_m (rrunes_m a) y214).1) ((rnumber_m (rrunes_m b) y215).1))) rfl rfl (run_pick rfl rfl rfl) ?_
    simp only [nz1, nz2, nz3]
    refine lvw 111 (.bool (lt' ((rnumber_m (rrunes_m a) y214).1) ((rnumber_m (rrunes_m b) y215).1))) rfl rfl (run_pickf rfl rfl rfl) ?_
    simp only [nz1, nz2, nz3]
    refine lvw 94 (.bool (lt' ((rnumber_m (rrunes_m a) y214).1) ((rnumber_m (rrunes_m b) y215).1))) rfl rfl (run_as rfl rfl) ?_
    simp only [nz1, nz2, nz3]
    refine wpList_nil ?_
    refine then_n (hK332 _ _ ?_)
    refine cond_B (lt' ((rnumber_m (rrunes_m a) y214).1) ((rnumber_m (rrunes_m b) y215).1)) rfl (fun hc338 => ?_) (fun hc338 => ?_)
    · refine wp_seq_k (fun K339 hK339 => ?_)
      refine wp_region_lit ?_
      refine lvw 4 (.int .i64 (-1)) rfl rfl (run_as rfl rfl) ?_
      simp only [nz1, nz2, nz3]
      refine wpList_nil ?_
      refine then_n (hK339 _ _ ?_)
      refine wp_ret ?_
      refine blk_r ?_
      refine blk_r ?_
      refine then_r ?_
      refine blk_r ?_
      refine then_r ?_
      refine then_r ?_
      have he340 : rcompare_m_l0 a b ((((((rrunes_m a).length : Nat) : Int) + (((rrunes_m b).length : Nat) : Int)) - (0 + 0)).toNat + 1) (0, 0) = .inr (-1) := (hq322.trans (show rcompare_m_k1 a b x39 x40 (rcompare_m_l0 a b k42) y214 y215 = .inr (-1) from by unfold rcompare_m_k1; rw [if_neg hs333, if_pos hs337, if_pos hc338] <;> rfl))
      have he341 : rcompare_m a b = -1 := (show rcompare_m a b = -1 from by unfold rcompare_m; rw [if_neg hs6, if_neg hc13, he340] <;> rfl)
      exact ⟨rfl, .int .i64 (-1), res_t rfl rfl, ⟨by (rw [he341]; try rfl), hm330.below⟩⟩
    refine wp_seq_k (fun K342 hK342 => ?_)
    refine wp_region_lit ?_
    refine lvw 113 (.string (tx ((rnumber_m (rrunes_m a) y214).1))) rfl rfl (run_mv rfl rfl) ?_
    simp only [nz1, nz2, nz3]
    refine lvw 114 (.int .i64 ((((rnumber_m (rrunes_m a) y214).1).length : Nat) : Int)) rfl rfl (t_len rfl Tryd.underlying9 rfl) ?_
    simp only [nz1, nz2, nz3]
    refine lvw 115 (.string (tx ((rnumber_m (rrunes_m b) y215).1))) rfl rfl (run_mv rfl rfl) ?_
    simp only [nz1, nz2, nz3]
    refine lvw 116 (.int .i64 ((((rnumber_m (rrunes_m b) y215).1).length : Nat) : Int)) rfl rfl (t_len rfl Tryd.underlying9 rfl) ?_
    simp only [nz1, nz2, nz3]
    refine lvb 117 (((rnumber_m (rrunes_m b) y215).1).length < ((rnumber_m (rrunes_m a) y214).1).length) rfl rfl (r_gtr (((rnumber_m (rrunes_m a) y214).1).length) (((rnumber_m (rrunes_m b) y215).1).length) rfl rfl rfl) (fun hs343 => ?_) (fun hs343 => ?_)
    · simp only [nz1, nz2, nz3]
      refine lvw 118 (.bool true) rfl rfl (run_mv rfl rfl) ?_
      simp only [nz1, nz2, nz3]
      refine lst_skip 119 rfl rfl ?_
      simp only [nz1, nz2, nz3]
      refine lst_skip 120 rfl rfl ?_
      simp only [nz1, nz2, nz3]
      refine lst_skip 121 rfl rfl ?_
      simp only [nz1, nz2, nz3]
      refine lvw 122 (.bool true) rfl rfl (run_pick rfl rfl rfl) ?_
      simp only [nz1, nz2, nz3]
      refine lvw 112 (.bool true) rfl rfl (run_as rfl rfl) ?_
      simp only [nz1, nz2, nz3]
      refine wpList_nil ?_
      refine then_n (hK342 _ _ ?_)
      refine cond_t rfl ?_
      refine wp_seq_k (fun K344 hK344 => ?_)
      refine wp_region_lit ?_
      refine lvw 4 (.int .i64 1) rfl rfl (run_as rfl rfl) ?_
      simp only [nz1, nz2, nz3]
      refine wpList_nil ?_
      refine then_n (hK344 _ _ ?_)
      refine wp_ret ?_
      refine blk_r ?_
      refine blk_r ?_
      refine then_r ?_
      refine blk_r ?_
      refine then_r ?_
      refine then_r ?_
      have he345 : rcompare_m_l0 a b ((((((rrunes_m a).length : Nat) : Int) + (((rrunes_m b).length : Nat) : Int)) - (0 + 0)).toNat + 1) (0, 0) = .inr 1 := (hq322.trans (show rcompare_m_k1 a b x39 x40 (rcompare_m_l0 a b k42) y214 y215 = .inr 1 from by unfold rcompare_m_k1; rw [if_neg hs333, if_pos hs337, if_neg hc338, if_pos hs343] <;> rfl))
      have he346 : rcompare_m a b = 1 := (show rcompare_m a b = 1 from by unfold rcompare_m; rw [if_neg hs6, if_neg hc13, he345] <;> rfl)
      exact ⟨rfl, .int .i64 1, res_t rfl rfl, ⟨by (rw [he346]; try rfl), hm330.below⟩⟩
    simp only [nz1, nz2, nz3]
    refine lvw 118 (.bool false) rfl rfl (run_mv rfl rfl) ?_
    simp only [nz1, nz2, nz3]
    refine lvw 119 (.string (tx ((rnumber_m (rrunes_m a) y214).1))) rfl rfl (run_mv rfl rfl) ?_
    simp only [nz1, nz2, nz3]
    refine lvw 120 (.string (tx ((rnumber_m (rrunes_m b) y215).1))) rfl rfl (run_mv rfl rfl) ?_
    simp only [nz1, nz2, nz3]
    refine lvw 121 (.bool ((!lt' ((rnumber_m (rrunes_m a) y214).1) ((rnumber_m (rrunes_m b) y215).1) && !decide ((rnumber_m (rrunes_m a) y214).1 = (rnumber_m (rrunes_m b) y215).1)))) rfl rfl (t_gtr ((rnumber_m (rrunes_m a) y214).1) ((rnumber_m (rrunes_m b) y215).1) rfl rfl rfl) ?_
    simp only [nz1, nz2, nz3]
    refine lvw 122 (.bool ((!lt' ((rnumber_m (rrunes_m a) y214).1) ((rnumber_m (rrunes_m b) y215).1) && !decide ((rnumber_m (rrunes_m a) y214).1 = (rnumber_m (rrunes_m b) y215).1)))) rfl rfl (run_pickf rfl rfl rfl) ?_
    simp only [nz1, nz2, nz3]
    refine lvw 112 (.bool ((!lt' ((rnumber_m (rrunes_m a) y214).1) ((rnumber_m (rrunes_m b) y215).1) && !decide ((rnumber_m (rrunes_m a) y214).1 = (rnumber_m (rrunes_m b) y215).1)))) rfl rfl (run_as rfl rfl) ?_
    simp only [nz1, nz2, nz3]
    refine wpList_nil ?_
    refine then_n (hK342 _ _ ?_)
    refine cond_B (!lt' ((rnumber_m (rrunes_m a) y214).1) ((rnumber_m (rrunes_m b) y215).1) && !decide ((rnumber_m (rrunes_m a) y214).1 = (rnumber_m (rrunes_m b) y215).1)) rfl (fun hc347 => ?_) (fun hc347 => ?_)
    rotate_left
    · refine wp_skip ?_
      refine blk_n ?_
      refine blk_n ?_
      refine then_n (hR49 _ _ _ ⟨k42, (rnumber_m (rrunes_m a) y214).2, (rnumber_m (rrunes_m b) y215).2, (fun qq => bif Nat.blt qq 24 then List.getD [yu1 0, yu1 1, yu1 2, .string (tx ((rnumber_m (rrunes_m a) y214).1)), .string (tx ((rnumber_m (rrunes_m b) y215).1)), .int .i64 (x39), v21, .int .i64 (((rrunes_m a).length : Nat) : Int), .bool false, .bool false, .int .i64 (x40), v30, .int .i64 (((rrunes_m b).length : Nat) : Int), .bool (decide (x40 < (((rrunes_m b).length : Nat) : Int))), .bool (decide (x40 < (((rrunes_m b).length : Nat) : Int))), yu1 3, yu1 4, yu1 5, yu1 6, yu1 7, yu1 8, yu1 9, yu1 10, yu1 11] qq undef else bif Nat.blt qq 48 then List.getD [yu1 12, yu1 13, yu1 14, yu1 15, yu1 16, yu1 17, yu1 18, yu1 19, yu1 20, yu1 21, yu1 22, yu1 23, yu1 24, yu1 25, yu1 26, yu1 27, yu1 28, yu1 29, yu1 30, yu1 31, yu1 32, yu1 33, yu1 34, yu1 35] (qq - 24) undef else bif Nat.blt qq 72 then List.getD [yu1 36, yu1 37, yu1 38, yu1 39, yu1 40, yu1 41, yu1 42, yu1 43, yu1 44, yu1 45, yu1 46, .tuple #[.string (tx ((rnumber_m (rrunes_m a) y214).1)), .int .i64 ((rnumber_m (rrunes_m a) y214).2)], v21, .int .i64 (y214), .tuple #[.string (tx ((rnumber_m (rrunes_m a) y214).1)), .int .i64 ((rnumber_m (rrunes_m a) y214).2)], .string (tx ((rnumber_m (rrunes_m a) y214).1)), .int .i64 ((rnumber_m (rrunes_m a) y214).2), .tuple #[.string (tx ((rnumber_m (rrunes_m b) y215).1)), .int .i64 ((rnumber_m (rrunes_m b) y215).2)], v30, .int .i64 (y215), .tuple #[.string (tx ((rnumber_m (rrunes_m b) y215).1)), .int .i64 ((rnumber_m (rrunes_m b) y215).2)], .string (tx ((rnumber_m (rrunes_m b) y215).1)), .int .i64 ((rnumber_m (rrunes_m b) y215).2), .bool (lt' ((rnumber_m (rrunes_m a) y214).1) ((rnumber_m (rrunes_m b) y215).1))] (qq - 48) undef else bif Nat.blt qq 96 then List.getD [.string (tx ((rnumber_m (rrunes_m a) y214).1)), .int .i64 ((((rnumber_m (rrunes_m a) y214).1).length : Nat) : Int), .string (tx ((rnumber_m (rrunes_m b) y215).1)), .int .i64 ((((rnumber_m (rrunes_m b) y215).1).length : Nat) : Int), .bool false, .bool false, .string (tx ((rnumber_m (rrunes_m a) y214).1)), .int .i64 ((((rnumber_m (rrunes_m a) y214).1).length : Nat) : Int), .string (tx ((rnumber_m (rrunes_m b) y215).1)), .int .i64 ((((rnumber_m (rrunes_m b) y215).1).length : Nat) : Int), .bool true, .bool true, .string (tx ((rnumber_m (rrunes_m a) y214).1)), .string (tx ((rnumber_m (rrunes_m b) y215).1)), .bool (lt' ((rnumber_m (rrunes_m a) y214).1) ((rnumber_m (rrunes_m b) y215).1)), .bool (lt' ((rnumber_m (rrunes_m a) y214).1) ((rnumber_m (rrunes_m b) y215).1)), .bool (lt' ((rnumber_m (rrunes_m a) y214).1) ((rnumber_m (rrunes_m b) y215).1)), .bool ((!lt' ((rnumber_m (rrunes_m a) y214).1) ((rnumber_m (rrunes_m b) y215).1) && !decide ((rnumber_m (rrunes_m a) y214).1 = (rnumber_m (rrunes_m b) y215).1))), .string (tx ((rnumber_m (rrunes_m a) y214).1)), .int .i64 ((((rnumber_m (rrunes_m a) y214).1).length : Nat) : Int), .string (tx ((rnumber_m (rrunes_m b) y215).1)), .int .i64 ((((rnumber_m (rrunes_m b) y215).1).length : Nat) : Int), .bool false, .bool false] (qq - 72) undef else List.getD [.string (tx ((rnumber_m (rrunes_m a) y214).1)), .string (tx ((rnumber_m (rrunes_m b) y215).1)), .bool ((!lt' ((rnumber_m (rrunes_m a) y214).1) ((rnumber_m (rrunes_m b) y215).1) && !decide ((rnumber_m (rrunes_m a) y214).1 = (rnumber_m (rrunes_m b) y215).1))), .bool ((!lt' ((rnumber_m (rrunes_m a) y214).1) ((rnumber_m (rrunes_m b) y215).1) && !decide ((rnumber_m (rrunes_m a) y214).1 = (rnumber_m (rrunes_m b) y215).1)))] (qq - 96) undef), rfl, (by first | omega | (simp; omega) | (simp at *; omega)), (hq322.trans (show rcompare_m_k1 a b x39 x40 (rcompare_m_l0 a b k42) y214 y215 = rcompare_m_l0 a b k42 ((rnumber_m (rrunes_m a) y214).2, (rnumber_m (rrunes_m b) y215).2) from by unfold rcompare_m_k1; rw [if_neg hs333, if_pos hs337, if_neg hc338, if_neg hs343, if_neg hc347] <;> rfl)), (by first | omega | (simp; done) | (simp; omega) | (simp at *; omega)), rfl, hm330⟩ ?_)
      omega
    refine wp_seq_k (fun K348 hK348 => ?_)
    refine wp_region_lit ?_
    refine lvw 4 (.int .i64 1) rfl rfl (run_as rfl rfl) ?_
    simp only [nz1, nz2, nz3]
    refine wpList_nil ?_
    refine then_n (hK348 _ _ ?_)
    refine wp_ret ?_
    refine blk_r ?_
    refine blk_r ?_
    refine then_r ?_
    refine blk_r ?_
    refine then_r ?_
    refine then_r ?_
    have he349 : rcompare_m_l0 a b ((((((rrunes_m a).length : Nat) : Int) + (((rrunes_m b).length : Nat) : Int)) - (0 + 0)).toNat + 1) (0, 0) = .inr 1 := (hq322.trans (show rcompare_m_k1 a b x39 x40 (rcompare_m_l0 a b k42) y214 y215 = .inr 1 from by unfold rcompare_m_k1; rw [if_neg hs333, if_pos hs337, if_neg hc338, if_neg hs343, if_pos hc347] <;> rfl))
    have he350 : rcompare_m a b = 1 := (show rcompare_m a b = 1 from by unfold rcompare_m; rw [if_neg hs6, if_neg hc13, he349] <;> rfl)
    exact ⟨rfl, .int .i64 1, res_t rfl rfl, ⟨by (rw [he350]; try rfl), hm330.below⟩⟩
  rintro _ w360 ⟨y44, y45, yu0, hx46, hro, rfl, hm361⟩
  have hq362 : rcompare_m a b = rcompare_m_k0 a b y44 y45 := (show rcompare_m a b = rcompare_m_k0 a b y44 y45 from by unfold rcompare_m; rw [if_neg hs6, if_neg hc13, hx46] <;> rfl)
  refine then_n (hK38 _ _ ?_)
  refine wp_seq_k (fun K363 hK363 => ?_)
  refine wp_region_lit ?_
  refine lvw 4 (.int .i64 0) rfl rfl (run_as rfl rfl) ?_
  simp only [nz1, nz2, nz3]
  refine wpList_nil ?_
  refine then_n (hK363 _ _ ?_)
  refine wp_ret ?_
  have he364 : rcompare_m a b = 0 := (hq362.trans (show rcompare_m_k0 a b y44 y45 = 0 from by unfold rcompare_m_k0; rfl))
  exact ⟨rfl, .int .i64 0, res_t rfl rfl, ⟨by (rw [he364]; try rfl), hm361.below⟩⟩
theorem run_rcompare {o : Oper} {a : Act} {w : World} {x0 x1 : Operand} {v0 v1 : Value} (ho : o.op = .call { callee := .value (.func 26), args := #[x0, x1], argTypes := #[9, 9] }) (h0 : a.eval x0 = v0) (h1 : a.eval x1 = v1) :
    (execOp a.eval o).run Tryd.prog w = .ok (.enter 26 #[v0, v1]) w := by
  unfold execOp
  simp only [ho]
  have hf : a.eval (.func 26) = .func (.func 26) #[] #[] := rfl
  generalize a.eval = f at *
  go_simp
end Go.Proofs.YtpbenhfnebgbiaaDoor.Ve
