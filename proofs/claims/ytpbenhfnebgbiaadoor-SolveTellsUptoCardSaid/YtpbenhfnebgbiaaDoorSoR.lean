/- Layer 20: who needs one, the document's answer. -/
import Derived.Test.YtpbenhfnebgbiaaDoorSoC
namespace Go.Proofs.YtpbenhfnebgbiaaDoor.So
open Go.RowKit
open Go.Proofs.YtpbenhfnebgbiaaDoor.Sym Go.Proofs.YtpbenhfnebgbiaaDoor.Mem
open Go.Proofs.YtpbenhfnebgbiaaDoor.Sx hiding Mm m_alloc m_store m_put m_call m_callx m_make m_append r_string r_ixS
set_option linter.unusedVariables false
open Go.Proofs.YtpbenhfnebgbiaaDoor.Pa
set_option linter.unusedSimpArgs false
open Go.Proofs.YtpbenhfnebgbiaaDoor.Ve
attribute [local irreducible] holds_m meets_m lacks_m clashes_m solve_m needs_m users_m
attribute [local irreducible] rholds_m rmeets_m rlacks_m rclashes_m
attribute [local irreducible] wpList Oper.wp

def rusers_m_b2 (l : List Mf) (m : Mf) (l8 : List (List UInt8)) (x12 : Nat) (l34 : List (List UInt8)) (x38 : Nat) (rec : Nat → Sum (Nat) ((List (List UInt8)))) (x75 : Nat) : Sum (Nat) ((List (List UInt8))) :=
  if x75 < l34.length then
    if (lt' (l34.getD x75 []) ((l.getD x12 dMf).name)) = true then
      rec (x75 + 1)
    else
      .inl x75
  else
    .inl x75
def rusers_m_l2 (l : List Mf) (m : Mf) (l8 : List (List UInt8)) (x12 : Nat) (l34 : List (List UInt8)) (x38 : Nat) : Nat → Nat → Sum (Nat) ((List (List UInt8)))
  | 0, zz => .inl zz
  | nq + 1, zz => rusers_m_b2 l m l8 x12 l34 x38 (rusers_m_l2 l m l8 x12 l34 x38 nq) zz

def rusers_m_k2 (l : List Mf) (m : Mf) (l8 : List (List UInt8)) (x12 : Nat) (l34 : List (List UInt8)) (x38 : Nat) (rec : (List (List UInt8)) × Nat → Sum ((List (List UInt8)) × Nat) ((List (List UInt8)))) (y79 : Nat) : Sum ((List (List UInt8)) × Nat) ((List (List UInt8))) :=
  if y79 = l34.length then
    rec ((((([] : List (List UInt8)) ++ (l34.take y79)) ++ [((l.getD x12 dMf).name)]) ++ (l34.drop y79)), (x38 + 1))
  else
    if ¬ (l34.getD y79 []) = (l.getD x12 dMf).name then
      rec ((((([] : List (List UInt8)) ++ (l34.take y79)) ++ [((l.getD x12 dMf).name)]) ++ (l34.drop y79)), (x38 + 1))
    else
      rec (l34, (x38 + 1))

def rusers_m_b1 (l : List Mf) (m : Mf) (l8 : List (List UInt8)) (x12 : Nat) (rec : (List (List UInt8)) × Nat → Sum ((List (List UInt8)) × Nat) ((List (List UInt8)))) (l34 : List (List UInt8)) (x38 : Nat) : Sum ((List (List UInt8)) × Nat) ((List (List UInt8))) :=
  if x38 < ((l.getD x12 dMf).needs).length then
    if ¬ (((l.getD x12 dMf).needs).getD x38 dRul).name = m.name then
      rec (l34, (x38 + 1))
    else
      if (!(rholds_m (((l.getD x12 dMf).needs).getD x38 dRul) m.version)) = true then
        rec (l34, (x38 + 1))
      else
        fin (rusers_m_l2 l m l8 x12 l34 x38 ((l34.length - 0) + 1) 0) .inr (fun zz => rusers_m_k2 l m l8 x12 l34 x38 rec zz)
  else
    .inl (l34, x38)
def rusers_m_l1 (l : List Mf) (m : Mf) (l8 : List (List UInt8)) (x12 : Nat) : Nat → (List (List UInt8)) × Nat → Sum ((List (List UInt8)) × Nat) ((List (List UInt8)))
  | 0, zz => .inl zz
  | nq + 1, zz => rusers_m_b1 l m l8 x12 (rusers_m_l1 l m l8 x12 nq) zz.1 zz.2

def rusers_m_k1 (l : List Mf) (m : Mf) (l8 : List (List UInt8)) (x12 : Nat) (rec : (List (List UInt8)) × Nat → Sum ((List (List UInt8)) × Nat) ((List (List UInt8)))) (y45 : List (List UInt8)) (y48 : Nat) : Sum ((List (List UInt8)) × Nat) ((List (List UInt8))) :=
  rec (y45, (x12 + 1))

def rusers_m_b0 (l : List Mf) (m : Mf) (rec : (List (List UInt8)) × Nat → Sum ((List (List UInt8)) × Nat) ((List (List UInt8)))) (l8 : List (List UInt8)) (x12 : Nat) : Sum ((List (List UInt8)) × Nat) ((List (List UInt8))) :=
  if x12 < l.length then
    fin (rusers_m_l1 l m l8 x12 ((((l.getD x12 dMf).needs).length - 0) + 1) (l8, 0)) .inr (fun zz => rusers_m_k1 l m l8 x12 rec zz.1 zz.2)
  else
    .inl (l8, x12)
def rusers_m_l0 (l : List Mf) (m : Mf) : Nat → (List (List UInt8)) × Nat → Sum ((List (List UInt8)) × Nat) ((List (List UInt8)))
  | 0, zz => .inl zz
  | nq + 1, zz => rusers_m_b0 l m (rusers_m_l0 l m nq) zz.1 zz.2

def rusers_m_k0 (l : List Mf) (m : Mf) (y19 : List (List UInt8)) (y22 : Nat) : (List (List UInt8)) :=
  y19

def rusers_m (l : List Mf) (m : Mf) : (List (List UInt8)) :=
  fin (rusers_m_l0 l m ((l.length - 0) + 1) (([]), 0)) (fun r => r) (fun zz => rusers_m_k0 l m zz.1 zz.2)

set_option maxHeartbeats 4000000 in
set_option maxRecDepth 100000 in
theorem rusers_any (l : List Mf) (m : Mf) (lv0 : Value) (lv1 : List (Value × Value × Value)) (mv0 : Value) (mv1 : Value) (mv2 : Value) (S : Nat → Prop) (w : World) (hl : From S (Rn nMf 5 MfN l lv1 lv0) w) (hm : From S (MfR m mv0 mv1 mv2) w) (hp0 : l.length ≤ 100000) (hp1 : okl l) : Calls Tryd.prog 19 #[lv0, .agg #[.string (tx m.name), .string (tx m.version), mv0, mv1, mv2]] w (fun e w' => (∃ v, e = .returned v ∧ ∃ (o0 : Value), v = o0 ∧ Gives w w' S (Rs eS 1 (rusers_m l m) o0)) ∧ Below w.heap.size w w') := by
  go_enter Tryd.func19, Tryd.ntmps19
  have hm00 := Mm.nil none S w
  obtain ⟨Fl, hm01⟩ : ∃ Fl, Mm none S w w [.see (Rn nMf 5 MfN l lv1 lv0) Fl] := hm00.come hl
  obtain ⟨Fm, hm02⟩ : ∃ Fm, Mm none S w w [.see (Rn nMf 5 MfN l lv1 lv0) Fl, .see (MfR m mv0 mv1 mv2) Fm] := hm01.come hm
  have hm0 := hm02
  refine wp_seq_k (fun K1 hK1 => ?_)
  refine wp_region_lit ?_
  refine lst rfl (m_alloc (c := #[.string (tx m.name), .string (tx m.version), mv0, mv1, mv2]) (T := 37) hm0 3 rfl (run_box rfl rfl) (fun g4 w2 (hm3 : Mm none S w w2 [.see (Rn nMf 5 MfN l lv1 lv0) Fl, .see (MfR m mv0 mv1 mv2) Fm, .blk g4 #[.string (tx m.name), .string (tx m.version), mv0, mv1, mv2] 37]) => ?_))
  simp only [nz1, nz2, nz3]
  refine lvw 4 (.slice none 0 0) rfl rfl (run_as rfl rfl) ?_
  simp only [nz1, nz2, nz3]
  refine wpList_nil ?_
  refine then_n (hK1 _ _ ?_)
  refine wp_seq_k (fun K5 hK5 => ?_)
  refine wp_region_lit ?_
  refine lvw 5 (.slice none 0 0) rfl rfl (run_as rfl rfl) ?_
  simp only [nz1, nz2, nz3]
  refine wpList_nil ?_
  refine then_n (hK5 _ _ ?_)
  refine wp_seq_k (fun K6 hK6 => ?_)
  refine wp_seq_k (fun K7 hK7 => ?_)
  refine wp_region_lit ?_
  refine lvw 6 (.int .i64 0) rfl rfl (run_as rfl rfl) ?_
  simp only [nz1, nz2, nz3]
  refine wpList_nil ?_
  refine then_n (hK7 _ _ ?_)
  obtain ⟨F13, hm14⟩ : ∃ F13, Mm none S w w2 [.see (Rn nMf 5 MfN l lv1 lv0) Fl, .see (MfR m mv0 mv1 mv2) Fm, .blk g4 #[.string (tx m.name), .string (tx m.version), mv0, mv1, mv2] 37, .see (Rs eS 1 ([]) (.slice none 0 0)) F13] := hm3.derive (From.pure (fun W => Rs.nil eS 1 W))
  refine wp_cutK (fun a' w' => ∃ (y19 : List (List UInt8)) (y22 : Nat) (v20 : Value) (F21 : Nat → Prop) (yu0 : Nat → Value), rusers_m_l0 l m ((l.length - 0) + 1) (([]), 0) = .inl (y19, y22) ∧ ((y19 : List (List UInt8)).length ≤ 6710887 * y22 ∧ y22 ≤ l.length) ∧ a' = ⟨#[lv0, .agg #[.string (tx m.name), .string (tx m.version), mv0, mv1, mv2], undef, .pointer (some ⟨g4, 0, none⟩), .slice none 0 0, v20, .int .i64 ((y22 : Nat) : Int), yu0 0, yu0 1, yu0 2, yu0 3, yu0 4, yu0 5, yu0 6, yu0 7, yu0 8, yu0 9, yu0 10, yu0 11, yu0 12, yu0 13, yu0 14, yu0 15, yu0 16, yu0 17, yu0 18, yu0 19, yu0 20, yu0 21, yu0 22, yu0 23, yu0 24, yu0 25, yu0 26, yu0 27, yu0 28, yu0 29, yu0 30, yu0 31, yu0 32, yu0 33, yu0 34, yu0 35, yu0 36, yu0 37, yu0 38, yu0 39, yu0 40, yu0 41, yu0 42, yu0 43, yu0 44, yu0 45, yu0 46, yu0 47, yu0 48, yu0 49, yu0 50, yu0 51, yu0 52, yu0 53, yu0 54, yu0 55, yu0 56, yu0 57, yu0 58, yu0 59, yu0 60, yu0 61, yu0 62, yu0 63, yu0 64, yu0 65, yu0 66, yu0 67, yu0 68, yu0 69, yu0 70, yu0 71, yu0 72, yu0 73, yu0 74, yu0 75, yu0 76, yu0 77, yu0 78, yu0 79, yu0 80, yu0 81, yu0 82, yu0 83, yu0 84, yu0 85, yu0 86, yu0 87, yu0 88, yu0 89, yu0 90, yu0 91, yu0 92, yu0 93, undef], []⟩ ∧ Mm none S w w' [.see (Rn nMf 5 MfN l lv1 lv0) Fl, .see (MfR m mv0 mv1 mv2) Fm, .blk g4 #[.string (tx m.name), .string (tx m.version), mv0, mv1, mv2] 37, .see (Rs eS 1 y19 v20) F21]) ?_ ?_
  · refine wp_block ?_
    refine wp_loop_n (fun n' a' w' => ∃ (n16 : Nat) (l8 : List (List UInt8)) (x12 : Nat) (v9 : Value) (F10 : Nat → Prop) (u0 : Nat → Value), n' = n16 ∧ (l.length - x12) < n16 ∧ rusers_m_l0 l m ((l.length - 0) + 1) (([]), 0) = rusers_m_l0 l m n16 (l8, x12) ∧ ((l8 : List (List UInt8)).length ≤ 6710887 * x12 ∧ x12 ≤ l.length) ∧ a' = ⟨#[lv0, .agg #[.string (tx m.name), .string (tx m.version), mv0, mv1, mv2], undef, .pointer (some ⟨g4, 0, none⟩), .slice none 0 0, v9, .int .i64 ((x12 : Nat) : Int), u0 0, u0 1, u0 2, u0 3, u0 4, u0 5, u0 6, u0 7, u0 8, u0 9, u0 10, u0 11, u0 12, u0 13, u0 14, u0 15, u0 16, u0 17, u0 18, u0 19, u0 20, u0 21, u0 22, u0 23, u0 24, u0 25, u0 26, u0 27, u0 28, u0 29, u0 30, u0 31, u0 32, u0 33, u0 34, u0 35, u0 36, u0 37, u0 38, u0 39, u0 40, u0 41, u0 42, u0 43, u0 44, u0 45, u0 46, u0 47, u0 48, u0 49, u0 50, u0 51, u0 52, u0 53, u0 54, u0 55, u0 56, u0 57, u0 58, u0 59, u0 60, u0 61, u0 62, u0 63, u0 64, u0 65, u0 66, u0 67, u0 68, u0 69, u0 70, u0 71, u0 72, u0 73, u0 74, u0 75, u0 76, u0 77, u0 78, u0 79, u0 80, u0 81, u0 82, u0 83, u0 84, u0 85, u0 86, u0 87, u0 88, u0 89, u0 90, u0 91, u0 92, u0 93, undef], []⟩ ∧ Mm none S w w' [.see (Rn nMf 5 MfN l lv1 lv0) Fl, .see (MfR m mv0 mv1 mv2) Fm, .blk g4 #[.string (tx m.name), .string (tx m.version), mv0, mv1, mv2] 37, .see (Rs eS 1 l8 v9) F10]) ⟨((l.length - 0) + 1), ([]), 0, .slice none 0 0, F13, (fun qq => bif Nat.blt qq 24 then List.getD [undef, undef, undef, undef, undef, undef, undef, undef, undef, undef, undef, undef, undef, undef, undef, undef, undef, undef, undef, undef, undef, undef, undef, undef] qq undef else bif Nat.blt qq 48 then List.getD [undef, undef, undef, undef, undef, undef, undef, undef, undef, undef, undef, undef, undef, undef, undef, undef, undef, undef, undef, undef, undef, undef, undef, undef] (qq - 24) undef else bif Nat.blt qq 72 then List.getD [undef, undef, undef, undef, undef, undef, undef, undef, undef, undef, undef, undef, undef, undef, undef, undef, undef, undef, undef, undef, undef, undef, undef, undef] (qq - 48) undef else List.getD [undef, undef, undef, undef, undef, undef, undef, undef, undef, undef, undef, undef, undef, undef, undef, undef, undef, undef, undef, undef, undef, undef] (qq - 72) undef), rfl, Nat.lt_succ_self _, rfl, (by first | omega | (simp; done) | (simp; omega) | (simp at *; omega)), rfl, hm14⟩ ?_
    rintro n16 _ w24 ⟨_, l8, x12, v9, F10, u0, rfl, hl28, hi18, hru, rfl, hm25⟩ R26 hR26
    obtain ⟨k17, rfl⟩ : ∃ k, n16 = k + 1 := ⟨n16 - 1, by omega⟩
    refine wp_seq_k (fun K29 hK29 => ?_)
    refine wp_seq_k (fun K30 hK30 => ?_)
    refine wp_region_lit ?_
    refine lvw 9 (.int .i64 ((x12 : Nat) : Int)) rfl rfl (run_mv rfl rfl) ?_
    simp only [nz1, nz2, nz3]
    refine lvw 10 (lv0) rfl rfl (run_mv rfl rfl) ?_
    simp only [nz1, nz2, nz3]
    refine lvw 11 (.int .i64 ((l.length : Nat) : Int)) rfl rfl (s_len ((hm25.see 0 rfl)).rd rfl Tryd.underlying22 rfl) ?_
    simp only [nz1, nz2, nz3]
    refine lvw 12 (.bool (decide (x12 < l.length))) rfl rfl (r_lss x12 l.length rfl rfl rfl) ?_
    simp only [nz1, nz2, nz3]
    refine wpList_nil ?_
    refine then_n (hK30 _ _ ?_)
    refine cond_d (x12 < l.length) rfl (fun hc31 => ?_) (fun hc31 => ?_)
    rotate_left
    · refine wp_exit ?_
      refine then_x ?_
      refine then_x ?_
      refine blk_x ?_
      refine then_n ?_
      obtain ⟨F212, hm213⟩ : ∃ F212, Mm none S w w24 [.see (Rn nMf 5 MfN l lv1 lv0) Fl, .see (MfR m mv0 mv1 mv2) Fm, .blk g4 #[.string (tx m.name), .string (tx m.version), mv0, mv1, mv2] 37, .see (Rs eS 1 l8 v9) F10, .see (Rs eS 1 l8 v9) F212] := hm25.derive (hm25.from 3 rfl)
      exact ⟨l8, x12, v9, F212, (fun qq => bif Nat.blt qq 24 then List.getD [u0 0, u0 1, .int .i64 ((x12 : Nat) : Int), lv0, .int .i64 ((l.length : Nat) : Int), .bool (decide (x12 < l.length)), u0 6, u0 7, u0 8, u0 9, u0 10, u0 11, u0 12, u0 13, u0 14, u0 15, u0 16, u0 17, u0 18, u0 19, u0 20, u0 21, u0 22, u0 23] qq undef else bif Nat.blt qq 48 then List.getD [u0 24, u0 25, u0 26, u0 27, u0 28, u0 29, u0 30, u0 31, u0 32, u0 33, u0 34, u0 35, u0 36, u0 37, u0 38, u0 39, u0 40, u0 41, u0 42, u0 43, u0 44, u0 45, u0 46, u0 47] (qq - 24) undef else bif Nat.blt qq 72 then List.getD [u0 48, u0 49, u0 50, u0 51, u0 52, u0 53, u0 54, u0 55, u0 56, u0 57, u0 58, u0 59, u0 60, u0 61, u0 62, u0 63, u0 64, u0 65, u0 66, u0 67, u0 68, u0 69, u0 70, u0 71] (qq - 48) undef else List.getD [u0 72, u0 73, u0 74, u0 75, u0 76, u0 77, u0 78, u0 79, u0 80, u0 81, u0 82, u0 83, u0 84, u0 85, u0 86, u0 87, u0 88, u0 89, u0 90, u0 91, u0 92, u0 93] (qq - 72) undef), (hi18.trans (show rusers_m_b0 l m (rusers_m_l0 l m k17) l8 x12 = .inl (l8, x12) from by unfold rusers_m_b0; rw [if_neg hc31] <;> rfl)), (by first | omega | (simp; done) | (simp; omega) | (simp at *; omega)), rfl, (Mm.reorder hm213 [0, 1, 2, 4] (by decide) rfl)⟩
    refine wp_skip ?_
    refine then_n (hK29 _ _ ?_)
    refine wp_seq_k (fun K32 hK32 => ?_)
    refine wp_block ?_
    refine wp_seq_k (fun K33 hK33 => ?_)
    refine wp_region_lit ?_
    refine lvw 7 (.int .i64 0) rfl rfl (run_as rfl rfl) ?_
    simp only [nz1, nz2, nz3]
    refine wpList_nil ?_
    refine then_n (hK33 _ _ ?_)
    obtain ⟨F39, hm40⟩ : ∃ F39, Mm none S w w24 [.see (Rn nMf 5 MfN l lv1 lv0) Fl, .see (MfR m mv0 mv1 mv2) Fm, .blk g4 #[.string (tx m.name), .string (tx m.version), mv0, mv1, mv2] 37, .see (Rs eS 1 l8 v9) F10, .see (Rs eS 1 l8 v9) F39] := hm25.derive (hm25.from 3 rfl)
    refine wp_cutK (fun a' w' => ∃ (y45 : List (List UInt8)) (y48 : Nat) (v46 : Value) (F47 : Nat → Prop) (yu1 : Nat → Value), rusers_m_l1 l m l8 x12 ((((l.getD x12 dMf).needs).length - 0) + 1) (l8, 0) = .inl (y45, y48) ∧ ((y45 : List (List UInt8)).length ≤ 6710887 * x12 + y48 ∧ y48 ≤ (l.getD x12 dMf).needs.length ∧ (l.getD x12 dMf).needs.length ≤ 6710887) ∧ a' = ⟨#[lv0, .agg #[.string (tx m.name), .string (tx m.version), mv0, mv1, mv2], undef, .pointer (some ⟨g4, 0, none⟩), .slice none 0 0, v46, .int .i64 ((x12 : Nat) : Int), .int .i64 ((y48 : Nat) : Int), yu1 0, .int .i64 ((x12 : Nat) : Int), lv0, .int .i64 ((l.length : Nat) : Int), .bool (decide (x12 < l.length)), u0 6, u0 7, yu1 1, yu1 2, yu1 3, yu1 4, yu1 5, yu1 6, yu1 7, yu1 8, yu1 9, yu1 10, yu1 11, yu1 12, yu1 13, yu1 14, yu1 15, yu1 16, yu1 17, yu1 18, yu1 19, yu1 20, yu1 21, yu1 22, yu1 23, yu1 24, yu1 25, yu1 26, yu1 27, yu1 28, yu1 29, yu1 30, yu1 31, yu1 32, yu1 33, yu1 34, yu1 35, yu1 36, yu1 37, yu1 38, yu1 39, yu1 40, yu1 41, yu1 42, yu1 43, yu1 44, yu1 45, yu1 46, yu1 47, yu1 48, yu1 49, yu1 50, yu1 51, yu1 52, yu1 53, yu1 54, yu1 55, yu1 56, yu1 57, yu1 58, yu1 59, yu1 60, yu1 61, yu1 62, yu1 63, yu1 64, yu1 65, yu1 66, yu1 67, yu1 68, yu1 69, yu1 70, yu1 71, yu1 72, yu1 73, yu1 74, yu1 75, yu1 76, yu1 77, yu1 78, yu1 79, yu1 80, yu1 81, yu1 82, yu1 83, yu1 84, yu1 85, yu1 86, undef], []⟩ ∧ Mm none S w w' [.see (Rn nMf 5 MfN l lv1 lv0) Fl, .see (MfR m mv0 mv1 mv2) Fm, .blk g4 #[.string (tx m.name), .string (tx m.version), mv0, mv1, mv2] 37, .see (Rs eS 1 l8 v9) F10, .see (Rs eS 1 y45 v46) F47]) ?_ ?_
    · refine wp_block ?_
      refine wp_loop_n (fun n' a' w' => ∃ (n42 : Nat) (l34 : List (List UInt8)) (x38 : Nat) (v35 : Value) (F36 : Nat → Prop) (u1 : Nat → Value), n' = n42 ∧ (((l.getD x12 dMf).needs).length - x38) < n42 ∧ rusers_m_l1 l m l8 x12 ((((l.getD x12 dMf).needs).length - 0) + 1) (l8, 0) = rusers_m_l1 l m l8 x12 n42 (l34, x38) ∧ ((l34 : List (List UInt8)).length ≤ 6710887 * x12 + x38 ∧ x38 ≤ (l.getD x12 dMf).needs.length ∧ (l.getD x12 dMf).needs.length ≤ 6710887) ∧ a' = ⟨#[lv0, .agg #[.string (tx m.name), .string (tx m.version), mv0, mv1, mv2], undef, .pointer (some ⟨g4, 0, none⟩), .slice none 0 0, v35, .int .i64 ((x12 : Nat) : Int), .int .i64 ((x38 : Nat) : Int), u1 0, .int .i64 ((x12 : Nat) : Int), lv0, .int .i64 ((l.length : Nat) : Int), .bool (decide (x12 < l.length)), u0 6, u0 7, u1 1, u1 2, u1 3, u1 4, u1 5, u1 6, u1 7, u1 8, u1 9, u1 10, u1 11, u1 12, u1 13, u1 14, u1 15, u1 16, u1 17, u1 18, u1 19, u1 20, u1 21, u1 22, u1 23, u1 24, u1 25, u1 26, u1 27, u1 28, u1 29, u1 30, u1 31, u1 32, u1 33, u1 34, u1 35, u1 36, u1 37, u1 38, u1 39, u1 40, u1 41, u1 42, u1 43, u1 44, u1 45, u1 46, u1 47, u1 48, u1 49, u1 50, u1 51, u1 52, u1 53, u1 54, u1 55, u1 56, u1 57, u1 58, u1 59, u1 60, u1 61, u1 62, u1 63, u1 64, u1 65, u1 66, u1 67, u1 68, u1 69, u1 70, u1 71, u1 72, u1 73, u1 74, u1 75, u1 76, u1 77, u1 78, u1 79, u1 80, u1 81, u1 82, u1 83, u1 84, u1 85, u1 86, undef], []⟩ ∧ Mm none S w w' [.see (Rn nMf 5 MfN l lv1 lv0) Fl, .see (MfR m mv0 mv1 mv2) Fm, .blk g4 #[.string (tx m.name), .string (tx m.version), mv0, mv1, mv2] 37, .see (Rs eS 1 l8 v9) F10, .see (Rs eS 1 l34 v35) F36]) ⟨((((l.getD x12 dMf).needs).length - 0) + 1), l8, 0, v9, F39, (fun qq => bif Nat.blt qq 24 then List.getD [u0 1, u0 8, u0 9, u0 10, u0 11, u0 12, u0 13, u0 14, u0 15, u0 16, u0 17, u0 18, u0 19, u0 20, u0 21, u0 22, u0 23, u0 24, u0 25, u0 26, u0 27, u0 28, u0 29, u0 30] qq undef else bif Nat.blt qq 48 then List.getD [u0 31, u0 32, u0 33, u0 34, u0 35, u0 36, u0 37, u0 38, u0 39, u0 40, u0 41, u0 42, u0 43, u0 44, u0 45, u0 46, u0 47, u0 48, u0 49, u0 50, u0 51, u0 52, u0 53, u0 54] (qq - 24) undef else bif Nat.blt qq 72 then List.getD [u0 55, u0 56, u0 57, u0 58, u0 59, u0 60, u0 61, u0 62, u0 63, u0 64, u0 65, u0 66, u0 67, u0 68, u0 69, u0 70, u0 71, u0 72, u0 73, u0 74, u0 75, u0 76, u0 77, u0 78] (qq - 48) undef else List.getD [u0 79, u0 80, u0 81, u0 82, u0 83, u0 84, u0 85, u0 86, u0 87, u0 88, u0 89, u0 90, u0 91, u0 92, u0 93] (qq - 72) undef), rfl, Nat.lt_succ_self _, rfl, (by have hqn := (okl_at hp1 x12).1; exact ⟨by omega, Nat.zero_le _, hqn⟩), rfl, hm40⟩ ?_
      rintro n42 _ w50 ⟨_, l34, x38, v35, F36, u1, rfl, hl54, hi44, hrk, rfl, hm51⟩ R52 hR52
      obtain ⟨k43, rfl⟩ : ∃ k, n42 = k + 1 := ⟨n42 - 1, by omega⟩
      refine wp_seq_k (fun K55 hK55 => ?_)
      refine wp_seq_k (fun K56 hK56 => ?_)
      refine wp_region_lit ?_
      refine lvw 15 (.int .i64 ((x38 : Nat) : Int)) rfl rfl (run_mv rfl rfl) ?_
      simp only [nz1, nz2, nz3]
      refine lvw 16 (lv0) rfl rfl (run_mv rfl rfl) ?_
      simp only [nz1, nz2, nz3]
      refine lvw 17 (.int .i64 ((x12 : Nat) : Int)) rfl rfl (run_mv rfl rfl) ?_
      simp only [nz1, nz2, nz3]
      refine lvw 18 (.pointer (some ⟨(bk lv0), (po lv0 + x12 * 5), none⟩)) rfl rfl (r_ixv ((hm51.see 0 rfl)).rd x12 (by omega) Tryd.underlying22 sz_37 rfl rfl rfl) ?_
      simp only [nz1, nz2, nz3]
      refine lvw 19 (.pointer (some ⟨(bk lv0), ((po lv0 + x12 * 5) + 2), none⟩)) rfl rfl (r_fa37_2 (bk lv0) (po lv0 + x12 * 5) rfl rfl) ?_
      simp only [nz1, nz2, nz3]
      refine lvw 20 ((lv1.getD x12 ((Value.slice none 0 0), (Value.slice none 0 0), (Value.slice none 0 0))).1) rfl rfl (r_cellw (Rn.cell ((hm51.see 0 rfl)) nMf_len dMf ((Value.slice none 0 0), (Value.slice none 0 0), (Value.slice none 0 0)) x12 (by omega) 2 _ rfl) Tryd.underlying28 rfl rfl rfl) ?_
      simp only [nz1, nz2, nz3]
      refine lvw 21 (.int .i64 ((((l.getD x12 dMf).needs).length : Nat) : Int)) rfl rfl (s_len ((Rn.el ((hm51.see 0 rfl)) dMf ((Value.slice none 0 0), (Value.slice none 0 0), (Value.slice none 0 0)) x12 (by omega)).1) rfl Tryd.underlying28 rfl) ?_
      simp only [nz1, nz2, nz3]
      refine lvw 22 (.bool (decide (x38 < ((l.getD x12 dMf).needs).length))) rfl rfl (r_lss x38 (((l.getD x12 dMf).needs).length) rfl rfl rfl) ?_
      simp only [nz1, nz2, nz3]
      refine wpList_nil ?_
      refine then_n (hK56 _ _ ?_)
      refine cond_d (x38 < ((l.getD x12 dMf).needs).length) rfl (fun hc57 => ?_) (fun hc57 => ?_)
      rotate_left
      · refine wp_exit ?_
        refine then_x ?_
        refine then_x ?_
        refine blk_x ?_
        refine then_n ?_
        obtain ⟨F203, hm204⟩ : ∃ F203, Mm none S w w50 [.see (Rn nMf 5 MfN l lv1 lv0) Fl, .see (MfR m mv0 mv1 mv2) Fm, .blk g4 #[.string (tx m.name), .string (tx m.version), mv0, mv1, mv2] 37, .see (Rs eS 1 l8 v9) F10, .see (Rs eS 1 l34 v35) F36, .see (Rs eS 1 l34 v35) F203] := hm51.derive (hm51.from 4 rfl)
        exact ⟨l34, x38, v35, F203, (fun qq => bif Nat.blt qq 24 then List.getD [u1 0, .int .i64 ((x38 : Nat) : Int), lv0, .int .i64 ((x12 : Nat) : Int), .pointer (some ⟨(bk lv0), (po lv0 + x12 * 5), none⟩), .pointer (some ⟨(bk lv0), ((po lv0 + x12 * 5) + 2), none⟩), (lv1.getD x12 ((Value.slice none 0 0), (Value.slice none 0 0), (Value.slice none 0 0))).1, .int .i64 ((((l.getD x12 dMf).needs).length : Nat) : Int), .bool (decide (x38 < ((l.getD x12 dMf).needs).length)), u1 9, u1 10, u1 11, u1 12, u1 13, u1 14, u1 15, u1 16, u1 17, u1 18, u1 19, u1 20, u1 21, u1 22, u1 23] qq undef else bif Nat.blt qq 48 then List.getD [u1 24, u1 25, u1 26, u1 27, u1 28, u1 29, u1 30, u1 31, u1 32, u1 33, u1 34, u1 35, u1 36, u1 37, u1 38, u1 39, u1 40, u1 41, u1 42, u1 43, u1 44, u1 45, u1 46, u1 47] (qq - 24) undef else bif Nat.blt qq 72 then List.getD [u1 48, u1 49, u1 50, u1 51, u1 52, u1 53, u1 54, u1 55, u1 56, u1 57, u1 58, u1 59, u1 60, u1 61, u1 62, u1 63, u1 64, u1 65, u1 66, u1 67, u1 68, u1 69, u1 70, u1 71] (qq - 48) undef else List.getD [u1 72, u1 73, u1 74, u1 75, u1 76, u1 77, u1 78, u1 79, u1 80, u1 81, u1 82, u1 83, u1 84, u1 85, u1 86] (qq - 72) undef), (hi44.trans (show rusers_m_b1 l m l8 x12 (rusers_m_l1 l m l8 x12 k43) l34 x38 = .inl (l34, x38) from by unfold rusers_m_b1; rw [if_neg hc57] <;> rfl)), (by first | omega | (simp; done) | (simp; omega) | (simp at *; omega)), rfl, (Mm.reorder hm204 [0, 1, 2, 3, 5] (by decide) rfl)⟩
      refine wp_skip ?_
      refine then_n (hK55 _ _ ?_)
      refine wp_seq_k (fun K58 hK58 => ?_)
      refine wp_block ?_
      refine wp_seq_k (fun K59 hK59 => ?_)
      refine wp_seq_k (fun K60 hK60 => ?_)
      have hm61 := hm51.drew
      refine wp_region_held_drew (S := fun w' => Mem.Blk w' g4 (#[.string (tx m.name), .string (tx m.version), mv0, mv1, mv2]) 37 ∧ Rn nMf 5 MfN l lv1 lv0 w') (by kernel_rfl) (⟨hm61.at 2 rfl, ((hm61.see 0 rfl))⟩) (fun _ => ?_)
      generalize w50.drew = w62 at *
      refine tk 0 25 (lv0) rfl rfl (fun _ hw => run_mv rfl rfl) (⟨hm61.at 2 rfl, ((hm61.see 0 rfl))⟩) ?_
      simp only [nz1, nz2, nz3]
      refine tk 1 26 (.int .i64 ((x12 : Nat) : Int)) rfl rfl (fun _ hw => run_mv rfl rfl) (⟨hm61.at 2 rfl, ((hm61.see 0 rfl))⟩) ?_
      simp only [nz1, nz2, nz3]
      refine tk 2 27 (.pointer (some ⟨(bk lv0), (po lv0 + x12 * 5), none⟩)) rfl rfl (fun _ hw => r_ixv ((hm61.see 0 rfl)).rd x12 (by omega) Tryd.underlying22 sz_37 rfl rfl rfl) (⟨hm61.at 2 rfl, ((hm61.see 0 rfl))⟩) ?_
      simp only [nz1, nz2, nz3]
      refine tk 3 28 (.pointer (some ⟨(bk lv0), ((po lv0 + x12 * 5) + 2), none⟩)) rfl rfl (fun _ hw => r_fa37_2 (bk lv0) (po lv0 + x12 * 5) rfl rfl) (⟨hm61.at 2 rfl, ((hm61.see 0 rfl))⟩) ?_
      simp only [nz1, nz2, nz3]
      refine tk 4 29 ((lv1.getD x12 ((Value.slice none 0 0), (Value.slice none 0 0), (Value.slice none 0 0))).1) rfl rfl (fun _ hw => r_cellw (Rn.cell hw.2 nMf_len dMf ((Value.slice none 0 0), (Value.slice none 0 0), (Value.slice none 0 0)) x12 (by omega) 2 _ rfl) Tryd.underlying28 rfl rfl rfl) (⟨hm61.at 2 rfl, ((hm61.see 0 rfl))⟩) ?_
      simp only [nz1, nz2, nz3]
      refine tk 5 30 (.int .i64 ((x38 : Nat) : Int)) rfl rfl (fun _ hw => run_mv rfl rfl) (⟨hm61.at 2 rfl, ((hm61.see 0 rfl))⟩) ?_
      simp only [nz1, nz2, nz3]
      refine tk 6 31 (.pointer (some ⟨(bk ((lv1.getD x12 ((Value.slice none 0 0), (Value.slice none 0 0), (Value.slice none 0 0))).1)), (po ((lv1.getD x12 ((Value.slice none 0 0), (Value.slice none 0 0), (Value.slice none 0 0))).1) + x38 * 3), none⟩)) rfl rfl (fun _ hw => r_ixv ((Rn.el ((hm61.see 0 rfl)) dMf ((Value.slice none 0 0), (Value.slice none 0 0), (Value.slice none 0 0)) x12 (by omega)).1) x38 (by omega) Tryd.underlying28 sz_24 rfl rfl rfl) (⟨hm61.at 2 rfl, ((hm61.see 0 rfl))⟩) ?_
      simp only [nz1, nz2, nz3]
      refine tk 7 32 (.pointer (some ⟨(bk ((lv1.getD x12 ((Value.slice none 0 0), (Value.slice none 0 0), (Value.slice none 0 0))).1)), ((po ((lv1.getD x12 ((Value.slice none 0 0), (Value.slice none 0 0), (Value.slice none 0 0))).1) + x38 * 3) + 0), none⟩)) rfl rfl (fun _ hw => r_fa24_0 (bk ((lv1.getD x12 ((Value.slice none 0 0), (Value.slice none 0 0), (Value.slice none 0 0))).1)) (po ((lv1.getD x12 ((Value.slice none 0 0), (Value.slice none 0 0), (Value.slice none 0 0))).1) + x38 * 3) rfl rfl) (⟨hm61.at 2 rfl, ((hm61.see 0 rfl))⟩) ?_
      simp only [nz1, nz2, nz3]
      refine tk 8 33 (.string (tx ((((l.getD x12 dMf).needs).getD x38 dRul).name))) rfl rfl (fun _ hw => r_cellw (Rs.cell ((Rn.el hw.2 dMf ((Value.slice none 0 0), (Value.slice none 0 0), (Value.slice none 0 0)) x12 (by omega)).1) eRul_len dRul x38 (by omega) 0 _ rfl) Tryd.underlying9 rfl rfl rfl) (⟨hm61.at 2 rfl, ((hm61.see 0 rfl))⟩) ?_
      simp only [nz1, nz2, nz3]
      refine tk 9 34 (.pointer (some ⟨g4, 0, none⟩)) rfl rfl (fun _ hw => r_fa37_0 g4 0 rfl rfl) (⟨hm61.at 2 rfl, ((hm61.see 0 rfl))⟩) ?_
      simp only [nz1, nz2, nz3]
      refine tk 10 35 (.string (tx m.name)) rfl rfl (fun _ hw => r_load hw.1 rfl Tryd.underlying9 rfl rfl rfl) (⟨hm61.at 2 rfl, ((hm61.see 0 rfl))⟩) ?_
      simp only [nz1, nz2, nz3]
      refine tkb 11 36 (¬ (((l.getD x12 dMf).needs).getD x38 dRul).name = m.name) rfl rfl rfl (fun _ hw => t_neq ((((l.getD x12 dMf).needs).getD x38 dRul).name) m.name rfl rfl rfl) (⟨hm61.at 2 rfl, ((hm61.see 0 rfl))⟩) (fun hs63 => ?_) (fun hs63 => ?_)
      · simp only [nz1, nz2, nz3]
        refine tk 12 37 (.bool true) rfl rfl (fun _ hw => run_mv rfl rfl) (⟨hm61.at 2 rfl, ((hm61.see 0 rfl))⟩) ?_
        simp only [nz1, nz2, nz3]
        refine skx 13 38 rfl rfl rfl (⟨hm61.at 2 rfl, ((hm61.see 0 rfl))⟩) ?_
        simp only [nz1, nz2, nz3]
        refine skx 14 39 rfl rfl rfl (⟨hm61.at 2 rfl, ((hm61.see 0 rfl))⟩) ?_
        simp only [nz1, nz2, nz3]
        refine skx 15 40 rfl rfl rfl (⟨hm61.at 2 rfl, ((hm61.see 0 rfl))⟩) ?_
        simp only [nz1, nz2, nz3]
        refine skx 16 41 rfl rfl rfl (⟨hm61.at 2 rfl, ((hm61.see 0 rfl))⟩) ?_
        simp only [nz1, nz2, nz3]
        refine skx 17 42 rfl rfl rfl (⟨hm61.at 2 rfl, ((hm61.see 0 rfl))⟩) ?_
        simp only [nz1, nz2, nz3]
        refine skx 18 43 rfl rfl rfl (⟨hm61.at 2 rfl, ((hm61.see 0 rfl))⟩) ?_
        simp only [nz1, nz2, nz3]
        refine skx 19 44 rfl rfl rfl (⟨hm61.at 2 rfl, ((hm61.see 0 rfl))⟩) ?_
        simp only [nz1, nz2, nz3]
        refine skx 20 45 rfl rfl rfl (⟨hm61.at 2 rfl, ((hm61.see 0 rfl))⟩) ?_
        simp only [nz1, nz2, nz3]
        refine skx 21 46 rfl rfl rfl (⟨hm61.at 2 rfl, ((hm61.see 0 rfl))⟩) ?_
        simp only [nz1, nz2, nz3]
        refine skx 22 47 rfl rfl rfl (⟨hm61.at 2 rfl, ((hm61.see 0 rfl))⟩) ?_
        simp only [nz1, nz2, nz3]
        refine skx 23 48 rfl rfl rfl (⟨hm61.at 2 rfl, ((hm61.see 0 rfl))⟩) ?_
        simp only [nz1, nz2, nz3]
        refine skx 24 49 rfl rfl rfl (⟨hm61.at 2 rfl, ((hm61.see 0 rfl))⟩) ?_
        simp only [nz1, nz2, nz3]
        refine tk 25 50 (.bool true) rfl rfl (fun _ hw => run_pick rfl rfl rfl) (⟨hm61.at 2 rfl, ((hm61.see 0 rfl))⟩) ?_
        simp only [nz1, nz2, nz3]
        refine wpAnyH_done (by kernel_rfl) ?_ _
        refine then_n (hK60 _ _ ?_)
        refine cond_t rfl ?_
        refine wp_exit ?_
        refine then_x ?_
        refine blk_x ?_
        refine then_n (hK58 _ _ ?_)
        refine wp_region_lit ?_
        refine lvw 23 (.int .i64 ((x38 : Nat) : Int)) rfl rfl (run_mv rfl rfl) ?_
        simp only [nz1, nz2, nz3]
        refine lvw 24 (.int .i64 (((x38 + 1) : Nat) : Int)) rfl rfl (r_add x38 1 (show (x38 + 1) < 9223372036854775808 from by omega) rfl rfl rfl) ?_
        simp only [nz1, nz2, nz3]
        refine lvw 7 (.int .i64 (((x38 + 1) : Nat) : Int)) rfl rfl (run_as rfl rfl) ?_
        simp only [nz1, nz2, nz3]
        refine wpList_nil ?_
        obtain ⟨F64, hm65⟩ : ∃ F64, Mm none S w w62 [.see (Rn nMf 5 MfN l lv1 lv0) Fl, .see (MfR m mv0 mv1 mv2) Fm, .blk g4 #[.string (tx m.name), .string (tx m.version), mv0, mv1, mv2] 37, .see (Rs eS 1 l8 v9) F10, .see (Rs eS 1 l34 v35) F36, .see (Rs eS 1 l34 v35) F64] := hm61.derive (hm61.from 4 rfl)
        refine then_n (hR52 _ _ _ ⟨k43, l34, (x38 + 1), v35, F64, (fun qq => bif Nat.blt qq 24 then List.getD [u1 0, .int .i64 ((x38 : Nat) : Int), lv0, .int .i64 ((x12 : Nat) : Int), .pointer (some ⟨(bk lv0), (po lv0 + x12 * 5), none⟩), .pointer (some ⟨(bk lv0), ((po lv0 + x12 * 5) + 2), none⟩), (lv1.getD x12 ((Value.slice none 0 0), (Value.slice none 0 0), (Value.slice none 0 0))).1, .int .i64 ((((l.getD x12 dMf).needs).length : Nat) : Int), .bool (decide (x38 < ((l.getD x12 dMf).needs).length)), .int .i64 ((x38 : Nat) : Int), .int .i64 (((x38 + 1) : Nat) : Int), lv0, .int .i64 ((x12 : Nat) : Int), .pointer (some ⟨(bk lv0), (po lv0 + x12 * 5), none⟩), .pointer (some ⟨(bk lv0), ((po lv0 + x12 * 5) + 2), none⟩), (lv1.getD x12 ((Value.slice none 0 0), (Value.slice none 0 0), (Value.slice none 0 0))).1, .int .i64 ((x38 : Nat) : Int), .pointer (some ⟨(bk ((lv1.getD x12 ((Value.slice none 0 0), (Value.slice none 0 0), (Value.slice none 0 0))).1)), (po ((lv1.getD x12 ((Value.slice none 0 0), (Value.slice none 0 0), (Value.slice none 0 0))).1) + x38 * 3), none⟩), .pointer (some ⟨(bk ((lv1.getD x12 ((Value.slice none 0 0), (Value.slice none 0 0), (Value.slice none 0 0))).1)), ((po ((lv1.getD x12 ((Value.slice none 0 0), (Value.slice none 0 0), (Value.slice none 0 0))).1) + x38 * 3) + 0), none⟩), .string (tx ((((l.getD x12 dMf).needs).getD x38 dRul).name)), .pointer (some ⟨g4, 0, none⟩), .string (tx m.name), .bool true, .bool true] qq undef else bif Nat.blt qq 48 then List.getD [undef, undef, undef, undef, undef, undef, undef, undef, undef, undef, undef, undef, .bool true, u1 37, u1 38, u1 39, u1 40, u1 41, u1 42, u1 43, u1 44, u1 45, u1 46, u1 47] (qq - 24) undef else bif Nat.blt qq 72 then List.getD [u1 48, u1 49, u1 50, u1 51, u1 52, u1 53, u1 54, u1 55, u1 56, u1 57, u1 58, u1 59, u1 60, u1 61, u1 62, u1 63, u1 64, u1 65, u1 66, u1 67, u1 68, u1 69, u1 70, u1 71] (qq - 48) undef else List.getD [u1 72, u1 73, u1 74, u1 75, u1 76, u1 77, u1 78, u1 79, u1 80, u1 81, u1 82, u1 83, u1 84, u1 85, u1 86] (qq - 72) undef), rfl, (by first | omega | (simp; omega) | (simp at *; omega)), (hi44.trans (show rusers_m_b1 l m l8 x12 (rusers_m_l1 l m l8 x12 k43) l34 x38 = rusers_m_l1 l m l8 x12 k43 (l34, (x38 + 1)) from by unfold rusers_m_b1; rw [if_pos hc57, if_pos hs63] <;> rfl)), (by (try simp only [List.length_append, List.length_take, List.length_drop, List.length_cons, List.length_nil]); omega), rfl, (Mm.reorder hm65 [0, 1, 2, 3, 5] (by decide) rfl)⟩ ?_)
        omega
      simp only [nz1, nz2, nz3]
      refine tk 12 37 (.bool false) rfl rfl (fun _ hw => run_mv rfl rfl) (⟨hm61.at 2 rfl, ((hm61.see 0 rfl))⟩) ?_
      simp only [nz1, nz2, nz3]
      refine Sym.take_at 13 38 (lv0) rfl rfl (by kernel_rfl) (by kernel_rfl) (by kernel_rfl) (fun _ _ _ h => h) rfl (fun _ hw => run_mv rfl rfl) (⟨hm61.at 2 rfl, ((hm61.see 0 rfl))⟩) ?_
      simp only [nz1, nz2, nz3]
      refine Sym.take_at 14 39 (.int .i64 ((x12 : Nat) : Int)) rfl rfl (by kernel_rfl) (by kernel_rfl) (by kernel_rfl) (fun _ _ _ h => h) rfl (fun _ hw => run_mv rfl rfl) (⟨hm61.at 2 rfl, ((hm61.see 0 rfl))⟩) ?_
      simp only [nz1, nz2, nz3]
      refine Sym.take_at 15 40 (.pointer (some ⟨(bk lv0), (po lv0 + x12 * 5), none⟩)) rfl rfl (by kernel_rfl) (by kernel_rfl) (by kernel_rfl) (fun _ _ _ h => h) rfl (fun _ hw => r_ixv ((hm61.see 0 rfl)).rd x12 (by omega) Tryd.underlying22 sz_37 rfl rfl rfl) (⟨hm61.at 2 rfl, ((hm61.see 0 rfl))⟩) ?_
      simp only [nz1, nz2, nz3]
      refine Sym.take_at 16 41 (.pointer (some ⟨(bk lv0), ((po lv0 + x12 * 5) + 2), none⟩)) rfl rfl (by kernel_rfl) (by kernel_rfl) (by kernel_rfl) (fun _ _ _ h => h) rfl (fun _ hw => r_fa37_2 (bk lv0) (po lv0 + x12 * 5) rfl rfl) (⟨hm61.at 2 rfl, ((hm61.see 0 rfl))⟩) ?_
      simp only [nz1, nz2, nz3]
      refine Sym.take_at 17 42 ((lv1.getD x12 ((Value.slice none 0 0), (Value.slice none 0 0), (Value.slice none 0 0))).1) rfl rfl (by kernel_rfl) (by kernel_rfl) (by kernel_rfl) (fun _ _ _ h => h) rfl (fun _ hw => r_cellw (Rn.cell hw.2 nMf_len dMf ((Value.slice none 0 0), (Value.slice none 0 0), (Value.slice none 0 0)) x12 (by omega) 2 _ rfl) Tryd.underlying28 rfl rfl rfl) (⟨hm61.at 2 rfl, ((hm61.see 0 rfl))⟩) ?_
      simp only [nz1, nz2, nz3]
      refine Sym.take_at 18 43 (.int .i64 ((x38 : Nat) : Int)) rfl rfl (by kernel_rfl) (by kernel_rfl) (by kernel_rfl) (fun _ _ _ h => h) rfl (fun _ hw => run_mv rfl rfl) (⟨hm61.at 2 rfl, ((hm61.see 0 rfl))⟩) ?_
      simp only [nz1, nz2, nz3]
      refine Sym.take_at 19 44 (.pointer (some ⟨(bk ((lv1.getD x12 ((Value.slice none 0 0), (Value.slice none 0 0), (Value.slice none 0 0))).1)), (po ((lv1.getD x12 ((Value.slice none 0 0), (Value.slice none 0 0), (Value.slice none 0 0))).1) + x38 * 3), none⟩)) rfl rfl (by kernel_rfl) (by kernel_rfl) (by kernel_rfl) (fun _ _ _ h => h) rfl (fun _ hw => r_ixv ((Rn.el ((hm61.see 0 rfl)) dMf ((Value.slice none 0 0), (Value.slice none 0 0), (Value.slice none 0 0)) x12 (by omega)).1) x38 (by omega) Tryd.underlying28 sz_24 rfl rfl rfl) (⟨hm61.at 2 rfl, ((hm61.see 0 rfl))⟩) ?_
      simp only [nz1, nz2, nz3]
      refine Sym.take_at 20 45 (.agg #[.string (tx ((((l.getD x12 dMf).needs).getD x38 dRul).name)), .int .i64 ((((l.getD x12 dMf).needs).getD x38 dRul).op), .string (tx ((((l.getD x12 dMf).needs).getD x38 dRul).version))]) rfl rfl (by kernel_rfl) (by kernel_rfl) (by kernel_rfl) (fun _ _ _ h => h) rfl (fun _ hw => r_partw (fun j u hj => Rs.cell ((Rn.el hw.2 dMf ((Value.slice none 0 0), (Value.slice none 0 0), (Value.slice none 0 0)) x12 (by omega)).1) eRul_len dRul x38 (by omega) j u (arr_get hj)) Tryd.underlying24 rfl (by exact sz_24) rfl rfl) (⟨hm61.at 2 rfl, ((hm61.see 0 rfl))⟩) ?_
      simp only [nz1, nz2, nz3]
      refine Sym.take_at 21 46 (.pointer (some ⟨g4, 1, none⟩)) rfl rfl (by kernel_rfl) (by kernel_rfl) (by kernel_rfl) (fun _ _ _ h => h) rfl (fun _ hw => r_fa37_1 g4 0 rfl rfl) (⟨hm61.at 2 rfl, ((hm61.see 0 rfl))⟩) ?_
      simp only [nz1, nz2, nz3]
      refine Sym.take_at 22 47 (.string (tx m.version)) rfl rfl (by kernel_rfl) (by kernel_rfl) (by kernel_rfl) (fun _ _ _ h => h) rfl (fun _ hw => r_load hw.1 rfl Tryd.underlying9 rfl rfl rfl) (⟨hm61.at 2 rfl, ((hm61.see 0 rfl))⟩) ?_
      simp only [nz1, nz2, nz3]
      refine one_ready 23 (by kernel_rfl) ?_
      refine opd rfl rfl (m_call hm61 48 (.bool ((rholds_m (((l.getD x12 dMf).needs).getD x38 dRul) m.version))) rfl (run_rholds rfl rfl rfl) (rholds_any (((l.getD x12 dMf).needs).getD x38 dRul) m.version  _  ) (fun w67 (hm68 : Mm none S w w67 [.see (Rn nMf 5 MfN l lv1 lv0) Fl, .see (MfR m mv0 mv1 mv2) Fm, .blk g4 #[.string (tx m.name), .string (tx m.version), mv0, mv1, mv2] 37, .see (Rs eS 1 l8 v9) F10, .see (Rs eS 1 l34 v35) F36]) => ?_))
      refine ⟨⟨hm68.at 2 rfl, ((hm68.see 0 rfl))⟩, ?_⟩
      simp only [nz1, nz2, nz3]
      refine Sym.take_at 24 49 (.bool (!(rholds_m (((l.getD x12 dMf).needs).getD x38 dRul) m.version))) rfl rfl (by kernel_rfl) (by kernel_rfl) (by kernel_rfl) (fun _ _ _ h => h) rfl (fun _ hw => r_not (rholds_m (((l.getD x12 dMf).needs).getD x38 dRul) m.version) rfl rfl) (⟨hm68.at 2 rfl, ((hm68.see 0 rfl))⟩) ?_
      simp only [nz1, nz2, nz3]
      refine tk 25 50 (.bool (!(rholds_m (((l.getD x12 dMf).needs).getD x38 dRul) m.version))) rfl rfl (fun _ hw => run_pickf rfl rfl rfl) (⟨hm68.at 2 rfl, ((hm68.see 0 rfl))⟩) ?_
      simp only [nz1, nz2, nz3]
      refine wpAnyH_done (by kernel_rfl) ?_ _
      refine then_n (hK60 _ _ ?_)
      refine cond_B (!(rholds_m (((l.getD x12 dMf).needs).getD x38 dRul) m.version)) rfl (fun hc69 => ?_) (fun hc69 => ?_)
      · refine wp_exit ?_
        refine then_x ?_
        refine blk_x ?_
        refine then_n (hK58 _ _ ?_)
        refine wp_region_lit ?_
        refine lvw 23 (.int .i64 ((x38 : Nat) : Int)) rfl rfl (run_mv rfl rfl) ?_
        simp only [nz1, nz2, nz3]
        refine lvw 24 (.int .i64 (((x38 + 1) : Nat) : Int)) rfl rfl (r_add x38 1 (show (x38 + 1) < 9223372036854775808 from by omega) rfl rfl rfl) ?_
        simp only [nz1, nz2, nz3]
        refine lvw 7 (.int .i64 (((x38 + 1) : Nat) : Int)) rfl rfl (run_as rfl rfl) ?_
        simp only [nz1, nz2, nz3]
        refine wpList_nil ?_
        obtain ⟨F70, hm71⟩ : ∃ F70, Mm none S w w67 [.see (Rn nMf 5 MfN l lv1 lv0) Fl, .see (MfR m mv0 mv1 mv2) Fm, .blk g4 #[.string (tx m.name), .string (tx m.version), mv0, mv1, mv2] 37, .see (Rs eS 1 l8 v9) F10, .see (Rs eS 1 l34 v35) F36, .see (Rs eS 1 l34 v35) F70] := hm68.derive (hm68.from 4 rfl)
        refine then_n (hR52 _ _ _ ⟨k43, l34, (x38 + 1), v35, F70, (fun qq => bif Nat.blt qq 24 then List.getD [u1 0, .int .i64 ((x38 : Nat) : Int), lv0, .int .i64 ((x12 : Nat) : Int), .pointer (some ⟨(bk lv0), (po lv0 + x12 * 5), none⟩), .pointer (some ⟨(bk lv0), ((po lv0 + x12 * 5) + 2), none⟩), (lv1.getD x12 ((Value.slice none 0 0), (Value.slice none 0 0), (Value.slice none 0 0))).1, .int .i64 ((((l.getD x12 dMf).needs).length : Nat) : Int), .bool (decide (x38 < ((l.getD x12 dMf).needs).length)), .int .i64 ((x38 : Nat) : Int), .int .i64 (((x38 + 1) : Nat) : Int), lv0, .int .i64 ((x12 : Nat) : Int), .pointer (some ⟨(bk lv0), (po lv0 + x12 * 5), none⟩), .pointer (some ⟨(bk lv0), ((po lv0 + x12 * 5) + 2), none⟩), (lv1.getD x12 ((Value.slice none 0 0), (Value.slice none 0 0), (Value.slice none 0 0))).1, .int .i64 ((x38 : Nat) : Int), .pointer (some ⟨(bk ((lv1.getD x12 ((Value.slice none 0 0), (Value.slice none 0 0), (Value.slice none 0 0))).1)), (po ((lv1.getD x12 ((Value.slice none 0 0), (Value.slice none 0 0), (Value.slice none 0 0))).1) + x38 * 3), none⟩), .pointer (some ⟨(bk ((lv1.getD x12 ((Value.slice none 0 0), (Value.slice none 0 0), (Value.slice none 0 0))).1)), ((po ((lv1.getD x12 ((Value.slice none 0 0), (Value.slice none 0 0), (Value.slice none 0 0))).1) + x38 * 3) + 0), none⟩), .string (tx ((((l.getD x12 dMf).needs).getD x38 dRul).name)), .pointer (some ⟨g4, 0, none⟩), .string (tx m.name), .bool false, .bool false] qq undef else bif Nat.blt qq 48 then List.getD [lv0, .int .i64 ((x12 : Nat) : Int), .pointer (some ⟨(bk lv0), (po lv0 + x12 * 5), none⟩), .pointer (some ⟨(bk lv0), ((po lv0 + x12 * 5) + 2), none⟩), (lv1.getD x12 ((Value.slice none 0 0), (Value.slice none 0 0), (Value.slice none 0 0))).1, .int .i64 ((x38 : Nat) : Int), .pointer (some ⟨(bk ((lv1.getD x12 ((Value.slice none 0 0), (Value.slice none 0 0), (Value.slice none 0 0))).1)), (po ((lv1.getD x12 ((Value.slice none 0 0), (Value.slice none 0 0), (Value.slice none 0 0))).1) + x38 * 3), none⟩), .agg #[.string (tx ((((l.getD x12 dMf).needs).getD x38 dRul).name)), .int .i64 ((((l.getD x12 dMf).needs).getD x38 dRul).op), .string (tx ((((l.getD x12 dMf).needs).getD x38 dRul).version))], .pointer (some ⟨g4, 1, none⟩), .string (tx m.version), .bool ((rholds_m (((l.getD x12 dMf).needs).getD x38 dRul) m.version)), .bool (!(rholds_m (((l.getD x12 dMf).needs).getD x38 dRul) m.version)), .bool (!(rholds_m (((l.getD x12 dMf).needs).getD x38 dRul) m.version)), u1 37, u1 38, u1 39, u1 40, u1 41, u1 42, u1 43, u1 44, u1 45, u1 46, u1 47] (qq - 24) undef else bif Nat.blt qq 72 then List.getD [u1 48, u1 49, u1 50, u1 51, u1 52, u1 53, u1 54, u1 55, u1 56, u1 57, u1 58, u1 59, u1 60, u1 61, u1 62, u1 63, u1 64, u1 65, u1 66, u1 67, u1 68, u1 69, u1 70, u1 71] (qq - 48) undef else List.getD [u1 72, u1 73, u1 74, u1 75, u1 76, u1 77, u1 78, u1 79, u1 80, u1 81, u1 82, u1 83, u1 84, u1 85, u1 86] (qq - 72) undef), rfl, (by first | omega | (simp; omega) | (simp at *; omega)), (hi44.trans (show rusers_m_b1 l m l8 x12 (rusers_m_l1 l m l8 x12 k43) l34 x38 = rusers_m_l1 l m l8 x12 k43 (l34, (x38 + 1)) from by unfold rusers_m_b1; rw [if_pos hc57, if_neg hs63, if_pos hc69] <;> rfl)), (by (try simp only [List.length_append, List.length_take, List.length_drop, List.length_cons, List.length_nil]); omega), rfl, (Mm.reorder hm71 [0, 1, 2, 3, 5] (by decide) rfl)⟩ ?_)
        omega
      refine wp_skip ?_
      refine then_n (hK59 _ _ ?_)
      refine wp_seq_k (fun K73 hK73 => ?_)
      refine wp_region_lit ?_
      refine lvw 8 (.int .i64 0) rfl rfl (run_as rfl rfl) ?_
      simp only [nz1, nz2, nz3]
      refine wpList_nil ?_
      refine then_n (hK73 _ _ ?_)
      refine wp_seq_k (fun K74 hK74 => ?_)
      refine wp_cutK (fun a' w' => ∃ (y79 : Nat) (yu2 : Nat → Value), rusers_m_l2 l m l8 x12 l34 x38 ((l34.length - 0) + 1) 0 = .inl y79 ∧ (y79 ≤ l34.length) ∧ a' = ⟨#[lv0, .agg #[.string (tx m.name), .string (tx m.version), mv0, mv1, mv2], undef, .pointer (some ⟨g4, 0, none⟩), .slice none 0 0, v35, .int .i64 ((x12 : Nat) : Int), .int .i64 ((x38 : Nat) : Int), .int .i64 ((y79 : Nat) : Int), .int .i64 ((x12 : Nat) : Int), lv0, .int .i64 ((l.length : Nat) : Int), .bool (decide (x12 < l.length)), u0 6, u0 7, .int .i64 ((x38 : Nat) : Int), lv0, .int .i64 ((x12 : Nat) : Int), .pointer (some ⟨(bk lv0), (po lv0 + x12 * 5), none⟩), .pointer (some ⟨(bk lv0), ((po lv0 + x12 * 5) + 2), none⟩), (lv1.getD x12 ((Value.slice none 0 0), (Value.slice none 0 0), (Value.slice none 0 0))).1, .int .i64 ((((l.getD x12 dMf).needs).length : Nat) : Int), .bool (decide (x38 < ((l.getD x12 dMf).needs).length)), u1 9, u1 10, lv0, .int .i64 ((x12 : Nat) : Int), .pointer (some ⟨(bk lv0), (po lv0 + x12 * 5), none⟩), .pointer (some ⟨(bk lv0), ((po lv0 + x12 * 5) + 2), none⟩), (lv1.getD x12 ((Value.slice none 0 0), (Value.slice none 0 0), (Value.slice none 0 0))).1, .int .i64 ((x38 : Nat) : Int), .pointer (some ⟨(bk ((lv1.getD x12 ((Value.slice none 0 0), (Value.slice none 0 0), (Value.slice none 0 0))).1)), (po ((lv1.getD x12 ((Value.slice none 0 0), (Value.slice none 0 0), (Value.slice none 0 0))).1) + x38 * 3), none⟩), .pointer (some ⟨(bk ((lv1.getD x12 ((Value.slice none 0 0), (Value.slice none 0 0), (Value.slice none 0 0))).1)), ((po ((lv1.getD x12 ((Value.slice none 0 0), (Value.slice none 0 0), (Value.slice none 0 0))).1) + x38 * 3) + 0), none⟩), .string (tx ((((l.getD x12 dMf).needs).getD x38 dRul).name)), .pointer (some ⟨g4, 0, none⟩), .string (tx m.name), .bool false, .bool false, lv0, .int .i64 ((x12 : Nat) : Int), .pointer (some ⟨(bk lv0), (po lv0 + x12 * 5), none⟩), .pointer (some ⟨(bk lv0), ((po lv0 + x12 * 5) + 2), none⟩), (lv1.getD x12 ((Value.slice none 0 0), (Value.slice none 0 0), (Value.slice none 0 0))).1, .int .i64 ((x38 : Nat) : Int), .pointer (some ⟨(bk ((lv1.getD x12 ((Value.slice none 0 0), (Value.slice none 0 0), (Value.slice none 0 0))).1)), (po ((lv1.getD x12 ((Value.slice none 0 0), (Value.slice none 0 0), (Value.slice none 0 0))).1) + x38 * 3), none⟩), .agg #[.string (tx ((((l.getD x12 dMf).needs).getD x38 dRul).name)), .int .i64 ((((l.getD x12 dMf).needs).getD x38 dRul).op), .string (tx ((((l.getD x12 dMf).needs).getD x38 dRul).version))], .pointer (some ⟨g4, 1, none⟩), .string (tx m.version), .bool ((rholds_m (((l.getD x12 dMf).needs).getD x38 dRul) m.version)), .bool (!(rholds_m (((l.getD x12 dMf).needs).getD x38 dRul) m.version)), .bool (!(rholds_m (((l.getD x12 dMf).needs).getD x38 dRul) m.version)), yu2 0, yu2 1, yu2 2, yu2 3, yu2 4, yu2 5, yu2 6, yu2 7, yu2 8, yu2 9, yu2 10, yu2 11, yu2 12, yu2 13, yu2 14, yu2 15, yu2 16, yu2 17, u1 55, u1 56, u1 57, u1 58, u1 59, u1 60, u1 61, u1 62, u1 63, u1 64, u1 65, u1 66, u1 67, u1 68, u1 69, u1 70, u1 71, u1 72, u1 73, u1 74, u1 75, u1 76, u1 77, u1 78, u1 79, u1 80, u1 81, u1 82, u1 83, u1 84, u1 85, u1 86, undef], []⟩ ∧ Mm none S w w' [.see (Rn nMf 5 MfN l lv1 lv0) Fl, .see (MfR m mv0 mv1 mv2) Fm, .blk g4 #[.string (tx m.name), .string (tx m.version), mv0, mv1, mv2] 37, .see (Rs eS 1 l8 v9) F10, .see (Rs eS 1 l34 v35) F36]) ?_ ?_
      · refine wp_block ?_
        refine wp_loop_n (fun n' a' w' => ∃ (n76 : Nat) (x75 : Nat) (u2 : Nat → Value), n' = n76 ∧ (l34.length - x75) < n76 ∧ rusers_m_l2 l m l8 x12 l34 x38 ((l34.length - 0) + 1) 0 = rusers_m_l2 l m l8 x12 l34 x38 n76 x75 ∧ (x75 ≤ l34.length) ∧ a' = ⟨#[lv0, .agg #[.string (tx m.name), .string (tx m.version), mv0, mv1, mv2], undef, .pointer (some ⟨g4, 0, none⟩), .slice none 0 0, v35, .int .i64 ((x12 : Nat) : Int), .int .i64 ((x38 : Nat) : Int), .int .i64 ((x75 : Nat) : Int), .int .i64 ((x12 : Nat) : Int), lv0, .int .i64 ((l.length : Nat) : Int), .bool (decide (x12 < l.length)), u0 6, u0 7, .int .i64 ((x38 : Nat) : Int), lv0, .int .i64 ((x12 : Nat) : Int), .pointer (some ⟨(bk lv0), (po lv0 + x12 * 5), none⟩), .pointer (some ⟨(bk lv0), ((po lv0 + x12 * 5) + 2), none⟩), (lv1.getD x12 ((Value.slice none 0 0), (Value.slice none 0 0), (Value.slice none 0 0))).1, .int .i64 ((((l.getD x12 dMf).needs).length : Nat) : Int), .bool (decide (x38 < ((l.getD x12 dMf).needs).length)), u1 9, u1 10, lv0, .int .i64 ((x12 : Nat) : Int), .pointer (some ⟨(bk lv0), (po lv0 + x12 * 5), none⟩), .pointer (some ⟨(bk lv0), ((po lv0 + x12 * 5) + 2), none⟩), (lv1.getD x12 ((Value.slice none 0 0), (Value.slice none 0 0), (Value.slice none 0 0))).1, .int .i64 ((x38 : Nat) : Int), .pointer (some ⟨(bk ((lv1.getD x12 ((Value.slice none 0 0), (Value.slice none 0 0), (Value.slice none 0 0))).1)), (po ((lv1.getD x12 ((Value.slice none 0 0), (Value.slice none 0 0), (Value.slice none 0 0))).1) + x38 * 3), none⟩), .pointer (some ⟨(bk ((lv1.getD x12 ((Value.slice none 0 0), (Value.slice none 0 0), (Value.slice none 0 0))).1)), ((po ((lv1.getD x12 ((Value.slice none 0 0), (Value.slice none 0 0), (Value.slice none 0 0))).1) + x38 * 3) + 0), none⟩), .string (tx ((((l.getD x12 dMf).needs).getD x38 dRul).name)), .pointer (some ⟨g4, 0, none⟩), .string (tx m.name), .bool false, .bool false, lv0, .int .i64 ((x12 : Nat) : Int), .pointer (some ⟨(bk lv0), (po lv0 + x12 * 5), none⟩), .pointer (some ⟨(bk lv0), ((po lv0 + x12 * 5) + 2), none⟩), (lv1.getD x12 ((Value.slice none 0 0), (Value.slice none 0 0), (Value.slice none 0 0))).1, .int .i64 ((x38 : Nat) : Int), .pointer (some ⟨(bk ((lv1.getD x12 ((Value.slice none 0 0), (Value.slice none 0 0), (Value.slice none 0 0))).1)), (po ((lv1.getD x12 ((Value.slice none 0 0), (Value.slice none 0 0), (Value.slice none 0 0))).1) + x38 * 3), none⟩), .agg #[.string (tx ((((l.getD x12 dMf).needs).getD x38 dRul).name)), .int .i64 ((((l.getD x12 dMf).needs).getD x38 dRul).op), .string (tx ((((l.getD x12 dMf).needs).getD x38 dRul).version))], .pointer (some ⟨g4, 1, none⟩), .string (tx m.version), .bool ((rholds_m (((l.getD x12 dMf).needs).getD x38 dRul) m.version)), .bool (!(rholds_m (((l.getD x12 dMf).needs).getD x38 dRul) m.version)), .bool (!(rholds_m (((l.getD x12 dMf).needs).getD x38 dRul) m.version)), u2 0, u2 1, u2 2, u2 3, u2 4, u2 5, u2 6, u2 7, u2 8, u2 9, u2 10, u2 11, u2 12, u2 13, u2 14, u2 15, u2 16, u2 17, u1 55, u1 56, u1 57, u1 58, u1 59, u1 60, u1 61, u1 62, u1 63, u1 64, u1 65, u1 66, u1 67, u1 68, u1 69, u1 70, u1 71, u1 72, u1 73, u1 74, u1 75, u1 76, u1 77, u1 78, u1 79, u1 80, u1 81, u1 82, u1 83, u1 84, u1 85, u1 86, undef], []⟩ ∧ Mm none S w w' [.see (Rn nMf 5 MfN l lv1 lv0) Fl, .see (MfR m mv0 mv1 mv2) Fm, .blk g4 #[.string (tx m.name), .string (tx m.version), mv0, mv1, mv2] 37, .see (Rs eS 1 l8 v9) F10, .see (Rs eS 1 l34 v35) F36]) ⟨((l34.length - 0) + 1), 0, (fun qq => List.getD [u1 37, u1 38, u1 39, u1 40, u1 41, u1 42, u1 43, u1 44, u1 45, u1 46, u1 47, u1 48, u1 49, u1 50, u1 51, u1 52, u1 53, u1 54] qq undef), rfl, Nat.lt_succ_self _, rfl, (by first | omega | (simp; done) | (simp; omega) | (simp at *; omega)), rfl, hm68⟩ ?_
        rintro n76 _ w81 ⟨_, x75, u2, rfl, hl85, hi78, hrj, rfl, hm82⟩ R83 hR83
        obtain ⟨k77, rfl⟩ : ∃ k, n76 = k + 1 := ⟨n76 - 1, by omega⟩
        refine wp_seq_k (fun K86 hK86 => ?_)
        refine wp_seq_k (fun K87 hK87 => ?_)
        have hm88 := hm82.drew
        refine wp_region_held_drew (S := fun w' => Rs eS 1 l34 v35 w' ∧ Rn nMf 5 MfN l lv1 lv0 w') (by kernel_rfl) (⟨((hm88.see 4 rfl)), ((hm88.see 0 rfl))⟩) (fun _ => ?_)
        generalize w81.drew = w89 at *
        refine tk 0 51 (.int .i64 ((x75 : Nat) : Int)) rfl rfl (fun _ hw => run_mv rfl rfl) (⟨((hm88.see 4 rfl)), ((hm88.see 0 rfl))⟩) ?_
        simp only [nz1, nz2, nz3]
        refine tk 1 52 (v35) rfl rfl (fun _ hw => run_mv rfl rfl) (⟨((hm88.see 4 rfl)), ((hm88.see 0 rfl))⟩) ?_
        simp only [nz1, nz2, nz3]
        refine tk 2 53 (.int .i64 ((l34.length : Nat) : Int)) rfl rfl (fun _ hw => s_len ((hm88.see 4 rfl)) rfl Tryd.underlying33 rfl) (⟨((hm88.see 4 rfl)), ((hm88.see 0 rfl))⟩) ?_
        simp only [nz1, nz2, nz3]
        refine tkb 3 54 (x75 < l34.length) rfl rfl rfl (fun _ hw => r_lss x75 l34.length rfl rfl rfl) (⟨((hm88.see 4 rfl)), ((hm88.see 0 rfl))⟩) (fun hs90 => ?_) (fun hs90 => ?_)
        rotate_left
        · simp only [nz1, nz2, nz3]
          refine tk 4 55 (.bool false) rfl rfl (fun _ hw => run_mv rfl rfl) (⟨((hm88.see 4 rfl)), ((hm88.see 0 rfl))⟩) ?_
          simp only [nz1, nz2, nz3]
          refine skx 5 56 rfl rfl rfl (⟨((hm88.see 4 rfl)), ((hm88.see 0 rfl))⟩) ?_
          simp only [nz1, nz2, nz3]
          refine skx 6 57 rfl rfl rfl (⟨((hm88.see 4 rfl)), ((hm88.see 0 rfl))⟩) ?_
          simp only [nz1, nz2, nz3]
          refine skx 7 58 rfl rfl rfl (⟨((hm88.see 4 rfl)), ((hm88.see 0 rfl))⟩) ?_
          simp only [nz1, nz2, nz3]
          refine skx 8 59 rfl rfl rfl (⟨((hm88.see 4 rfl)), ((hm88.see 0 rfl))⟩) ?_
          simp only [nz1, nz2, nz3]
          refine skx 9 60 rfl rfl rfl (⟨((hm88.see 4 rfl)), ((hm88.see 0 rfl))⟩) ?_
          simp only [nz1, nz2, nz3]
          refine skx 10 61 rfl rfl rfl (⟨((hm88.see 4 rfl)), ((hm88.see 0 rfl))⟩) ?_
          simp only [nz1, nz2, nz3]
          refine skx 11 62 rfl rfl rfl (⟨((hm88.see 4 rfl)), ((hm88.see 0 rfl))⟩) ?_
          simp only [nz1, nz2, nz3]
          refine skx 12 63 rfl rfl rfl (⟨((hm88.see 4 rfl)), ((hm88.see 0 rfl))⟩) ?_
          simp only [nz1, nz2, nz3]
          refine skx 13 64 rfl rfl rfl (⟨((hm88.see 4 rfl)), ((hm88.see 0 rfl))⟩) ?_
          simp only [nz1, nz2, nz3]
          refine skx 14 65 rfl rfl rfl (⟨((hm88.see 4 rfl)), ((hm88.see 0 rfl))⟩) ?_
          simp only [nz1, nz2, nz3]
          refine tk 15 66 (.bool false) rfl rfl (fun _ hw => run_pickf rfl rfl rfl) (⟨((hm88.see 4 rfl)), ((hm88.see 0 rfl))⟩) ?_
          simp only [nz1, nz2, nz3]
          refine wpAnyH_done (by kernel_rfl) ?_ _
          refine then_n (hK87 _ _ ?_)
          refine cond_f rfl ?_
          refine wp_exit ?_
          refine then_x ?_
          refine then_x ?_
          refine blk_x ?_
          refine then_n ?_
          exact ⟨x75, (fun qq => List.getD [.int .i64 ((x75 : Nat) : Int), v35, .int .i64 ((l34.length : Nat) : Int), .bool false, .bool false, undef, undef, undef, undef, undef, undef, undef, undef, undef, undef, .bool false, u2 16, u2 17] qq undef), (hi78.trans (show rusers_m_b2 l m l8 x12 l34 x38 (rusers_m_l2 l m l8 x12 l34 x38 k77) x75 = .inl x75 from by unfold rusers_m_b2; rw [if_neg hs90] <;> rfl)), (by first | omega | (simp; done) | (simp; omega) | (simp at *; omega)), rfl, hm88⟩
        simp only [nz1, nz2, nz3]
        refine tk 4 55 (.bool true) rfl rfl (fun _ hw => run_mv rfl rfl) (⟨((hm88.see 4 rfl)), ((hm88.see 0 rfl))⟩) ?_
        simp only [nz1, nz2, nz3]
        refine Sym.take_at 5 56 (v35) rfl rfl (by kernel_rfl) (by kernel_rfl) (by kernel_rfl) (fun _ _ _ h => h) rfl (fun _ hw => run_mv rfl rfl) (⟨((hm88.see 4 rfl)), ((hm88.see 0 rfl))⟩) ?_
        simp only [nz1, nz2, nz3]
        refine Sym.take_at 6 57 (.int .i64 ((x75 : Nat) : Int)) rfl rfl (by kernel_rfl) (by kernel_rfl) (by kernel_rfl) (fun _ _ _ h => h) rfl (fun _ hw => run_mv rfl rfl) (⟨((hm88.see 4 rfl)), ((hm88.see 0 rfl))⟩) ?_
        simp only [nz1, nz2, nz3]
        refine Sym.take_at 7 58 (.pointer (some ⟨(bk v35), (po v35 + x75 * 1), none⟩)) rfl rfl (by kernel_rfl) (by kernel_rfl) (by kernel_rfl) (fun _ _ _ h => h) rfl (fun _ hw => r_ixv ((hm88.see 4 rfl)) x75 (by omega) Tryd.underlying33 sz_9 rfl rfl rfl) (⟨((hm88.see 4 rfl)), ((hm88.see 0 rfl))⟩) ?_
        simp only [nz1, nz2, nz3]
        refine Sym.take_at 8 59 (.string (tx (l34.getD x75 []))) rfl rfl (by kernel_rfl) (by kernel_rfl) (by kernel_rfl) (fun _ _ _ h => h) rfl (fun _ hw => r_cellw (Rs.cell hw.1 eS_len [] x75 (by omega) 0 _ rfl) Tryd.underlying9 rfl rfl rfl) (⟨((hm88.see 4 rfl)), ((hm88.see 0 rfl))⟩) ?_
        simp only [nz1, nz2, nz3]
        refine Sym.take_at 9 60 (lv0) rfl rfl (by kernel_rfl) (by kernel_rfl) (by kernel_rfl) (fun _ _ _ h => h) rfl (fun _ hw => run_mv rfl rfl) (⟨((hm88.see 4 rfl)), ((hm88.see 0 rfl))⟩) ?_
        simp only [nz1, nz2, nz3]
        refine Sym.take_at 10 61 (.int .i64 ((x12 : Nat) : Int)) rfl rfl (by kernel_rfl) (by kernel_rfl) (by kernel_rfl) (fun _ _ _ h => h) rfl (fun _ hw => run_mv rfl rfl) (⟨((hm88.see 4 rfl)), ((hm88.see 0 rfl))⟩) ?_
        simp only [nz1, nz2, nz3]
        refine Sym.take_at 11 62 (.pointer (some ⟨(bk lv0), (po lv0 + x12 * 5), none⟩)) rfl rfl (by kernel_rfl) (by kernel_rfl) (by kernel_rfl) (fun _ _ _ h => h) rfl (fun _ hw => r_ixv ((hm88.see 0 rfl)).rd x12 (by omega) Tryd.underlying22 sz_37 rfl rfl rfl) (⟨((hm88.see 4 rfl)), ((hm88.see 0 rfl))⟩) ?_
        simp only [nz1, nz2, nz3]
        refine Sym.take_at 12 63 (.pointer (some ⟨(bk lv0), ((po lv0 + x12 * 5) + 0), none⟩)) rfl rfl (by kernel_rfl) (by kernel_rfl) (by kernel_rfl) (fun _ _ _ h => h) rfl (fun _ hw => r_fa37_0 (bk lv0) (po lv0 + x12 * 5) rfl rfl) (⟨((hm88.see 4 rfl)), ((hm88.see 0 rfl))⟩) ?_
        simp only [nz1, nz2, nz3]
        refine Sym.take_at 13 64 (.string (tx ((l.getD x12 dMf).name))) rfl rfl (by kernel_rfl) (by kernel_rfl) (by kernel_rfl) (fun _ _ _ h => h) rfl (fun _ hw => r_cellw (Rn.cell hw.2 nMf_len dMf ((Value.slice none 0 0), (Value.slice none 0 0), (Value.slice none 0 0)) x12 (by omega) 0 _ rfl) Tryd.underlying9 rfl rfl rfl) (⟨((hm88.see 4 rfl)), ((hm88.see 0 rfl))⟩) ?_
        simp only [nz1, nz2, nz3]
        refine Sym.take_at 14 65 (.bool (lt' (l34.getD x75 []) ((l.getD x12 dMf).name))) rfl rfl (by kernel_rfl) (by kernel_rfl) (by kernel_rfl) (fun _ _ _ h => h) rfl (fun _ hw => t_lss (l34.getD x75 []) ((l.getD x12 dMf).name) rfl rfl rfl) (⟨((hm88.see 4 rfl)), ((hm88.see 0 rfl))⟩) ?_
        simp only [nz1, nz2, nz3]
        refine tk 15 66 (.bool (lt' (l34.getD x75 []) ((l.getD x12 dMf).name))) rfl rfl (fun _ hw => run_pick rfl rfl rfl) (⟨((hm88.see 4 rfl)), ((hm88.see 0 rfl))⟩) ?_
        simp only [nz1, nz2, nz3]
        refine wpAnyH_done (by kernel_rfl) ?_ _
        refine then_n (hK87 _ _ ?_)
        refine cond_B (lt' (l34.getD x75 []) ((l.getD x12 dMf).name)) rfl (fun hc91 => ?_) (fun hc91 => ?_)
        rotate_left
        · refine wp_exit ?_
          refine then_x ?_
          refine then_x ?_
          refine blk_x ?_
          refine then_n ?_
          exact ⟨x75, (fun qq => List.getD [.int .i64 ((x75 : Nat) : Int), v35, .int .i64 ((l34.length : Nat) : Int), .bool true, .bool true, v35, .int .i64 ((x75 : Nat) : Int), .pointer (some ⟨(bk v35), (po v35 + x75 * 1), none⟩), .string (tx (l34.getD x75 [])), lv0, .int .i64 ((x12 : Nat) : Int), .pointer (some ⟨(bk lv0), (po lv0 + x12 * 5), none⟩), .pointer (some ⟨(bk lv0), ((po lv0 + x12 * 5) + 0), none⟩), .string (tx ((l.getD x12 dMf).name)), .bool (lt' (l34.getD x75 []) ((l.getD x12 dMf).name)), .bool (lt' (l34.getD x75 []) ((l.getD x12 dMf).name)), u2 16, u2 17] qq undef), (hi78.trans (show rusers_m_b2 l m l8 x12 l34 x38 (rusers_m_l2 l m l8 x12 l34 x38 k77) x75 = .inl x75 from by unfold rusers_m_b2; rw [if_pos hs90, if_neg hc91] <;> rfl)), (by first | omega | (simp; done) | (simp; omega) | (simp at *; omega)), rfl, hm88⟩
        refine wp_skip ?_
        refine then_n (hK86 _ _ ?_)
        refine wp_block ?_
        refine wp_region_lit ?_
        refine lvw 67 (.int .i64 ((x75 : Nat) : Int)) rfl rfl (run_mv rfl rfl) ?_
        simp only [nz1, nz2, nz3]
        refine lvw 68 (.int .i64 (((x75 + 1) : Nat) : Int)) rfl rfl (r_add x75 1 (show (x75 + 1) < 9223372036854775808 from by omega) rfl rfl rfl) ?_
        simp only [nz1, nz2, nz3]
        refine lvw 8 (.int .i64 (((x75 + 1) : Nat) : Int)) rfl rfl (run_as rfl rfl) ?_
        simp only [nz1, nz2, nz3]
        refine wpList_nil ?_
        refine blk_n ?_
        refine then_n (hR83 _ _ _ ⟨k77, (x75 + 1), (fun qq => List.getD [.int .i64 ((x75 : Nat) : Int), v35, .int .i64 ((l34.length : Nat) : Int), .bool true, .bool true, v35, .int .i64 ((x75 : Nat) : Int), .pointer (some ⟨(bk v35), (po v35 + x75 * 1), none⟩), .string (tx (l34.getD x75 [])), lv0, .int .i64 ((x12 : Nat) : Int), .pointer (some ⟨(bk lv0), (po lv0 + x12 * 5), none⟩), .pointer (some ⟨(bk lv0), ((po lv0 + x12 * 5) + 0), none⟩), .string (tx ((l.getD x12 dMf).name)), .bool (lt' (l34.getD x75 []) ((l.getD x12 dMf).name)), .bool (lt' (l34.getD x75 []) ((l.getD x12 dMf).name)), .int .i64 ((x75 : Nat) : Int), .int .i64 (((x75 + 1) : Nat) : Int)] qq undef), rfl, (by first | omega | (simp; omega) | (simp at *; omega)), (hi78.trans (show rusers_m_b2 l m l8 x12 l34 x38 (rusers_m_l2 l m l8 x12 l34 x38 k77) x75 = rusers_m_l2 l m l8 x12 l34 x38 k77 (x75 + 1) from by unfold rusers_m_b2; rw [if_pos hs90, if_pos hc91] <;> rfl)), (by first | omega | (simp; done) | (simp; omega) | (simp at *; omega)), rfl, hm88⟩ ?_)
        omega
      rintro _ w92 ⟨y79, yu2, hx80, hrj, rfl, hm93⟩
      have hq94 : rusers_m_l1 l m l8 x12 ((((l.getD x12 dMf).needs).length - 0) + 1) (l8, 0) = rusers_m_k2 l m l8 x12 l34 x38 (rusers_m_l1 l m l8 x12 k43) y79 := (hi44.trans (show rusers_m_b1 l m l8 x12 (rusers_m_l1 l m l8 x12 k43) l34 x38 = rusers_m_k2 l m l8 x12 l34 x38 (rusers_m_l1 l m l8 x12 k43) y79 from by unfold rusers_m_b1; rw [if_pos hc57, if_neg hs63, if_neg hc69, hx80] <;> rfl))
      refine then_n (hK74 _ _ ?_)
      refine wp_seq_k (fun K95 hK95 => ?_)
      have hm96 := hm93.drew
      refine wp_region_held_drew (S := fun w' => Rs eS 1 l34 v35 w' ∧ Rn nMf 5 MfN l lv1 lv0 w') (by kernel_rfl) (⟨((hm96.see 4 rfl)), ((hm96.see 0 rfl))⟩) (fun _ => ?_)
      generalize w92.drew = w97 at *
      refine tk 0 69 (.int .i64 ((y79 : Nat) : Int)) rfl rfl (fun _ hw => run_mv rfl rfl) (⟨((hm96.see 4 rfl)), ((hm96.see 0 rfl))⟩) ?_
      simp only [nz1, nz2, nz3]
      refine tk 1 70 (v35) rfl rfl (fun _ hw => run_mv rfl rfl) (⟨((hm96.see 4 rfl)), ((hm96.see 0 rfl))⟩) ?_
      simp only [nz1, nz2, nz3]
      refine tk 2 71 (.int .i64 ((l34.length : Nat) : Int)) rfl rfl (fun _ hw => s_len ((hm96.see 4 rfl)) rfl Tryd.underlying33 rfl) (⟨((hm96.see 4 rfl)), ((hm96.see 0 rfl))⟩) ?_
      simp only [nz1, nz2, nz3]
      refine tkb 3 72 (y79 = l34.length) rfl rfl rfl (fun _ hw => r_eql y79 l34.length rfl rfl rfl) (⟨((hm96.see 4 rfl)), ((hm96.see 0 rfl))⟩) (fun hs98 => ?_) (fun hs98 => ?_)
      · simp only [nz1, nz2, nz3]
        refine tk 4 73 (.bool true) rfl rfl (fun _ hw => run_mv rfl rfl) (⟨((hm96.see 4 rfl)), ((hm96.see 0 rfl))⟩) ?_
        simp only [nz1, nz2, nz3]
        refine skx 5 74 rfl rfl rfl (⟨((hm96.see 4 rfl)), ((hm96.see 0 rfl))⟩) ?_
        simp only [nz1, nz2, nz3]
        refine skx 6 75 rfl rfl rfl (⟨((hm96.see 4 rfl)), ((hm96.see 0 rfl))⟩) ?_
        simp only [nz1, nz2, nz3]
        refine skx 7 76 rfl rfl rfl (⟨((hm96.see 4 rfl)), ((hm96.see 0 rfl))⟩) ?_
        simp only [nz1, nz2, nz3]
        refine skx 8 77 rfl rfl rfl (⟨((hm96.see 4 rfl)), ((hm96.see 0 rfl))⟩) ?_
        simp only [nz1, nz2, nz3]
        refine skx 9 78 rfl rfl rfl (⟨((hm96.see 4 rfl)), ((hm96.see 0 rfl))⟩) ?_
        simp only [nz1, nz2, nz3]
        refine skx 10 79 rfl rfl rfl (⟨((hm96.see 4 rfl)), ((hm96.see 0 rfl))⟩) ?_
        simp only [nz1, nz2, nz3]
        refine skx 11 80 rfl rfl rfl (⟨((hm96.see 4 rfl)), ((hm96.see 0 rfl))⟩) ?_
        simp only [nz1, nz2, nz3]
        refine skx 12 81 rfl rfl rfl (⟨((hm96.see 4 rfl)), ((hm96.see 0 rfl))⟩) ?_
        simp only [nz1, nz2, nz3]
        refine skx 13 82 rfl rfl rfl (⟨((hm96.see 4 rfl)), ((hm96.see 0 rfl))⟩) ?_
        simp only [nz1, nz2, nz3]
        refine skx 14 83 rfl rfl rfl (⟨((hm96.see 4 rfl)), ((hm96.see 0 rfl))⟩) ?_
        simp only [nz1, nz2, nz3]
        refine tk 15 84 (.bool true) rfl rfl (fun _ hw => run_pick rfl rfl rfl) (⟨((hm96.see 4 rfl)), ((hm96.see 0 rfl))⟩) ?_
        simp only [nz1, nz2, nz3]
        refine wpAnyH_done (by kernel_rfl) ?_ _
        refine then_n (hK95 _ _ ?_)
        refine cond_t rfl ?_
        refine wp_mono (Q := fun e a' w' => e = Exit.normal ∧ ∃ (v115 : Value) (g109 : Nat) (v103 : Value) (v106 : Value) (v112 : Value), a' = ⟨#[lv0, .agg #[.string (tx m.name), .string (tx m.version), mv0, mv1, mv2], undef, .pointer (some ⟨g4, 0, none⟩), .slice none 0 0, v115, .int .i64 ((x12 : Nat) : Int), .int .i64 ((x38 : Nat) : Int), .int .i64 ((y79 : Nat) : Int), .int .i64 ((x12 : Nat) : Int), lv0, .int .i64 ((l.length : Nat) : Int), .bool (decide (x12 < l.length)), u0 6, u0 7, .int .i64 ((x38 : Nat) : Int), lv0, .int .i64 ((x12 : Nat) : Int), .pointer (some ⟨(bk lv0), (po lv0 + x12 * 5), none⟩), .pointer (some ⟨(bk lv0), ((po lv0 + x12 * 5) + 2), none⟩), (lv1.getD x12 ((Value.slice none 0 0), (Value.slice none 0 0), (Value.slice none 0 0))).1, .int .i64 ((((l.getD x12 dMf).needs).length : Nat) : Int), .bool (decide (x38 < ((l.getD x12 dMf).needs).length)), u1 9, u1 10, lv0, .int .i64 ((x12 : Nat) : Int), .pointer (some ⟨(bk lv0), (po lv0 + x12 * 5), none⟩), .pointer (some ⟨(bk lv0), ((po lv0 + x12 * 5) + 2), none⟩), (lv1.getD x12 ((Value.slice none 0 0), (Value.slice none 0 0), (Value.slice none 0 0))).1, .int .i64 ((x38 : Nat) : Int), .pointer (some ⟨(bk ((lv1.getD x12 ((Value.slice none 0 0), (Value.slice none 0 0), (Value.slice none 0 0))).1)), (po ((lv1.getD x12 ((Value.slice none 0 0), (Value.slice none 0 0), (Value.slice none 0 0))).1) + x38 * 3), none⟩), .pointer (some ⟨(bk ((lv1.getD x12 ((Value.slice none 0 0), (Value.slice none 0 0), (Value.slice none 0 0))).1)), ((po ((lv1.getD x12 ((Value.slice none 0 0), (Value.slice none 0 0), (Value.slice none 0 0))).1) + x38 * 3) + 0), none⟩), .string (tx ((((l.getD x12 dMf).needs).getD x38 dRul).name)), .pointer (some ⟨g4, 0, none⟩), .string (tx m.name), .bool false, .bool false, lv0, .int .i64 ((x12 : Nat) : Int), .pointer (some ⟨(bk lv0), (po lv0 + x12 * 5), none⟩), .pointer (some ⟨(bk lv0), ((po lv0 + x12 * 5) + 2), none⟩), (lv1.getD x12 ((Value.slice none 0 0), (Value.slice none 0 0), (Value.slice none 0 0))).1, .int .i64 ((x38 : Nat) : Int), .pointer (some ⟨(bk ((lv1.getD x12 ((Value.slice none 0 0), (Value.slice none 0 0), (Value.slice none 0 0))).1)), (po ((lv1.getD x12 ((Value.slice none 0 0), (Value.slice none 0 0), (Value.slice none 0 0))).1) + x38 * 3), none⟩), .agg #[.string (tx ((((l.getD x12 dMf).needs).getD x38 dRul).name)), .int .i64 ((((l.getD x12 dMf).needs).getD x38 dRul).op), .string (tx ((((l.getD x12 dMf).needs).getD x38 dRul).version))], .pointer (some ⟨g4, 1, none⟩), .string (tx m.version), .bool ((rholds_m (((l.getD x12 dMf).needs).getD x38 dRul) m.version)), .bool (!(rholds_m (((l.getD x12 dMf).needs).getD x38 dRul) m.version)), .bool (!(rholds_m (((l.getD x12 dMf).needs).getD x38 dRul) m.version)), yu2 0, yu2 1, yu2 2, yu2 3, yu2 4, yu2 5, yu2 6, yu2 7, yu2 8, yu2 9, yu2 10, yu2 11, yu2 12, yu2 13, yu2 14, yu2 15, yu2 16, yu2 17, .int .i64 ((y79 : Nat) : Int), v35, .int .i64 ((l34.length : Nat) : Int), .bool true, .bool true, undef, undef, undef, undef, undef, undef, undef, undef, undef, undef, .bool true, v103, v35, .int .i64 ((y79 : Nat) : Int), (cutV v35 0 y79 1), v106, lv0, .int .i64 ((x12 : Nat) : Int), .pointer (some ⟨(bk lv0), (po lv0 + x12 * 5), none⟩), .pointer (some ⟨(bk lv0), ((po lv0 + x12 * 5) + 0), none⟩), .string (tx ((l.getD x12 dMf).name)), .slice (some ⟨g109, 0, none⟩) 1 1, v112, v35, .int .i64 ((y79 : Nat) : Int), (cutV v35 y79 l34.length 1), v115, undef], []⟩ ∧ Mm none S w w' [.see (Rn nMf 5 MfN l lv1 lv0) Fl, .see (MfR m mv0 mv1 mv2) Fm, .blk g4 #[.string (tx m.name), .string (tx m.version), mv0, mv1, mv2] 37, .see (Rs eS 1 l8 v9) F10, .see (Rs eS 1 l34 v35) F36, .row v115 (((([] : List (List UInt8)) ++ (l34.take y79)) ++ [((l.getD x12 dMf).name)]) ++ (l34.drop y79)).length ((((([] : List (List UInt8)) ++ (l34.take y79)) ++ [((l.getD x12 dMf).name)]) ++ (l34.drop y79)).flatMap eS) 9 1, .blk g109 #[.string (tx ((l.getD x12 dMf).name))] 9]) ?_ ?_
        · have hm99 := hm96.drew
          refine wp_region_held_drew (S := fun w' => Rs eS 1 l34 v35 w' ∧ Rn nMf 5 MfN l lv1 lv0 w') (by kernel_rfl) (⟨((hm99.see 4 rfl)), ((hm99.see 0 rfl))⟩) (fun _ => ?_)
          generalize w97.drew = w100 at *
          refine Sym.take_at 1 86 (v35) rfl rfl (by kernel_rfl) (by kernel_rfl) (by kernel_rfl) (fun _ _ _ h => nomatch h.1) rfl (fun _ hw => run_mv rfl rfl) (⟨((hm99.see 4 rfl)), ((hm99.see 0 rfl))⟩) ?_
          simp only [nz1, nz2, nz3]
          refine Sym.take_at 2 87 (.int .i64 ((y79 : Nat) : Int)) rfl rfl (by kernel_rfl) (by kernel_rfl) (by kernel_rfl) (fun _ _ _ h => nomatch h.1) rfl (fun _ hw => run_mv rfl rfl) (⟨((hm99.see 4 rfl)), ((hm99.see 0 rfl))⟩) ?_
          simp only [nz1, nz2, nz3]
          refine Sym.take_at 3 88 ((cutV v35 0 y79 1)) rfl rfl (by kernel_rfl) (by kernel_rfl) (by kernel_rfl) (fun _ _ _ h => nomatch h.1) rfl (fun _ hw => r_cut_h hw.1 y79 (by omega) Tryd.underlying33 sz_9 rfl rfl rfl) (⟨((hm99.see 4 rfl)), ((hm99.see 0 rfl))⟩) ?_
          simp only [nz1, nz2, nz3]
          refine Sym.take_at 5 90 (lv0) rfl rfl (by kernel_rfl) (by kernel_rfl) (by kernel_rfl) (fun _ _ _ h => nomatch h.1) rfl (fun _ hw => run_mv rfl rfl) (⟨((hm99.see 4 rfl)), ((hm99.see 0 rfl))⟩) ?_
          simp only [nz1, nz2, nz3]
          refine Sym.take_at 6 91 (.int .i64 ((x12 : Nat) : Int)) rfl rfl (by kernel_rfl) (by kernel_rfl) (by kernel_rfl) (fun _ _ _ h => nomatch h.1) rfl (fun _ hw => run_mv rfl rfl) (⟨((hm99.see 4 rfl)), ((hm99.see 0 rfl))⟩) ?_
          simp only [nz1, nz2, nz3]
          refine Sym.take_at 7 92 (.pointer (some ⟨(bk lv0), (po lv0 + x12 * 5), none⟩)) rfl rfl (by kernel_rfl) (by kernel_rfl) (by kernel_rfl) (fun _ _ _ h => nomatch h.1) rfl (fun _ hw => r_ixv ((hm99.see 0 rfl)).rd x12 (by omega) Tryd.underlying22 sz_37 rfl rfl rfl) (⟨((hm99.see 4 rfl)), ((hm99.see 0 rfl))⟩) ?_
          simp only [nz1, nz2, nz3]
          refine Sym.take_at 8 93 (.pointer (some ⟨(bk lv0), ((po lv0 + x12 * 5) + 0), none⟩)) rfl rfl (by kernel_rfl) (by kernel_rfl) (by kernel_rfl) (fun _ _ _ h => nomatch h.1) rfl (fun _ hw => r_fa37_0 (bk lv0) (po lv0 + x12 * 5) rfl rfl) (⟨((hm99.see 4 rfl)), ((hm99.see 0 rfl))⟩) ?_
          simp only [nz1, nz2, nz3]
          refine Sym.take_at 9 94 (.string (tx ((l.getD x12 dMf).name))) rfl rfl (by kernel_rfl) (by kernel_rfl) (by kernel_rfl) (fun _ _ _ h => nomatch h.1) rfl (fun _ hw => r_cellw (Rn.cell hw.2 nMf_len dMf ((Value.slice none 0 0), (Value.slice none 0 0), (Value.slice none 0 0)) x12 (by omega) 0 _ rfl) Tryd.underlying9 rfl rfl rfl) (⟨((hm99.see 4 rfl)), ((hm99.see 0 rfl))⟩) ?_
          simp only [nz1, nz2, nz3]
          refine Sym.take_at 12 97 (v35) rfl rfl (by kernel_rfl) (by kernel_rfl) (by kernel_rfl) (fun _ _ _ h => nomatch h.1) rfl (fun _ hw => run_mv rfl rfl) (⟨((hm99.see 4 rfl)), ((hm99.see 0 rfl))⟩) ?_
          simp only [nz1, nz2, nz3]
          refine Sym.take_at 13 98 (.int .i64 ((y79 : Nat) : Int)) rfl rfl (by kernel_rfl) (by kernel_rfl) (by kernel_rfl) (fun _ _ _ h => nomatch h.1) rfl (fun _ hw => run_mv rfl rfl) (⟨((hm99.see 4 rfl)), ((hm99.see 0 rfl))⟩) ?_
          simp only [nz1, nz2, nz3]
          refine Sym.take_at 14 99 ((cutV v35 y79 l34.length 1)) rfl rfl (by kernel_rfl) (by kernel_rfl) (by kernel_rfl) (fun _ _ _ h => nomatch h.1) rfl (fun _ hw => r_cut_l hw.1 y79 (by omega) Tryd.underlying33 sz_9 rfl rfl rfl) (⟨((hm99.see 4 rfl)), ((hm99.see 0 rfl))⟩) ?_
          simp only [nz1, nz2, nz3]
          refine two_ready 0 10 (by kernel_rfl) ?_ ?_
          · refine opd rfl rfl (m_lit0 (α := List UInt8) (enc := eS) (size := 1) (e := 9) hm99 85 rfl (by unfold execOp; go_simp; try rfl) (fun v103 w101 (hm102 : Mm none S w w101 [.see (Rn nMf 5 MfN l lv1 lv0) Fl, .see (MfR m mv0 mv1 mv2) Fm, .blk g4 #[.string (tx m.name), .string (tx m.version), mv0, mv1, mv2] 37, .see (Rs eS 1 l8 v9) F10, .see (Rs eS 1 l34 v35) F36, .row v103 ([] : List (List UInt8)).length (([] : List (List UInt8)).flatMap eS) 9 1]) => ?_))
            refine ⟨⟨((hm102.see 4 rfl)), ((hm102.see 0 rfl))⟩, ?_⟩
            simp only [nz1, nz2, nz3]
            refine two_ready 4 10 (by kernel_rfl) ?_ ?_
            · obtain ⟨iq, hiq, hz1, hz2, hz3⟩ := inf_9
              refine opd rfl rfl (m_appendR 5 (l := ([] : List (List UInt8))) (l2 := (l34.take y79)) iq _ _ _ ((cutV v35 0 y79 1)) hm102 rfl 89 rfl rfl Tryd.underlying33 hiq hz1 hz2 hz3 eS_len eS_one rfl (by decide) rfl rfl (Rs.cut_h (hm102.see 4 rfl) eS_len y79 (by omega)) (by first | omega | (simp only [List.length_append, List.length_take, List.length_drop, List.length_cons, List.length_nil]; omega) | (simp; omega)) (by first | omega | (simp only [List.length_append, List.length_take, List.length_drop, List.length_cons, List.length_nil]; omega) | (simp; omega)) (fun v106 w104 (hm105 : Mm none S w w104 [.see (Rn nMf 5 MfN l lv1 lv0) Fl, .see (MfR m mv0 mv1 mv2) Fm, .blk g4 #[.string (tx m.name), .string (tx m.version), mv0, mv1, mv2] 37, .see (Rs eS 1 l8 v9) F10, .see (Rs eS 1 l34 v35) F36, .row v106 (([] : List (List UInt8)) ++ (l34.take y79)).length ((([] : List (List UInt8)) ++ (l34.take y79)).flatMap eS) 9 1]) => ?_))
              refine ⟨⟨((hm105.see 4 rfl)), ((hm105.see 0 rfl))⟩, ?_⟩
              simp only [nz1, nz2, nz3]
              refine one_ready 10 (by kernel_rfl) ?_
              refine opd rfl rfl (m_make (c := #[.string (tx ((l.getD x12 dMf).name))]) (T := 9) (fun g => .slice (some ⟨g, 0, none⟩) 1 1) hm105 95 rfl (by unfold execOp; go_simp; try rfl) (fun g109 w107 hm108 => ?_))
              refine ⟨⟨((hm108.see 4 rfl)), ((hm108.see 0 rfl))⟩, ?_⟩
              simp only [nz1, nz2, nz3]
              refine one_ready 11 (by kernel_rfl) ?_
              obtain ⟨iq, hiq, hz1, hz2, hz3⟩ := inf_9
              refine opd rfl rfl (m_appendR 5 (l := (([] : List (List UInt8)) ++ (l34.take y79))) (l2 := [((l.getD x12 dMf).name)]) iq _ _ _ (.slice (some ⟨g109, 0, none⟩) 1 1) hm108 rfl 96 rfl rfl Tryd.underlying33 hiq hz1 hz2 hz3 eS_len eS_one rfl (by decide) rfl rfl (Rs.blk (l := [((l.getD x12 dMf).name)]) (hm108.at 6 rfl) rfl rfl eS_len (Nat.le_refl _)) (by first | omega | (simp only [List.length_append, List.length_take, List.length_drop, List.length_cons, List.length_nil]; omega) | (simp; omega)) (by first | omega | (simp only [List.length_append, List.length_take, List.length_drop, List.length_cons, List.length_nil]; omega) | (simp; omega)) (fun v112 w110 (hm111 : Mm none S w w110 [.see (Rn nMf 5 MfN l lv1 lv0) Fl, .see (MfR m mv0 mv1 mv2) Fm, .blk g4 #[.string (tx m.name), .string (tx m.version), mv0, mv1, mv2] 37, .see (Rs eS 1 l8 v9) F10, .see (Rs eS 1 l34 v35) F36, .row v112 ((([] : List (List UInt8)) ++ (l34.take y79)) ++ [((l.getD x12 dMf).name)]).length (((([] : List (List UInt8)) ++ (l34.take y79)) ++ [((l.getD x12 dMf).name)]).flatMap eS) 9 1, .blk g109 #[.string (tx ((l.getD x12 dMf).name))] 9]) => ?_))
              refine ⟨⟨((hm111.see 4 rfl)), ((hm111.see 0 rfl))⟩, ?_⟩
              simp only [nz1, nz2, nz3]
              refine one_ready 15 (by kernel_rfl) ?_
              obtain ⟨iq, hiq, hz1, hz2, hz3⟩ := inf_9
              refine opd rfl rfl (m_appendR 5 (l := ((([] : List (List UInt8)) ++ (l34.take y79)) ++ [((l.getD x12 dMf).name)])) (l2 := (l34.drop y79)) iq _ _ _ ((cutV v35 y79 l34.length 1)) hm111 rfl 100 rfl rfl Tryd.underlying33 hiq hz1 hz2 hz3 eS_len eS_one rfl (by decide) rfl rfl (Rs.cut_l (hm111.see 4 rfl) eS_len y79 (by omega)) (by first | omega | (simp only [List.length_append, List.length_take, List.length_drop, List.length_cons, List.length_nil]; omega) | (simp; omega)) (by first | omega | (simp only [List.length_append, List.length_take, List.length_drop, List.length_cons, List.length_nil]; omega) | (simp; omega)) (fun v115 w113 (hm114 : Mm none S w w113 [.see (Rn nMf 5 MfN l lv1 lv0) Fl, .see (MfR m mv0 mv1 mv2) Fm, .blk g4 #[.string (tx m.name), .string (tx m.version), mv0, mv1, mv2] 37, .see (Rs eS 1 l8 v9) F10, .see (Rs eS 1 l34 v35) F36, .row v115 (((([] : List (List UInt8)) ++ (l34.take y79)) ++ [((l.getD x12 dMf).name)]) ++ (l34.drop y79)).length ((((([] : List (List UInt8)) ++ (l34.take y79)) ++ [((l.getD x12 dMf).name)]) ++ (l34.drop y79)).flatMap eS) 9 1, .blk g109 #[.string (tx ((l.getD x12 dMf).name))] 9]) => ?_))
              refine ⟨⟨((hm114.see 4 rfl)), ((hm114.see 0 rfl))⟩, ?_⟩
              simp only [nz1, nz2, nz3]
              refine one_ready 16 (by kernel_rfl) ?_
              refine opd rfl rfl (w_value 5 (v115) rfl (run_as rfl rfl) ⟨⟨((hm114.see 4 rfl)), ((hm114.see 0 rfl))⟩, ?_⟩)
              simp only [nz1, nz2, nz3]
              refine wpAnyH_done (by kernel_rfl) ?_ _
              exact ⟨rfl, v115, g109, v103, v106, v112, rfl, hm114⟩
            · refine opd rfl rfl (m_make (c := #[.string (tx ((l.getD x12 dMf).name))]) (T := 9) (fun g => .slice (some ⟨g, 0, none⟩) 1 1) hm102 95 rfl (by unfold execOp; go_simp; try rfl) (fun g118 w116 hm117 => ?_))
              refine ⟨⟨((hm117.see 4 rfl)), ((hm117.see 0 rfl))⟩, ?_⟩
              simp only [nz1, nz2, nz3]
              refine one_ready 4 (by kernel_rfl) ?_
              obtain ⟨iq, hiq, hz1, hz2, hz3⟩ := inf_9
              refine opd rfl rfl (m_appendR 5 (l := ([] : List (List UInt8))) (l2 := (l34.take y79)) iq _ _ _ ((cutV v35 0 y79 1)) hm117 rfl 89 rfl rfl Tryd.underlying33 hiq hz1 hz2 hz3 eS_len eS_one rfl (by decide) rfl rfl (Rs.cut_h (hm117.see 4 rfl) eS_len y79 (by omega)) (by first | omega | (simp only [List.length_append, List.length_take, List.length_drop, List.length_cons, List.length_nil]; omega) | (simp; omega)) (by first | omega | (simp only [List.length_append, List.length_take, List.length_drop, List.length_cons, List.length_nil]; omega) | (simp; omega)) (fun v121 w119 (hm120 : Mm none S w w119 [.see (Rn nMf 5 MfN l lv1 lv0) Fl, .see (MfR m mv0 mv1 mv2) Fm, .blk g4 #[.string (tx m.name), .string (tx m.version), mv0, mv1, mv2] 37, .see (Rs eS 1 l8 v9) F10, .see (Rs eS 1 l34 v35) F36, .row v121 (([] : List (List UInt8)) ++ (l34.take y79)).length ((([] : List (List UInt8)) ++ (l34.take y79)).flatMap eS) 9 1, .blk g118 #[.string (tx ((l.getD x12 dMf).name))] 9]) => ?_))
              refine ⟨⟨((hm120.see 4 rfl)), ((hm120.see 0 rfl))⟩, ?_⟩
              simp only [nz1, nz2, nz3]
              refine one_ready 11 (by kernel_rfl) ?_
              obtain ⟨iq, hiq, hz1, hz2, hz3⟩ := inf_9
              refine opd rfl rfl (m_appendR 5 (l := (([] : List (List UInt8)) ++ (l34.take y79))) (l2 := [((l.getD x12 dMf).name)]) iq _ _ _ (.slice (some ⟨g118, 0, none⟩) 1 1) hm120 rfl 96 rfl rfl Tryd.underlying33 hiq hz1 hz2 hz3 eS_len eS_one rfl (by decide) rfl rfl (Rs.blk (l := [((l.getD x12 dMf).name)]) (hm120.at 6 rfl) rfl rfl eS_len (Nat.le_refl _)) (by first | omega | (simp only [List.length_append, List.length_take, List.length_drop, List.length_cons, List.length_nil]; omega) | (simp; omega)) (by first | omega | (simp only [List.length_append, List.length_take, List.length_drop, List.length_cons, List.length_nil]; omega) | (simp; omega)) (fun v124 w122 (hm123 : Mm none S w w122 [.see (Rn nMf 5 MfN l lv1 lv0) Fl, .see (MfR m mv0 mv1 mv2) Fm, .blk g4 #[.string (tx m.name), .string (tx m.version), mv0, mv1, mv2] 37, .see (Rs eS 1 l8 v9) F10, .see (Rs eS 1 l34 v35) F36, .row v124 ((([] : List (List UInt8)) ++ (l34.take y79)) ++ [((l.getD x12 dMf).name)]).length (((([] : List (List UInt8)) ++ (l34.take y79)) ++ [((l.getD x12 dMf).name)]).flatMap eS) 9 1, .blk g118 #[.string (tx ((l.getD x12 dMf).name))] 9]) => ?_))
              refine ⟨⟨((hm123.see 4 rfl)), ((hm123.see 0 rfl))⟩, ?_⟩
              simp only [nz1, nz2, nz3]
              refine one_ready 15 (by kernel_rfl) ?_
              obtain ⟨iq, hiq, hz1, hz2, hz3⟩ := inf_9
              refine opd rfl rfl (m_appendR 5 (l := ((([] : List (List UInt8)) ++ (l34.take y79)) ++ [((l.getD x12 dMf).name)])) (l2 := (l34.drop y79)) iq _ _ _ ((cutV v35 y79 l34.length 1)) hm123 rfl 100 rfl rfl Tryd.underlying33 hiq hz1 hz2 hz3 eS_len eS_one rfl (by decide) rfl rfl (Rs.cut_l (hm123.see 4 rfl) eS_len y79 (by omega)) (by first | omega | (simp only [List.length_append, List.length_take, List.length_drop, List.length_cons, List.length_nil]; omega) | (simp; omega)) (by first | omega | (simp only [List.length_append, List.length_take, List.length_drop, List.length_cons, List.length_nil]; omega) | (simp; omega)) (fun v127 w125 (hm126 : Mm none S w w125 [.see (Rn nMf 5 MfN l lv1 lv0) Fl, .see (MfR m mv0 mv1 mv2) Fm, .blk g4 #[.string (tx m.name), .string (tx m.version), mv0, mv1, mv2] 37, .see (Rs eS 1 l8 v9) F10, .see (Rs eS 1 l34 v35) F36, .row v127 (((([] : List (List UInt8)) ++ (l34.take y79)) ++ [((l.getD x12 dMf).name)]) ++ (l34.drop y79)).length ((((([] : List (List UInt8)) ++ (l34.take y79)) ++ [((l.getD x12 dMf).name)]) ++ (l34.drop y79)).flatMap eS) 9 1, .blk g118 #[.string (tx ((l.getD x12 dMf).name))] 9]) => ?_))
              refine ⟨⟨((hm126.see 4 rfl)), ((hm126.see 0 rfl))⟩, ?_⟩
              simp only [nz1, nz2, nz3]
              refine one_ready 16 (by kernel_rfl) ?_
              refine opd rfl rfl (w_value 5 (v127) rfl (run_as rfl rfl) ⟨⟨((hm126.see 4 rfl)), ((hm126.see 0 rfl))⟩, ?_⟩)
              simp only [nz1, nz2, nz3]
              refine wpAnyH_done (by kernel_rfl) ?_ _
              exact ⟨rfl, v127, g118, v103, v121, v124, rfl, hm126⟩
          · refine opd rfl rfl (m_make (c := #[.string (tx ((l.getD x12 dMf).name))]) (T := 9) (fun g => .slice (some ⟨g, 0, none⟩) 1 1) hm99 95 rfl (by unfold execOp; go_simp; try rfl) (fun g130 w128 hm129 => ?_))
            refine ⟨⟨((hm129.see 4 rfl)), ((hm129.see 0 rfl))⟩, ?_⟩
            simp only [nz1, nz2, nz3]
            refine one_ready 0 (by kernel_rfl) ?_
            refine opd rfl rfl (m_lit0 (α := List UInt8) (enc := eS) (size := 1) (e := 9) hm129 85 rfl (by unfold execOp; go_simp; try rfl) (fun v133 w131 (hm132 : Mm none S w w131 [.see (Rn nMf 5 MfN l lv1 lv0) Fl, .see (MfR m mv0 mv1 mv2) Fm, .blk g4 #[.string (tx m.name), .string (tx m.version), mv0, mv1, mv2] 37, .see (Rs eS 1 l8 v9) F10, .see (Rs eS 1 l34 v35) F36, .blk g130 #[.string (tx ((l.getD x12 dMf).name))] 9, .row v133 ([] : List (List UInt8)).length (([] : List (List UInt8)).flatMap eS) 9 1]) => ?_))
            refine ⟨⟨((hm132.see 4 rfl)), ((hm132.see 0 rfl))⟩, ?_⟩
            simp only [nz1, nz2, nz3]
            refine one_ready 4 (by kernel_rfl) ?_
            obtain ⟨iq, hiq, hz1, hz2, hz3⟩ := inf_9
            refine opd rfl rfl (m_appendR 6 (l := ([] : List (List UInt8))) (l2 := (l34.take y79)) iq _ _ _ ((cutV v35 0 y79 1)) hm132 rfl 89 rfl rfl Tryd.underlying33 hiq hz1 hz2 hz3 eS_len eS_one rfl (by decide) rfl rfl (Rs.cut_h (hm132.see 4 rfl) eS_len y79 (by omega)) (by first | omega | (simp only [List.length_append, List.length_take, List.length_drop, List.length_cons, List.length_nil]; omega) | (simp; omega)) (by first | omega | (simp only [List.length_append, List.length_take, List.length_drop, List.length_cons, List.length_nil]; omega) | (simp; omega)) (fun v136 w134 (hm135 : Mm none S w w134 [.see (Rn nMf 5 MfN l lv1 lv0) Fl, .see (MfR m mv0 mv1 mv2) Fm, .blk g4 #[.string (tx m.name), .string (tx m.version), mv0, mv1, mv2] 37, .see (Rs eS 1 l8 v9) F10, .see (Rs eS 1 l34 v35) F36, .blk g130 #[.string (tx ((l.getD x12 dMf).name))] 9, .row v136 (([] : List (List UInt8)) ++ (l34.take y79)).length ((([] : List (List UInt8)) ++ (l34.take y79)).flatMap eS) 9 1]) => ?_))
            refine ⟨⟨((hm135.see 4 rfl)), ((hm135.see 0 rfl))⟩, ?_⟩
            simp only [nz1, nz2, nz3]
            refine one_ready 11 (by kernel_rfl) ?_
            obtain ⟨iq, hiq, hz1, hz2, hz3⟩ := inf_9
            refine opd rfl rfl (m_appendR 6 (l := (([] : List (List UInt8)) ++ (l34.take y79))) (l2 := [((l.getD x12 dMf).name)]) iq _ _ _ (.slice (some ⟨g130, 0, none⟩) 1 1) hm135 rfl 96 rfl rfl Tryd.underlying33 hiq hz1 hz2 hz3 eS_len eS_one rfl (by decide) rfl rfl (Rs.blk (l := [((l.getD x12 dMf).name)]) (hm135.at 5 rfl) rfl rfl eS_len (Nat.le_refl _)) (by first | omega | (simp only [List.length_append, List.length_take, List.length_drop, List.length_cons, List.length_nil]; omega) | (simp; omega)) (by first | omega | (simp only [List.length_append, List.length_take, List.length_drop, List.length_cons, List.length_nil]; omega) | (simp; omega)) (fun v139 w137 (hm138 : Mm none S w w137 [.see (Rn nMf 5 MfN l lv1 lv0) Fl, .see (MfR m mv0 mv1 mv2) Fm, .blk g4 #[.string (tx m.name), .string (tx m.version), mv0, mv1, mv2] 37, .see (Rs eS 1 l8 v9) F10, .see (Rs eS 1 l34 v35) F36, .blk g130 #[.string (tx ((l.getD x12 dMf).name))] 9, .row v139 ((([] : List (List UInt8)) ++ (l34.take y79)) ++ [((l.getD x12 dMf).name)]).length (((([] : List (List UInt8)) ++ (l34.take y79)) ++ [((l.getD x12 dMf).name)]).flatMap eS) 9 1]) => ?_))
            refine ⟨⟨((hm138.see 4 rfl)), ((hm138.see 0 rfl))⟩, ?_⟩
            simp only [nz1, nz2, nz3]
            refine one_ready 15 (by kernel_rfl) ?_
            obtain ⟨iq, hiq, hz1, hz2, hz3⟩ := inf_9
            refine opd rfl rfl (m_appendR 6 (l := ((([] : List (List UInt8)) ++ (l34.take y79)) ++ [((l.getD x12 dMf).name)])) (l2 := (l34.drop y79)) iq _ _ _ ((cutV v35 y79 l34.length 1)) hm138 rfl 100 rfl rfl Tryd.underlying33 hiq hz1 hz2 hz3 eS_len eS_one rfl (by decide) rfl rfl (Rs.cut_l (hm138.see 4 rfl) eS_len y79 (by omega)) (by first | omega | (simp only [List.length_append, List.length_take, List.length_drop, List.length_cons, List.length_nil]; omega) | (simp; omega)) (by first | omega | (simp only [List.length_append, List.length_take, List.length_drop, List.length_cons, List.length_nil]; omega) | (simp; omega)) (fun v142 w140 (hm141 : Mm none S w w140 [.see (Rn nMf 5 MfN l lv1 lv0) Fl, .see (MfR m mv0 mv1 mv2) Fm, .blk g4 #[.string (tx m.name), .string (tx m.version), mv0, mv1, mv2] 37, .see (Rs eS 1 l8 v9) F10, .see (Rs eS 1 l34 v35) F36, .blk g130 #[.string (tx ((l.getD x12 dMf).name))] 9, .row v142 (((([] : List (List UInt8)) ++ (l34.take y79)) ++ [((l.getD x12 dMf).name)]) ++ (l34.drop y79)).length ((((([] : List (List UInt8)) ++ (l34.take y79)) ++ [((l.getD x12 dMf).name)]) ++ (l34.drop y79)).flatMap eS) 9 1]) => ?_))
            refine ⟨⟨((hm141.see 4 rfl)), ((hm141.see 0 rfl))⟩, ?_⟩
            simp only [nz1, nz2, nz3]
            refine one_ready 16 (by kernel_rfl) ?_
            refine opd rfl rfl (w_value 5 (v142) rfl (run_as rfl rfl) ⟨⟨((hm141.see 4 rfl)), ((hm141.see 0 rfl))⟩, ?_⟩)
            simp only [nz1, nz2, nz3]
            refine wpAnyH_done (by kernel_rfl) ?_ _
            exact ⟨rfl, v142, g130, v133, v136, v139, rfl, (Mm.reorder hm141 [0, 1, 2, 3, 4, 6, 5] (by decide) rfl)⟩
        clear hm96
        rintro _ _ w143 ⟨rfl, v115, g109, v103, v106, v112, rfl, hm144⟩
        refine blk_n ?_
        refine then_n (hK58 _ _ ?_)
        refine wp_region_lit ?_
        refine lvw 23 (.int .i64 ((x38 : Nat) : Int)) rfl rfl (run_mv rfl rfl) ?_
        simp only [nz1, nz2, nz3]
        refine lvw 24 (.int .i64 (((x38 + 1) : Nat) : Int)) rfl rfl (r_add x38 1 (show (x38 + 1) < 9223372036854775808 from by omega) rfl rfl rfl) ?_
        simp only [nz1, nz2, nz3]
        refine lvw 7 (.int .i64 (((x38 + 1) : Nat) : Int)) rfl rfl (run_as rfl rfl) ?_
        simp only [nz1, nz2, nz3]
        refine wpList_nil ?_
        have hm145 : Mm none S w w143 [.see (Rn nMf 5 MfN l lv1 lv0) Fl, .see (MfR m mv0 mv1 mv2) Fm, .blk g4 #[.string (tx m.name), .string (tx m.version), mv0, mv1, mv2] 37, .see (Rs eS 1 l8 v9) F10, .see (Rs eS 1 l34 v35) F36, .see (Rs eS 1 (((([] : List (List UInt8)) ++ (l34.take y79)) ++ [((l.getD x12 dMf).name)]) ++ (l34.drop y79)) v115) (fp v115 ((((([] : List (List UInt8)) ++ (l34.take y79)) ++ [((l.getD x12 dMf).name)]) ++ (l34.drop y79)).flatMap eS)), .blk g109 #[.string (tx ((l.getD x12 dMf).name))] 9] := hm144.freeze 5 rfl
        obtain ⟨F146, hm147⟩ : ∃ F146, Mm none S w w143 [.see (Rn nMf 5 MfN l lv1 lv0) Fl, .see (MfR m mv0 mv1 mv2) Fm, .blk g4 #[.string (tx m.name), .string (tx m.version), mv0, mv1, mv2] 37, .see (Rs eS 1 l8 v9) F10, .see (Rs eS 1 l34 v35) F36, .see (Rs eS 1 (((([] : List (List UInt8)) ++ (l34.take y79)) ++ [((l.getD x12 dMf).name)]) ++ (l34.drop y79)) v115) (fp v115 ((((([] : List (List UInt8)) ++ (l34.take y79)) ++ [((l.getD x12 dMf).name)]) ++ (l34.drop y79)).flatMap eS)), .blk g109 #[.string (tx ((l.getD x12 dMf).name))] 9, .see (Rs eS 1 (((([] : List (List UInt8)) ++ (l34.take y79)) ++ [((l.getD x12 dMf).name)]) ++ (l34.drop y79)) v115) F146] := hm145.derive (hm145.from 5 rfl)
        refine then_n (hR52 _ _ _ ⟨k43, (((([] : List (List UInt8)) ++ (l34.take y79)) ++ [((l.getD x12 dMf).name)]) ++ (l34.drop y79)), (x38 + 1), v115, F146, (fun qq => bif Nat.blt qq 24 then List.getD [.int .i64 ((y79 : Nat) : Int), .int .i64 ((x38 : Nat) : Int), lv0, .int .i64 ((x12 : Nat) : Int), .pointer (some ⟨(bk lv0), (po lv0 + x12 * 5), none⟩), .pointer (some ⟨(bk lv0), ((po lv0 + x12 * 5) + 2), none⟩), (lv1.getD x12 ((Value.slice none 0 0), (Value.slice none 0 0), (Value.slice none 0 0))).1, .int .i64 ((((l.getD x12 dMf).needs).length : Nat) : Int), .bool (decide (x38 < ((l.getD x12 dMf).needs).length)), .int .i64 ((x38 : Nat) : Int), .int .i64 (((x38 + 1) : Nat) : Int), lv0, .int .i64 ((x12 : Nat) : Int), .pointer (some ⟨(bk lv0), (po lv0 + x12 * 5), none⟩), .pointer (some ⟨(bk lv0), ((po lv0 + x12 * 5) + 2), none⟩), (lv1.getD x12 ((Value.slice none 0 0), (Value.slice none 0 0), (Value.slice none 0 0))).1, .int .i64 ((x38 : Nat) : Int), .pointer (some ⟨(bk ((lv1.getD x12 ((Value.slice none 0 0), (Value.slice none 0 0), (Value.slice none 0 0))).1)), (po ((lv1.getD x12 ((Value.slice none 0 0), (Value.slice none 0 0), (Value.slice none 0 0))).1) + x38 * 3), none⟩), .pointer (some ⟨(bk ((lv1.getD x12 ((Value.slice none 0 0), (Value.slice none 0 0), (Value.slice none 0 0))).1)), ((po ((lv1.getD x12 ((Value.slice none 0 0), (Value.slice none 0 0), (Value.slice none 0 0))).1) + x38 * 3) + 0), none⟩), .string (tx ((((l.getD x12 dMf).needs).getD x38 dRul).name)), .pointer (some ⟨g4, 0, none⟩), .string (tx m.name), .bool false, .bool false] qq undef else bif Nat.blt qq 48 then List.getD [lv0, .int .i64 ((x12 : Nat) : Int), .pointer (some ⟨(bk lv0), (po lv0 + x12 * 5), none⟩), .pointer (some ⟨(bk lv0), ((po lv0 + x12 * 5) + 2), none⟩), (lv1.getD x12 ((Value.slice none 0 0), (Value.slice none 0 0), (Value.slice none 0 0))).1, .int .i64 ((x38 : Nat) : Int), .pointer (some ⟨(bk ((lv1.getD x12 ((Value.slice none 0 0), (Value.slice none 0 0), (Value.slice none 0 0))).1)), (po ((lv1.getD x12 ((Value.slice none 0 0), (Value.slice none 0 0), (Value.slice none 0 0))).1) + x38 * 3), none⟩), .agg #[.string (tx ((((l.getD x12 dMf).needs).getD x38 dRul).name)), .int .i64 ((((l.getD x12 dMf).needs).getD x38 dRul).op), .string (tx ((((l.getD x12 dMf).needs).getD x38 dRul).version))], .pointer (some ⟨g4, 1, none⟩), .string (tx m.version), .bool ((rholds_m (((l.getD x12 dMf).needs).getD x38 dRul) m.version)), .bool (!(rholds_m (((l.getD x12 dMf).needs).getD x38 dRul) m.version)), .bool (!(rholds_m (((l.getD x12 dMf).needs).getD x38 dRul) m.version)), yu2 0, yu2 1, yu2 2, yu2 3, yu2 4, yu2 5, yu2 6, yu2 7, yu2 8, yu2 9, yu2 10] (qq - 24) undef else bif Nat.blt qq 72 then List.getD [yu2 11, yu2 12, yu2 13, yu2 14, yu2 15, yu2 16, yu2 17, .int .i64 ((y79 : Nat) : Int), v35, .int .i64 ((l34.length : Nat) : Int), .bool true, .bool true, undef, undef, undef, undef, undef, undef, undef, undef, undef, undef, .bool true, v103] (qq - 48) undef else List.getD [v35, .int .i64 ((y79 : Nat) : Int), (cutV v35 0 y79 1), v106, lv0, .int .i64 ((x12 : Nat) : Int), .pointer (some ⟨(bk lv0), (po lv0 + x12 * 5), none⟩), .pointer (some ⟨(bk lv0), ((po lv0 + x12 * 5) + 0), none⟩), .string (tx ((l.getD x12 dMf).name)), .slice (some ⟨g109, 0, none⟩) 1 1, v112, v35, .int .i64 ((y79 : Nat) : Int), (cutV v35 y79 l34.length 1), v115] (qq - 72) undef), rfl, (by first | omega | (simp; omega) | (simp at *; omega)), (hq94.trans (show rusers_m_k2 l m l8 x12 l34 x38 (rusers_m_l1 l m l8 x12 k43) y79 = rusers_m_l1 l m l8 x12 k43 ((((([] : List (List UInt8)) ++ (l34.take y79)) ++ [((l.getD x12 dMf).name)]) ++ (l34.drop y79)), (x38 + 1)) from by unfold rusers_m_k2; rw [if_pos hs98] <;> rfl)), (by (try simp only [List.length_append, List.length_take, List.length_drop, List.length_cons, List.length_nil]); omega), rfl, (Mm.reorder hm147 [0, 1, 2, 3, 7] (by decide) rfl)⟩ ?_)
        omega
      simp only [nz1, nz2, nz3]
      refine tk 4 73 (.bool false) rfl rfl (fun _ hw => run_mv rfl rfl) (⟨((hm96.see 4 rfl)), ((hm96.see 0 rfl))⟩) ?_
      simp only [nz1, nz2, nz3]
      refine Sym.take_at 5 74 (v35) rfl rfl (by kernel_rfl) (by kernel_rfl) (by kernel_rfl) (fun _ _ _ h => h) rfl (fun _ hw => run_mv rfl rfl) (⟨((hm96.see 4 rfl)), ((hm96.see 0 rfl))⟩) ?_
      simp only [nz1, nz2, nz3]
      refine Sym.take_at 6 75 (.int .i64 ((y79 : Nat) : Int)) rfl rfl (by kernel_rfl) (by kernel_rfl) (by kernel_rfl) (fun _ _ _ h => h) rfl (fun _ hw => run_mv rfl rfl) (⟨((hm96.see 4 rfl)), ((hm96.see 0 rfl))⟩) ?_
      simp only [nz1, nz2, nz3]
      refine Sym.take_at 7 76 (.pointer (some ⟨(bk v35), (po v35 + y79 * 1), none⟩)) rfl rfl (by kernel_rfl) (by kernel_rfl) (by kernel_rfl) (fun _ _ _ h => h) rfl (fun _ hw => r_ixv ((hm96.see 4 rfl)) y79 (by omega) Tryd.underlying33 sz_9 rfl rfl rfl) (⟨((hm96.see 4 rfl)), ((hm96.see 0 rfl))⟩) ?_
      simp only [nz1, nz2, nz3]
      refine Sym.take_at 8 77 (.string (tx (l34.getD y79 []))) rfl rfl (by kernel_rfl) (by kernel_rfl) (by kernel_rfl) (fun _ _ _ h => h) rfl (fun _ hw => r_cellw (Rs.cell hw.1 eS_len [] y79 (by omega) 0 _ rfl) Tryd.underlying9 rfl rfl rfl) (⟨((hm96.see 4 rfl)), ((hm96.see 0 rfl))⟩) ?_
      simp only [nz1, nz2, nz3]
      refine Sym.take_at 9 78 (lv0) rfl rfl (by kernel_rfl) (by kernel_rfl) (by kernel_rfl) (fun _ _ _ h => h) rfl (fun _ hw => run_mv rfl rfl) (⟨((hm96.see 4 rfl)), ((hm96.see 0 rfl))⟩) ?_
      simp only [nz1, nz2, nz3]
      refine Sym.take_at 10 79 (.int .i64 ((x12 : Nat) : Int)) rfl rfl (by kernel_rfl) (by kernel_rfl) (by kernel_rfl) (fun _ _ _ h => h) rfl (fun _ hw => run_mv rfl rfl) (⟨((hm96.see 4 rfl)), ((hm96.see 0 rfl))⟩) ?_
      simp only [nz1, nz2, nz3]
      refine Sym.take_at 11 80 (.pointer (some ⟨(bk lv0), (po lv0 + x12 * 5), none⟩)) rfl rfl (by kernel_rfl) (by kernel_rfl) (by kernel_rfl) (fun _ _ _ h => h) rfl (fun _ hw => r_ixv ((hm96.see 0 rfl)).rd x12 (by omega) Tryd.underlying22 sz_37 rfl rfl rfl) (⟨((hm96.see 4 rfl)), ((hm96.see 0 rfl))⟩) ?_
      simp only [nz1, nz2, nz3]
      refine Sym.take_at 12 81 (.pointer (some ⟨(bk lv0), ((po lv0 + x12 * 5) + 0), none⟩)) rfl rfl (by kernel_rfl) (by kernel_rfl) (by kernel_rfl) (fun _ _ _ h => h) rfl (fun _ hw => r_fa37_0 (bk lv0) (po lv0 + x12 * 5) rfl rfl) (⟨((hm96.see 4 rfl)), ((hm96.see 0 rfl))⟩) ?_
      simp only [nz1, nz2, nz3]
      refine Sym.take_at 13 82 (.string (tx ((l.getD x12 dMf).name))) rfl rfl (by kernel_rfl) (by kernel_rfl) (by kernel_rfl) (fun _ _ _ h => h) rfl (fun _ hw => r_cellw (Rn.cell hw.2 nMf_len dMf ((Value.slice none 0 0), (Value.slice none 0 0), (Value.slice none 0 0)) x12 (by omega) 0 _ rfl) Tryd.underlying9 rfl rfl rfl) (⟨((hm96.see 4 rfl)), ((hm96.see 0 rfl))⟩) ?_
      simp only [nz1, nz2, nz3]
      refine Sym.take_at 14 83 (.bool (decide (¬ (l34.getD y79 []) = (l.getD x12 dMf).name))) rfl rfl (by kernel_rfl) (by kernel_rfl) (by kernel_rfl) (fun _ _ _ h => h) rfl (fun _ hw => t_neq (l34.getD y79 []) ((l.getD x12 dMf).name) rfl rfl rfl) (⟨((hm96.see 4 rfl)), ((hm96.see 0 rfl))⟩) ?_
      simp only [nz1, nz2, nz3]
      refine tk 15 84 (.bool (decide (¬ (l34.getD y79 []) = (l.getD x12 dMf).name))) rfl rfl (fun _ hw => run_pickf rfl rfl rfl) (⟨((hm96.see 4 rfl)), ((hm96.see 0 rfl))⟩) ?_
      simp only [nz1, nz2, nz3]
      refine wpAnyH_done (by kernel_rfl) ?_ _
      refine then_n (hK95 _ _ ?_)
      refine cond_d (¬ (l34.getD y79 []) = (l.getD x12 dMf).name) rfl (fun hc149 => ?_) (fun hc149 => ?_)
      rotate_left
      · refine wp_skip ?_
        refine blk_n ?_
        refine then_n (hK58 _ _ ?_)
        refine wp_region_lit ?_
        refine lvw 23 (.int .i64 ((x38 : Nat) : Int)) rfl rfl (run_mv rfl rfl) ?_
        simp only [nz1, nz2, nz3]
        refine lvw 24 (.int .i64 (((x38 + 1) : Nat) : Int)) rfl rfl (r_add x38 1 (show (x38 + 1) < 9223372036854775808 from by omega) rfl rfl rfl) ?_
        simp only [nz1, nz2, nz3]
        refine lvw 7 (.int .i64 (((x38 + 1) : Nat) : Int)) rfl rfl (run_as rfl rfl) ?_
        simp only [nz1, nz2, nz3]
        refine wpList_nil ?_
        obtain ⟨F200, hm201⟩ : ∃ F200, Mm none S w w97 [.see (Rn nMf 5 MfN l lv1 lv0) Fl, .see (MfR m mv0 mv1 mv2) Fm, .blk g4 #[.string (tx m.name), .string (tx m.version), mv0, mv1, mv2] 37, .see (Rs eS 1 l8 v9) F10, .see (Rs eS 1 l34 v35) F36, .see (Rs eS 1 l34 v35) F200] := hm96.derive (hm96.from 4 rfl)
        refine then_n (hR52 _ _ _ ⟨k43, l34, (x38 + 1), v35, F200, (fun qq => bif Nat.blt qq 24 then List.getD [.int .i64 ((y79 : Nat) : Int), .int .i64 ((x38 : Nat) : Int), lv0, .int .i64 ((x12 : Nat) : Int), .pointer (some ⟨(bk lv0), (po lv0 + x12 * 5), none⟩), .pointer (some ⟨(bk lv0), ((po lv0 + x12 * 5) + 2), none⟩), (lv1.getD x12 ((Value.slice none 0 0), (Value.slice none 0 0), (Value.slice none 0 0))).1, .int .i64 ((((l.getD x12 dMf).needs).length : Nat) : Int), .bool (decide (x38 < ((l.getD x12 dMf).needs).length)), .int .i64 ((x38 : Nat) : Int), .int .i64 (((x38 + 1) : Nat) : Int), lv0, .int .i64 ((x12 : Nat) : Int), .pointer (some ⟨(bk lv0), (po lv0 + x12 * 5), none⟩), .pointer (some ⟨(bk lv0), ((po lv0 + x12 * 5) + 2), none⟩), (lv1.getD x12 ((Value.slice none 0 0), (Value.slice none 0 0), (Value.slice none 0 0))).1, .int .i64 ((x38 : Nat) : Int), .pointer (some ⟨(bk ((lv1.getD x12 ((Value.slice none 0 0), (Value.slice none 0 0), (Value.slice none 0 0))).1)), (po ((lv1.getD x12 ((Value.slice none 0 0), (Value.slice none 0 0), (Value.slice none 0 0))).1) + x38 * 3), none⟩), .pointer (some ⟨(bk ((lv1.getD x12 ((Value.slice none 0 0), (Value.slice none 0 0), (Value.slice none 0 0))).1)), ((po ((lv1.getD x12 ((Value.slice none 0 0), (Value.slice none 0 0), (Value.slice none 0 0))).1) + x38 * 3) + 0), none⟩), .string (tx ((((l.getD x12 dMf).needs).getD x38 dRul).name)), .pointer (some ⟨g4, 0, none⟩), .string (tx m.name), .bool false, .bool false] qq undef else bif Nat.blt qq 48 then List.getD [lv0, .int .i64 ((x12 : Nat) : Int), .pointer (some ⟨(bk lv0), (po lv0 + x12 * 5), none⟩), .pointer (some ⟨(bk lv0), ((po lv0 + x12 * 5) + 2), none⟩), (lv1.getD x12 ((Value.slice none 0 0), (Value.slice none 0 0), (Value.slice none 0 0))).1, .int .i64 ((x38 : Nat) : Int), .pointer (some ⟨(bk ((lv1.getD x12 ((Value.slice none 0 0), (Value.slice none 0 0), (Value.slice none 0 0))).1)), (po ((lv1.getD x12 ((Value.slice none 0 0), (Value.slice none 0 0), (Value.slice none 0 0))).1) + x38 * 3), none⟩), .agg #[.string (tx ((((l.getD x12 dMf).needs).getD x38 dRul).name)), .int .i64 ((((l.getD x12 dMf).needs).getD x38 dRul).op), .string (tx ((((l.getD x12 dMf).needs).getD x38 dRul).version))], .pointer (some ⟨g4, 1, none⟩), .string (tx m.version), .bool ((rholds_m (((l.getD x12 dMf).needs).getD x38 dRul) m.version)), .bool (!(rholds_m (((l.getD x12 dMf).needs).getD x38 dRul) m.version)), .bool (!(rholds_m (((l.getD x12 dMf).needs).getD x38 dRul) m.version)), yu2 0, yu2 1, yu2 2, yu2 3, yu2 4, yu2 5, yu2 6, yu2 7, yu2 8, yu2 9, yu2 10] (qq - 24) undef else bif Nat.blt qq 72 then List.getD [yu2 11, yu2 12, yu2 13, yu2 14, yu2 15, yu2 16, yu2 17, .int .i64 ((y79 : Nat) : Int), v35, .int .i64 ((l34.length : Nat) : Int), .bool false, .bool false, v35, .int .i64 ((y79 : Nat) : Int), .pointer (some ⟨(bk v35), (po v35 + y79 * 1), none⟩), .string (tx (l34.getD y79 [])), lv0, .int .i64 ((x12 : Nat) : Int), .pointer (some ⟨(bk lv0), (po lv0 + x12 * 5), none⟩), .pointer (some ⟨(bk lv0), ((po lv0 + x12 * 5) + 0), none⟩), .string (tx ((l.getD x12 dMf).name)), .bool (decide (¬ (l34.getD y79 []) = (l.getD x12 dMf).name)), .bool (decide (¬ (l34.getD y79 []) = (l.getD x12 dMf).name)), u1 71] (qq - 48) undef else List.getD [u1 72, u1 73, u1 74, u1 75, u1 76, u1 77, u1 78, u1 79, u1 80, u1 81, u1 82, u1 83, u1 84, u1 85, u1 86] (qq - 72) undef), rfl, (by first | omega | (simp; omega) | (simp at *; omega)), (hq94.trans (show rusers_m_k2 l m l8 x12 l34 x38 (rusers_m_l1 l m l8 x12 k43) y79 = rusers_m_l1 l m l8 x12 k43 (l34, (x38 + 1)) from by unfold rusers_m_k2; rw [if_neg hs98, if_neg hc149] <;> rfl)), (by (try simp only [List.length_append, List.length_take, List.length_drop, List.length_cons, List.length_nil]); omega), rfl, (Mm.reorder hm201 [0, 1, 2, 3, 5] (by decide) rfl)⟩ ?_)
        omega
      refine wp_mono (Q := fun e a' w' => e = Exit.normal ∧ ∃ (v166 : Value) (g160 : Nat) (v154 : Value) (v157 : Value) (v163 : Value), a' = ⟨#[lv0, .agg #[.string (tx m.name), .string (tx m.version), mv0, mv1, mv2], undef, .pointer (some ⟨g4, 0, none⟩), .slice none 0 0, v166, .int .i64 ((x12 : Nat) : Int), .int .i64 ((x38 : Nat) : Int), .int .i64 ((y79 : Nat) : Int), .int .i64 ((x12 : Nat) : Int), lv0, .int .i64 ((l.length : Nat) : Int), .bool (decide (x12 < l.length)), u0 6, u0 7, .int .i64 ((x38 : Nat) : Int), lv0, .int .i64 ((x12 : Nat) : Int), .pointer (some ⟨(bk lv0), (po lv0 + x12 * 5), none⟩), .pointer (some ⟨(bk lv0), ((po lv0 + x12 * 5) + 2), none⟩), (lv1.getD x12 ((Value.slice none 0 0), (Value.slice none 0 0), (Value.slice none 0 0))).1, .int .i64 ((((l.getD x12 dMf).needs).length : Nat) : Int), .bool (decide (x38 < ((l.getD x12 dMf).needs).length)), u1 9, u1 10, lv0, .int .i64 ((x12 : Nat) : Int), .pointer (some ⟨(bk lv0), (po lv0 + x12 * 5), none⟩), .pointer (some ⟨(bk lv0), ((po lv0 + x12 * 5) + 2), none⟩), (lv1.getD x12 ((Value.slice none 0 0), (Value.slice none 0 0), (Value.slice none 0 0))).1, .int .i64 ((x38 : Nat) : Int), .pointer (some ⟨(bk ((lv1.getD x12 ((Value.slice none 0 0), (Value.slice none 0 0), (Value.slice none 0 0))).1)), (po ((lv1.getD x12 ((Value.slice none 0 0), (Value.slice none 0 0), (Value.slice none 0 0))).1) + x38 * 3), none⟩), .pointer (some ⟨(bk ((lv1.getD x12 ((Value.slice none 0 0), (Value.slice none 0 0), (Value.slice none 0 0))).1)), ((po ((lv1.getD x12 ((Value.slice none 0 0), (Value.slice none 0 0), (Value.slice none 0 0))).1) + x38 * 3) + 0), none⟩), .string (tx ((((l.getD x12 dMf).needs).getD x38 dRul).name)), .pointer (some ⟨g4, 0, none⟩), .string (tx m.name), .bool false, .bool false, lv0, .int .i64 ((x12 : Nat) : Int), .pointer (some ⟨(bk lv0), (po lv0 + x12 * 5), none⟩), .pointer (some ⟨(bk lv0), ((po lv0 + x12 * 5) + 2), none⟩), (lv1.getD x12 ((Value.slice none 0 0), (Value.slice none 0 0), (Value.slice none 0 0))).1, .int .i64 ((x38 : Nat) : Int), .pointer (some ⟨(bk ((lv1.getD x12 ((Value.slice none 0 0), (Value.slice none 0 0), (Value.slice none 0 0))).1)), (po ((lv1.getD x12 ((Value.slice none 0 0), (Value.slice none 0 0), (Value.slice none 0 0))).1) + x38 * 3), none⟩), .agg #[.string (tx ((((l.getD x12 dMf).needs).getD x38 dRul).name)), .int .i64 ((((l.getD x12 dMf).needs).getD x38 dRul).op), .string (tx ((((l.getD x12 dMf).needs).getD x38 dRul).version))], .pointer (some ⟨g4, 1, none⟩), .string (tx m.version), .bool ((rholds_m (((l.getD x12 dMf).needs).getD x38 dRul) m.version)), .bool (!(rholds_m (((l.getD x12 dMf).needs).getD x38 dRul) m.version)), .bool (!(rholds_m (((l.getD x12 dMf).needs).getD x38 dRul) m.version)), yu2 0, yu2 1, yu2 2, yu2 3, yu2 4, yu2 5, yu2 6, yu2 7, yu2 8, yu2 9, yu2 10, yu2 11, yu2 12, yu2 13, yu2 14, yu2 15, yu2 16, yu2 17, .int .i64 ((y79 : Nat) : Int), v35, .int .i64 ((l34.length : Nat) : Int), .bool false, .bool false, v35, .int .i64 ((y79 : Nat) : Int), .pointer (some ⟨(bk v35), (po v35 + y79 * 1), none⟩), .string (tx (l34.getD y79 [])), lv0, .int .i64 ((x12 : Nat) : Int), .pointer (some ⟨(bk lv0), (po lv0 + x12 * 5), none⟩), .pointer (some ⟨(bk lv0), ((po lv0 + x12 * 5) + 0), none⟩), .string (tx ((l.getD x12 dMf).name)), .bool (decide (¬ (l34.getD y79 []) = (l.getD x12 dMf).name)), .bool (decide (¬ (l34.getD y79 []) = (l.getD x12 dMf).name)), v154, v35, .int .i64 ((y79 : Nat) : Int), (cutV v35 0 y79 1), v157, lv0, .int .i64 ((x12 : Nat) : Int), .pointer (some ⟨(bk lv0), (po lv0 + x12 * 5), none⟩), .pointer (some ⟨(bk lv0), ((po lv0 + x12 * 5) + 0), none⟩), .string (tx ((l.getD x12 dMf).name)), .slice (some ⟨g160, 0, none⟩) 1 1, v163, v35, .int .i64 ((y79 : Nat) : Int), (cutV v35 y79 l34.length 1), v166, undef], []⟩ ∧ Mm none S w w' [.see (Rn nMf 5 MfN l lv1 lv0) Fl, .see (MfR m mv0 mv1 mv2) Fm, .blk g4 #[.string (tx m.name), .string (tx m.version), mv0, mv1, mv2] 37, .see (Rs eS 1 l8 v9) F10, .see (Rs eS 1 l34 v35) F36, .row v166 (((([] : List (List UInt8)) ++ (l34.take y79)) ++ [((l.getD x12 dMf).name)]) ++ (l34.drop y79)).length ((((([] : List (List UInt8)) ++ (l34.take y79)) ++ [((l.getD x12 dMf).name)]) ++ (l34.drop y79)).flatMap eS) 9 1, .blk g160 #[.string (tx ((l.getD x12 dMf).name))] 9]) ?_ ?_
      · have hm150 := hm96.drew
        refine wp_region_held_drew (S := fun w' => Rs eS 1 l34 v35 w' ∧ Rn nMf 5 MfN l lv1 lv0 w') (by kernel_rfl) (⟨((hm150.see 4 rfl)), ((hm150.see 0 rfl))⟩) (fun _ => ?_)
        generalize w97.drew = w151 at *
        refine Sym.take_at 1 86 (v35) rfl rfl (by kernel_rfl) (by kernel_rfl) (by kernel_rfl) (fun _ _ _ h => nomatch h.1) rfl (fun _ hw => run_mv rfl rfl) (⟨((hm150.see 4 rfl)), ((hm150.see 0 rfl))⟩) ?_
        simp only [nz1, nz2, nz3]
        refine Sym.take_at 2 87 (.int .i64 ((y79 : Nat) : Int)) rfl rfl (by kernel_rfl) (by kernel_rfl) (by kernel_rfl) (fun _ _ _ h => nomatch h.1) rfl (fun _ hw => run_mv rfl rfl) (⟨((hm150.see 4 rfl)), ((hm150.see 0 rfl))⟩) ?_
        simp only [nz1, nz2, nz3]
        refine Sym.take_at 3 88 ((cutV v35 0 y79 1)) rfl rfl (by kernel_rfl) (by kernel_rfl) (by kernel_rfl) (fun _ _ _ h => nomatch h.1) rfl (fun _ hw => r_cut_h hw.1 y79 (by omega) Tryd.underlying33 sz_9 rfl rfl rfl) (⟨((hm150.see 4 rfl)), ((hm150.see 0 rfl))⟩) ?_
        simp only [nz1, nz2, nz3]
        refine Sym.take_at 5 90 (lv0) rfl rfl (by kernel_rfl) (by kernel_rfl) (by kernel_rfl) (fun _ _ _ h => nomatch h.1) rfl (fun _ hw => run_mv rfl rfl) (⟨((hm150.see 4 rfl)), ((hm150.see 0 rfl))⟩) ?_
        simp only [nz1, nz2, nz3]
        refine Sym.take_at 6 91 (.int .i64 ((x12 : Nat) : Int)) rfl rfl (by kernel_rfl) (by kernel_rfl) (by kernel_rfl) (fun _ _ _ h => nomatch h.1) rfl (fun _ hw => run_mv rfl rfl) (⟨((hm150.see 4 rfl)), ((hm150.see 0 rfl))⟩) ?_
        simp only [nz1, nz2, nz3]
        refine Sym.take_at 7 92 (.pointer (some ⟨(bk lv0), (po lv0 + x12 * 5), none⟩)) rfl rfl (by kernel_rfl) (by kernel_rfl) (by kernel_rfl) (fun _ _ _ h => nomatch h.1) rfl (fun _ hw => r_ixv ((hm150.see 0 rfl)).rd x12 (by omega) Tryd.underlying22 sz_37 rfl rfl rfl) (⟨((hm150.see 4 rfl)), ((hm150.see 0 rfl))⟩) ?_
        simp only [nz1, nz2, nz3]
        refine Sym.take_at 8 93 (.pointer (some ⟨(bk lv0), ((po lv0 + x12 * 5) + 0), none⟩)) rfl rfl (by kernel_rfl) (by kernel_rfl) (by kernel_rfl) (fun _ _ _ h => nomatch h.1) rfl (fun _ hw => r_fa37_0 (bk lv0) (po lv0 + x12 * 5) rfl rfl) (⟨((hm150.see 4 rfl)), ((hm150.see 0 rfl))⟩) ?_
        simp only [nz1, nz2, nz3]
        refine Sym.take_at 9 94 (.string (tx ((l.getD x12 dMf).name))) rfl rfl (by kernel_rfl) (by kernel_rfl) (by kernel_rfl) (fun _ _ _ h => nomatch h.1) rfl (fun _ hw => r_cellw (Rn.cell hw.2 nMf_len dMf ((Value.slice none 0 0), (Value.slice none 0 0), (Value.slice none 0 0)) x12 (by omega) 0 _ rfl) Tryd.underlying9 rfl rfl rfl) (⟨((hm150.see 4 rfl)), ((hm150.see 0 rfl))⟩) ?_
        simp only [nz1, nz2, nz3]
        refine Sym.take_at 12 97 (v35) rfl rfl (by kernel_rfl) (by kernel_rfl) (by kernel_rfl) (fun _ _ _ h => nomatch h.1) rfl (fun _ hw => run_mv rfl rfl) (⟨((hm150.see 4 rfl)), ((hm150.see 0 rfl))⟩) ?_
        simp only [nz1, nz2, nz3]
        refine Sym.take_at 13 98 (.int .i64 ((y79 : Nat) : Int)) rfl rfl (by kernel_rfl) (by kernel_rfl) (by kernel_rfl) (fun _ _ _ h => nomatch h.1) rfl (fun _ hw => run_mv rfl rfl) (⟨((hm150.see 4 rfl)), ((hm150.see 0 rfl))⟩) ?_
        simp only [nz1, nz2, nz3]
        refine Sym.take_at 14 99 ((cutV v35 y79 l34.length 1)) rfl rfl (by kernel_rfl) (by kernel_rfl) (by kernel_rfl) (fun _ _ _ h => nomatch h.1) rfl (fun _ hw => r_cut_l hw.1 y79 (by omega) Tryd.underlying33 sz_9 rfl rfl rfl) (⟨((hm150.see 4 rfl)), ((hm150.see 0 rfl))⟩) ?_
        simp only [nz1, nz2, nz3]
        refine two_ready 0 10 (by kernel_rfl) ?_ ?_
        · refine opd rfl rfl (m_lit0 (α := List UInt8) (enc := eS) (size := 1) (e := 9) hm150 85 rfl (by unfold execOp; go_simp; try rfl) (fun v154 w152 (hm153 : Mm none S w w152 [.see (Rn nMf 5 MfN l lv1 lv0) Fl, .see (MfR m mv0 mv1 mv2) Fm, .blk g4 #[.string (tx m.name), .string (tx m.version), mv0, mv1, mv2] 37, .see (Rs eS 1 l8 v9) F10, .see (Rs eS 1 l34 v35) F36, .row v154 ([] : List (List UInt8)).length (([] : List (List UInt8)).flatMap eS) 9 1]) => ?_))
          refine ⟨⟨((hm153.see 4 rfl)), ((hm153.see 0 rfl))⟩, ?_⟩
          simp only [nz1, nz2, nz3]
          refine two_ready 4 10 (by kernel_rfl) ?_ ?_
          · obtain ⟨iq, hiq, hz1, hz2, hz3⟩ := inf_9
            refine opd rfl rfl (m_appendR 5 (l := ([] : List (List UInt8))) (l2 := (l34.take y79)) iq _ _ _ ((cutV v35 0 y79 1)) hm153 rfl 89 rfl rfl Tryd.underlying33 hiq hz1 hz2 hz3 eS_len eS_one rfl (by decide) rfl rfl (Rs.cut_h (hm153.see 4 rfl) eS_len y79 (by omega)) (by first | omega | (simp only [List.length_append, List.length_take, List.length_drop, List.length_cons, List.length_nil]; omega) | (simp; omega)) (by first | omega | (simp only [List.length_append, List.length_take, List.length_drop, List.length_cons, List.length_nil]; omega) | (simp; omega)) (fun v157 w155 (hm156 : Mm none S w w155 [.see (Rn nMf 5 MfN l lv1 lv0) Fl, .see (MfR m mv0 mv1 mv2) Fm, .blk g4 #[.string (tx m.name), .string (tx m.version), mv0, mv1, mv2] 37, .see (Rs eS 1 l8 v9) F10, .see (Rs eS 1 l34 v35) F36, .row v157 (([] : List (List UInt8)) ++ (l34.take y79)).length ((([] : List (List UInt8)) ++ (l34.take y79)).flatMap eS) 9 1]) => ?_))
            refine ⟨⟨((hm156.see 4 rfl)), ((hm156.see 0 rfl))⟩, ?_⟩
            simp only [nz1, nz2, nz3]
            refine one_ready 10 (by kernel_rfl) ?_
            refine opd rfl rfl (m_make (c := #[.string (tx ((l.getD x12 dMf).name))]) (T := 9) (fun g => .slice (some ⟨g, 0, none⟩) 1 1) hm156 95 rfl (by unfold execOp; go_simp; try rfl) (fun g160 w158 hm159 => ?_))
            refine ⟨⟨((hm159.see 4 rfl)), ((hm159.see 0 rfl))⟩, ?_⟩
            simp only [nz1, nz2, nz3]
            refine one_ready 11 (by kernel_rfl) ?_
            obtain ⟨iq, hiq, hz1, hz2, hz3⟩ := inf_9
            refine opd rfl rfl (m_appendR 5 (l := (([] : List (List UInt8)) ++ (l34.take y79))) (l2 := [((l.getD x12 dMf).name)]) iq _ _ _ (.slice (some ⟨g160, 0, none⟩) 1 1) hm159 rfl 96 rfl rfl Tryd.underlying33 hiq hz1 hz2 hz3 eS_len eS_one rfl (by decide) rfl rfl (Rs.blk (l := [((l.getD x12 dMf).name)]) (hm159.at 6 rfl) rfl rfl eS_len (Nat.le_refl _)) (by first | omega | (simp only [List.length_append, List.length_take, List.length_drop, List.length_cons, List.length_nil]; omega) | (simp; omega)) (by first | omega | (simp only [List.length_append, List.length_take, List.length_drop, List.length_cons, List.length_nil]; omega) | (simp; omega)) (fun v163 w161 (hm162 : Mm none S w w161 [.see (Rn nMf 5 MfN l lv1 lv0) Fl, .see (MfR m mv0 mv1 mv2) Fm, .blk g4 #[.string (tx m.name), .string (tx m.version), mv0, mv1, mv2] 37, .see (Rs eS 1 l8 v9) F10, .see (Rs eS 1 l34 v35) F36, .row v163 ((([] : List (List UInt8)) ++ (l34.take y79)) ++ [((l.getD x12 dMf).name)]).length (((([] : List (List UInt8)) ++ (l34.take y79)) ++ [((l.getD x12 dMf).name)]).flatMap eS) 9 1, .blk g160 #[.string (tx ((l.getD x12 dMf).name))] 9]) => ?_))
            refine ⟨⟨((hm162.see 4 rfl)), ((hm162.see 0 rfl))⟩, ?_⟩
            simp only [nz1, nz2, nz3]
            refine one_ready 15 (by kernel_rfl) ?_
            obtain ⟨iq, hiq, hz1, hz2, hz3⟩ := inf_9
            refine opd rfl rfl (m_appendR 5 (l := ((([] : List (List UInt8)) ++ (l34.take y79)) ++ [((l.getD x12 dMf).name)])) (l2 := (l34.drop y79)) iq _ _ _ ((cutV v35 y79 l34.length 1)) hm162 rfl 100 rfl rfl Tryd.underlying33 hiq hz1 hz2 hz3 eS_len eS_one rfl (by decide) rfl rfl (Rs.cut_l (hm162.see 4 rfl) eS_len y79 (by omega)) (by first | omega | (simp only [List.length_append, List.length_take, List.length_drop, List.length_cons, List.length_nil]; omega) | (simp; omega)) (by first | omega | (simp only [List.length_append, List.length_take, List.length_drop, List.length_cons, List.length_nil]; omega) | (simp; omega)) (fun v166 w164 (hm165 : Mm none S w w164 [.see (Rn nMf 5 MfN l lv1 lv0) Fl, .see (MfR m mv0 mv1 mv2) Fm, .blk g4 #[.string (tx m.name), .string (tx m.version), mv0, mv1, mv2] 37, .see (Rs eS 1 l8 v9) F10, .see (Rs eS 1 l34 v35) F36, .row v166 (((([] : List (List UInt8)) ++ (l34.take y79)) ++ [((l.getD x12 dMf).name)]) ++ (l34.drop y79)).length ((((([] : List (List UInt8)) ++ (l34.take y79)) ++ [((l.getD x12 dMf).name)]) ++ (l34.drop y79)).flatMap eS) 9 1, .blk g160 #[.string (tx ((l.getD x12 dMf).name))] 9]) => ?_))
            refine ⟨⟨((hm165.see 4 rfl)), ((hm165.see 0 rfl))⟩, ?_⟩
            simp only [nz1, nz2, nz3]
            refine one_ready 16 (by kernel_rfl) ?_
            refine opd rfl rfl (w_value 5 (v166) rfl (run_as rfl rfl) ⟨⟨((hm165.see 4 rfl)), ((hm165.see 0 rfl))⟩, ?_⟩)
            simp only [nz1, nz2, nz3]
            refine wpAnyH_done (by kernel_rfl) ?_ _
            exact ⟨rfl, v166, g160, v154, v157, v163, rfl, hm165⟩
          · refine opd rfl rfl (m_make (c := #[.string (tx ((l.getD x12 dMf).name))]) (T := 9) (fun g => .slice (some ⟨g, 0, none⟩) 1 1) hm153 95 rfl (by unfold execOp; go_simp; try rfl) (fun g169 w167 hm168 => ?_))
            refine ⟨⟨((hm168.see 4 rfl)), ((hm168.see 0 rfl))⟩, ?_⟩
            simp only [nz1, nz2, nz3]
            refine one_ready 4 (by kernel_rfl) ?_
            obtain ⟨iq, hiq, hz1, hz2, hz3⟩ := inf_9
            refine opd rfl rfl (m_appendR 5 (l := ([] : List (List UInt8))) (l2 := (l34.take y79)) iq _ _ _ ((cutV v35 0 y79 1)) hm168 rfl 89 rfl rfl Tryd.underlying33 hiq hz1 hz2 hz3 eS_len eS_one rfl (by decide) rfl rfl (Rs.cut_h (hm168.see 4 rfl) eS_len y79 (by omega)) (by first | omega | (simp only [List.length_append, List.length_take, List.length_drop, List.length_cons, List.length_nil]; omega) | (simp; omega)) (by first | omega | (simp only [List.length_append, List.length_take, List.length_drop, List.length_cons, List.length_nil]; omega) | (simp; omega)) (fun v172 w170 (hm171 : Mm none S w w170 [.see (Rn nMf 5 MfN l lv1 lv0) Fl, .see (MfR m mv0 mv1 mv2) Fm, .blk g4 #[.string (tx m.name), .string (tx m.version), mv0, mv1, mv2] 37, .see (Rs eS 1 l8 v9) F10, .see (Rs eS 1 l34 v35) F36, .row v172 (([] : List (List UInt8)) ++ (l34.take y79)).length ((([] : List (List UInt8)) ++ (l34.take y79)).flatMap eS) 9 1, .blk g169 #[.string (tx ((l.getD x12 dMf).name))] 9]) => ?_))
            refine ⟨⟨((hm171.see 4 rfl)), ((hm171.see 0 rfl))⟩, ?_⟩
            simp only [nz1, nz2, nz3]
            refine one_ready 11 (by kernel_rfl) ?_
            obtain ⟨iq, hiq, hz1, hz2, hz3⟩ := inf_9
            refine opd rfl rfl (m_appendR 5 (l := (([] : List (List UInt8)) ++ (l34.take y79))) (l2 := [((l.getD x12 dMf).name)]) iq _ _ _ (.slice (some ⟨g169, 0, none⟩) 1 1) hm171 rfl 96 rfl rfl Tryd.underlying33 hiq hz1 hz2 hz3 eS_len eS_one rfl (by decide) rfl rfl (Rs.blk (l := [((l.getD x12 dMf).name)]) (hm171.at 6 rfl) rfl rfl eS_len (Nat.le_refl _)) (by first | omega | (simp only [List.length_append, List.length_take, List.length_drop, List.length_cons, List.length_nil]; omega) | (simp; omega)) (by first | omega | (simp only [List.length_append, List.length_take, List.length_drop, List.length_cons, List.length_nil]; omega) | (simp; omega)) (fun v175 w173 (hm174 : Mm none S w w173 [.see (Rn nMf 5 MfN l lv1 lv0) Fl, .see (MfR m mv0 mv1 mv2) Fm, .blk g4 #[.string (tx m.name), .string (tx m.version), mv0, mv1, mv2] 37, .see (Rs eS 1 l8 v9) F10, .see (Rs eS 1 l34 v35) F36, .row v175 ((([] : List (List UInt8)) ++ (l34.take y79)) ++ [((l.getD x12 dMf).name)]).length (((([] : List (List UInt8)) ++ (l34.take y79)) ++ [((l.getD x12 dMf).name)]).flatMap eS) 9 1, .blk g169 #[.string (tx ((l.getD x12 dMf).name))] 9]) => ?_))
            refine ⟨⟨((hm174.see 4 rfl)), ((hm174.see 0 rfl))⟩, ?_⟩
            simp only [nz1, nz2, nz3]
            refine one_ready 15 (by kernel_rfl) ?_
            obtain ⟨iq, hiq, hz1, hz2, hz3⟩ := inf_9
            refine opd rfl rfl (m_appendR 5 (l := ((([] : List (List UInt8)) ++ (l34.take y79)) ++ [((l.getD x12 dMf).name)])) (l2 := (l34.drop y79)) iq _ _ _ ((cutV v35 y79 l34.length 1)) hm174 rfl 100 rfl rfl Tryd.underlying33 hiq hz1 hz2 hz3 eS_len eS_one rfl (by decide) rfl rfl (Rs.cut_l (hm174.see 4 rfl) eS_len y79 (by omega)) (by first | omega | (simp only [List.length_append, List.length_take, List.length_drop, List.length_cons, List.length_nil]; omega) | (simp; omega)) (by first | omega | (simp only [List.length_append, List.length_take, List.length_drop, List.length_cons, List.length_nil]; omega) | (simp; omega)) (fun v178 w176 (hm177 : Mm none S w w176 [.see (Rn nMf 5 MfN l lv1 lv0) Fl, .see (MfR m mv0 mv1 mv2) Fm, .blk g4 #[.string (tx m.name), .string (tx m.version), mv0, mv1, mv2] 37, .see (Rs eS 1 l8 v9) F10, .see (Rs eS 1 l34 v35) F36, .row v178 (((([] : List (List UInt8)) ++ (l34.take y79)) ++ [((l.getD x12 dMf).name)]) ++ (l34.drop y79)).length ((((([] : List (List UInt8)) ++ (l34.take y79)) ++ [((l.getD x12 dMf).name)]) ++ (l34.drop y79)).flatMap eS) 9 1, .blk g169 #[.string (tx ((l.getD x12 dMf).name))] 9]) => ?_))
            refine ⟨⟨((hm177.see 4 rfl)), ((hm177.see 0 rfl))⟩, ?_⟩
            simp only [nz1, nz2, nz3]
            refine one_ready 16 (by kernel_rfl) ?_
            refine opd rfl rfl (w_value 5 (v178) rfl (run_as rfl rfl) ⟨⟨((hm177.see 4 rfl)), ((hm177.see 0 rfl))⟩, ?_⟩)
            simp only [nz1, nz2, nz3]
            refine wpAnyH_done (by kernel_rfl) ?_ _
            exact ⟨rfl, v178, g169, v154, v172, v175, rfl, hm177⟩
        · refine opd rfl rfl (m_make (c := #[.string (tx ((l.getD x12 dMf).name))]) (T := 9) (fun g => .slice (some ⟨g, 0, none⟩) 1 1) hm150 95 rfl (by unfold execOp; go_simp; try rfl) (fun g181 w179 hm180 => ?_))
          refine ⟨⟨((hm180.see 4 rfl)), ((hm180.see 0 rfl))⟩, ?_⟩
          simp only [nz1, nz2, nz3]
          refine one_ready 0 (by kernel_rfl) ?_
          refine opd rfl rfl (m_lit0 (α := List UInt8) (enc := eS) (size := 1) (e := 9) hm180 85 rfl (by unfold execOp; go_simp; try rfl) (fun v184 w182 (hm183 : Mm none S w w182 [.see (Rn nMf 5 MfN l lv1 lv0) Fl, .see (MfR m mv0 mv1 mv2) Fm, .blk g4 #[.string (tx m.name), .string (tx m.version), mv0, mv1, mv2] 37, .see (Rs eS 1 l8 v9) F10, .see (Rs eS 1 l34 v35) F36, .blk g181 #[.string (tx ((l.getD x12 dMf).name))] 9, .row v184 ([] : List (List UInt8)).length (([] : List (List UInt8)).flatMap eS) 9 1]) => ?_))
          refine ⟨⟨((hm183.see 4 rfl)), ((hm183.see 0 rfl))⟩, ?_⟩
          simp only [nz1, nz2, nz3]
          refine one_ready 4 (by kernel_rfl) ?_
          obtain ⟨iq, hiq, hz1, hz2, hz3⟩ := inf_9
          refine opd rfl rfl (m_appendR 6 (l := ([] : List (List UInt8))) (l2 := (l34.take y79)) iq _ _ _ ((cutV v35 0 y79 1)) hm183 rfl 89 rfl rfl Tryd.underlying33 hiq hz1 hz2 hz3 eS_len eS_one rfl (by decide) rfl rfl (Rs.cut_h (hm183.see 4 rfl) eS_len y79 (by omega)) (by first | omega | (simp only [List.length_append, List.length_take, List.length_drop, List.length_cons, List.length_nil]; omega) | (simp; omega)) (by first | omega | (simp only [List.length_append, List.length_take, List.length_drop, List.length_cons, List.length_nil]; omega) | (simp; omega)) (fun v187 w185 (hm186 : Mm none S w w185 [.see (Rn nMf 5 MfN l lv1 lv0) Fl, .see (MfR m mv0 mv1 mv2) Fm, .blk g4 #[.string (tx m.name), .string (tx m.version), mv0, mv1, mv2] 37, .see (Rs eS 1 l8 v9) F10, .see (Rs eS 1 l34 v35) F36, .blk g181 #[.string (tx ((l.getD x12 dMf).name))] 9, .row v187 (([] : List (List UInt8)) ++ (l34.take y79)).length ((([] : List (List UInt8)) ++ (l34.take y79)).flatMap eS) 9 1]) => ?_))
          refine ⟨⟨((hm186.see 4 rfl)), ((hm186.see 0 rfl))⟩, ?_⟩
          simp only [nz1, nz2, nz3]
          refine one_ready 11 (by kernel_rfl) ?_
          obtain ⟨iq, hiq, hz1, hz2, hz3⟩ := inf_9
          refine opd rfl rfl (m_appendR 6 (l := (([] : List (List UInt8)) ++ (l34.take y79))) (l2 := [((l.getD x12 dMf).name)]) iq _ _ _ (.slice (some ⟨g181, 0, none⟩) 1 1) hm186 rfl 96 rfl rfl Tryd.underlying33 hiq hz1 hz2 hz3 eS_len eS_one rfl (by decide) rfl rfl (Rs.blk (l := [((l.getD x12 dMf).name)]) (hm186.at 5 rfl) rfl rfl eS_len (Nat.le_refl _)) (by first | omega | (simp only [List.length_append, List.length_take, List.length_drop, List.length_cons, List.length_nil]; omega) | (simp; omega)) (by first | omega | (simp only [List.length_append, List.length_take, List.length_drop, List.length_cons, List.length_nil]; omega) | (simp; omega)) (fun v190 w188 (hm189 : Mm none S w w188 [.see (Rn nMf 5 MfN l lv1 lv0) Fl, .see (MfR m mv0 mv1 mv2) Fm, .blk g4 #[.string (tx m.name), .string (tx m.version), mv0, mv1, mv2] 37, .see (Rs eS 1 l8 v9) F10, .see (Rs eS 1 l34 v35) F36, .blk g181 #[.string (tx ((l.getD x12 dMf).name))] 9, .row v190 ((([] : List (List UInt8)) ++ (l34.take y79)) ++ [((l.getD x12 dMf).name)]).length (((([] : List (List UInt8)) ++ (l34.take y79)) ++ [((l.getD x12 dMf).name)]).flatMap eS) 9 1]) => ?_))
          refine ⟨⟨((hm189.see 4 rfl)), ((hm189.see 0 rfl))⟩, ?_⟩
          simp only [nz1, nz2, nz3]
          refine one_ready 15 (by kernel_rfl) ?_
          obtain ⟨iq, hiq, hz1, hz2, hz3⟩ := inf_9
          refine opd rfl rfl (m_appendR 6 (l := ((([] : List (List UInt8)) ++ (l34.take y79)) ++ [((l.getD x12 dMf).name)])) (l2 := (l34.drop y79)) iq _ _ _ ((cutV v35 y79 l34.length 1)) hm189 rfl 100 rfl rfl Tryd.underlying33 hiq hz1 hz2 hz3 eS_len eS_one rfl (by decide) rfl rfl (Rs.cut_l (hm189.see 4 rfl) eS_len y79 (by omega)) (by first | omega | (simp only [List.length_append, List.length_take, List.length_drop, List.length_cons, List.length_nil]; omega) | (simp; omega)) (by first | omega | (simp only [List.length_append, List.length_take, List.length_drop, List.length_cons, List.length_nil]; omega) | (simp; omega)) (fun v193 w191 (hm192 : Mm none S w w191 [.see (Rn nMf 5 MfN l lv1 lv0) Fl, .see (MfR m mv0 mv1 mv2) Fm, .blk g4 #[.string (tx m.name), .string (tx m.version), mv0, mv1, mv2] 37, .see (Rs eS 1 l8 v9) F10, .see (Rs eS 1 l34 v35) F36, .blk g181 #[.string (tx ((l.getD x12 dMf).name))] 9, .row v193 (((([] : List (List UInt8)) ++ (l34.take y79)) ++ [((l.getD x12 dMf).name)]) ++ (l34.drop y79)).length ((((([] : List (List UInt8)) ++ (l34.take y79)) ++ [((l.getD x12 dMf).name)]) ++ (l34.drop y79)).flatMap eS) 9 1]) => ?_))
          refine ⟨⟨((hm192.see 4 rfl)), ((hm192.see 0 rfl))⟩, ?_⟩
          simp only [nz1, nz2, nz3]
          refine one_ready 16 (by kernel_rfl) ?_
          refine opd rfl rfl (w_value 5 (v193) rfl (run_as rfl rfl) ⟨⟨((hm192.see 4 rfl)), ((hm192.see 0 rfl))⟩, ?_⟩)
          simp only [nz1, nz2, nz3]
          refine wpAnyH_done (by kernel_rfl) ?_ _
          exact ⟨rfl, v193, g181, v184, v187, v190, rfl, (Mm.reorder hm192 [0, 1, 2, 3, 4, 6, 5] (by decide) rfl)⟩
      clear hm96
      rintro _ _ w194 ⟨rfl, v166, g160, v154, v157, v163, rfl, hm195⟩
      refine blk_n ?_
      refine then_n (hK58 _ _ ?_)
      refine wp_region_lit ?_
      refine lvw 23 (.int .i64 ((x38 : Nat) : Int)) rfl rfl (run_mv rfl rfl) ?_
      simp only [nz1, nz2, nz3]
      refine lvw 24 (.int .i64 (((x38 + 1) : Nat) : Int)) rfl rfl (r_add x38 1 (show (x38 + 1) < 9223372036854775808 from by omega) rfl rfl rfl) ?_
      simp only [nz1, nz2, nz3]
      refine lvw 7 (.int .i64 (((x38 + 1) : Nat) : Int)) rfl rfl (run_as rfl rfl) ?_
      simp only [nz1, nz2, nz3]
      refine wpList_nil ?_
      have hm196 : Mm none S w w194 [.see (Rn nMf 5 MfN l lv1 lv0) Fl, .see (MfR m mv0 mv1 mv2) Fm, .blk g4 #[.string (tx m.name), .string (tx m.version), mv0, mv1, mv2] 37, .see (Rs eS 1 l8 v9) F10, .see (Rs eS 1 l34 v35) F36, .see (Rs eS 1 (((([] : List (List UInt8)) ++ (l34.take y79)) ++ [((l.getD x12 dMf).name)]) ++ (l34.drop y79)) v166) (fp v166 ((((([] : List (List UInt8)) ++ (l34.take y79)) ++ [((l.getD x12 dMf).name)]) ++ (l34.drop y79)).flatMap eS)), .blk g160 #[.string (tx ((l.getD x12 dMf).name))] 9] := hm195.freeze 5 rfl
      obtain ⟨F197, hm198⟩ : ∃ F197, Mm none S w w194 [.see (Rn nMf 5 MfN l lv1 lv0) Fl, .see (MfR m mv0 mv1 mv2) Fm, .blk g4 #[.string (tx m.name), .string (tx m.version), mv0, mv1, mv2] 37, .see (Rs eS 1 l8 v9) F10, .see (Rs eS 1 l34 v35) F36, .see (Rs eS 1 (((([] : List (List UInt8)) ++ (l34.take y79)) ++ [((l.getD x12 dMf).name)]) ++ (l34.drop y79)) v166) (fp v166 ((((([] : List (List UInt8)) ++ (l34.take y79)) ++ [((l.getD x12 dMf).name)]) ++ (l34.drop y79)).flatMap eS)), .blk g160 #[.string (tx ((l.getD x12 dMf).name))] 9, .see (Rs eS 1 (((([] : List (List UInt8)) ++ (l34.take y79)) ++ [((l.getD x12 dMf).name)]) ++ (l34.drop y79)) v166) F197] := hm196.derive (hm196.from 5 rfl)
      refine then_n (hR52 _ _ _ ⟨k43, (((([] : List (List UInt8)) ++ (l34.take y79)) ++ [((l.getD x12 dMf).name)]) ++ (l34.drop y79)), (x38 + 1), v166, F197, (fun qq => bif Nat.blt qq 24 then List.getD [.int .i64 ((y79 : Nat) : Int), .int .i64 ((x38 : Nat) : Int), lv0, .int .i64 ((x12 : Nat) : Int), .pointer (some ⟨(bk lv0), (po lv0 + x12 * 5), none⟩), .pointer (some ⟨(bk lv0), ((po lv0 + x12 * 5) + 2), none⟩), (lv1.getD x12 ((Value.slice none 0 0), (Value.slice none 0 0), (Value.slice none 0 0))).1, .int .i64 ((((l.getD x12 dMf).needs).length : Nat) : Int), .bool (decide (x38 < ((l.getD x12 dMf).needs).length)), .int .i64 ((x38 : Nat) : Int), .int .i64 (((x38 + 1) : Nat) : Int), lv0, .int .i64 ((x12 : Nat) : Int), .pointer (some ⟨(bk lv0), (po lv0 + x12 * 5), none⟩), .pointer (some ⟨(bk lv0), ((po lv0 + x12 * 5) + 2), none⟩), (lv1.getD x12 ((Value.slice none 0 0), (Value.slice none 0 0), (Value.slice none 0 0))).1, .int .i64 ((x38 : Nat) : Int), .pointer (some ⟨(bk ((lv1.getD x12 ((Value.slice none 0 0), (Value.slice none 0 0), (Value.slice none 0 0))).1)), (po ((lv1.getD x12 ((Value.slice none 0 0), (Value.slice none 0 0), (Value.slice none 0 0))).1) + x38 * 3), none⟩), .pointer (some ⟨(bk ((lv1.getD x12 ((Value.slice none 0 0), (Value.slice none 0 0), (Value.slice none 0 0))).1)), ((po ((lv1.getD x12 ((Value.slice none 0 0), (Value.slice none 0 0), (Value.slice none 0 0))).1) + x38 * 3) + 0), none⟩), .string (tx ((((l.getD x12 dMf).needs).getD x38 dRul).name)), .pointer (some ⟨g4, 0, none⟩), .string (tx m.name), .bool false, .bool false] qq undef else bif Nat.blt qq 48 then List.getD [lv0, .int .i64 ((x12 : Nat) : Int), .pointer (some ⟨(bk lv0), (po lv0 + x12 * 5), none⟩), .pointer (some ⟨(bk lv0), ((po lv0 + x12 * 5) + 2), none⟩), (lv1.getD x12 ((Value.slice none 0 0), (Value.slice none 0 0), (Value.slice none 0 0))).1, .int .i64 ((x38 : Nat) : Int), .pointer (some ⟨(bk ((lv1.getD x12 ((Value.slice none 0 0), (Value.slice none 0 0), (Value.slice none 0 0))).1)), (po ((lv1.getD x12 ((Value.slice none 0 0), (Value.slice none 0 0), (Value.slice none 0 0))).1) + x38 * 3), none⟩), .agg #[.string (tx ((((l.getD x12 dMf).needs).getD x38 dRul).name)), .int .i64 ((((l.getD x12 dMf).needs).getD x38 dRul).op), .string (tx ((((l.getD x12 dMf).needs).getD x38 dRul).version))], .pointer (some ⟨g4, 1, none⟩), .string (tx m.version), .bool ((rholds_m (((l.getD x12 dMf).needs).getD x38 dRul) m.version)), .bool (!(rholds_m (((l.getD x12 dMf).needs).getD x38 dRul) m.version)), .bool (!(rholds_m (((l.getD x12 dMf).needs).getD x38 dRul) m.version)), yu2 0, yu2 1, yu2 2, yu2 3, yu2 4, yu2 5, yu2 6, yu2 7, yu2 8, yu2 9, yu2 10] (qq - 24) undef else bif Nat.blt qq 72 then List.getD [yu2 11, yu2 12, yu2 13, yu2 14, yu2 15, yu2 16, yu2 17, .int .i64 ((y79 : Nat) : Int), v35, .int .i64 ((l34.length : Nat) : Int), .bool false, .bool false, v35, .int .i64 ((y79 : Nat) : Int), .pointer (some ⟨(bk v35), (po v35 + y79 * 1), none⟩), .string (tx (l34.getD y79 [])), lv0, .int .i64 ((x12 : Nat) : Int), .pointer (some ⟨(bk lv0), (po lv0 + x12 * 5), none⟩), .pointer (some ⟨(bk lv0), ((po lv0 + x12 * 5) + 0), none⟩), .string (tx ((l.getD x12 dMf).name)), .bool (decide (¬ (l34.getD y79 []) = (l.getD x12 dMf).name)), .bool (decide (¬ (l34.getD y79 []) = (l.getD x12 dMf).name)), v154] (qq - 48) undef else List.getD [v35, .int .i64 ((y79 : Nat) : Int), (cutV v35 0 y79 1), v157, lv0, .int .i64 ((x12 : Nat) : Int), .pointer (some ⟨(bk lv0), (po lv0 + x12 * 5), none⟩), .pointer (some ⟨(bk lv0), ((po lv0 + x12 * 5) + 0), none⟩), .string (tx ((l.getD x12 dMf).name)), .slice (some ⟨g160, 0, none⟩) 1 1, v163, v35, .int .i64 ((y79 : Nat) : Int), (cutV v35 y79 l34.length 1), v166] (qq - 72) undef), rfl, (by first | omega | (simp; omega) | (simp at *; omega)), (hq94.trans (show rusers_m_k2 l m l8 x12 l34 x38 (rusers_m_l1 l m l8 x12 k43) y79 = rusers_m_l1 l m l8 x12 k43 ((((([] : List (List UInt8)) ++ (l34.take y79)) ++ [((l.getD x12 dMf).name)]) ++ (l34.drop y79)), (x38 + 1)) from by unfold rusers_m_k2; rw [if_neg hs98, if_pos hc149] <;> rfl)), (by (try simp only [List.length_append, List.length_take, List.length_drop, List.length_cons, List.length_nil]); omega), rfl, (Mm.reorder hm198 [0, 1, 2, 3, 7] (by decide) rfl)⟩ ?_)
      omega
    rintro _ w206 ⟨y45, y48, v46, F47, yu1, hx49, hrk, rfl, hm207⟩
    have hq208 : rusers_m_l0 l m ((l.length - 0) + 1) (([]), 0) = rusers_m_k1 l m l8 x12 (rusers_m_l0 l m k17) y45 y48 := (hi18.trans (show rusers_m_b0 l m (rusers_m_l0 l m k17) l8 x12 = rusers_m_k1 l m l8 x12 (rusers_m_l0 l m k17) y45 y48 from by unfold rusers_m_b0; rw [if_pos hc31, hx49] <;> rfl))
    refine blk_n ?_
    refine then_n (hK32 _ _ ?_)
    refine wp_region_lit ?_
    refine lvw 13 (.int .i64 ((x12 : Nat) : Int)) rfl rfl (run_mv rfl rfl) ?_
    simp only [nz1, nz2, nz3]
    refine lvw 14 (.int .i64 (((x12 + 1) : Nat) : Int)) rfl rfl (r_add x12 1 (show (x12 + 1) < 9223372036854775808 from by omega) rfl rfl rfl) ?_
    simp only [nz1, nz2, nz3]
    refine lvw 6 (.int .i64 (((x12 + 1) : Nat) : Int)) rfl rfl (run_as rfl rfl) ?_
    simp only [nz1, nz2, nz3]
    refine wpList_nil ?_
    obtain ⟨F209, hm210⟩ : ∃ F209, Mm none S w w206 [.see (Rn nMf 5 MfN l lv1 lv0) Fl, .see (MfR m mv0 mv1 mv2) Fm, .blk g4 #[.string (tx m.name), .string (tx m.version), mv0, mv1, mv2] 37, .see (Rs eS 1 l8 v9) F10, .see (Rs eS 1 y45 v46) F47, .see (Rs eS 1 y45 v46) F209] := hm207.derive (hm207.from 4 rfl)
    refine then_n (hR26 _ _ _ ⟨k17, y45, (x12 + 1), v46, F209, (fun qq => bif Nat.blt qq 24 then List.getD [.int .i64 ((y48 : Nat) : Int), yu1 0, .int .i64 ((x12 : Nat) : Int), lv0, .int .i64 ((l.length : Nat) : Int), .bool (decide (x12 < l.length)), .int .i64 ((x12 : Nat) : Int), .int .i64 (((x12 + 1) : Nat) : Int), yu1 1, yu1 2, yu1 3, yu1 4, yu1 5, yu1 6, yu1 7, yu1 8, yu1 9, yu1 10, yu1 11, yu1 12, yu1 13, yu1 14, yu1 15, yu1 16] qq undef else bif Nat.blt qq 48 then List.getD [yu1 17, yu1 18, yu1 19, yu1 20, yu1 21, yu1 22, yu1 23, yu1 24, yu1 25, yu1 26, yu1 27, yu1 28, yu1 29, yu1 30, yu1 31, yu1 32, yu1 33, yu1 34, yu1 35, yu1 36, yu1 37, yu1 38, yu1 39, yu1 40] (qq - 24) undef else bif Nat.blt qq 72 then List.getD [yu1 41, yu1 42, yu1 43, yu1 44, yu1 45, yu1 46, yu1 47, yu1 48, yu1 49, yu1 50, yu1 51, yu1 52, yu1 53, yu1 54, yu1 55, yu1 56, yu1 57, yu1 58, yu1 59, yu1 60, yu1 61, yu1 62, yu1 63, yu1 64] (qq - 48) undef else List.getD [yu1 65, yu1 66, yu1 67, yu1 68, yu1 69, yu1 70, yu1 71, yu1 72, yu1 73, yu1 74, yu1 75, yu1 76, yu1 77, yu1 78, yu1 79, yu1 80, yu1 81, yu1 82, yu1 83, yu1 84, yu1 85, yu1 86] (qq - 72) undef), rfl, (by first | omega | (simp; omega) | (simp at *; omega)), (hq208.trans (show rusers_m_k1 l m l8 x12 (rusers_m_l0 l m k17) y45 y48 = rusers_m_l0 l m k17 (y45, (x12 + 1)) from by unfold rusers_m_k1; rfl)), (by have hqn := (okl_at hp1 x12).1; omega), rfl, (Mm.reorder hm210 [0, 1, 2, 5] (by decide) rfl)⟩ ?_)
    omega
  rintro _ w215 ⟨y19, y22, v20, F21, yu0, hx23, hru, rfl, hm216⟩
  have hq217 : rusers_m l m = rusers_m_k0 l m y19 y22 := (show rusers_m l m = rusers_m_k0 l m y19 y22 from by unfold rusers_m; rw [hx23] <;> rfl)
  refine then_n (hK6 _ _ ?_)
  refine wp_seq_k (fun K218 hK218 => ?_)
  refine wp_region_lit ?_
  refine lvw 101 (v20) rfl rfl (run_mv rfl rfl) ?_
  simp only [nz1, nz2, nz3]
  refine lvw 4 (v20) rfl rfl (run_as rfl rfl) ?_
  simp only [nz1, nz2, nz3]
  refine wpList_nil ?_
  refine then_n (hK218 _ _ ?_)
  refine wp_ret ?_
  have he219 : rusers_m l m = y19 := (hq217.trans (show rusers_m_k0 l m y19 y22 = y19 from by unfold rusers_m_k0; rfl))
  exact ⟨rfl, v20, res_t rfl rfl, ⟨⟨_, rfl, v20, (by first | rfl | rw [he219]), by rw [he219]; exact hm216.give (hm216.from 3 rfl)⟩, hm216.below⟩⟩
theorem run_rusers {o : Oper} {a : Act} {w : World} {x0 x1 : Operand} {v0 v1 : Value} (ho : o.op = .call { callee := .value (.func 19), args := #[x0, x1], argTypes := #[22, 37] }) (h0 : a.eval x0 = v0) (h1 : a.eval x1 = v1) :
    (execOp a.eval o).run Tryd.prog w = .ok (.enter 19 #[v0, v1]) w := by
  unfold execOp
  simp only [ho]
  have hf : a.eval (.func 19) = .func (.func 19) #[] #[] := rfl
  generalize a.eval = f at *
  go_simp
end Go.Proofs.YtpbenhfnebgbiaaDoor.So
