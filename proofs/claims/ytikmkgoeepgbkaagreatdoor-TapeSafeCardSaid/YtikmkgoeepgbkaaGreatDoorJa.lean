/- Paths: parts, and what stands in them. -/
import Derived.Test.YtikmkgoeepgbkaaGreatDoorMt
set_option linter.all false
namespace Go.Proofs.YtikmkgoeepgbkaaGreatDoor.Ev
open Go.RowKit
open Go.Proofs.YtikmkgoeepgbkaaGreatDoor.Mem
set_option linter.unusedVariables false
set_option linter.unusedSimpArgs false
set_option maxRecDepth 100000
/-- May that rune be a part's? -/
def signN (r : Nat) : Bool := decide (32 < r) && decide (r ≠ 47) && decide (r ≠ 127) && (decide (r < 128) || decide (159 < r))
theorem signN_of {b : Bool} {r : Nat} (h : b = true ↔ (32 < r ∧ r ≠ 47 ∧ r ≠ 127 ∧ (r < 128 ∨ 159 < r))) : b = signN r := by
  rw [Bool.eq_iff_iff, h]
  simp [signN, and_assoc]
theorem sign_ok (r : Nat) : Spec Tryz.prog LL 67 [.n .i32 (r : Int)] (.b (signN r)) := by
  refine spec_of (C := ⟨Tryz.prog, LL, EE, []⟩) (rl := [.b (signN r)]) (rs := [.tmp 2]) CCx LLs Tryz.func67 rfl (by kernel_rfl) rfl (by kernel_rfl) (Nat.le_of_ble_eq_true rfl) (fun i => rfl) (fun i => by first | rfl | exact (Bool.or_false _).trans (eSd_men _ _)) rfl (by decide) ?_
  refine gm ?_
  repeat' (first | exact True.intro | (exact signN_of (by simp; omega)) | refine br (fun h => ?_) (fun h => ?_) | refine gm ?_)
/-- Of each rune of a text from a place on. -/
def runs (f : Nat → Bool) (s : List UInt8) (p : Nat) : Bool := if h : p < s.length then f (dec s p).1 && runs f s (p + (dec s p).2) else true
termination_by s.length - p
decreasing_by have := dec_pos s p; omega
theorem runs_lt {f : Nat → Bool} {s : List UInt8} {p : Nat} (h : p < s.length) : runs f s p = (f (dec s p).1 && runs f s (p + (dec s p).2)) := by rw [runs, dif_pos h]
theorem runs_ge {f : Nat → Bool} {s : List UInt8} {p : Nat} (h : ¬ p < s.length) : runs f s p = true := by rw [runs, dif_neg h]
def sgF (sl : Bool) (r : Nat) : Bool := signN r || (sl && decide (r = 47))
def signsB (s : List UInt8) (sl : Bool) : Bool := Lib.validD s && runs (sgF sl) s 0
theorem signs_ok (s : List UInt8) (sl : Bool) (hs : s.length ≤ 1000000) : Spec Tryz.prog LL 33 [.s s, .b sl] (.b (signsB s sl)) := by
  refine spec_of (C := ⟨Tryz.prog, LL, EE, []⟩) (rl := [.b (signsB s sl)]) (rs := [.tmp 4]) CCx LLs Tryz.func33 rfl (by kernel_rfl) rfl (by kernel_rfl) (Nat.le_of_ble_eq_true rfl) (fun i => rfl) (fun i => by first | rfl | exact (Bool.or_false _).trans (eSd_men _ _)) rfl (by decide) ?_
  refine gm ?_
  refine cl (valid_ok s (by omega)) ?_
  refine gm ?_
  refine br (fun v => ?_) (fun v => ?_)
  · try refine gm ?_
    simp [signsB, v]
  · try refine gm ?_
    refine lp_hd [1] [] (fun p : Nat => [(11, .p 11 0)]) (fun p : Nat => [(11, .itr s p)]) (fun p : Nat => p ≤ s.length ∧ runs (sgF sl) s 0 = runs (sgF sl) s p) (fun p : Nat => s.length - p) (0) id (id) ⟨Nat.zero_le _, rfl⟩ (fits_of (gm ?_) (gm ?_) (gm ?_) (gm ?_) (gm ?_)) ?_
    · first | exact True.intro | exact ⟨rfl, rfl⟩ | exact ⟨rfl, rfl, rfl⟩ | rfl | exact rowc (List.map_id _) | trivial
    · first | exact True.intro | exact ⟨rfl, rfl⟩ | exact ⟨rfl, rfl, rfl⟩ | rfl | exact rowc (List.map_id _) | trivial
    · first | exact True.intro | exact ⟨rfl, rfl⟩ | exact ⟨rfl, rfl, rfl⟩ | rfl | exact rowc (List.map_id _) | trivial
    · first | exact True.intro | exact ⟨rfl, rfl⟩ | exact ⟨rfl, rfl, rfl⟩ | rfl | exact rowc (List.map_id _) | trivial
    · first | exact True.intro | exact ⟨rfl, rfl⟩ | exact ⟨rfl, rfl, rfl⟩ | rfl | exact rowc (List.map_id _) | trivial
    rintro p ⟨hp, hr⟩
    try refine gm ?_
    refine br (fun b => ?_) (fun b => ?_)
    · have h1 := dec_pos s p
      have h2 := dec_le s p b
      rw [runs_lt b] at hr
      have no : sgF sl (dec s p).1 = false → false = signsB s sl := fun e => by rw [signsB, hr, e]; simp
      have yes : sgF sl (dec s p).1 = true → runs (sgF sl) s 0 = runs (sgF sl) s (p + (dec s p).2) := fun e => by rw [hr, e]; simp
      try refine gm ?_
      refine cl (sign_ok _) ?_
      refine gm ?_
      repeat' (first | exact True.intro | (exact no (by clear no yes hr; simp_all [sgF] <;> omega)) | (refine ⟨p + (dec s p).2, ⟨h2, yes (by clear no yes hr; simp_all [sgF] <;> omega)⟩, (by omega), fits_of (gm ?_) (gm ?_) (gm ?_) (gm ?_) (gm ?_)⟩ <;> (first | exact True.intro | exact ⟨rfl, rfl⟩ | exact ⟨rfl, rfl, rfl⟩ | rfl | exact rowc (List.map_id _) | trivial); done) | refine br (fun h => ?_) (fun h => ?_) | refine gm ?_)
    · try refine gm ?_
      rw [runs_ge b] at hr
      simp [signsB, hr, v]
def dotS : List UInt8 := [46]
def partB (x : List UInt8) : Bool := decide (1 ≤ x.length) && decide (x.length ≤ 64) && decide (x ≠ [46]) && decide (x ≠ [46, 46]) && signsB x false
theorem part_ok (s : List UInt8) (hs : s.length ≤ 140737488355328) : Spec Tryz.prog LL 32 [.s s] (.b (partB s)) := by
  refine spec_of (C := ⟨Tryz.prog, LL, EE, []⟩) (rl := [.b (partB s)]) (rs := [.tmp 2]) CCx LLs Tryz.func32 rfl (by kernel_rfl) rfl (by kernel_rfl) (Nat.le_of_ble_eq_true rfl) (fun i => rfl) (fun i => by first | rfl | exact (Bool.or_false _).trans (eSd_men _ _)) rfl (by decide) ?_
  refine gm ?_
  repeat' (first | exact True.intro | (simp_all [partB]; done) | (simp_all [partB]; omega) | refine cl (signs_ok s false (by omega)) (gm ?_) | refine br (fun h => ?_) (fun h => ?_) | refine gm ?_)
/-- A path's parts, or what is wrong with it. -/
def partsM (s : List UInt8) : List (List UInt8) × Int :=
  if 200 < s.length then ([], 3) else if ¬ (sp 47 s).all partB then ([], 4) else if 16 < (sp 47 s).length then ([], 3) else (sp 47 s, 0)
theorem sp_sum (c : UInt8) : ∀ s x, x ∈ sp c s → x.length ≤ s.length
  | [], x, h => by simp [sp] at h; subst h; simp
  | b :: r, x, h => by
    unfold sp at h
    split at h
    · rcases List.mem_cons.1 h with rfl | h
      · simp
      · have := sp_sum c r x h; simp; omega
    · rcases List.mem_cons.1 h with rfl | h
      · have := sp_ne c r
        obtain ⟨y, l, e⟩ := List.exists_cons_of_ne_nil this
        have := sp_sum c r y (by rw [e]; simp)
        rw [e]
        simp
        omega
      · have := sp_sum c r x (List.mem_of_mem_tail h); simp; omega
def eParts (r : List (List UInt8) × Int) : List V := [if r.2 = 0 then .sl 1 (List UInt8) [] r.1 .s else .nl, .n .i64 r.2]
theorem parts2_ok (s : List UInt8) (hs : s.length ≤ 281474976710656) : Spec Tryz.prog LL 18 [.s s] (.tp [.sl 1 (List UInt8) [] (partsM s).1 .s, .n .i64 (partsM s).2]) := by
  refine spec_of (C := ⟨Tryz.prog, LL, EE, []⟩) (rl := [.sl 1 (List UInt8) [] (partsM s).1 .s, .n .i64 (partsM s).2]) (rs := [.tmp 2, .tmp 3]) CCx LLs Tryz.func18 rfl (by kernel_rfl) rfl (by kernel_rfl) (Nat.le_of_ble_eq_true rfl) (fun i => rfl) (fun i => by first | rfl | exact (Bool.or_false _).trans (eSd_men _ _)) rfl (by decide) ?_
  refine gm ?_
  refine br (fun a => ?_) (fun a => ?_)
  · try refine gm ?_
    rw [show partsM s = ([], 3) from if_pos (by omega)]
    exact ⟨le_nl, rfl⟩
  · have hs2 : s.length ≤ 200 := by omega
    try refine gm ?_
    refine cl (split_ok s 47 (by omega)) ?_
    refine gm ?_
    have hsl := sp_len 47 s
    refine lp_hd [4, 12, 13] [] (fun i : Nat => [(14, .n .i64 (i : Int))]) (fun i : Nat => []) (fun i : Nat => i ≤ (sp 47 s).length ∧ ((sp 47 s).take i).all partB = true) (fun i : Nat => (sp 47 s).length - i) (0) id (id) ⟨Nat.zero_le _, rfl⟩ (fits_of (gm ?_) (gm ?_) (gm ?_) (gm ?_) (gm ?_)) ?_
    · first | exact True.intro | exact ⟨rfl, rfl⟩ | exact ⟨rfl, rfl, rfl⟩ | rfl | exact rowc (List.map_id _) | trivial
    · first | exact True.intro | exact ⟨rfl, rfl⟩ | exact ⟨rfl, rfl, rfl⟩ | rfl | exact rowc (List.map_id _) | trivial
    · first | exact True.intro | exact ⟨rfl, rfl⟩ | exact ⟨rfl, rfl, rfl⟩ | rfl | exact rowc (List.map_id _) | trivial
    · first | exact True.intro | exact ⟨rfl, rfl⟩ | exact ⟨rfl, rfl, rfl⟩ | rfl | exact rowc (List.map_id _) | trivial
    · first | exact True.intro | exact ⟨rfl, rfl⟩ | exact ⟨rfl, rfl, rfl⟩ | rfl | exact rowc (List.map_id _) | trivial
    rintro i ⟨hi, hall⟩
    try refine gm ?_
    refine br (fun b => ?_) (fun b => ?_)
    · try refine gm ?_
      have hm : (sp 47 s).getD i [] ∈ sp 47 s := getD_mem (by omega)
      have hml := sp_sum 47 s _ hm
      refine cl (part_ok ((sp 47 s).getD i []) (by omega)) ?_
      refine gm ?_
      refine br (fun c => ?_) (fun c => ?_)
      · try refine gm ?_
        rw [show partsM s = ([], 4) from (if_neg (by omega)).trans (if_pos (by rw [List.all_eq_true]; intro h; have := h _ hm; rw [c] at this; cases this))]
        exact ⟨le_nl, rfl⟩
      · try refine gm ?_
        refine ⟨i + 1, ⟨by omega, by rw [take_at _ i [] (by omega), List.all_append, hall]; simpa using c⟩, (by omega), fits_of (gm ?_) (gm ?_) (gm ?_) (gm ?_) (gm ?_)⟩
        · first | exact True.intro | exact ⟨rfl, rfl⟩ | exact ⟨rfl, rfl, rfl⟩ | rfl | exact rowc (List.map_id _) | trivial
        · first | exact True.intro | exact ⟨rfl, rfl⟩ | exact ⟨rfl, rfl, rfl⟩ | rfl | exact rowc (List.map_id _) | trivial
        · first | exact True.intro | exact ⟨rfl, rfl⟩ | exact ⟨rfl, rfl, rfl⟩ | rfl | exact rowc (List.map_id _) | trivial
        · first | exact True.intro | exact ⟨rfl, rfl⟩ | exact ⟨rfl, rfl, rfl⟩ | rfl | exact rowc (List.map_id _) | trivial
        · first | exact True.intro | exact ⟨rfl, rfl⟩ | exact ⟨rfl, rfl, rfl⟩ | rfl | exact rowc (List.map_id _) | trivial
    · try refine gm ?_
      rw [List.take_of_length_le (by omega)] at hall
      refine br (fun c => ?_) (fun c => ?_)
      · try refine gm ?_
        rw [show partsM s = ([], 3) from (if_neg (by omega)).trans ((if_neg (by rw [hall]; simp)).trans (if_pos (by omega)))]
        exact ⟨le_nl, rfl⟩
      · try refine gm ?_
        rw [show partsM s = (sp 47 s, 0) from (if_neg (by omega)).trans ((if_neg (by rw [hall]; simp)).trans (if_neg (by omega)))]
        exact ⟨le_refl _, rfl⟩
theorem parts_ok (s : List UInt8) (hs : s.length ≤ 140737488355328) : Spec Tryz.prog LL 18 [.s s] (.tp [.sl 1 (List UInt8) [] (partsM s).1 .s, .n .i64 (partsM s).2]) := parts2_ok s (by omega)
def tarB (s : List UInt8) : Bool := decide (1 ≤ s.length) && decide (s.length ≤ 200) && signsB s true
theorem tar_ok (s : List UInt8) (hs : s.length ≤ 140737488355328) : Spec Tryz.prog LL 20 [.s s] (.b (tarB s)) := by
  refine spec_of (C := ⟨Tryz.prog, LL, EE, []⟩) (rl := [.b (tarB s)]) (rs := [.tmp 2]) CCx LLs Tryz.func20 rfl (by kernel_rfl) rfl (by kernel_rfl) (Nat.le_of_ble_eq_true rfl) (fun i => rfl) (fun i => by first | rfl | exact (Bool.or_false _).trans (eSd_men _ _)) rfl (by decide) ?_
  refine gm ?_
  repeat' (first | exact True.intro | (simp_all [tarB]; done) | (simp_all [tarB]; omega) | refine cl (signs_ok s true (by omega)) (gm ?_) | refine br (fun h => ?_) (fun h => ?_) | refine gm ?_)
end Go.Proofs.YtikmkgoeepgbkaaGreatDoor.Ev
