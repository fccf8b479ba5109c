/- Layer 8's contracts at any input, as the laws use them. -/
import Derived.Test.YtcadahlmihfmlaaPut
import Derived.Test.YtcadahlmihfmlaaGetRef
namespace Go.Proofs.Ytcadahlmihfmlaa.Oct
open Go.RowKit

theorem getR_oct (l : List UInt8) (h : ¬ l.head? = some 128) : getR l = getO l := by unfold getR; rw [if_neg h]
theorem head_128 (s : ByteArray) (h : 0 < s.size) : s.data.toList.head? = some 128 ↔ s[0].toNat = 128 := by
  have := drop_byte s 0 h
  rw [List.drop_zero] at this
  rw [this, List.head?_cons, Option.some_inj, ← UInt8.toNat_inj]
  exact Iff.rfl

theorem get_at (s : ByteArray) (w : World) (hs : s.size ≤ 1000) (N E : Int) (h : getR s.data.toList = (N, E)) :
    Calls Try.prog 15 #[.string s] w fun e w' => e = .returned (.tuple #[.int .i64 N, .int .i64 E]) ∧ w = w' := by
  by_cases hc : ∃ h : 0 < s.size, s[0].toNat = 128
  · obtain ⟨h0, h1⟩ := hc
    have := get_wide s w hs h0 h1
    rw [h] at this
    exact this
  · have h1 : ∀ h : 0 < s.size, ¬ s[0].toNat = 128 := fun h e => hc ⟨h, e⟩
    refine get_oct s w hs h1 N E ?_
    rw [← getR_oct _ ?_, h]
    by_cases h0 : 0 < s.size
    · rw [head_128 s h0]; exact h1 h0
    · have : s.data.toList = [] := List.eq_nil_of_length_eq_zero (by rw [← Lib.size_eq]; omega)
      rw [this]; simp

theorem get_ref_at (s : ByteArray) (w : World) (hs : s.size ≤ 1000) (N E : Int) (h : getR s.data.toList = (N, E)) :
    Calls Try.prog 16 #[.string s] w fun e w' => e = .returned (.tuple #[.int .i64 N, .int .i64 E]) ∧ w = w' := by
  by_cases hc : ∃ h : 0 < s.size, s[0].toNat = 128
  · obtain ⟨h0, h1⟩ := hc
    exact get_ref_wide s w hs h0 h1 N E h
  · have h1 : ∀ h : 0 < s.size, ¬ s[0].toNat = 128 := fun h e => hc ⟨h, e⟩
    refine get_ref_oct s w hs h1 N E ?_
    rw [← getR_oct _ ?_, h]
    by_cases h0 : 0 < s.size
    · rw [head_128 s h0]; exact h1 h0
    · have : s.data.toList = [] := List.eq_nil_of_length_eq_zero (by rw [← Lib.size_eq]; omega)
      rw [this]; simp

theorem put_at (n W : Int) (w : World) (h1 : n < 9223372036854775808) (S : List UInt8) (E : Int) (hS : pS n W = S) (hE : pE n W = E) :
    Calls Try.prog 10 #[.int .i64 n, .int .i64 W] w fun e w' => e = .returned (.tuple #[.string ⟨S.toArray⟩, .int .i64 E]) ∧ Below w.heap.size w w' := by
  subst hS hE
  exact put_all n W w h1
theorem put_ref_at (n W : Int) (w : World) (h1 : n < 9223372036854775808) (S : List UInt8) (E : Int) (hS : pS n W = S) (hE : pE n W = E) :
    Calls Try.prog 11 #[.int .i64 n, .int .i64 W] w fun e w' => e = .returned (.tuple #[.string ⟨S.toArray⟩, .int .i64 E]) ∧ Below w.heap.size w w' := by
  subst hS hE
  exact put_ref_all n W w h1
theorem octal_at (n d : Int) (w : World) (h1 : n < 9223372036854775808) (S : List UInt8) (b : Bool) (hS : oS n d = S) (hb : oB n d = b) :
    Calls Try.prog 12 #[.int .i64 n, .int .i64 d] w fun e w' => e = .returned (.tuple #[.string ⟨S.toArray⟩, .bool b]) ∧ Below w.heap.size w w' := by
  subst hS hb
  exact oct_all n d w h1
theorem octal_ref_at (n d : Int) (w : World) (h1 : n < 9223372036854775808) (S : List UInt8) (b : Bool) (hS : oS n d = S) (hb : oB n d = b) :
    Calls Try.prog 13 #[.int .i64 n, .int .i64 d] w fun e w' => e = .returned (.tuple #[.string ⟨S.toArray⟩, .bool b]) ∧ Below w.heap.size w w' := by
  subst hS hb
  exact oct_ref_all n d w h1

theorem getR_pos (l : List UInt8) : 0 ≤ (getR l).1 := by
  have h : ∀ o, 0 ≤ nN o := fun o => by unfold nN; omega
  unfold getR getO
  split
  · exact h _
  · split
    · exact Int.le_refl _
    · split
      · exact Int.le_refl _
      · exact h _

theorem p8S : pS 8 8 = [48, 48, 48, 48, 48, 49, 48, 0] := by decide +kernel
theorem p8E : pE 8 8 = 0 := by decide +kernel
theorem p21S : pS 2097152 8 = [128, 0, 0, 0, 0, 32, 0, 0] := by decide +kernel
theorem p21E : pE 2097152 8 = 0 := by decide +kernel
theorem g12 : getR ((⟨#[32, 49, 50, 32, 0]⟩ : ByteArray).data.toList) = (10, 0) := by decide +kernel

theorem awake (w : World) :
    Calls Try.prog 14 #[] w fun e w' => e = .returned (.bool true) ∧ Below w.heap.size w w' := by
  go_enter Try.func14, Try.ntmps14
  go_wp2_with fail
  refine (put_at 8 8 _ (by omega) _ _ p8S p8E).mono ?_
  rintro e w1 ⟨rfl, hb1⟩
  go_wp2_with fail
  refine (put_at 2097152 8 _ (by omega) _ _ p21S p21E).mono ?_
  rintro e w2 ⟨rfl, hb2⟩
  go_wp2_with fail
  refine (get_at ⟨#[32, 49, 50, 32, 0]⟩ _ (by decide) _ _ g12).mono ?_
  rintro e w3 ⟨rfl, rfl⟩
  go_wp2
  go_ret
  exact ⟨rfl, hb1.trans (hb2.mono hb1.size)⟩
end Go.Proofs.Ytcadahlmihfmlaa.Oct
