/- Layer 12: what the library's functions give, over lists of bytes. -/
import Derived.Test.YtpbenhfnebgbiaaDoorVeR
set_option linter.unusedVariables false
namespace Go.Proofs.YtpbenhfnebgbiaaDoor.Ve
open Go.RowKit
open Go.Proofs.YtpbenhfnebgbiaaDoor.Mem Go.Proofs.YtpbenhfnebgbiaaDoor.Pa
def cmpi_m (x y : Int) : Int := Lib.compareInt x y
theorem cmpi_any (x y : Int) (w : World) : Calls Tryd.prog 58 #[.int .i64 x, .int .i64 y] w (fun e w' => e = .returned (.int .i64 (cmpi_m x y)) ∧ Below w.heap.size w w') := by
  refine (Tryd.cmp_Compare_int x y w).mono ?_
  rintro e w' ⟨rfl, rfl⟩
  exact ⟨rfl, Below.refl _ _⟩
/-- A text without what it has of a byte ahead. -/
def trimz_m (s cut : List UInt8) : List UInt8 := s.dropWhile (· == 48)
theorem trimz_any (s cut : List UInt8) (w : World) (hp0 : cut = [48]) : Calls Tryd.prog 60 #[.string (tx s), .string (tx cut)] w (fun e w' => e = .returned (.string (tx (trimz_m s cut))) ∧ Below w.heap.size w w') := by
  subst hp0
  refine (Tryd.strings_TrimLeft_one (tx s) 48 (by decide) w).mono ?_
  rintro e w' ⟨rfl, rfl⟩
  rw [tx_dl]
  exact ⟨rfl, Below.refl _ _⟩
def nans_m (x : List UInt8) : Bool := false
theorem nans_any (x : List UInt8) (w : World) : Calls Tryd.prog 56 #[.string (tx x)] w (fun e w' => e = .returned (.bool (nans_m x)) ∧ Below w.heap.size w w') := by
  go_enter Tryd.func56, Tryd.ntmps56
  go_wp2
  all_goals go_ret
  all_goals exact ⟨by simp [nans_m], Below.refl _ _⟩
def crune_m (s : List UInt8) (r : Int) : Bool := decide (r = 46 ∨ r = 45 ∨ r = 43 ∨ r = 126 ∨ r = 95)
theorem crune_any (s : List UInt8) (r : Int) (w : World) (hp0 : s = [46, 45, 43, 126, 95] ∧ 0 ≤ r ∧ r ≤ 1114111) : Calls Tryd.prog 55 #[.string (tx s), .int .i32 r] w (fun e w' => e = .returned (.bool (crune_m s r)) ∧ Below w.heap.size w w') := by
  obtain ⟨rfl, h0, h1⟩ := hp0
  by_cases h2 : r < 128
  · refine (Tryd.strings_ContainsRune_ascii (tx [46, 45, 43, 126, 95]) r w h0 h2).mono ?_
    rintro e w' ⟨rfl, rfl⟩
    refine ⟨?_, Below.refl _ _⟩
    rw [tx_dl]
    congr 2
    obtain ⟨n, rfl⟩ : ∃ n : Nat, r = (n : Int) := ⟨r.toNat, by omega⟩
    have hn : n < 128 := by omega
    have key : ∀ m : Fin 128, decide (0 ≤ Lib.indexByte [46, 45, 43, 126, 95] (((m.val : Int)).toNat.toUInt8)) = crune_m [46, 45, 43, 126, 95] (m.val : Int) := by decide +kernel
    exact key ⟨n, hn⟩
  · have h := crhi_any r w (by omega) h1
    rw [crhi_no r (by omega) h1] at h
    have e : crune_m [46, 45, 43, 126, 95] r = false := by
      unfold crune_m
      exact decide_eq_false (by omega)
    rw [e]
    exact h
end Go.Proofs.YtpbenhfnebgbiaaDoor.Ve
