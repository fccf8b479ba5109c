/- Layer 9: what is cut off: the mathematics. -/
import Derived.Test.YtglnifckngcpkaaDoorHdS
set_option linter.unusedVariables false
namespace Go.Proofs.YtglnifckngcpkaaDoor.Hd
open Go.Proofs.YtglnifckngcpkaaDoor.Mem
def nz (b : UInt8) : Bool := b != 0
theorem cut_is : ∀ s : List UInt8, hcut_m s = s.takeWhile nz
  | [] => by
    unfold hcut_m cut_m Lib.cut
    rw [Lib.index_one]
    rfl
  | x :: r => by
    have ih := cut_is r
    unfold hcut_m cut_m Lib.cut at ih ⊢
    rw [Lib.index_one] at ih ⊢
    have E : Lib.indexByte (x :: r) 0 = if x == (0 : UInt8) then 0 else if Lib.indexByte r 0 == -1 then -1 else Lib.indexByte r 0 + 1 := rfl
    by_cases h : x = 0
    · subst h
      rfl
    · rw [List.takeWhile_cons_of_pos (by unfold nz; simpa using h)]
      have E2 : Lib.indexByte (x :: r) 0 = if Lib.indexByte r 0 == -1 then -1 else Lib.indexByte r 0 + 1 := by rw [E, if_neg (by simpa using h)]
      have hge := Lib.indexByte_ge r 0
      by_cases h2 : Lib.indexByte r 0 = -1
      · have E3 : Lib.indexByte (x :: r) 0 = -1 := by rw [E2, h2]; rfl
        rw [E3, if_neg (by decide)]
        rw [h2, if_neg (by decide)] at ih
        simp only at ih ⊢
        rw [← ih]
      · have E3 : Lib.indexByte (x :: r) 0 = Lib.indexByte r 0 + 1 := by rw [E2, if_neg (by simpa using h2)]
        rw [E3, if_pos (by omega)]
        rw [if_pos (by omega)] at ih
        simp only at ih ⊢
        rw [← ih, show (Lib.indexByte r 0 + 1).toNat = (Lib.indexByte r 0).toNat + 1 by omega]
        rfl
theorem by_z (s : List UInt8) (i : Nat) (h : i < s.length) : by' s i = 0 ↔ s[i] = 0 := by
  rw [← by_at s i h]
  exact ⟨fun e => UInt8.toNat_inj.1 e, fun e => by rw [e]; rfl⟩
end Go.Proofs.YtglnifckngcpkaaDoor.Hd
