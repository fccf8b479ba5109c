/- Layer 1's example: the signs of the sum of abc. -/
import Derived.Test.YtbgfndabfmjmkaaDoorShaG
import Derived.Test.YtbgfndabfmjmkaaDoorUnhex
namespace Go.Proofs.YtbgfndabfmjmkaaDoor.Sha
open Go.RowKit

theorem sum_at (s : ByteArray) (w : World) (hs : s.size ≤ 250000) (hk : KT 0 w) (S : List UInt8) (h : sha s = S) :
    Calls Tryd.prog 10 #[.string s] w fun e w' => e = .returned (.string ⟨S.toArray⟩) ∧ Below w.heap.size w w' := by
  subst h; exact sum_any s w hs hk
theorem hex_at (s : ByteArray) (w : World) (hs : s.size ≤ 20000) (S : List UInt8) (h : Hex.hex s.data.toList = S) :
    Calls Tryd.prog 14 #[.string s] w fun e w' => e = .returned (.string ⟨S.toArray⟩) ∧ Below w.heap.size w w' := by
  subst h; exact Hex.hex_any s w hs
theorem hex_abc : Hex.hex (⟨#[186, 120, 22, 191, 143, 1, 207, 234, 65, 65, 64, 222, 93, 174, 34, 35, 176, 3, 97, 163, 150, 23, 122, 156, 180, 16, 255, 97, 242, 0, 21, 173]⟩ : ByteArray).data.toList = [98, 97, 55, 56, 49, 54, 98, 102, 56, 102, 48, 49, 99, 102, 101, 97, 52, 49, 52, 49, 52, 48, 100, 101, 53, 100, 97, 101, 50, 50, 50, 51, 98, 48, 48, 51, 54, 49, 97, 51, 57, 54, 49, 55, 55, 97, 57, 99, 98, 52, 49, 48, 102, 102, 54, 49, 102, 50, 48, 48, 49, 53, 97, 100] := by decide +kernel

theorem awake (w : World) (hk : KT 0 w) : Calls Tryd.prog 9 #[] w fun e w' => e = .returned (.bool true) ∧ Below w.heap.size w w' := by
  have HK := Lib.hid hk
  clear hk
  go_enter Tryd.func9, Tryd.ntmps9
  go_wp2_with fail
  refine (sum_at ⟨#[97, 98, 99]⟩ _ (by decide) HK.out _ sha_abc).mono ?_
  rintro e w1 ⟨rfl, hb1⟩
  go_wp2_with fail
  refine (hex_at ⟨#[186, 120, 22, 191, 143, 1, 207, 234, 65, 65, 64, 222, 93, 174, 34, 35, 176, 3, 97, 163, 150, 23, 122, 156, 180, 16, 255, 97, 242, 0, 21, 173]⟩ _ (by decide) _ hex_abc).mono ?_
  rintro e w2 ⟨rfl, hb2⟩
  go_wp2
  go_ret
  exact ⟨rfl, hb1.trans (hb2.mono hb1.size)⟩
end Go.Proofs.YtbgfndabfmjmkaaDoor.Sha
