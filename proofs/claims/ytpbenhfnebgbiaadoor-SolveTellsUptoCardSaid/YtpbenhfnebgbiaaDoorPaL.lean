/- What the library's functions give, over lists of bytes. -/
import Derived.Test.YtpbenhfnebgbiaaDoorPaT
import Derived.Test.YtpbenhfnebgbiaaDoorShelf
import Derived.Test.YtpbenhfnebgbiaaDoorCut
import Derived.Test.YtpbenhfnebgbiaaDoorUtf
set_option linter.unusedVariables false
namespace Go.Proofs.YtpbenhfnebgbiaaDoor.Pa
open Go.RowKit
open Go.Proofs.YtpbenhfnebgbiaaDoor.Mem
theorem tx_dl (s : List UInt8) : (tx s).data.toList = s := by simp [tx]
theorem flat_eS (l : List (List UInt8)) : l.flatMap eS = l.map (fun s => Value.string (tx s)) := by
  induction l with
  | nil => rfl
  | cons x l ih => rw [List.flatMap_cons, ih]; rfl
theorem below_drewN {B : Nat} {a w : World} (h : Below B a w) : ∀ q, Below B a (w.drewN q)
  | 0 => h
  | q + 1 => (below_drewN h q).drew
theorem ibn (c b : UInt8) (l : List UInt8) (h : b ≠ c) : Lib.indexByte (b :: l) c = if Lib.indexByte l c = -1 then -1 else Lib.indexByte l c + 1 := by
  conv => lhs; unfold Lib.indexByte
  rw [if_neg (by simpa using h)]
  have := Lib.indexByte_ge l c
  split <;> split <;> simp_all <;> omega
end Go.Proofs.YtpbenhfnebgbiaaDoor.Pa
