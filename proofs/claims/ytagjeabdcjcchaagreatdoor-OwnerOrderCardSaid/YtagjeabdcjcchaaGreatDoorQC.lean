/- What the laws of packages that come need. -/
import Derived.Test.YtagjeabdcjcchaaGreatDoorPC
import Derived.Test.YtagjeabdcjcchaaGreatDoorQB
set_option linter.all false
namespace Go.Proofs.YtagjeabdcjcchaaGreatDoor.Ev
open Go.ChangeShapes Go.WideShapes Go.ChangeAt Go.RowKit Go.ChangeMaps
open Go.Proofs.YtagjeabdcjcchaaGreatDoor.Mem
set_option maxRecDepth 100000
theorem o_Strs : OpV reachBytes Tryz.prog 49 1 (fun l : List (List UInt8) => V.sl 1 (List UInt8) [] l .s) (fun l => (∀ x ∈ l, x.length ≤ reachBytes) ∧ l.length * 16 ≤ reachBytes) :=
  opv_slice (ev := V.s) (k := 1) (b := 16) Tryz.underlying49 (by kernel_rfl) (by kernel_rfl) (by decide) (fun _ => rfl) (fun _ _ => rfl) [] (opv_string Tryz.underlying9)
end Go.Proofs.YtagjeabdcjcchaaGreatDoor.Ev
