/- Layers 7 and 12: what comes in. -/
import Derived.Test.YtdohmmdfenafnaaDoorOp
import Derived.Test.YtdohmmdfenafnaaDoorPaT
namespace Go.Proofs.YtdohmmdfenafnaaDoor.Pa
open Go.ChangeShapes Go.WideShapes Go.ChangeAt Go.RowKit Go.ChangeMaps
open Go.Proofs.YtdohmmdfenafnaaDoor.Mem
set_option maxRecDepth 100000 in
theorem arg_22 {R : Nat} {H : Type} {enc : TypeId × Value → H} {W : World} {base : Nat} {held : Bool} {r : Reach} {b0 : Nat} {v : Value} {d : DataW H} {p : List MemPlace} (hval : Value.okWide Tryd.prog W r b0 22 v) (h : DataW.Trod enc Tryd.prog W base (fun _ => true) held 22 v d p) (hs : Small R Tryd.prog 22 d) :
    ∃ l : List (List UInt8), Rs eS 1 l v W ∧ ((∀ y ∈ l, y.length ≤ R) ∧ l.length * 16 ≤ R) := by
  obtain ⟨a, len, cap, rfl⟩ := okWide_slice Tryd.underlying22 hval
  obtain ⟨fuel, hf⟩ := h
  exact (open_rs (ok := fun y => y.length ≤ R) Tryd.underlying22 (k := 1) (b := 16) (by kernel_rfl) (by kernel_rfl) (by decide) eS_len (opens_string Tryd.underlying9)) hf hs
end Go.Proofs.YtdohmmdfenafnaaDoor.Pa
