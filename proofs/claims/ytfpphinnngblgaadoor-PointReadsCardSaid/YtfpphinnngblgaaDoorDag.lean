/- Regions that draw their order: a state for each set of operations that are done. -/
import Derived.Test.YtfpphinnngblgaaDoorSx
namespace Go.Proofs.YtfpphinnngblgaaDoor.Sx
open Go.RowKit
open Go.Proofs.YtfpphinnngblgaaDoor.Arr Go.Proofs.YtfpphinnngblgaaDoor.Sym

theorem wpAnyH_states {P : Program} {ops : Array Oper} {Q : Exit → Act → World → Prop} {md : Region.Mode} {S : World → Prop} (J : Nat → Array Bool → Act → World → Prop)
    (step : ∀ n listed a w, J (n + 1) listed a w → ∃ rs, Region.ready md ops listed = rs ∧ rs ≠ [] ∧ ∀ i ∈ rs, wpOp P ops Q i (fun a' w' => S w' ∧ J n (listed.setIfInBounds i true) a' w') a w)
    (done : ∀ listed a w, J 0 listed a w → Region.ready md ops listed = [] ∧ Q .normal a w) : ∀ n listed a w, J n listed a w → wpAnyH P md ops Q S n listed a w
  | 0, listed, a, w, h => done listed a w h
  | n + 1, listed, a, w, h => by
    obtain ⟨rs, hr, hne, hs⟩ := step n listed a w h
    exact wpAnyH_all hr hne fun i hi => wpOp_mono (fun a' w' h' => ⟨h'.1, wpAnyH_states J step done n _ a' w' h'.2⟩) (hs i hi)
end Go.Proofs.YtfpphinnngblgaaDoor.Sx
