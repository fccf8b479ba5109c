/- Layer 12: two numbers that come in as an array. -/
import Derived.Test.YtdohmmdfenafnaaDoorOp
import Derived.Test.YtdohmmdfenafnaaDoorVeT
import Derived.OpenShut
namespace Go.Proofs.YtdohmmdfenafnaaDoor.Ve
open Go.ChangeShapes Go.WideShapes Go.ChangeAt Go.RowKit Go.ChangeMaps
open Go.Proofs.YtdohmmdfenafnaaDoor.Mem
set_option linter.unusedVariables false
def okA45 (R : Nat) (x : A45) : Prop := x.i0 < 65536 ∧ x.i1 < 65536
set_option maxRecDepth 100000 in
theorem arg_A45 {R : Nat} {H : Type} {enc : TypeId × Value → H} {W : World} {base : Nat} {held : Bool} {r : Reach} {b0 : Nat} {v : Value} {d : DataW H} {p : List MemPlace} (hval : Value.okWide Tryd.prog W r b0 45 v) (h : DataW.Trod enc Tryd.prog W base (fun _ => true) held 45 v d p) (hs : Small R Tryd.prog 45 d) :
    ∃ (x : A45), v = .agg #[.int .u16 ((x.i0 : Nat) : Int), .int .u16 ((x.i1 : Nat) : Int)] ∧ okA45 R x := by
  obtain ⟨cs, rfl, hsz⟩ : ∃ cs, v = .agg cs ∧ cs.size = Tryd.prog.cellsOf 45 := by
    have := hval
    simp [Value.okWide, Tryd.underlying45] at this
    obtain ⟨cs, h1, h2, _⟩ := this
    exact ⟨cs, h1, h2⟩
  rw [show Tryd.prog.cellsOf 45 = 2 from by kernel_rfl] at hsz
  obtain ⟨fuel, hf⟩ := h
  obtain ⟨xs, m, rfl, hx, hlen, hl, hel⟩ := DataW.trod_array Tryd.underlying45 hf
  obtain ⟨cs⟩ := cs
  match cs, hsz with
  | [c0, c1], _ =>
    have one : ∀ (c : Value) (y : DataW H × List MemPlace), DataW.trod enc Tryd.prog W base (fun _ => true) held m 44 [c] = some y → ∃ n : Nat, c = .int .u16 ((n : Nat) : Int) ∧ n < 65536 := by
      intro c y hy
      obtain ⟨n, e, _, hw⟩ := DataW.trod_int Tryd.underlying44 hy
      simp only [List.cons.injEq, and_true] at e
      subst e
      have hb := bounds_u16 hw
      exact ⟨n.toNat, by congr 1; omega, by omega⟩
    have h0 := hel 0 (by decide)
    have h1 := hel 1 (by decide)
    rw [show Tryd.prog.cellsOf 44 = 1 from by kernel_rfl, List.getElem?_eq_getElem (by omega)] at h0 h1
    obtain ⟨n0, rfl, k0⟩ := one c0 _ h0
    obtain ⟨n1, rfl, k1⟩ := one c1 _ h1
    exact ⟨⟨n0, n1⟩, rfl, k0, k1⟩
end Go.Proofs.YtdohmmdfenafnaaDoor.Ve
