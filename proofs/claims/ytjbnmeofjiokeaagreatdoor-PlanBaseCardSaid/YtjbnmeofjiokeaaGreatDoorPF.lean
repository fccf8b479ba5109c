/- Databases: how the program reads one. -/
import Derived.Test.YtjbnmeofjiokeaaGreatDoorPE
set_option linter.all false
namespace Go.Proofs.YtjbnmeofjiokeaaGreatDoor.Ev
open Go.RowKit
open Go.Proofs.YtjbnmeofjiokeaaGreatDoor.Mem
set_option linter.unusedVariables false
set_option linter.unusedSimpArgs false
set_option maxRecDepth 100000
noncomputable def hMa : Elp := ⟨5, Man, dMn, eMan, cMan⟩
theorem ManOk.fb {m : Man} (h : ManOk m) : m.Fit ∧ m.Big := by
  have h1 := name_len h.n
  have h2 := ver_len h.v
  have h3 := h.nl
  have h4 := h.cl
  have h5 := h.el
  refine ⟨⟨by omega, by omega, by omega, by omega, by omega, fun r hr => ?_, fun r hr => ?_, fun x hx => ?_⟩, ⟨by omega, by omega, by omega⟩⟩
  · have := rule_len (h.ns r hr); omega
  · have := rule_len (h.cs r hr); omega
  · have q := h.ents x hx
    have := parts_len q.p
    have := q.sums
    have := q.tars
    omega
theorem dM_fb : dM.Fit ∧ dM.Big := ⟨⟨by decide, by decide, by decide, by decide, by decide, by simp [dM], by simp [dM], by simp [dM]⟩, ⟨by decide, by decide, by decide⟩⟩
/-- What is read of a text is small. -/
structure Bas.Sm (b : Bas) : Prop where
  p : b.packs.length ≤ 32
  d : b.dirs.length ≤ 2048
  m : ∀ m ∈ b.packs, m.Fit ∧ m.Big
  s : ∀ x ∈ b.dirs, x.path.length ≤ 4000000
end Go.Proofs.YtjbnmeofjiokeaaGreatDoor.Ev
