import Derived.Test.YtnmaaijeamlplaaDoorSym
set_option linter.unusedVariables false
set_option linter.unusedSimpArgs false
namespace Go.Proofs.YtnmaaijeamlplaaDoor.Sym
section
variable {P : Program} {ops : Array Oper} {Q : Exit → Act → World → Prop} {md : Region.Mode} {S : World → Prop} {oi : Oper} {a : Act} {w : World} {K : Act → World → Prop}
theorem lst_skip {rest : List Oper} (d : Tmp) (hd : oi.dst = some d) (hw : Region.wanted oi (yielded ops a.tmps) = false) (h : wpList P ops Q rest { a with tmps := a.tmps.setIfInBounds d undef } w) : wpList P ops Q (oi :: rest) a w := by
 unfold wpList
 rw [if_neg (by rw [hw]; decide)]
 unfold Act.put
 rw [hd]
 exact h
theorem skip_at {fuel : Nat} {listed : Array Bool} (i : Nat) (d : Tmp) (hi : ops[i]? = some oi) (hd : oi.dst = some d)
  (hs : Region.noSelect ops = true) (hf : Region.free md ops listed i = true) (hr : (Region.ready md ops listed).contains i = true)
  (hQ : ∀ c a w, Q (.panic c) (a.put oi.dst undef) w → Q (.panic c) a w) (hw : Region.wanted oi (yielded ops a.tmps) = false) (hS : S w)
  (h : wpAnyH P md ops Q S fuel (listed.setIfInBounds i true) { a with tmps := a.tmps.setIfInBounds d undef } w) : wpAnyH P md ops Q S (fuel + 1) listed a w :=
 wpAnyH_take hi hs hf hr hQ (.inr ⟨hw, rfl⟩) hS (by unfold Act.put; rw [hd]; exact h)
end
end Go.Proofs.YtnmaaijeamlplaaDoor.Sym
