/-
  No cell of these rows narrows 'for every input' (looked for: loops, veiled, ifaces, maps, wideKeys, modest, calm, conditions, laid).
  DERIVED. THE GIVEN ROWS OF THIS SEAT. 5 by the template 'for every input the law returns true; each argument reads behind the call as it read before'; 0 by the template 'total and deterministic' (their statements: YtcemcnbhnedaaaaTotals.lean).
  GIVEN WITH THE SEED: the statements are not yours to turn. If you find one false, say at which input.
  Laid BY PROGRAM, IN A SANDBOX (cutbox-rows.mjs): the forced cells as the released guide's own fill.sh prints them over the translation 6d9a9fd01c9d99b1… (all of the seat's roots in one cut). By AI agents, Wed Nov 11 2026. No macro, syntax, notation, axiom, sorry.
-/
import Derived.Test.YtcemcnbhnedaaaaChecked
import GoSem.Claim
import GoSem.ClaimJoined
import GoSem.ClaimMapViews
import Derived.JoinedTies
import Derived.KernelRfl
namespace Go.Proofs.Ytcemcnbhnedaaaa
/- THE CELL 'sum', in the pinned program and in every row, IS THE sha256 OF THE DUMP (.gsa) THAT YtcemcnbhnedaaaaProg.lean LOADS. Nothing in Lean hashes anything: it is a label: what it is worth is what the hold of that sum in a sandbox is worth. -/
noncomputable def Try.pinned : Pinned := { name := "ytcemcnbhnedaaaa", sum := "6d9a9fd01c9d99b15ad4c2193041153f3538e832310e7af353708727bcdfc915", checked := Try.checked }
namespace Rows
def none {H : Type} : Left H := { results := [], args := [] }

/-- 'holdalllaw04.ScalarRests': WHATEVER THE INPUT: true; the input reads as it did. -/
def scalarRestsSpec : ChangeSpec := { name := "scalarRests", fn := fun _ => fun
  | [d1, d2] => { results := [.lit (.bool true)], args := [d1, d2] }
  | _ => none }
def scalarRestsRow : OpenClaim := { program := "ytcemcnbhnedaaaa", sum := "6d9a9fd01c9d99b15ad4c2193041153f3538e832310e7af353708727bcdfc915", func := "holdall/holdalllaw04.ScalarRests", spec := "scalarRests", inPlace := ["math/bits.Sub64", "math/bits.Add64"], apart := false }
def ScalarRestsSaid : Prop := scalarRestsRow.holds Try.pinned (OpenSpec.ofChange scalarRestsSpec)

/-- ITS FALSE NEIGHBOUR: 'it returns false'. Refute it at one input. -/
def scalarRestsWrong : ChangeSpec := { name := "scalarRests", fn := fun _ => fun
  | [d1, d2] => { results := [.lit (.bool false)], args := [d1, d2] }
  | _ => none }
def ScalarRestsWrongFalsely : Prop := scalarRestsRow.holds Try.pinned (OpenSpec.ofChange scalarRestsWrong)

/-- 'holdalllaw04.ScalarFuses': WHATEVER THE INPUT: true; the input reads as it did. -/
def scalarFusesSpec : ChangeSpec := { name := "scalarFuses", fn := fun _ => fun
  | [d1, d2, d3] => { results := [.lit (.bool true)], args := [d1, d2, d3] }
  | _ => none }
def scalarFusesRow : OpenClaim := { program := "ytcemcnbhnedaaaa", sum := "6d9a9fd01c9d99b15ad4c2193041153f3538e832310e7af353708727bcdfc915", func := "holdall/holdalllaw04.ScalarFuses", spec := "scalarFuses", inPlace := ["math/bits.Add64", "math/bits.Sub64"], apart := false }
def ScalarFusesSaid : Prop := scalarFusesRow.holds Try.pinned (OpenSpec.ofChange scalarFusesSpec)

/-- ITS FALSE NEIGHBOUR: 'it returns false'. Refute it at one input. -/
def scalarFusesWrong : ChangeSpec := { name := "scalarFuses", fn := fun _ => fun
  | [d1, d2, d3] => { results := [.lit (.bool false)], args := [d1, d2, d3] }
  | _ => none }
def ScalarFusesWrongFalsely : Prop := scalarFusesRow.holds Try.pinned (OpenSpec.ofChange scalarFusesWrong)

/-- 'holdalllaw04.ScalarRules': WHATEVER THE INPUT: true; the input reads as it did. -/
def scalarRulesSpec : ChangeSpec := { name := "scalarRules", fn := fun _ => fun
  | [d1, d2, d3] => { results := [.lit (.bool true)], args := [d1, d2, d3] }
  | _ => none }
def scalarRulesRow : OpenClaim := { program := "ytcemcnbhnedaaaa", sum := "6d9a9fd01c9d99b15ad4c2193041153f3538e832310e7af353708727bcdfc915", func := "holdall/holdalllaw04.ScalarRules", spec := "scalarRules", inPlace := ["math/bits.Add64", "math/bits.Sub64"], apart := false }
def ScalarRulesSaid : Prop := scalarRulesRow.holds Try.pinned (OpenSpec.ofChange scalarRulesSpec)

/-- ITS FALSE NEIGHBOUR: 'it returns false'. Refute it at one input. -/
def scalarRulesWrong : ChangeSpec := { name := "scalarRules", fn := fun _ => fun
  | [d1, d2, d3] => { results := [.lit (.bool false)], args := [d1, d2, d3] }
  | _ => none }
def ScalarRulesWrongFalsely : Prop := scalarRulesRow.holds Try.pinned (OpenSpec.ofChange scalarRulesWrong)

/-- 'holdalllaw04.ScalarHalves': WHATEVER THE INPUT: true; the input reads as it did. -/
def scalarHalvesSpec : ChangeSpec := { name := "scalarHalves", fn := fun _ => fun
  | [d1, d2] => { results := [.lit (.bool true)], args := [d1, d2] }
  | _ => none }
def scalarHalvesRow : OpenClaim := { program := "ytcemcnbhnedaaaa", sum := "6d9a9fd01c9d99b15ad4c2193041153f3538e832310e7af353708727bcdfc915", func := "holdall/holdalllaw04.ScalarHalves", spec := "scalarHalves", inPlace := ["math/bits.Sub64", "math/bits.Add64"], apart := false }
def ScalarHalvesSaid : Prop := scalarHalvesRow.holds Try.pinned (OpenSpec.ofChange scalarHalvesSpec)

/-- ITS FALSE NEIGHBOUR: 'it returns false'. Refute it at one input. -/
def scalarHalvesWrong : ChangeSpec := { name := "scalarHalves", fn := fun _ => fun
  | [d1, d2] => { results := [.lit (.bool false)], args := [d1, d2] }
  | _ => none }
def ScalarHalvesWrongFalsely : Prop := scalarHalvesRow.holds Try.pinned (OpenSpec.ofChange scalarHalvesWrong)

/-- 'holdalllaw04.ScalarNone': WHATEVER THE INPUT: true; the input reads as it did. -/
def scalarNoneSpec : ChangeSpec := { name := "scalarNone", fn := fun _ => fun
  | [d1, d2, d3] => { results := [.lit (.bool true)], args := [d1, d2, d3] }
  | _ => none }
def scalarNoneRow : OpenClaim := { program := "ytcemcnbhnedaaaa", sum := "6d9a9fd01c9d99b15ad4c2193041153f3538e832310e7af353708727bcdfc915", func := "holdall/holdalllaw04.ScalarNone", spec := "scalarNone", inPlace := ["math/bits.Sub64", "math/bits.Add64"], apart := false }
def ScalarNoneSaid : Prop := scalarNoneRow.holds Try.pinned (OpenSpec.ofChange scalarNoneSpec)

/-- ITS FALSE NEIGHBOUR: 'it returns false'. Refute it at one input. -/
def scalarNoneWrong : ChangeSpec := { name := "scalarNone", fn := fun _ => fun
  | [d1, d2, d3] => { results := [.lit (.bool false)], args := [d1, d2, d3] }
  | _ => none }
def ScalarNoneWrongFalsely : Prop := scalarNoneRow.holds Try.pinned (OpenSpec.ofChange scalarNoneWrong)

/- THE SECOND FORM. 'bulk': how many values and letters a reading holds, each counted each time it is reached (what is shared counts as often as it is met; a slice's spare places count too). A statement '..UptoSaid' is the law's where the arguments, and the package variables that the reading takes, are together of bulk at most 1048576: NARROWER than '..Said'. Prove '..Said' where nothing that the law and all that it calls make is longer than what came in: it says more and counts as full. Else prove '..UptoSaid'. A law counts once. -/
mutual
def uptoBulk {H : Type} : DataW H → Nat
  | .lit (.string bytes) => bytes.length + 1
  | .lit _ => 1
  | .nil => 1
  | .ptr d => uptoBulk d + 1
  | .slice elems spare => uptoBulkAll elems + uptoBulkAll spare + 1
  | .agg parts => uptoBulkAll parts + 1
  | .iface _ d => uptoBulk d + 1
  | .map entries => uptoBulkEntries entries + 1
  | .held _ => 1
def uptoBulkAll {H : Type} : List (DataW H) → Nat
  | [] => 0
  | d :: r => uptoBulk d + uptoBulkAll r
def uptoBulkEntries {H : Type} : List (Lit × DataW H) → Nat
  | [] => 0
  | x :: r => uptoBulkEntry x + uptoBulkEntries r
def uptoBulkEntry {H : Type} : Lit × DataW H → Nat
  | (.string bytes, d) => bytes.length + uptoBulk d + 1
  | (_, d) => uptoBulk d + 1
 end
def uptoSmall : (H : Type) → List (DataW H) → Bool := fun _ ds => decide (uptoBulkAll ds ≤ 1048576)
def OpenSpec.upto (s : _root_.Go.ChangeSpec) : _root_.Go.OpenSpec := { _root_.Go.OpenSpec.ofChange s with cond := some uptoSmall }

/-- 'holdalllaw04.ScalarRests', WHERE WHAT IT READS IS OF BULK AT MOST 1048576: true; the input reads as it did. -/
def scalarRestsUptoRow : OpenClaim := { program := "ytcemcnbhnedaaaa", sum := "6d9a9fd01c9d99b15ad4c2193041153f3538e832310e7af353708727bcdfc915", func := "holdall/holdalllaw04.ScalarRests", spec := "scalarRests", inPlace := ["math/bits.Sub64", "math/bits.Add64"], apart := false, narrowed := true }
def ScalarRestsUptoSaid : Prop := scalarRestsUptoRow.holds Try.pinned (OpenSpec.upto scalarRestsSpec)

/-- 'holdalllaw04.ScalarFuses', WHERE WHAT IT READS IS OF BULK AT MOST 1048576: true; the input reads as it did. -/
def scalarFusesUptoRow : OpenClaim := { program := "ytcemcnbhnedaaaa", sum := "6d9a9fd01c9d99b15ad4c2193041153f3538e832310e7af353708727bcdfc915", func := "holdall/holdalllaw04.ScalarFuses", spec := "scalarFuses", inPlace := ["math/bits.Add64", "math/bits.Sub64"], apart := false, narrowed := true }
def ScalarFusesUptoSaid : Prop := scalarFusesUptoRow.holds Try.pinned (OpenSpec.upto scalarFusesSpec)

/-- 'holdalllaw04.ScalarRules', WHERE WHAT IT READS IS OF BULK AT MOST 1048576: true; the input reads as it did. -/
def scalarRulesUptoRow : OpenClaim := { program := "ytcemcnbhnedaaaa", sum := "6d9a9fd01c9d99b15ad4c2193041153f3538e832310e7af353708727bcdfc915", func := "holdall/holdalllaw04.ScalarRules", spec := "scalarRules", inPlace := ["math/bits.Add64", "math/bits.Sub64"], apart := false, narrowed := true }
def ScalarRulesUptoSaid : Prop := scalarRulesUptoRow.holds Try.pinned (OpenSpec.upto scalarRulesSpec)

/-- 'holdalllaw04.ScalarHalves', WHERE WHAT IT READS IS OF BULK AT MOST 1048576: true; the input reads as it did. -/
def scalarHalvesUptoRow : OpenClaim := { program := "ytcemcnbhnedaaaa", sum := "6d9a9fd01c9d99b15ad4c2193041153f3538e832310e7af353708727bcdfc915", func := "holdall/holdalllaw04.ScalarHalves", spec := "scalarHalves", inPlace := ["math/bits.Sub64", "math/bits.Add64"], apart := false, narrowed := true }
def ScalarHalvesUptoSaid : Prop := scalarHalvesUptoRow.holds Try.pinned (OpenSpec.upto scalarHalvesSpec)

/-- 'holdalllaw04.ScalarNone', WHERE WHAT IT READS IS OF BULK AT MOST 1048576: true; the input reads as it did. -/
def scalarNoneUptoRow : OpenClaim := { program := "ytcemcnbhnedaaaa", sum := "6d9a9fd01c9d99b15ad4c2193041153f3538e832310e7af353708727bcdfc915", func := "holdall/holdalllaw04.ScalarNone", spec := "scalarNone", inPlace := ["math/bits.Sub64", "math/bits.Add64"], apart := false, narrowed := true }
def ScalarNoneUptoSaid : Prop := scalarNoneUptoRow.holds Try.pinned (OpenSpec.upto scalarNoneSpec)

end Rows
end Go.Proofs.Ytcemcnbhnedaaaa
