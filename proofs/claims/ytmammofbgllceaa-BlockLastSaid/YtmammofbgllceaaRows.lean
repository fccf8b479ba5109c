/-
  No cell of these rows narrows 'for every input' (looked for: loops, veiled, ifaces, maps, wideKeys, modest, calm, conditions, laid).
  DERIVED. THE GIVEN ROWS OF THIS SEAT. 9 by the template 'for every input the law returns true; each argument reads behind the call as it read before'; 0 by the template 'total and deterministic' (their statements: YtmammofbgllceaaTotals.lean).
  GIVEN WITH THE SEED: the statements are not yours to turn. If you find one false, say at which input.
  Laid BY PROGRAM, IN A SANDBOX (cutbox-rows.mjs): the forced cells as the released guide's own fill.sh prints them over the translation e6cd11f1b69f17db… (all of the seat's roots in one cut). By AI agents, Wed Nov 11 2026. No macro, syntax, notation, axiom, sorry.
-/
import Derived.Test.YtmammofbgllceaaChecked
import GoSem.Claim
import GoSem.ClaimJoined
import GoSem.ClaimMapViews
import Derived.JoinedTies
import Derived.KernelRfl
namespace Go.Proofs.Ytmammofbgllceaa
/- THE CELL 'sum', in the pinned program and in every row, IS THE sha256 OF THE DUMP (.gsa) THAT YtmammofbgllceaaProg.lean LOADS. Nothing in Lean hashes anything: it is a label: what it is worth is what the hold of that sum in a sandbox is worth. -/
noncomputable def Try.pinned : Pinned := { name := "ytmammofbgllceaa", sum := "e6cd11f1b69f17dbd3629fa14b132d537a5959b480bff2f1d51783a916281eff", checked := Try.checked }
namespace Rows
def none {H : Type} : Left H := { results := [], args := [] }

/-- 'holdalllaw15.BlockDoes': WHATEVER THE INPUT: true; the input reads as it did. -/
def blockDoesSpec : ChangeSpec := { name := "blockDoes", fn := fun _ => fun
  | [d1, d2, d3] => { results := [.lit (.bool true)], args := [d1, d2, d3] }
  | _ => none }
def blockDoesRow : OpenClaim := { program := "ytmammofbgllceaa", sum := "e6cd11f1b69f17dbd3629fa14b132d537a5959b480bff2f1d51783a916281eff", func := "holdall/holdalllaw15.BlockDoes", spec := "blockDoes", inPlace := ["internal/abi.NoEscape", "internal/bytealg.MakeNoZero"], apart := false }
def BlockDoesSaid : Prop := blockDoesRow.holds Try.pinned (OpenSpec.ofChange blockDoesSpec)

/-- ITS FALSE NEIGHBOUR: 'it returns false'. Refute it at one input. -/
def blockDoesWrong : ChangeSpec := { name := "blockDoes", fn := fun _ => fun
  | [d1, d2, d3] => { results := [.lit (.bool false)], args := [d1, d2, d3] }
  | _ => none }
def BlockDoesWrongFalsely : Prop := blockDoesRow.holds Try.pinned (OpenSpec.ofChange blockDoesWrong)

/-- 'holdalllaw15.BlockCrashes': WHATEVER THE INPUT: true; the input reads as it did. -/
def blockCrashesSpec : ChangeSpec := { name := "blockCrashes", fn := fun _ => fun
  | [d1, d2, d3] => { results := [.lit (.bool true)], args := [d1, d2, d3] }
  | _ => none }
def blockCrashesRow : OpenClaim := { program := "ytmammofbgllceaa", sum := "e6cd11f1b69f17dbd3629fa14b132d537a5959b480bff2f1d51783a916281eff", func := "holdall/holdalllaw15.BlockCrashes", spec := "blockCrashes", inPlace := ["internal/abi.NoEscape", "internal/bytealg.MakeNoZero"], apart := false }
def BlockCrashesSaid : Prop := blockCrashesRow.holds Try.pinned (OpenSpec.ofChange blockCrashesSpec)

/-- ITS FALSE NEIGHBOUR: 'it returns false'. Refute it at one input. -/
def blockCrashesWrong : ChangeSpec := { name := "blockCrashes", fn := fun _ => fun
  | [d1, d2, d3] => { results := [.lit (.bool false)], args := [d1, d2, d3] }
  | _ => none }
def BlockCrashesWrongFalsely : Prop := blockCrashesRow.holds Try.pinned (OpenSpec.ofChange blockCrashesWrong)

/-- 'holdalllaw15.BlockKeeps': WHATEVER THE INPUT: true; the input reads as it did. -/
def blockKeepsSpec : ChangeSpec := { name := "blockKeeps", fn := fun _ => fun
  | [d1, d2, d3] => { results := [.lit (.bool true)], args := [d1, d2, d3] }
  | _ => none }
def blockKeepsRow : OpenClaim := { program := "ytmammofbgllceaa", sum := "e6cd11f1b69f17dbd3629fa14b132d537a5959b480bff2f1d51783a916281eff", func := "holdall/holdalllaw15.BlockKeeps", spec := "blockKeeps", inPlace := ["internal/abi.NoEscape", "internal/bytealg.MakeNoZero"], apart := false }
def BlockKeepsSaid : Prop := blockKeepsRow.holds Try.pinned (OpenSpec.ofChange blockKeepsSpec)

/-- ITS FALSE NEIGHBOUR: 'it returns false'. Refute it at one input. -/
def blockKeepsWrong : ChangeSpec := { name := "blockKeeps", fn := fun _ => fun
  | [d1, d2, d3] => { results := [.lit (.bool false)], args := [d1, d2, d3] }
  | _ => none }
def BlockKeepsWrongFalsely : Prop := blockKeepsRow.holds Try.pinned (OpenSpec.ofChange blockKeepsWrong)

/-- 'holdalllaw15.BlockFuse': WHATEVER THE INPUT: true; the input reads as it did. -/
def blockFuseSpec : ChangeSpec := { name := "blockFuse", fn := fun _ => fun
  | [d1, d2, d3] => { results := [.lit (.bool true)], args := [d1, d2, d3] }
  | _ => none }
def blockFuseRow : OpenClaim := { program := "ytmammofbgllceaa", sum := "e6cd11f1b69f17dbd3629fa14b132d537a5959b480bff2f1d51783a916281eff", func := "holdall/holdalllaw15.BlockFuse", spec := "blockFuse", inPlace := ["internal/abi.NoEscape", "internal/bytealg.MakeNoZero"], apart := false }
def BlockFuseSaid : Prop := blockFuseRow.holds Try.pinned (OpenSpec.ofChange blockFuseSpec)

/-- ITS FALSE NEIGHBOUR: 'it returns false'. Refute it at one input. -/
def blockFuseWrong : ChangeSpec := { name := "blockFuse", fn := fun _ => fun
  | [d1, d2, d3] => { results := [.lit (.bool false)], args := [d1, d2, d3] }
  | _ => none }
def BlockFuseWrongFalsely : Prop := blockFuseRow.holds Try.pinned (OpenSpec.ofChange blockFuseWrong)

/-- 'holdalllaw15.BlockLast': WHATEVER THE INPUT: true; the input reads as it did. -/
def blockLastSpec : ChangeSpec := { name := "blockLast", fn := fun _ => fun
  | [d1, d2] => { results := [.lit (.bool true)], args := [d1, d2] }
  | _ => none }
def blockLastRow : OpenClaim := { program := "ytmammofbgllceaa", sum := "e6cd11f1b69f17dbd3629fa14b132d537a5959b480bff2f1d51783a916281eff", func := "holdall/holdalllaw15.BlockLast", spec := "blockLast", inPlace := ["internal/abi.NoEscape", "internal/bytealg.MakeNoZero"], apart := false }
def BlockLastSaid : Prop := blockLastRow.holds Try.pinned (OpenSpec.ofChange blockLastSpec)

/-- ITS FALSE NEIGHBOUR: 'it returns false'. Refute it at one input. -/
def blockLastWrong : ChangeSpec := { name := "blockLast", fn := fun _ => fun
  | [d1, d2] => { results := [.lit (.bool false)], args := [d1, d2] }
  | _ => none }
def BlockLastWrongFalsely : Prop := blockLastRow.holds Try.pinned (OpenSpec.ofChange blockLastWrong)

/-- 'holdalllaw17.InodeBytes': WHATEVER THE INPUT: true; the input reads as it did. -/
def inodeBytesSpec : ChangeSpec := { name := "inodeBytes", fn := fun _ => fun
  | [d] => { results := [.lit (.bool true)], args := [d] }
  | _ => none }
def inodeBytesRow : OpenClaim := { program := "ytmammofbgllceaa", sum := "e6cd11f1b69f17dbd3629fa14b132d537a5959b480bff2f1d51783a916281eff", func := "holdall/holdalllaw17.InodeBytes", spec := "inodeBytes", inPlace := ["internal/abi.NoEscape", "internal/bytealg.MakeNoZero"], apart := false }
def InodeBytesSaid : Prop := inodeBytesRow.holds Try.pinned (OpenSpec.ofChange inodeBytesSpec)

/-- ITS FALSE NEIGHBOUR: 'it returns false'. Refute it at one input. -/
def inodeBytesWrong : ChangeSpec := { name := "inodeBytes", fn := fun _ => fun
  | [d] => { results := [.lit (.bool false)], args := [d] }
  | _ => none }
def InodeBytesWrongFalsely : Prop := inodeBytesRow.holds Try.pinned (OpenSpec.ofChange inodeBytesWrong)

/-- 'holdalllaw17.InodeReads': WHATEVER THE INPUT: true; the input reads as it did. -/
def inodeReadsSpec : ChangeSpec := { name := "inodeReads", fn := fun _ => fun
  | [d] => { results := [.lit (.bool true)], args := [d] }
  | _ => none }
def inodeReadsRow : OpenClaim := { program := "ytmammofbgllceaa", sum := "e6cd11f1b69f17dbd3629fa14b132d537a5959b480bff2f1d51783a916281eff", func := "holdall/holdalllaw17.InodeReads", spec := "inodeReads", inPlace := ["internal/abi.NoEscape", "internal/bytealg.MakeNoZero"], apart := false }
def InodeReadsSaid : Prop := inodeReadsRow.holds Try.pinned (OpenSpec.ofChange inodeReadsSpec)

/-- ITS FALSE NEIGHBOUR: 'it returns false'. Refute it at one input. -/
def inodeReadsWrong : ChangeSpec := { name := "inodeReads", fn := fun _ => fun
  | [d] => { results := [.lit (.bool false)], args := [d] }
  | _ => none }
def InodeReadsWrongFalsely : Prop := inodeReadsRow.holds Try.pinned (OpenSpec.ofChange inodeReadsWrong)

/-- 'holdalllaw17.InodeSpoilt': WHATEVER THE INPUT: true; the input reads as it did. -/
def inodeSpoiltSpec : ChangeSpec := { name := "inodeSpoilt", fn := fun _ => fun
  | [d1, d2] => { results := [.lit (.bool true)], args := [d1, d2] }
  | _ => none }
def inodeSpoiltRow : OpenClaim := { program := "ytmammofbgllceaa", sum := "e6cd11f1b69f17dbd3629fa14b132d537a5959b480bff2f1d51783a916281eff", func := "holdall/holdalllaw17.InodeSpoilt", spec := "inodeSpoilt", inPlace := ["internal/abi.NoEscape", "internal/bytealg.MakeNoZero"], apart := false }
def InodeSpoiltSaid : Prop := inodeSpoiltRow.holds Try.pinned (OpenSpec.ofChange inodeSpoiltSpec)

/-- ITS FALSE NEIGHBOUR: 'it returns false'. Refute it at one input. -/
def inodeSpoiltWrong : ChangeSpec := { name := "inodeSpoilt", fn := fun _ => fun
  | [d1, d2] => { results := [.lit (.bool false)], args := [d1, d2] }
  | _ => none }
def InodeSpoiltWrongFalsely : Prop := inodeSpoiltRow.holds Try.pinned (OpenSpec.ofChange inodeSpoiltWrong)

/-- 'holdalllaw17.InodeNames': WHATEVER THE INPUT: true; the input reads as it did. -/
def inodeNamesSpec : ChangeSpec := { name := "inodeNames", fn := fun _ => fun
  | [d] => { results := [.lit (.bool true)], args := [d] }
  | _ => none }
def inodeNamesRow : OpenClaim := { program := "ytmammofbgllceaa", sum := "e6cd11f1b69f17dbd3629fa14b132d537a5959b480bff2f1d51783a916281eff", func := "holdall/holdalllaw17.InodeNames", spec := "inodeNames", inPlace := ["internal/abi.NoEscape", "internal/bytealg.MakeNoZero"], apart := false }
def InodeNamesSaid : Prop := inodeNamesRow.holds Try.pinned (OpenSpec.ofChange inodeNamesSpec)

/-- ITS FALSE NEIGHBOUR: 'it returns false'. Refute it at one input. -/
def inodeNamesWrong : ChangeSpec := { name := "inodeNames", fn := fun _ => fun
  | [d] => { results := [.lit (.bool false)], args := [d] }
  | _ => none }
def InodeNamesWrongFalsely : Prop := inodeNamesRow.holds Try.pinned (OpenSpec.ofChange inodeNamesWrong)

/- THE SECOND FORM. 'bulk': how many values and letters a reading holds, each counted each time it is reached (what is shared counts as often as it is met; a slice's spare places count too). A statement '..UptoSaid' is the law's where the arguments, and the package variables that the reading takes, are together of bulk at most 1048576: NARROWER than '..Said'. Prove '..Said' where nothing that the law and all that it calls make is longer than what came in: it says more and counts as full. Else prove '..UptoSaid'. A law counts once. -/
mutual
def uptoBulk {H : Type} : DataW H → Nat
  | .lit (.string bytes) => bytes.length + 1
  | .lit _ => 1
  | .nil => 1
  | .ptr d => uptoBulk d + 1
  | .slice elems spare => uptoBulkAll elems + uptoBulkAll spare + 1
  | .agg parts => uptoBulkAll parts + 1
  | .iface _ d => uptoBulk d + 1
  | .map entries => uptoBulkEntries entries + 1
  | .held _ => 1
def uptoBulkAll {H : Type} : List (DataW H) → Nat
  | [] => 0
  | d :: r => uptoBulk d + uptoBulkAll r
def uptoBulkEntries {H : Type} : List (Lit × DataW H) → Nat
  | [] => 0
  | x :: r => uptoBulkEntry x + uptoBulkEntries r
def uptoBulkEntry {H : Type} : Lit × DataW H → Nat
  | (.string bytes, d) => bytes.length + uptoBulk d + 1
  | (_, d) => uptoBulk d + 1
 end
def uptoSmall : (H : Type) → List (DataW H) → Bool := fun _ ds => decide (uptoBulkAll ds ≤ 1048576)
def OpenSpec.upto (s : _root_.Go.ChangeSpec) : _root_.Go.OpenSpec := { _root_.Go.OpenSpec.ofChange s with cond := some uptoSmall }

/-- 'holdalllaw15.BlockDoes', WHERE WHAT IT READS IS OF BULK AT MOST 1048576: true; the input reads as it did. -/
def blockDoesUptoRow : OpenClaim := { program := "ytmammofbgllceaa", sum := "e6cd11f1b69f17dbd3629fa14b132d537a5959b480bff2f1d51783a916281eff", func := "holdall/holdalllaw15.BlockDoes", spec := "blockDoes", inPlace := ["internal/abi.NoEscape", "internal/bytealg.MakeNoZero"], apart := false, narrowed := true }
def BlockDoesUptoSaid : Prop := blockDoesUptoRow.holds Try.pinned (OpenSpec.upto blockDoesSpec)

/-- 'holdalllaw15.BlockCrashes', WHERE WHAT IT READS IS OF BULK AT MOST 1048576: true; the input reads as it did. -/
def blockCrashesUptoRow : OpenClaim := { program := "ytmammofbgllceaa", sum := "e6cd11f1b69f17dbd3629fa14b132d537a5959b480bff2f1d51783a916281eff", func := "holdall/holdalllaw15.BlockCrashes", spec := "blockCrashes", inPlace := ["internal/abi.NoEscape", "internal/bytealg.MakeNoZero"], apart := false, narrowed := true }
def BlockCrashesUptoSaid : Prop := blockCrashesUptoRow.holds Try.pinned (OpenSpec.upto blockCrashesSpec)

/-- 'holdalllaw15.BlockKeeps', WHERE WHAT IT READS IS OF BULK AT MOST 1048576: true; the input reads as it did. -/
def blockKeepsUptoRow : OpenClaim := { program := "ytmammofbgllceaa", sum := "e6cd11f1b69f17dbd3629fa14b132d537a5959b480bff2f1d51783a916281eff", func := "holdall/holdalllaw15.BlockKeeps", spec := "blockKeeps", inPlace := ["internal/abi.NoEscape", "internal/bytealg.MakeNoZero"], apart := false, narrowed := true }
def BlockKeepsUptoSaid : Prop := blockKeepsUptoRow.holds Try.pinned (OpenSpec.upto blockKeepsSpec)

/-- 'holdalllaw15.BlockFuse', WHERE WHAT IT READS IS OF BULK AT MOST 1048576: true; the input reads as it did. -/
def blockFuseUptoRow : OpenClaim := { program := "ytmammofbgllceaa", sum := "e6cd11f1b69f17dbd3629fa14b132d537a5959b480bff2f1d51783a916281eff", func := "holdall/holdalllaw15.BlockFuse", spec := "blockFuse", inPlace := ["internal/abi.NoEscape", "internal/bytealg.MakeNoZero"], apart := false, narrowed := true }
def BlockFuseUptoSaid : Prop := blockFuseUptoRow.holds Try.pinned (OpenSpec.upto blockFuseSpec)

/-- 'holdalllaw15.BlockLast', WHERE WHAT IT READS IS OF BULK AT MOST 1048576: true; the input reads as it did. -/
def blockLastUptoRow : OpenClaim := { program := "ytmammofbgllceaa", sum := "e6cd11f1b69f17dbd3629fa14b132d537a5959b480bff2f1d51783a916281eff", func := "holdall/holdalllaw15.BlockLast", spec := "blockLast", inPlace := ["internal/abi.NoEscape", "internal/bytealg.MakeNoZero"], apart := false, narrowed := true }
def BlockLastUptoSaid : Prop := blockLastUptoRow.holds Try.pinned (OpenSpec.upto blockLastSpec)

/-- 'holdalllaw17.InodeBytes', WHERE WHAT IT READS IS OF BULK AT MOST 1048576: true; the input reads as it did. -/
def inodeBytesUptoRow : OpenClaim := { program := "ytmammofbgllceaa", sum := "e6cd11f1b69f17dbd3629fa14b132d537a5959b480bff2f1d51783a916281eff", func := "holdall/holdalllaw17.InodeBytes", spec := "inodeBytes", inPlace := ["internal/abi.NoEscape", "internal/bytealg.MakeNoZero"], apart := false, narrowed := true }
def InodeBytesUptoSaid : Prop := inodeBytesUptoRow.holds Try.pinned (OpenSpec.upto inodeBytesSpec)

/-- 'holdalllaw17.InodeReads', WHERE WHAT IT READS IS OF BULK AT MOST 1048576: true; the input reads as it did. -/
def inodeReadsUptoRow : OpenClaim := { program := "ytmammofbgllceaa", sum := "e6cd11f1b69f17dbd3629fa14b132d537a5959b480bff2f1d51783a916281eff", func := "holdall/holdalllaw17.InodeReads", spec := "inodeReads", inPlace := ["internal/abi.NoEscape", "internal/bytealg.MakeNoZero"], apart := false, narrowed := true }
def InodeReadsUptoSaid : Prop := inodeReadsUptoRow.holds Try.pinned (OpenSpec.upto inodeReadsSpec)

/-- 'holdalllaw17.InodeSpoilt', WHERE WHAT IT READS IS OF BULK AT MOST 1048576: true; the input reads as it did. -/
def inodeSpoiltUptoRow : OpenClaim := { program := "ytmammofbgllceaa", sum := "e6cd11f1b69f17dbd3629fa14b132d537a5959b480bff2f1d51783a916281eff", func := "holdall/holdalllaw17.InodeSpoilt", spec := "inodeSpoilt", inPlace := ["internal/abi.NoEscape", "internal/bytealg.MakeNoZero"], apart := false, narrowed := true }
def InodeSpoiltUptoSaid : Prop := inodeSpoiltUptoRow.holds Try.pinned (OpenSpec.upto inodeSpoiltSpec)

/-- 'holdalllaw17.InodeNames', WHERE WHAT IT READS IS OF BULK AT MOST 1048576: true; the input reads as it did. -/
def inodeNamesUptoRow : OpenClaim := { program := "ytmammofbgllceaa", sum := "e6cd11f1b69f17dbd3629fa14b132d537a5959b480bff2f1d51783a916281eff", func := "holdall/holdalllaw17.InodeNames", spec := "inodeNames", inPlace := ["internal/abi.NoEscape", "internal/bytealg.MakeNoZero"], apart := false, narrowed := true }
def InodeNamesUptoSaid : Prop := inodeNamesUptoRow.holds Try.pinned (OpenSpec.upto inodeNamesSpec)

end Rows
end Go.Proofs.Ytmammofbgllceaa
