/-
  NARROWER THAN 'FOR EVERY INPUT', by the rows' own cells (each row's printed sentence says how): HeaderEncodes: laid · HeaderDecodes: laid · HeaderSpoilt: laid · HeaderBlank: laid · HeaderPlaces: laid · PaxEncodes: laid · PaxDecodes: laid · PaxBack: laid · PaxParts: laid · PaxLast: laid · PaxSizes: laid.
  DERIVED. THE GIVEN ROWS OF THIS SEAT. 11 by the template 'for every input the law returns true; each argument reads behind the call as it read before'; 0 by the template 'total and deterministic' (their statements: YtglnifckngcpkaaDoorTotals.lean).
  GIVEN WITH THE SEED: the statements are not yours to turn. If you find one false, say at which input.
  Laid BY PROGRAM, IN A SANDBOX (cutbox-rows.mjs): the forced cells as the released guide's own fill.sh prints them over the translation 0b14e2ca5a3f6e66… (all of the seat's roots in one cut). By AI agents, Wed Nov 11 2026. No macro, syntax, notation, axiom, sorry.
-/
import Derived.Test.YtglnifckngcpkaaDoorChecked
import GoSem.Claim
import GoSem.ClaimJoined
import GoSem.ClaimMapViews
import Derived.JoinedTies
import Derived.KernelRfl
namespace Go.Proofs.YtglnifckngcpkaaDoor
/- THE CELL 'sum', in the pinned program and in every row, IS THE sha256 OF THE DUMP (.gsa) THAT YtglnifckngcpkaaDoorProg.lean LOADS. Nothing in Lean hashes anything: it is a label: what it is worth is what the hold of that sum in a sandbox is worth. -/
noncomputable def Tryd.pinned : Pinned := { name := "ytglnifckngcpkaadoor", sum := "0b14e2ca5a3f6e669e4d8f16b9c083ea7f13a0e9a2e22268c55fc949ebec8250", checked := Tryd.checked }
namespace Rows
def none {H : Type} : Left H := { results := [], args := [] }

/- WHAT THE LISTED PACKAGE-LEVEL VARIABLES READ AS WHEN THE CALL BEGINS. Each datum BY PROGRAM (the guide's laid-datum.mjs) off the statement by which the dump's own 'gosem.cut.vars' lays the variable. In a bare row this is a premise. The card (YtglnifckngcpkaaDoorCards.lean) ties it to the program's text. -/
def laid_holdall_header_widths {H : Type} : DataW H := .agg [.lit (.int .i64 8), .lit (.int .i64 8), .lit (.int .i64 8), .lit (.int .i64 12), .lit (.int .i64 12)]
def laid_math_bits_deBruijn32tab {H : Type} : DataW H := .agg [.lit (.int .u8 0), .lit (.int .u8 1), .lit (.int .u8 28), .lit (.int .u8 2), .lit (.int .u8 29), .lit (.int .u8 14), .lit (.int .u8 24), .lit (.int .u8 3), .lit (.int .u8 30), .lit (.int .u8 22), .lit (.int .u8 20), .lit (.int .u8 15), .lit (.int .u8 25), .lit (.int .u8 17), .lit (.int .u8 4), .lit (.int .u8 8), .lit (.int .u8 31), .lit (.int .u8 27), .lit (.int .u8 13), .lit (.int .u8 23), .lit (.int .u8 21), .lit (.int .u8 19), .lit (.int .u8 16), .lit (.int .u8 7), .lit (.int .u8 26), .lit (.int .u8 12), .lit (.int .u8 18), .lit (.int .u8 6), .lit (.int .u8 11), .lit (.int .u8 5), .lit (.int .u8 10), .lit (.int .u8 9)]
def laid_math_bits_deBruijn64tab {H : Type} : DataW H := .agg [.lit (.int .u8 0), .lit (.int .u8 1), .lit (.int .u8 56), .lit (.int .u8 2), .lit (.int .u8 57), .lit (.int .u8 49), .lit (.int .u8 28), .lit (.int .u8 3), .lit (.int .u8 61), .lit (.int .u8 58), .lit (.int .u8 42), .lit (.int .u8 50), .lit (.int .u8 38), .lit (.int .u8 29), .lit (.int .u8 17), .lit (.int .u8 4), .lit (.int .u8 62), .lit (.int .u8 47), .lit (.int .u8 59), .lit (.int .u8 36), .lit (.int .u8 45), .lit (.int .u8 43), .lit (.int .u8 51), .lit (.int .u8 22), .lit (.int .u8 53), .lit (.int .u8 39), .lit (.int .u8 33), .lit (.int .u8 30), .lit (.int .u8 24), .lit (.int .u8 18), .lit (.int .u8 12), .lit (.int .u8 5), .lit (.int .u8 63), .lit (.int .u8 55), .lit (.int .u8 48), .lit (.int .u8 27), .lit (.int .u8 60), .lit (.int .u8 41), .lit (.int .u8 37), .lit (.int .u8 16), .lit (.int .u8 46), .lit (.int .u8 35), .lit (.int .u8 44), .lit (.int .u8 21), .lit (.int .u8 52), .lit (.int .u8 32), .lit (.int .u8 23), .lit (.int .u8 11), .lit (.int .u8 54), .lit (.int .u8 26), .lit (.int .u8 40), .lit (.int .u8 15), .lit (.int .u8 34), .lit (.int .u8 20), .lit (.int .u8 31), .lit (.int .u8 10), .lit (.int .u8 25), .lit (.int .u8 14), .lit (.int .u8 19), .lit (.int .u8 9), .lit (.int .u8 13), .lit (.int .u8 8), .lit (.int .u8 7), .lit (.int .u8 6)]
def laid_internal_strconv_uint64pow10 {H : Type} : DataW H := .agg [.lit (.int .u64 1), .lit (.int .u64 10), .lit (.int .u64 100), .lit (.int .u64 1000), .lit (.int .u64 10000), .lit (.int .u64 100000), .lit (.int .u64 1000000), .lit (.int .u64 10000000), .lit (.int .u64 100000000), .lit (.int .u64 1000000000), .lit (.int .u64 10000000000), .lit (.int .u64 100000000000), .lit (.int .u64 1000000000000), .lit (.int .u64 10000000000000), .lit (.int .u64 100000000000000), .lit (.int .u64 1000000000000000), .lit (.int .u64 10000000000000000), .lit (.int .u64 100000000000000000), .lit (.int .u64 1000000000000000000), .lit (.int .u64 10000000000000000000)]
def laid_strconv_ErrRange {H : Type} : DataW H := .iface "*errors.errorString" (.ptr (.agg [.lit (.string [118, 97, 108, 117, 101, 32, 111, 117, 116, 32, 111, 102, 32, 114, 97, 110, 103, 101])]))
def laid_strconv_ErrSyntax {H : Type} : DataW H := .iface "*errors.errorString" (.ptr (.agg [.lit (.string [105, 110, 118, 97, 108, 105, 100, 32, 115, 121, 110, 116, 97, 120])]))

/-- 'holdalllaw09.HeaderEncodes': WHATEVER THE INPUT: true; the input reads as it did. -/
def headerEncodesSpec : ChangeSpec := { name := "headerEncodes", fn := fun _ => fun
  | [d] => { results := [.lit (.bool true)], args := [d] }
  | _ => none }
def headerEncodesRow : OpenClaim := { program := "ytglnifckngcpkaadoor", sum := "0b14e2ca5a3f6e669e4d8f16b9c083ea7f13a0e9a2e22268c55fc949ebec8250", func := "holdall/holdalllaw09.HeaderEncodes", spec := "headerEncodes", inPlace := ["internal/bytealg.IndexByteString", "internal/abi.NoEscape", "internal/bytealg.MakeNoZero", "internal/bytealg.IndexString"], named := ["holdall/header.widths", "internal/bytealg.MaxLen"], apart := false, laid := [("holdall/header.widths", laid_holdall_header_widths)] }
def HeaderEncodesSaid : Prop := headerEncodesRow.holds Tryd.pinned (OpenSpec.ofChange headerEncodesSpec)

/-- ITS FALSE NEIGHBOUR: 'it returns false'. Refute it at one input. -/
def headerEncodesWrong : ChangeSpec := { name := "headerEncodes", fn := fun _ => fun
  | [d] => { results := [.lit (.bool false)], args := [d] }
  | _ => none }
def HeaderEncodesWrongFalsely : Prop := headerEncodesRow.holds Tryd.pinned (OpenSpec.ofChange headerEncodesWrong)

/-- 'holdalllaw09.HeaderDecodes': WHATEVER THE INPUT: true; the input reads as it did. -/
def headerDecodesSpec : ChangeSpec := { name := "headerDecodes", fn := fun _ => fun
  | [d] => { results := [.lit (.bool true)], args := [d] }
  | _ => none }
def headerDecodesRow : OpenClaim := { program := "ytglnifckngcpkaadoor", sum := "0b14e2ca5a3f6e669e4d8f16b9c083ea7f13a0e9a2e22268c55fc949ebec8250", func := "holdall/holdalllaw09.HeaderDecodes", spec := "headerDecodes", inPlace := ["internal/bytealg.IndexByteString", "internal/abi.NoEscape", "internal/bytealg.MakeNoZero", "internal/bytealg.IndexString"], named := ["holdall/header.widths", "internal/bytealg.MaxLen"], apart := false, laid := [("holdall/header.widths", laid_holdall_header_widths)] }
def HeaderDecodesSaid : Prop := headerDecodesRow.holds Tryd.pinned (OpenSpec.ofChange headerDecodesSpec)

/-- ITS FALSE NEIGHBOUR: 'it returns false'. Refute it at one input. -/
def headerDecodesWrong : ChangeSpec := { name := "headerDecodes", fn := fun _ => fun
  | [d] => { results := [.lit (.bool false)], args := [d] }
  | _ => none }
def HeaderDecodesWrongFalsely : Prop := headerDecodesRow.holds Tryd.pinned (OpenSpec.ofChange headerDecodesWrong)

/-- 'holdalllaw09.HeaderSpoilt': WHATEVER THE INPUT: true; the input reads as it did. -/
def headerSpoiltSpec : ChangeSpec := { name := "headerSpoilt", fn := fun _ => fun
  | [d1, d2, d3] => { results := [.lit (.bool true)], args := [d1, d2, d3] }
  | _ => none }
def headerSpoiltRow : OpenClaim := { program := "ytglnifckngcpkaadoor", sum := "0b14e2ca5a3f6e669e4d8f16b9c083ea7f13a0e9a2e22268c55fc949ebec8250", func := "holdall/holdalllaw09.HeaderSpoilt", spec := "headerSpoilt", inPlace := ["internal/bytealg.IndexByteString", "internal/abi.NoEscape", "internal/bytealg.MakeNoZero", "internal/bytealg.IndexString"], named := ["holdall/header.widths", "internal/bytealg.MaxLen"], apart := false, laid := [("holdall/header.widths", laid_holdall_header_widths)] }
def HeaderSpoiltSaid : Prop := headerSpoiltRow.holds Tryd.pinned (OpenSpec.ofChange headerSpoiltSpec)

/-- ITS FALSE NEIGHBOUR: 'it returns false'. Refute it at one input. -/
def headerSpoiltWrong : ChangeSpec := { name := "headerSpoilt", fn := fun _ => fun
  | [d1, d2, d3] => { results := [.lit (.bool false)], args := [d1, d2, d3] }
  | _ => none }
def HeaderSpoiltWrongFalsely : Prop := headerSpoiltRow.holds Tryd.pinned (OpenSpec.ofChange headerSpoiltWrong)

/-- 'holdalllaw09.HeaderBlank': WHATEVER THE INPUT: true; the input reads as it did. -/
def headerBlankSpec : ChangeSpec := { name := "headerBlank", fn := fun _ => fun
  | [d] => { results := [.lit (.bool true)], args := [d] }
  | _ => none }
def headerBlankRow : OpenClaim := { program := "ytglnifckngcpkaadoor", sum := "0b14e2ca5a3f6e669e4d8f16b9c083ea7f13a0e9a2e22268c55fc949ebec8250", func := "holdall/holdalllaw09.HeaderBlank", spec := "headerBlank", inPlace := ["internal/bytealg.IndexByteString", "internal/abi.NoEscape", "internal/bytealg.MakeNoZero", "internal/bytealg.IndexString"], named := ["holdall/header.widths", "internal/bytealg.MaxLen"], apart := false, laid := [("holdall/header.widths", laid_holdall_header_widths)] }
def HeaderBlankSaid : Prop := headerBlankRow.holds Tryd.pinned (OpenSpec.ofChange headerBlankSpec)

/-- ITS FALSE NEIGHBOUR: 'it returns false'. Refute it at one input. -/
def headerBlankWrong : ChangeSpec := { name := "headerBlank", fn := fun _ => fun
  | [d] => { results := [.lit (.bool false)], args := [d] }
  | _ => none }
def HeaderBlankWrongFalsely : Prop := headerBlankRow.holds Tryd.pinned (OpenSpec.ofChange headerBlankWrong)

/-- 'holdalllaw09.HeaderPlaces': WHATEVER THE INPUT: true; the input reads as it did. -/
def headerPlacesSpec : ChangeSpec := { name := "headerPlaces", fn := fun _ => fun
  | [d] => { results := [.lit (.bool true)], args := [d] }
  | _ => none }
def headerPlacesRow : OpenClaim := { program := "ytglnifckngcpkaadoor", sum := "0b14e2ca5a3f6e669e4d8f16b9c083ea7f13a0e9a2e22268c55fc949ebec8250", func := "holdall/holdalllaw09.HeaderPlaces", spec := "headerPlaces", inPlace := ["internal/bytealg.IndexByteString", "internal/abi.NoEscape", "internal/bytealg.MakeNoZero", "internal/bytealg.IndexString"], named := ["holdall/header.widths", "internal/bytealg.MaxLen"], apart := false, laid := [("holdall/header.widths", laid_holdall_header_widths)] }
def HeaderPlacesSaid : Prop := headerPlacesRow.holds Tryd.pinned (OpenSpec.ofChange headerPlacesSpec)

/-- ITS FALSE NEIGHBOUR: 'it returns false'. Refute it at one input. -/
def headerPlacesWrong : ChangeSpec := { name := "headerPlaces", fn := fun _ => fun
  | [d] => { results := [.lit (.bool false)], args := [d] }
  | _ => none }
def HeaderPlacesWrongFalsely : Prop := headerPlacesRow.holds Tryd.pinned (OpenSpec.ofChange headerPlacesWrong)

/-- 'holdalllaw10.PaxEncodes': WHATEVER THE INPUT: true; the input reads as it did. -/
def paxEncodesSpec : ChangeSpec := { name := "paxEncodes", fn := fun _ => fun
  | [d1, d2] => { results := [.lit (.bool true)], args := [d1, d2] }
  | _ => none }
def paxEncodesRow : OpenClaim := { program := "ytglnifckngcpkaadoor", sum := "0b14e2ca5a3f6e669e4d8f16b9c083ea7f13a0e9a2e22268c55fc949ebec8250", func := "holdall/holdalllaw10.PaxEncodes", spec := "paxEncodes", inPlace := ["internal/bytealg.IndexByteString", "internal/bytealg.IndexString"], named := ["internal/strconv.uint64pow10", "math/bits.deBruijn32tab", "math/bits.deBruijn64tab", "strconv.ErrSyntax", "strconv.ErrRange", "internal/bytealg.MaxLen"], apart := false, laid := [("math/bits.deBruijn32tab", laid_math_bits_deBruijn32tab), ("math/bits.deBruijn64tab", laid_math_bits_deBruijn64tab), ("internal/strconv.uint64pow10", laid_internal_strconv_uint64pow10), ("strconv.ErrRange", laid_strconv_ErrRange), ("strconv.ErrSyntax", laid_strconv_ErrSyntax)] }
def PaxEncodesSaid : Prop := paxEncodesRow.holds Tryd.pinned (OpenSpec.ofChange paxEncodesSpec)

/-- ITS FALSE NEIGHBOUR: 'it returns false'. Refute it at one input. -/
def paxEncodesWrong : ChangeSpec := { name := "paxEncodes", fn := fun _ => fun
  | [d1, d2] => { results := [.lit (.bool false)], args := [d1, d2] }
  | _ => none }
def PaxEncodesWrongFalsely : Prop := paxEncodesRow.holds Tryd.pinned (OpenSpec.ofChange paxEncodesWrong)

/-- 'holdalllaw10.PaxDecodes': WHATEVER THE INPUT: true; the input reads as it did. -/
def paxDecodesSpec : ChangeSpec := { name := "paxDecodes", fn := fun _ => fun
  | [d] => { results := [.lit (.bool true)], args := [d] }
  | _ => none }
def paxDecodesRow : OpenClaim := { program := "ytglnifckngcpkaadoor", sum := "0b14e2ca5a3f6e669e4d8f16b9c083ea7f13a0e9a2e22268c55fc949ebec8250", func := "holdall/holdalllaw10.PaxDecodes", spec := "paxDecodes", inPlace := ["internal/bytealg.IndexByteString", "internal/bytealg.IndexString"], named := ["internal/strconv.uint64pow10", "math/bits.deBruijn32tab", "math/bits.deBruijn64tab", "strconv.ErrSyntax", "strconv.ErrRange", "internal/bytealg.MaxLen"], apart := false, laid := [("math/bits.deBruijn32tab", laid_math_bits_deBruijn32tab), ("math/bits.deBruijn64tab", laid_math_bits_deBruijn64tab), ("internal/strconv.uint64pow10", laid_internal_strconv_uint64pow10), ("strconv.ErrRange", laid_strconv_ErrRange), ("strconv.ErrSyntax", laid_strconv_ErrSyntax)] }
def PaxDecodesSaid : Prop := paxDecodesRow.holds Tryd.pinned (OpenSpec.ofChange paxDecodesSpec)

/-- ITS FALSE NEIGHBOUR: 'it returns false'. Refute it at one input. -/
def paxDecodesWrong : ChangeSpec := { name := "paxDecodes", fn := fun _ => fun
  | [d] => { results := [.lit (.bool false)], args := [d] }
  | _ => none }
def PaxDecodesWrongFalsely : Prop := paxDecodesRow.holds Tryd.pinned (OpenSpec.ofChange paxDecodesWrong)

/-- 'holdalllaw10.PaxBack': WHATEVER THE INPUT: true; the input reads as it did. -/
def paxBackSpec : ChangeSpec := { name := "paxBack", fn := fun _ => fun
  | [d1, d2] => { results := [.lit (.bool true)], args := [d1, d2] }
  | _ => none }
def paxBackRow : OpenClaim := { program := "ytglnifckngcpkaadoor", sum := "0b14e2ca5a3f6e669e4d8f16b9c083ea7f13a0e9a2e22268c55fc949ebec8250", func := "holdall/holdalllaw10.PaxBack", spec := "paxBack", inPlace := ["internal/bytealg.IndexByteString", "internal/bytealg.IndexString"], named := ["internal/strconv.uint64pow10", "math/bits.deBruijn32tab", "math/bits.deBruijn64tab", "strconv.ErrSyntax", "strconv.ErrRange", "internal/bytealg.MaxLen"], apart := false, laid := [("math/bits.deBruijn32tab", laid_math_bits_deBruijn32tab), ("math/bits.deBruijn64tab", laid_math_bits_deBruijn64tab), ("internal/strconv.uint64pow10", laid_internal_strconv_uint64pow10), ("strconv.ErrRange", laid_strconv_ErrRange), ("strconv.ErrSyntax", laid_strconv_ErrSyntax)] }
def PaxBackSaid : Prop := paxBackRow.holds Tryd.pinned (OpenSpec.ofChange paxBackSpec)

/-- ITS FALSE NEIGHBOUR: 'it returns false'. Refute it at one input. -/
def paxBackWrong : ChangeSpec := { name := "paxBack", fn := fun _ => fun
  | [d1, d2] => { results := [.lit (.bool false)], args := [d1, d2] }
  | _ => none }
def PaxBackWrongFalsely : Prop := paxBackRow.holds Tryd.pinned (OpenSpec.ofChange paxBackWrong)

/-- 'holdalllaw10.PaxParts': WHATEVER THE INPUT: true; the input reads as it did. -/
def paxPartsSpec : ChangeSpec := { name := "paxParts", fn := fun _ => fun
  | [d1, d2] => { results := [.lit (.bool true)], args := [d1, d2] }
  | _ => none }
def paxPartsRow : OpenClaim := { program := "ytglnifckngcpkaadoor", sum := "0b14e2ca5a3f6e669e4d8f16b9c083ea7f13a0e9a2e22268c55fc949ebec8250", func := "holdall/holdalllaw10.PaxParts", spec := "paxParts", inPlace := ["internal/bytealg.IndexByteString", "internal/bytealg.IndexString"], named := ["internal/strconv.uint64pow10", "math/bits.deBruijn32tab", "math/bits.deBruijn64tab", "strconv.ErrSyntax", "strconv.ErrRange", "internal/bytealg.MaxLen"], apart := false, laid := [("math/bits.deBruijn32tab", laid_math_bits_deBruijn32tab), ("math/bits.deBruijn64tab", laid_math_bits_deBruijn64tab), ("internal/strconv.uint64pow10", laid_internal_strconv_uint64pow10), ("strconv.ErrRange", laid_strconv_ErrRange), ("strconv.ErrSyntax", laid_strconv_ErrSyntax)] }
def PaxPartsSaid : Prop := paxPartsRow.holds Tryd.pinned (OpenSpec.ofChange paxPartsSpec)

/-- ITS FALSE NEIGHBOUR: 'it returns false'. Refute it at one input. -/
def paxPartsWrong : ChangeSpec := { name := "paxParts", fn := fun _ => fun
  | [d1, d2] => { results := [.lit (.bool false)], args := [d1, d2] }
  | _ => none }
def PaxPartsWrongFalsely : Prop := paxPartsRow.holds Tryd.pinned (OpenSpec.ofChange paxPartsWrong)

/-- 'holdalllaw10.PaxLast': WHATEVER THE INPUT: true; the input reads as it did. -/
def paxLastSpec : ChangeSpec := { name := "paxLast", fn := fun _ => fun
  | [d1, d2] => { results := [.lit (.bool true)], args := [d1, d2] }
  | _ => none }
def paxLastRow : OpenClaim := { program := "ytglnifckngcpkaadoor", sum := "0b14e2ca5a3f6e669e4d8f16b9c083ea7f13a0e9a2e22268c55fc949ebec8250", func := "holdall/holdalllaw10.PaxLast", spec := "paxLast", inPlace := ["internal/bytealg.IndexByteString", "internal/bytealg.IndexString"], named := ["internal/strconv.uint64pow10", "math/bits.deBruijn32tab", "math/bits.deBruijn64tab", "strconv.ErrSyntax", "strconv.ErrRange", "internal/bytealg.MaxLen"], apart := false, laid := [("math/bits.deBruijn32tab", laid_math_bits_deBruijn32tab), ("math/bits.deBruijn64tab", laid_math_bits_deBruijn64tab), ("internal/strconv.uint64pow10", laid_internal_strconv_uint64pow10), ("strconv.ErrRange", laid_strconv_ErrRange), ("strconv.ErrSyntax", laid_strconv_ErrSyntax)] }
def PaxLastSaid : Prop := paxLastRow.holds Tryd.pinned (OpenSpec.ofChange paxLastSpec)

/-- ITS FALSE NEIGHBOUR: 'it returns false'. Refute it at one input. -/
def paxLastWrong : ChangeSpec := { name := "paxLast", fn := fun _ => fun
  | [d1, d2] => { results := [.lit (.bool false)], args := [d1, d2] }
  | _ => none }
def PaxLastWrongFalsely : Prop := paxLastRow.holds Tryd.pinned (OpenSpec.ofChange paxLastWrong)

/-- 'holdalllaw10.PaxSizes': WHATEVER THE INPUT: true; the input reads as it did. -/
def paxSizesSpec : ChangeSpec := { name := "paxSizes", fn := fun _ => fun
  | [d] => { results := [.lit (.bool true)], args := [d] }
  | _ => none }
def paxSizesRow : OpenClaim := { program := "ytglnifckngcpkaadoor", sum := "0b14e2ca5a3f6e669e4d8f16b9c083ea7f13a0e9a2e22268c55fc949ebec8250", func := "holdall/holdalllaw10.PaxSizes", spec := "paxSizes", inPlace := ["internal/bytealg.IndexByteString", "internal/bytealg.IndexString"], named := ["internal/strconv.uint64pow10", "math/bits.deBruijn32tab", "math/bits.deBruijn64tab", "strconv.ErrSyntax", "strconv.ErrRange", "internal/bytealg.MaxLen"], apart := false, laid := [("math/bits.deBruijn32tab", laid_math_bits_deBruijn32tab), ("math/bits.deBruijn64tab", laid_math_bits_deBruijn64tab), ("internal/strconv.uint64pow10", laid_internal_strconv_uint64pow10), ("strconv.ErrRange", laid_strconv_ErrRange), ("strconv.ErrSyntax", laid_strconv_ErrSyntax)] }
def PaxSizesSaid : Prop := paxSizesRow.holds Tryd.pinned (OpenSpec.ofChange paxSizesSpec)

/-- ITS FALSE NEIGHBOUR: 'it returns false'. Refute it at one input. -/
def paxSizesWrong : ChangeSpec := { name := "paxSizes", fn := fun _ => fun
  | [d] => { results := [.lit (.bool false)], args := [d] }
  | _ => none }
def PaxSizesWrongFalsely : Prop := paxSizesRow.holds Tryd.pinned (OpenSpec.ofChange paxSizesWrong)

/- THE SECOND FORM. 'bulk': how many values and letters a reading holds, each counted each time it is reached (what is shared counts as often as it is met; a slice's spare places count too). A statement '..UptoSaid' is the law's where the arguments, and the package variables that the reading takes, are together of bulk at most 1048576: NARROWER than '..Said'. Prove '..Said' where nothing that the law and all that it calls make is longer than what came in: it says more and counts as full. Else prove '..UptoSaid'. A law counts once. -/
mutual
def uptoBulk {H : Type} : DataW H → Nat
  | .lit (.string bytes) => bytes.length + 1
  | .lit _ => 1
  | .nil => 1
  | .ptr d => uptoBulk d + 1
  | .slice elems spare => uptoBulkAll elems + uptoBulkAll spare + 1
  | .agg parts => uptoBulkAll parts + 1
  | .iface _ d => uptoBulk d + 1
  | .map entries => uptoBulkEntries entries + 1
  | .held _ => 1
def uptoBulkAll {H : Type} : List (DataW H) → Nat
  | [] => 0
  | d :: r => uptoBulk d + uptoBulkAll r
def uptoBulkEntries {H : Type} : List (Lit × DataW H) → Nat
  | [] => 0
  | x :: r => uptoBulkEntry x + uptoBulkEntries r
def uptoBulkEntry {H : Type} : Lit × DataW H → Nat
  | (.string bytes, d) => bytes.length + uptoBulk d + 1
  | (_, d) => uptoBulk d + 1
 end
def uptoSmall : (H : Type) → List (DataW H) → Bool := fun _ ds => decide (uptoBulkAll ds ≤ 1048576)
def OpenSpec.upto (s : _root_.Go.ChangeSpec) : _root_.Go.OpenSpec := { _root_.Go.OpenSpec.ofChange s with cond := some uptoSmall }

/-- 'holdalllaw09.HeaderEncodes', WHERE WHAT IT READS IS OF BULK AT MOST 1048576: true; the input reads as it did. -/
def headerEncodesUptoRow : OpenClaim := { program := "ytglnifckngcpkaadoor", sum := "0b14e2ca5a3f6e669e4d8f16b9c083ea7f13a0e9a2e22268c55fc949ebec8250", func := "holdall/holdalllaw09.HeaderEncodes", spec := "headerEncodes", inPlace := ["internal/bytealg.IndexByteString", "internal/abi.NoEscape", "internal/bytealg.MakeNoZero", "internal/bytealg.IndexString"], named := ["holdall/header.widths", "internal/bytealg.MaxLen"], apart := false, laid := [("holdall/header.widths", laid_holdall_header_widths)], narrowed := true }
def HeaderEncodesUptoSaid : Prop := headerEncodesUptoRow.holds Tryd.pinned (OpenSpec.upto headerEncodesSpec)

/-- 'holdalllaw09.HeaderDecodes', WHERE WHAT IT READS IS OF BULK AT MOST 1048576: true; the input reads as it did. -/
def headerDecodesUptoRow : OpenClaim := { program := "ytglnifckngcpkaadoor", sum := "0b14e2ca5a3f6e669e4d8f16b9c083ea7f13a0e9a2e22268c55fc949ebec8250", func := "holdall/holdalllaw09.HeaderDecodes", spec := "headerDecodes", inPlace := ["internal/bytealg.IndexByteString", "internal/abi.NoEscape", "internal/bytealg.MakeNoZero", "internal/bytealg.IndexString"], named := ["holdall/header.widths", "internal/bytealg.MaxLen"], apart := false, laid := [("holdall/header.widths", laid_holdall_header_widths)], narrowed := true }
def HeaderDecodesUptoSaid : Prop := headerDecodesUptoRow.holds Tryd.pinned (OpenSpec.upto headerDecodesSpec)

/-- 'holdalllaw09.HeaderSpoilt', WHERE WHAT IT READS IS OF BULK AT MOST 1048576: true; the input reads as it did. -/
def headerSpoiltUptoRow : OpenClaim := { program := "ytglnifckngcpkaadoor", sum := "0b14e2ca5a3f6e669e4d8f16b9c083ea7f13a0e9a2e22268c55fc949ebec8250", func := "holdall/holdalllaw09.HeaderSpoilt", spec := "headerSpoilt", inPlace := ["internal/bytealg.IndexByteString", "internal/abi.NoEscape", "internal/bytealg.MakeNoZero", "internal/bytealg.IndexString"], named := ["holdall/header.widths", "internal/bytealg.MaxLen"], apart := false, laid := [("holdall/header.widths", laid_holdall_header_widths)], narrowed := true }
def HeaderSpoiltUptoSaid : Prop := headerSpoiltUptoRow.holds Tryd.pinned (OpenSpec.upto headerSpoiltSpec)

/-- 'holdalllaw09.HeaderBlank', WHERE WHAT IT READS IS OF BULK AT MOST 1048576: true; the input reads as it did. -/
def headerBlankUptoRow : OpenClaim := { program := "ytglnifckngcpkaadoor", sum := "0b14e2ca5a3f6e669e4d8f16b9c083ea7f13a0e9a2e22268c55fc949ebec8250", func := "holdall/holdalllaw09.HeaderBlank", spec := "headerBlank", inPlace := ["internal/bytealg.IndexByteString", "internal/abi.NoEscape", "internal/bytealg.MakeNoZero", "internal/bytealg.IndexString"], named := ["holdall/header.widths", "internal/bytealg.MaxLen"], apart := false, laid := [("holdall/header.widths", laid_holdall_header_widths)], narrowed := true }
def HeaderBlankUptoSaid : Prop := headerBlankUptoRow.holds Tryd.pinned (OpenSpec.upto headerBlankSpec)

/-- 'holdalllaw09.HeaderPlaces', WHERE WHAT IT READS IS OF BULK AT MOST 1048576: true; the input reads as it did. -/
def headerPlacesUptoRow : OpenClaim := { program := "ytglnifckngcpkaadoor", sum := "0b14e2ca5a3f6e669e4d8f16b9c083ea7f13a0e9a2e22268c55fc949ebec8250", func := "holdall/holdalllaw09.HeaderPlaces", spec := "headerPlaces", inPlace := ["internal/bytealg.IndexByteString", "internal/abi.NoEscape", "internal/bytealg.MakeNoZero", "internal/bytealg.IndexString"], named := ["holdall/header.widths", "internal/bytealg.MaxLen"], apart := false, laid := [("holdall/header.widths", laid_holdall_header_widths)], narrowed := true }
def HeaderPlacesUptoSaid : Prop := headerPlacesUptoRow.holds Tryd.pinned (OpenSpec.upto headerPlacesSpec)

/-- 'holdalllaw10.PaxEncodes', WHERE WHAT IT READS IS OF BULK AT MOST 1048576: true; the input reads as it did. -/
def paxEncodesUptoRow : OpenClaim := { program := "ytglnifckngcpkaadoor", sum := "0b14e2ca5a3f6e669e4d8f16b9c083ea7f13a0e9a2e22268c55fc949ebec8250", func := "holdall/holdalllaw10.PaxEncodes", spec := "paxEncodes", inPlace := ["internal/bytealg.IndexByteString", "internal/bytealg.IndexString"], named := ["internal/strconv.uint64pow10", "math/bits.deBruijn32tab", "math/bits.deBruijn64tab", "strconv.ErrSyntax", "strconv.ErrRange", "internal/bytealg.MaxLen"], apart := false, laid := [("math/bits.deBruijn32tab", laid_math_bits_deBruijn32tab), ("math/bits.deBruijn64tab", laid_math_bits_deBruijn64tab), ("internal/strconv.uint64pow10", laid_internal_strconv_uint64pow10), ("strconv.ErrRange", laid_strconv_ErrRange), ("strconv.ErrSyntax", laid_strconv_ErrSyntax)], narrowed := true }
def PaxEncodesUptoSaid : Prop := paxEncodesUptoRow.holds Tryd.pinned (OpenSpec.upto paxEncodesSpec)

/-- 'holdalllaw10.PaxDecodes', WHERE WHAT IT READS IS OF BULK AT MOST 1048576: true; the input reads as it did. -/
def paxDecodesUptoRow : OpenClaim := { program := "ytglnifckngcpkaadoor", sum := "0b14e2ca5a3f6e669e4d8f16b9c083ea7f13a0e9a2e22268c55fc949ebec8250", func := "holdall/holdalllaw10.PaxDecodes", spec := "paxDecodes", inPlace := ["internal/bytealg.IndexByteString", "internal/bytealg.IndexString"], named := ["internal/strconv.uint64pow10", "math/bits.deBruijn32tab", "math/bits.deBruijn64tab", "strconv.ErrSyntax", "strconv.ErrRange", "internal/bytealg.MaxLen"], apart := false, laid := [("math/bits.deBruijn32tab", laid_math_bits_deBruijn32tab), ("math/bits.deBruijn64tab", laid_math_bits_deBruijn64tab), ("internal/strconv.uint64pow10", laid_internal_strconv_uint64pow10), ("strconv.ErrRange", laid_strconv_ErrRange), ("strconv.ErrSyntax", laid_strconv_ErrSyntax)], narrowed := true }
def PaxDecodesUptoSaid : Prop := paxDecodesUptoRow.holds Tryd.pinned (OpenSpec.upto paxDecodesSpec)

/-- 'holdalllaw10.PaxBack', WHERE WHAT IT READS IS OF BULK AT MOST 1048576: true; the input reads as it did. -/
def paxBackUptoRow : OpenClaim := { program := "ytglnifckngcpkaadoor", sum := "0b14e2ca5a3f6e669e4d8f16b9c083ea7f13a0e9a2e22268c55fc949ebec8250", func := "holdall/holdalllaw10.PaxBack", spec := "paxBack", inPlace := ["internal/bytealg.IndexByteString", "internal/bytealg.IndexString"], named := ["internal/strconv.uint64pow10", "math/bits.deBruijn32tab", "math/bits.deBruijn64tab", "strconv.ErrSyntax", "strconv.ErrRange", "internal/bytealg.MaxLen"], apart := false, laid := [("math/bits.deBruijn32tab", laid_math_bits_deBruijn32tab), ("math/bits.deBruijn64tab", laid_math_bits_deBruijn64tab), ("internal/strconv.uint64pow10", laid_internal_strconv_uint64pow10), ("strconv.ErrRange", laid_strconv_ErrRange), ("strconv.ErrSyntax", laid_strconv_ErrSyntax)], narrowed := true }
def PaxBackUptoSaid : Prop := paxBackUptoRow.holds Tryd.pinned (OpenSpec.upto paxBackSpec)

/-- 'holdalllaw10.PaxParts', WHERE WHAT IT READS IS OF BULK AT MOST 1048576: true; the input reads as it did. -/
def paxPartsUptoRow : OpenClaim := { program := "ytglnifckngcpkaadoor", sum := "0b14e2ca5a3f6e669e4d8f16b9c083ea7f13a0e9a2e22268c55fc949ebec8250", func := "holdall/holdalllaw10.PaxParts", spec := "paxParts", inPlace := ["internal/bytealg.IndexByteString", "internal/bytealg.IndexString"], named := ["internal/strconv.uint64pow10", "math/bits.deBruijn32tab", "math/bits.deBruijn64tab", "strconv.ErrSyntax", "strconv.ErrRange", "internal/bytealg.MaxLen"], apart := false, laid := [("math/bits.deBruijn32tab", laid_math_bits_deBruijn32tab), ("math/bits.deBruijn64tab", laid_math_bits_deBruijn64tab), ("internal/strconv.uint64pow10", laid_internal_strconv_uint64pow10), ("strconv.ErrRange", laid_strconv_ErrRange), ("strconv.ErrSyntax", laid_strconv_ErrSyntax)], narrowed := true }
def PaxPartsUptoSaid : Prop := paxPartsUptoRow.holds Tryd.pinned (OpenSpec.upto paxPartsSpec)

/-- 'holdalllaw10.PaxLast', WHERE WHAT IT READS IS OF BULK AT MOST 1048576: true; the input reads as it did. -/
def paxLastUptoRow : OpenClaim := { program := "ytglnifckngcpkaadoor", sum := "0b14e2ca5a3f6e669e4d8f16b9c083ea7f13a0e9a2e22268c55fc949ebec8250", func := "holdall/holdalllaw10.PaxLast", spec := "paxLast", inPlace := ["internal/bytealg.IndexByteString", "internal/bytealg.IndexString"], named := ["internal/strconv.uint64pow10", "math/bits.deBruijn32tab", "math/bits.deBruijn64tab", "strconv.ErrSyntax", "strconv.ErrRange", "internal/bytealg.MaxLen"], apart := false, laid := [("math/bits.deBruijn32tab", laid_math_bits_deBruijn32tab), ("math/bits.deBruijn64tab", laid_math_bits_deBruijn64tab), ("internal/strconv.uint64pow10", laid_internal_strconv_uint64pow10), ("strconv.ErrRange", laid_strconv_ErrRange), ("strconv.ErrSyntax", laid_strconv_ErrSyntax)], narrowed := true }
def PaxLastUptoSaid : Prop := paxLastUptoRow.holds Tryd.pinned (OpenSpec.upto paxLastSpec)

/-- 'holdalllaw10.PaxSizes', WHERE WHAT IT READS IS OF BULK AT MOST 1048576: true; the input reads as it did. -/
def paxSizesUptoRow : OpenClaim := { program := "ytglnifckngcpkaadoor", sum := "0b14e2ca5a3f6e669e4d8f16b9c083ea7f13a0e9a2e22268c55fc949ebec8250", func := "holdall/holdalllaw10.PaxSizes", spec := "paxSizes", inPlace := ["internal/bytealg.IndexByteString", "internal/bytealg.IndexString"], named := ["internal/strconv.uint64pow10", "math/bits.deBruijn32tab", "math/bits.deBruijn64tab", "strconv.ErrSyntax", "strconv.ErrRange", "internal/bytealg.MaxLen"], apart := false, laid := [("math/bits.deBruijn32tab", laid_math_bits_deBruijn32tab), ("math/bits.deBruijn64tab", laid_math_bits_deBruijn64tab), ("internal/strconv.uint64pow10", laid_internal_strconv_uint64pow10), ("strconv.ErrRange", laid_strconv_ErrRange), ("strconv.ErrSyntax", laid_strconv_ErrSyntax)], narrowed := true }
def PaxSizesUptoSaid : Prop := paxSizesUptoRow.holds Tryd.pinned (OpenSpec.upto paxSizesSpec)

end Rows
end Go.Proofs.YtglnifckngcpkaaDoor
