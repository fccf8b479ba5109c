import Derived.Test.YtnmaaijeamlplaaDoorAx
import Derived.Laws.RangeString
set_option linter.unusedVariables false
set_option linter.unusedSimpArgs false
namespace Go.Proofs.YtnmaaijeamlplaaDoor.Mem
open Go.RowKit
section
variable {P : Program} {Q : Exit → Act → World → Prop} {K : Act → World → Prop} {oi : Oper} {a : Act} {r : Option Nat} {S : Nat → Prop} {w0 w : World} {l : List Ent}
variable {o : Oper} {x : Operand}
end
end Go.Proofs.YtnmaaijeamlplaaDoor.Mem
