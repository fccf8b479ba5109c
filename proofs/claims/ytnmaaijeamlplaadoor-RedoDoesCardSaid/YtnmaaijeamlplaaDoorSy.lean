import Derived.Test.YtnmaaijeamlplaaDoorSx
import Derived.Laws.IdiomStrings
import Derived.Laws.MakeOwn
set_option linter.unusedVariables false
set_option linter.unusedSimpArgs false
namespace Go.Proofs.YtnmaaijeamlplaaDoor.Sx
open Go.RowKit
open Go.Proofs.YtnmaaijeamlplaaDoor.Arr Go.Proofs.YtnmaaijeamlplaaDoor.Sym
section
variable {P : Program} {o : Oper} {a : Act} {w : World} {x y : Operand} {T T' e : TypeId}
theorem r_cat (s t : ByteArray) (hst : s.size + t.size ≤ 9223372036854775807) (ho : o.op = .binOp .add T x y T') (hx : a.eval x = .string s) (hy : a.eval y = .string t) : (execOp a.eval o).run P w = .ok (.value (.string (s ++ t))) w := by
 unfold execOp
 simp only [ho, hx, hy]
 generalize a.eval = f at *
 go_simp
theorem m_make {Q : Exit → Act → World → Prop} {K : Act → World → Prop} {w0 : World} {l : List (Nat × Array Value × TypeId)} {c : Array Value} (v : Nat → Value) (hm : Mm w0 w l) (d : Tmp) (hd : o.dst = some d) (hrun : (execOp a.eval o).run P w = .ok (.value (v w.heap.size)) (w.alloc (.cells c T)))
  (h : ∀ g w', Mm w0 w' (l ++ [(g, c, T)]) → K { a with tmps := a.tmps.setIfInBounds d (v g) } w') : o.wp P a w K Q := by
 unfold Oper.wp
 rw [hrun]
 have := h _ _ (hm.alloc c T)
 show K (a.put o.dst _) _
 unfold Act.put
 rw [hd]
 exact this
end
end Go.Proofs.YtnmaaijeamlplaaDoor.Sx
