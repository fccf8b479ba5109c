import Derived.Test.YtnmaaijeamlplaaDoorSy
import Derived.Laws.AppendOwn
set_option linter.unusedVariables false
set_option linter.unusedSimpArgs false
namespace Go.Proofs.YtnmaaijeamlplaaDoor.Sx
open Go.RowKit
open Go.Proofs.YtnmaaijeamlplaaDoor.Num (up)
open Go.Proofs.YtnmaaijeamlplaaDoor.Arr Go.Proofs.YtnmaaijeamlplaaDoor.Sym
section
variable {P : Program} {o : Oper} {a : Act} {w : World} {x y : Operand} {T T' e : TypeId} {k : IntKind}
theorem r_lenS {ao : Option Addr} {n c : Nat} (ho : o.op = .call { callee := .builtin .len, args := #[x], argTypes := #[T] }) (hT : P.underlying T = some (.slice e)) (hx : a.eval x = .slice ao n c) : (execOp a.eval o).run P w = .ok (.value (.int .i64 (n : Int))) w := by
 have he : P.elem T = e := by unfold Program.elem; rw [hT]
 have hT' : P.underlying T = some (.slice (P.elem T)) := by rw [he]; exact hT
 unfold execOp
 simp only [ho]
 generalize a.eval = f at *
 go_simp
theorem r_ixS (g i n c : Nat) (hi : i < n) (hT : P.underlying T = some (.slice e)) (hz : (P.info? e).map (·.size) = some 1) (ho : o.op = .indexAddr T x y)
  (hx : a.eval x = .slice (some ⟨g, 0, none⟩) n c) (hy : a.eval y = .int k (i : Int)) : (execOp a.eval o).run P w = .ok (.value (.pointer (some ⟨g, i, none⟩))) w := by
 have he : P.elem T = e := by unfold Program.elem; rw [hT]
 have h1 := run_indexAt_slice (P := P) w T ⟨g, 0, none⟩ n c k (i : Int) (by rw [he]; exact hT)
 rw [he, if_pos (by omega), size_run hz] at h1
 unfold execOp
 simp only [ho, hx, hy]
 simp only [Sem.run_bind, h1]
 by_cases h0 : i = 0
 ·subst h0; rfl
 simp [Result.andThen, Addr.add, h0]
theorem append_row (f : Nat → Nat) (n c z : Nat) (hn : n < c) : ((rowOf .u8 f c).toList.take n ++ [Value.int .u8 (z : Int)] ++ (rowOf .u8 f c).toList.drop (n + 1)).toArray = rowOf .u8 (up f n z) c := by
 have hl : (rowOf .u8 f c).toList.length = c := by rw [Array.length_toList, rowOf_size]
 apply Array.ext_getElem?
 intro j
 rw [List.getElem?_toArray]
 have hg : ∀ (h : Nat → Nat) (j : Nat), (rowOf .u8 h c)[j]? = if j < c then some (.int .u8 (h j : Int)) else none := by
  intro h j
  by_cases hj : j < c
  ·rw [if_pos hj, rowOf_get .u8 h c j hj]
  rw [if_neg hj, Array.getElem?_eq_none (by rw [rowOf_size]; omega)]
 rw [hg (up f n z) j, List.append_assoc, List.getElem?_append]
 have ht : ((rowOf .u8 f c).toList.take n).length = n := by rw [List.length_take, hl]; omega
 rw [ht]
 by_cases h1 : j < n
 ·rw [if_pos h1, List.getElem?_take_of_lt h1, Array.getElem?_toList, hg, if_pos (by omega), if_pos (by omega)]
  unfold up; rw [if_neg (by omega)]
 rw [if_neg h1]
 by_cases h2 : j = n
 ·subst h2
  rw [Nat.sub_self, if_pos hn]
  unfold up; rw [if_pos rfl]; rfl
 obtain ⟨q, hq⟩ : ∃ q, j - n = q + 1 := ⟨j - n - 1, by omega⟩
 rw [hq, List.singleton_append, List.getElem?_cons_succ, List.getElem?_drop, Array.getElem?_toList, show n + 1 + q = j by omega, hg]
 unfold up; rw [if_neg h2]
theorem m_append {Q : Exit → Act → World → Prop} {K : Act → World → Prop} {w0 : World} {l : List (Nat × Array Value × TypeId)} (j j2 : Nat) {g g2 n c z : Nat} {f f2 : Nat → Nat} {t2 : TypeId} (i : TypeInfo) (hm : Mm w0 w l) (hj : l[j]? = some (g, rowOf .u8 f c, e)) (hj2 : l[j2]? = some (g2, rowOf .u8 f2 1, t2)) (hz : f2 0 = z) (hn : n < c)
  (hT : P.underlying T = some (.slice e)) (hi : P.info? e = some i) (h1 : i.size = 1) (d : Tmp) (hd : o.dst = some d) (ho : o.op = .call { callee := .builtin .append, args := #[x, y], argTypes := #[T, T] })
  (hx : a.eval x = .slice (some ⟨g, 0, none⟩) n c) (hy : a.eval y = .slice (some ⟨g2, 0, none⟩) 1 1)
  (h : ∀ w', Mm w0 w' (l.set j (g, rowOf .u8 (up f n z) c, e)) → K { a with tmps := a.tmps.setIfInBounds d (.slice (some ⟨g, 0, none⟩) (n + 1) c) } w') : o.wp P a w K Q := by
 have hb := hm.at j hj
 have hb2 := hm.at j2 hj2
 have hr := run_append_room (P := P) w T o.type e i hT hi g n c (rowOf .u8 f c) hb ⟨g2, 0, none⟩ 1 1 [.int .u8 (z : Int)] (by rw [h1]; rfl) (fun q u hu => by
  cases q with
  | zero =>
   have := ((show Row w g2 1 t2 .u8 f2 from hb2).at 0 (by decide)).1
   rw [hz] at this
   simp at hu
   rw [← hu]; exact this
  | succ q => simp at hu) (by simp [Value.oneCell']) (by omega) (by rw [h1, rowOf_size]; simp; omega)
 rw [h1, Nat.mul_one, List.length_singleton, append_row f n c z hn] at hr
 have := h _ (hm.set j hj _)
 have hrun : (execOp a.eval o).run P w = .ok (.value (.slice (some ⟨g, 0, none⟩) (n + 1) c)) (w.setRow g (rowOf .u8 (up f n z) c)) := by
  simp [execOp, ho, resolve, invoke, builtin, hx, hy, hr, Result.andThen]
 unfold Oper.wp
 rw [hrun]
 show K (a.put o.dst _) _
 unfold Act.put
 rw [hd]
 exact this
end
end Go.Proofs.YtnmaaijeamlplaaDoor.Sx
