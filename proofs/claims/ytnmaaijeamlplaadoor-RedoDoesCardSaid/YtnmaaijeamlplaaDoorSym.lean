import Derived.Test.YtnmaaijeamlplaaDoorArr
import Derived.Deep.RegionHeld3
set_option linter.unusedVariables false
set_option linter.unusedSimpArgs false
namespace Go.Proofs.YtnmaaijeamlplaaDoor.Sym
open Go.RowKit
open Go.Proofs.YtnmaaijeamlplaaDoor.Arr (below_setRow)
def Blk (W : World) (g : Nat) (c : Array Value) (T : TypeId) : Prop := W.heap[g]? = some (.cells c T (0, 0))
section
variable {w W W' : World} {g g' : Nat} {c d : Array Value} {T : TypeId}
theorem Blk.lt (h : Blk W g c T) : g < W.heap.size := (Array.getElem?_eq_some_iff.1 h).1
theorem Blk.call (h : Blk W g c T) (hb : Below W.heap.size W W') : Blk W' g c T := by
 unfold Blk
 rw [hb.block _ h.lt]; exact h
theorem Blk.new (he : W' = W.alloc (.cells c T)) : Blk W' W.heap.size c T := by
 subst he; exact heap_alloc_new W _
theorem Blk.alloc {o : Obj} (h : Blk W g c T) (he : W' = W.alloc o) : Blk W' g c T := by
 subst he; exact h.call ((Below.refl _ _).alloc (Nat.le_refl _) _)
theorem Blk.set (h : Blk W g c T) (he : W' = W.setRow g d) : Blk W' g d T := by
 subst he; exact setRow_heap _ _ _ _ _ _ h
theorem Blk.other (h : Blk W g c T) (hg : g ≠ g') (he : W' = W.setRow g' d) : Blk W' g c T := by
 subst he; unfold Blk; rw [Go.setRow_other W g' g d hg]; exact h
theorem Blk.drew (h : Blk W g c T) : Blk W.drew g c T := h
theorem bel_call (h : Below w.heap.size w W) (hb : Below W.heap.size W W') : Below w.heap.size w W' := h.trans (hb.mono h.size)
end
section
variable {P : Program} {ops : Array Oper} {Q : Exit → Act → World → Prop} {md : Region.Mode} {S : World → Prop}
theorem wanted_none {o : Oper} {ys : Nat → Option Bool} (h : o.guard = none) : Region.wanted o ys = true := by unfold Region.wanted; rw [h]
theorem take_at {oi : Oper} {fuel : Nat} {listed : Array Bool} {a : Act} {w : World} (i : Nat) (d : Tmp) (v : Value) (hi : ops[i]? = some oi) (hd : oi.dst = some d)
  (hs : Region.noSelect ops = true) (hf : Region.free md ops listed i = true) (hr : (Region.ready md ops listed).contains i = true)
  (hQ : ∀ c a w, Q (.panic c) (a.put oi.dst v) w → Q (.panic c) a w) (hw : Region.wanted oi (yielded ops a.tmps) = true) (hy : ∀ w, S w → (execOp a.eval oi).run P w = .ok (.value v) w) (hS : S w)
  (h : wpAnyH P md ops Q S fuel (listed.setIfInBounds i true) { a with tmps := a.tmps.setIfInBounds d v } w) : wpAnyH P md ops Q S (fuel + 1) listed a w :=
 wpAnyH_take hi hs hf hr hQ (.inl ⟨hw, hy⟩) hS (by unfold Act.put; rw [hd]; exact h)
theorem one_ready {fuel : Nat} {listed : Array Bool} {a : Act} {w : World} (i : Nat) (hr : Region.ready md ops listed = [i])
  (h : wpOp P ops Q i (fun a' w' => S w' ∧ wpAnyH P md ops Q S fuel (listed.setIfInBounds i true) a' w') a w) : wpAnyH P md ops Q S (fuel + 1) listed a w :=
 wpAnyH_all hr (by simp) (fun k hk => by rw [List.mem_singleton] at hk; rw [hk]; exact h)
theorem two_ready {fuel : Nat} {listed : Array Bool} {a : Act} {w : World} (i j : Nat) (hr : Region.ready md ops listed = [i, j])
  (h : wpOp P ops Q i (fun a' w' => S w' ∧ wpAnyH P md ops Q S fuel (listed.setIfInBounds i true) a' w') a w)
  (h' : wpOp P ops Q j (fun a' w' => S w' ∧ wpAnyH P md ops Q S fuel (listed.setIfInBounds j true) a' w') a w) : wpAnyH P md ops Q S (fuel + 1) listed a w :=
 wpAnyH_all hr (by simp) (fun k hk => by
  rcases List.mem_cons.1 hk with rfl | hk
  ·exact h
  rw [List.mem_singleton] at hk; rw [hk]; exact h')
section
variable {oi : Oper} {a : Act} {w : World} {i : Nat} {K : Act → World → Prop}
theorem opd (hi : ops[i]? = some oi) (hw : Region.wanted oi (yielded ops a.tmps) = true) (h : oi.wp P a w K Q) : wpOp P ops Q i K a w := by
 unfold wpOp
 simp only [hi]
 rw [if_pos hw]
 exact .inl h
theorem lst {rest : List Oper} (hw : Region.wanted oi (yielded ops a.tmps) = true) (h : oi.wp P a w (wpList P ops Q rest) Q) : wpList P ops Q (oi :: rest) a w := by
 unfold wpList
 rw [if_pos hw]
 exact .inl h
theorem w_value (d : Tmp) (v : Value) (hd : oi.dst = some d) (hrun : (execOp a.eval oi).run P w = .ok (.value v) w) (h : K { a with tmps := a.tmps.setIfInBounds d v } w) : oi.wp P a w K Q := by
 unfold Oper.wp
 rw [hrun]
 show K (a.put oi.dst v) w
 unfold Act.put
 rw [hd]
 exact h
theorem w_enter {f : FuncId} {args : Array Value} (d : Tmp) (v : Value) (hd : oi.dst = some d) (hrun : (execOp a.eval oi).run P w = .ok (.enter f args) w) (hc : Calls P f args w fun e w' => e = .returned v ∧ Below w.heap.size w w')
  (h : ∀ w', Below w.heap.size w w' → K { a with tmps := a.tmps.setIfInBounds d v } w') : oi.wp P a w K Q := by
 unfold Oper.wp
 rw [hrun]
 show Calls P f args w _
 refine hc.mono ?_
 rintro e w' ⟨rfl, hb⟩
 have := h w' hb
 show K (a.put oi.dst v) w'
 unfold Act.put
 rw [hd]
 exact this
end
end
theorem nz1 {α : Type} (l : List α) (i : Nat) (a : α) : l.toArray.setIfInBounds i a = (l.set i a).toArray := List.setIfInBounds_toArray _ _ _
theorem nz2 {α : Type} {a b : α} {l : List α} : (a :: l).set 0 b = b :: l := List.set_cons_zero
theorem nz3 {α : Type} {l : List α} {a b : α} {n : Nat} : (a :: l).set (n + 1) b = a :: l.set n b := List.set_cons_succ
theorem nz {α : Type} : (∀ (l : List α) (i : Nat) (a : α), l.toArray.setIfInBounds i a = (l.set i a).toArray) ∧ (∀ (a b : α) (l : List α), (a :: l).set 0 b = b :: l) ∧ (∀ (l : List α) (a b : α) (n : Nat), (a :: l).set (n + 1) b = a :: l.set n b) :=
 ⟨fun _ _ _ => nz1 _ _ _, fun _ _ _ => nz2, fun _ _ _ _ => nz3⟩
theorem tk {P : Program} {ops : Array Oper} {Q : Exit → Act → World → Prop} {md : Region.Mode} {S : World → Prop} {oi : Oper} {fuel : Nat} {listed : Array Bool} {a : Act} {w : World} (i : Nat) (d : Tmp) (v : Value) (hi : ops[i]? = some oi) (hd : oi.dst = some d)
  (hy : ∀ w, S w → (execOp a.eval oi).run P w = .ok (.value v) w) (hS : S w)
  (h : wpAnyH P md ops Q S fuel (listed.setIfInBounds i true) { a with tmps := a.tmps.setIfInBounds d v } w)
  (hs : Region.noSelect ops = true := by kernel_rfl) (hf : Region.free md ops listed i = true := by kernel_rfl) (hr : (Region.ready md ops listed).contains i = true := by kernel_rfl)
  (hQ : ∀ c a w, Q (.panic c) (a.put oi.dst v) w → Q (.panic c) a w := by exact fun _ _ _ h => h) (hg : oi.guard = none := by rfl) : wpAnyH P md ops Q S (fuel + 1) listed a w :=
 take_at i d v hi hd hs hf hr hQ (wanted_none hg) hy hS h
theorem tn {P : Program} {ops : Array Oper} {Q : Exit → Act → World → Prop} {md : Region.Mode} {S : World → Prop} {oi : Oper} {fuel : Nat} {listed : Array Bool} {a : Act} {w : World} (i : Nat) (d : Tmp) (v : Value) (hi : ops[i]? = some oi) (hd : oi.dst = some d)
  (hy : ∀ w, S w → (execOp a.eval oi).run P w = .ok (.value v) w) (hS : S w)
  (h : wpAnyH P md ops Q S fuel (listed.setIfInBounds i true) { a with tmps := a.tmps.setIfInBounds d v } w)
  (hs : Region.noSelect ops = true := by kernel_rfl) (hf : Region.free md ops listed i = true := by kernel_rfl) (hr : (Region.ready md ops listed).contains i = true := by kernel_rfl)
  (hQ : ∀ c a w, Q (.panic c) (a.put oi.dst v) w → Q (.panic c) a w := by exact fun _ _ _ h => nomatch h.1) (hg : oi.guard = none := by rfl) : wpAnyH P md ops Q S (fuel + 1) listed a w :=
 take_at i d v hi hd hs hf hr hQ (wanted_none hg) hy hS h
section
variable {P : Program} {o : Oper} {a : Act} {w : World}
theorem run_mv {x : Operand} {v : Value} (ho : o.op = .move x) (hx : a.eval x = v) : (execOp a.eval o).run P w = .ok (.value v) w := by
 unfold execOp; simp only [ho, hx]; rfl
theorem run_as {x : Operand} {v : Value} (ho : o.op = .assign x) (hx : a.eval x = v) : (execOp a.eval o).run P w = .ok (.value v) w := by
 unfold execOp; simp only [ho, hx]; rfl
theorem run_ex {t : Operand} {k : Nat} {vs : Array Value} {v : Value} (ho : o.op = .extract t k) (ht : a.eval t = .tuple vs) (hv : vs[k]? = some v) : (execOp a.eval o).run P w = .ok (.value v) w := by
 unfold execOp; simp only [ho, ht]; simp [go_sem, hv]
theorem run_pick {c x y : Operand} {v : Value} (ho : o.op = .pick c x y) (hc : a.eval c = .bool true) (hx : a.eval x = v) : (execOp a.eval o).run P w = .ok (.value v) w := by
 unfold execOp; simp only [ho, hc, hx]; rfl
theorem run_pickf {c x y : Operand} {v : Value} (ho : o.op = .pick c x y) (hc : a.eval c = .bool false) (hx : a.eval y = v) : (execOp a.eval o).run P w = .ok (.value v) w := by
 unfold execOp; simp only [ho, hc, hx]; rfl
theorem run_box {ty : TypeId} {x : Operand} {c : Array Value} (ho : o.op = .box ty x) (hx : a.eval x = .agg c) : (execOp a.eval o).run P w = .ok (.value (.pointer (some ⟨w.heap.size, 0, none⟩))) (w.alloc (.cells c ty)) := by
 unfold execOp
 simp only [ho, hx]
 rfl
end
end Go.Proofs.YtnmaaijeamlplaaDoor.Sym
