/- Regions that draw their order, walked by hand: laws at any program. -/
import Derived.Test.YtfpphinnngblgaaDoorFr
import Derived.Deep.RegionHeld3
namespace Go.Proofs.YtfpphinnngblgaaDoor.Reg
open Go.RowKit
open Go.Proofs.YtfpphinnngblgaaDoor.Arr

section
variable {P : Program} {ops : Array Oper} {Q : Exit → Act → World → Prop} {md : Region.Mode} {S : World → Prop}
/-- Number i yields v in every world that S holds of: it is taken first. -/
theorem take_at {oi : Oper} {fuel : Nat} {listed : Array Bool} {a : Act} {w : World} (i : Nat) (d : Tmp) (v : Value) (hi : ops[i]? = some oi) (hd : oi.dst = some d)
    (hs : Region.noSelect ops = true) (hf : Region.free md ops listed i = true) (hr : (Region.ready md ops listed).contains i = true)
    (hQ : ∀ c a w, Q (.panic c) (a.put oi.dst v) w → Q (.panic c) a w) (hg : oi.guard = none) (hy : ∀ w, S w → (execOp a.eval oi).run P w = .ok (.value v) w) (hS : S w)
    (h : wpAnyH P md ops Q S fuel (listed.setIfInBounds i true) { a with tmps := a.tmps.setIfInBounds d v } w) : wpAnyH P md ops Q S (fuel + 1) listed a w :=
  wpAnyH_take hi hs hf hr hQ (.inl ⟨by unfold Region.wanted; rw [hg], hy⟩) hS (by unfold Act.put; rw [hd]; exact h)
/-- One operation alone may come up; two. -/
theorem one_ready {fuel : Nat} {listed : Array Bool} {a : Act} {w : World} (i : Nat) (hr : Region.ready md ops listed = [i])
    (h : wpOp P ops Q i (fun a' w' => S w' ∧ wpAnyH P md ops Q S fuel (listed.setIfInBounds i true) a' w') a w) : wpAnyH P md ops Q S (fuel + 1) listed a w :=
  wpAnyH_all hr (by simp) (fun k hk => by rw [List.mem_singleton] at hk; rw [hk]; exact h)
theorem two_ready {fuel : Nat} {listed : Array Bool} {a : Act} {w : World} (i j : Nat) (hr : Region.ready md ops listed = [i, j])
    (h : wpOp P ops Q i (fun a' w' => S w' ∧ wpAnyH P md ops Q S fuel (listed.setIfInBounds i true) a' w') a w)
    (h' : wpOp P ops Q j (fun a' w' => S w' ∧ wpAnyH P md ops Q S fuel (listed.setIfInBounds j true) a' w') a w) : wpAnyH P md ops Q S (fuel + 1) listed a w :=
  wpAnyH_all hr (by simp) (fun k hk => by
    rcases List.mem_cons.1 hk with rfl | hk
    · exact h
    · rw [List.mem_singleton] at hk; rw [hk]; exact h')
theorem op_any {oi : Oper} {a : Act} {w : World} {i : Nat} {K : Act → World → Prop} (hi : ops[i]? = some oi) (hg : oi.guard = none) (h : oi.wp P a w K Q) : wpOp P ops Q i K a w := by
  unfold wpOp
  simp only [hi]
  rw [if_pos (by unfold Region.wanted; rw [hg])]
  exact .inl h
/-- A call: its value, and all that was there as it was. -/
theorem op_enter {oi : Oper} {a : Act} {w : World} {i : Nat} {K : Act → World → Prop} {f : FuncId} {args : Array Value} (d : Tmp) (v : Value) (hi : ops[i]? = some oi) (hd : oi.dst = some d) (hg : oi.guard = none)
    (hrun : (execOp a.eval oi).run P w = .ok (.enter f args) w) (hc : Calls P f args w fun e w' => e = .returned v ∧ Below w.heap.size w w')
    (h : ∀ w', Below w.heap.size w w' → K { a with tmps := a.tmps.setIfInBounds d v } w') : wpOp P ops Q i K a w := by
  refine op_any hi hg ?_
  unfold Oper.wp
  rw [hrun]
  show Calls P f args w _
  refine hc.mono ?_
  rintro e w' ⟨rfl, hb⟩
  have := h w' hb
  show K (a.put oi.dst v) w'
  unfold Act.put
  rw [hd]
  exact this
/-- An operation that yields a value and leaves this world. -/
theorem op_value {oi : Oper} {a : Act} {w w' : World} {i : Nat} {K : Act → World → Prop} (d : Tmp) (v : Value) (hi : ops[i]? = some oi) (hd : oi.dst = some d) (hg : oi.guard = none)
    (hrun : (execOp a.eval oi).run P w = .ok (.value v) w') (h : K { a with tmps := a.tmps.setIfInBounds d v } w') : wpOp P ops Q i K a w := by
  refine op_any hi hg ?_
  unfold Oper.wp
  rw [hrun]
  show K (a.put oi.dst v) w'
  unfold Act.put
  rw [hd]
  exact h
/-- A whole row is stored. -/
theorem op_store {oi : Oper} {a : Act} {w : World} {i : Nat} {K : Act → World → Prop} (ty : TypeId) (x y : Operand) (g : Nat) (cells : Array Value) (t : TypeId) (old : Array Value) (hi : ops[i]? = some oi) (hd : oi.dst = none) (hg : oi.guard = none)
    (ho : oi.op = .store ty x y) (hx : a.eval x = .pointer (some ⟨g, 0, none⟩)) (hy : a.eval y = .agg cells) (hh : w.heap[g]? = some (.cells old t (0, 0))) (hz : (P.info? ty).map (·.size) = some cells.size)
    (hold : old.size = cells.size) (h1 : cells.all (·.oneCell') = true) (h : K a (w.setRow g cells)) : wpOp P ops Q i K a w :=
  op_any hi hg (wp_store_row ty x y ho g cells hx hy t old hh hz hold h1 (by unfold Act.put; rw [hd]; exact h))
theorem op_assign {oi : Oper} {a : Act} {w : World} {i : Nat} {K : Act → World → Prop} (d : Tmp) (v : Value) (x : Operand) (hi : ops[i]? = some oi) (hd : oi.dst = some d) (hg : oi.guard = none)
    (ho : oi.op = .assign x) (hx : a.eval x = v) (h : K { a with tmps := a.tmps.setIfInBounds d v } w) : wpOp P ops Q i K a w :=
  op_value d v hi hd hg (by unfold execOp; simp only [ho, hx]; rfl) h
end
section
variable {P : Program} {o : Oper} {a : Act} {w : World}
theorem run_mv {x : Operand} {v : Value} (ho : o.op = .move x) (hx : a.eval x = v) : (execOp a.eval o).run P w = .ok (.value v) w := by
  unfold execOp; simp only [ho, hx]; rfl
theorem run_ex {t : Operand} {k : Nat} {vs : Array Value} {v : Value} (ho : o.op = .extract t k) (ht : a.eval t = .tuple vs) (hv : vs[k]? = some v) : (execOp a.eval o).run P w = .ok (.value v) w := by
  unfold execOp; simp only [ho, ht]; simp [go_sem, hv]
theorem run_row {ty : TypeId} {x : Operand} {g : Nat} {t : TypeId} {cs : Array Value} {d : TypeDesc} (ho : o.op = .load ty x) (hx : a.eval x = .pointer (some ⟨g, 0, none⟩)) (hg : w.heap[g]? = some (.cells cs t (0, 0)))
    (hu : P.underlying ty = some d) (hd : (match d with | .struct _ | .array _ _ => true | _ => false) = true) (hi : (P.info? ty).map (·.size) = some cs.size) : (execOp a.eval o).run P w = .ok (.value (.agg cs)) w := by
  unfold execOp
  simp only [ho, hx, Instr.loadAt, Instr.sureAddr, Sem.run_bind, Sem.run_pure, Result.andThen_ok, run_loadVar_row w g t ty cs (0, 0) d hg hu hd hi]
end
end Go.Proofs.YtfpphinnngblgaaDoor.Reg
