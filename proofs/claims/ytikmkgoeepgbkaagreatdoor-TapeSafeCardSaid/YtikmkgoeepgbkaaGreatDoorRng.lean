/- Walks by program: a range over a text. -/
import Derived.Test.YtikmkgoeepgbkaaGreatDoorKI
import Derived.Laws.RangeString
set_option linter.all false
namespace Go.Proofs.YtikmkgoeepgbkaaGreatDoor.Mem
open Go.RowKit
/-- The rune at a place of a text, and how many bytes it has. -/
def dec (s : List UInt8) (i : Nat) : Nat × Nat := Utf8.decode (tx s) i
/-- What the next round finds, and where it leaves the place. -/
def nxv (s : List UInt8) (i : Nat) : Value := if i < s.length then .tuple #[.bool true, .int .i64 (i : Int), .int .i32 ((dec s i).1 : Int)] else .tuple #[.bool false]
def nxp (s : List UInt8) (i : Nat) : Nat := if i < s.length then i + (dec s i).2 else i
theorem nxp_lt {s : List UInt8} {i : Nat} (h : i < s.length) : nxp s i = i + (dec s i).2 := if_pos h
theorem dec_pos (s : List UInt8) (i : Nat) : 1 ≤ (dec s i).2 ∧ (dec s i).2 ≤ 4 := by
  unfold dec Utf8.decode
  dsimp only
  repeat' split
  all_goals exact ⟨by simp, by simp⟩
theorem dec_le (s : List UInt8) (i : Nat) (h : i < s.length) : i + (dec s i).2 ≤ s.length := by
  unfold dec Utf8.decode
  dsimp only
  rw [show (tx s).size = s.length from tx_size s]
  repeat' split
  all_goals first | (simp_all; omega) | (simp_all)
theorem dec_max (s : List UInt8) (i : Nat) : (dec s i).1 ≤ 1114111 := by
  unfold dec Utf8.decode Utf8.runeError
  dsimp only
  repeat' split
  all_goals simp_all [Utf8.valid]
  all_goals omega
theorem nxp_or (s : List UInt8) (i : Nat) : (i < s.length ∧ i < nxp s i ∧ nxp s i ≤ i + 4 ∧ nxp s i ≤ s.length) ∨ (s.length ≤ i ∧ nxp s i = i) := by
  by_cases h : i < s.length
  · have h1 := dec_pos s i
    have h2 := dec_le s i h
    rw [nxp_lt h]
    exact .inl ⟨h, by omega, by omega, h2⟩
  · exact .inr ⟨by omega, if_neg h⟩
section
variable {P : Program} {Q : Exit → Act → World → Prop} {K : Act → World → Prop} {oi : Oper} {a : Act} {r : Option Nat} {S : Nat → Prop} {w0 w : World} {l : List Ent}
theorem m_range {T : TypeId} {x : Operand} (s : List UInt8) (hm : Mm r S w0 w l) (d : Tmp) (hd : oi.dst = some d) (ho : oi.op = .range T x) (hu : P.underlying T = some .string) (hx : a.eval x = .string (tx s))
    (h : ∀ g w', Mm r S w0 w' (l ++ [.itr g (tx s) 0]) → K { a with tmps := a.tmps.setIfInBounds d (.pointer (some ⟨g, 0, none⟩)) } w') : oi.wp P a w K Q := by
  have h2 : Mm r S w0 (w.iter (tx s) 0) (l ++ [.itr w.heap.size (tx s) 0]) :=
    hm.more ((Below.refl _ _).alloc (Nat.le_refl _) _) (World.iter_heap w (tx s) 0) (fun g hg => by have hg : w.heap.size = g := hg; omega)
  have := h _ _ h2
  unfold Oper.wp execOp
  simp only [ho, hx, Sem.run_bind, run_range_string w T (tx s) hu]
  show K (a.put oi.dst _) _
  unfold Act.put
  rw [hd]
  exact this
theorem m_next {x : Operand} {g pos : Nat} (s : List UInt8) (i : Nat) (hm : Mm r S w0 w l) (hi : l[i]? = some (.itr g (tx s) pos)) (d : Tmp) (hd : oi.dst = some d) (ho : oi.op = .next x true) (hx : a.eval x = .pointer (some ⟨g, 0, none⟩))
    (h : ∀ w', Mm r S w0 w' (l.set i (.itr g (tx s) (nxp s pos))) → K { a with tmps := a.tmps.setIfInBounds d (nxv s pos) } w') : oi.wp P a w K Q := by
  have hg : w.heap[g]? = some (.stringIter (tx s) pos) := hm.ok i _ hi
  have hlt : g < w.heap.size := (Array.getElem?_eq_some_iff.1 hg).1
  by_cases hp : pos < s.length
  · have hrun : (Instr.next (.pointer (some ⟨g, 0, none⟩)) true oi.type).run P w = .ok (nxv s pos) { w with heap := w.heap.setIfInBounds g (.stringIter (tx s) (pos + (dec s pos).2)) } := by
      have hp' : pos < (tx s).size := by rw [tx_size]; exact hp
      simp only [Instr.next, getObj, setObj, Sem.run_bind, Sem.run, hg, Result.andThen, hp', if_true]
      unfold nxv dec goInt
      rw [if_pos hp]
      rfl
    have h2 : Mm r S w0 { w with heap := w.heap.setIfInBounds g (.stringIter (tx s) (pos + (dec s pos).2)) } (l.set i (.itr g (tx s) (nxp s pos))) := by
      refine hm.change i hi (o := some g) ⟨rfl, rfl, rfl, by simp, fun k _ hk => ?_⟩ (fun _ e => Option.some.inj e) ?_ (fun _ e => .inl e)
      · show (w.heap.setIfInBounds g _)[k]? = _
        rw [Array.getElem?_setIfInBounds_ne (fun e => hk (by rw [e]))]
      · show (w.heap.setIfInBounds g _)[g]? = _
        rw [Array.getElem?_setIfInBounds_self_of_lt hlt, nxp_lt hp]
    have := h _ h2
    unfold Oper.wp execOp
    simp only [ho, hx, Sem.run_bind, hrun]
    show K (a.put oi.dst _) _
    unfold Act.put
    rw [hd]
    exact this
  · have hrun : (Instr.next (.pointer (some ⟨g, 0, none⟩)) true oi.type).run P w = .ok (nxv s pos) w := by
      have hp' : ¬ pos < (tx s).size := by rw [tx_size]; exact hp
      simp only [Instr.next, getObj, Sem.run_bind, Sem.run, hg, Result.andThen, hp', if_false]
      unfold nxv
      rw [if_neg hp]
      rfl
    have h2 : Mm r S w0 w (l.set i (.itr g (tx s) (nxp s pos))) := by
      have e : nxp s pos = pos := if_neg hp
      rw [e]
      have hl := (List.getElem?_eq_some_iff.1 hi)
      obtain ⟨h1, h2⟩ := hl
      rw [← h2, List.set_getElem_self]
      exact hm
    have := h _ h2
    unfold Oper.wp execOp
    simp only [ho, hx, Sem.run_bind, hrun]
    show K (a.put oi.dst _) _
    unfold Act.put
    rw [hd]
    exact this
variable {o : Oper} {x : Operand}
theorem r_ext {v : Value} {vs : Array Value} (i : Nat) (ho : o.op = .extract x i) (hx : a.eval x = .tuple vs) (hv : vs[i]? = some v) : (execOp a.eval o).run P w = .ok (.value v) w := by
  unfold execOp
  simp only [ho, hx, Instr.extract, hv]
  rfl
theorem r_ext0 (s : List UInt8) (i : Nat) (ho : o.op = .extract x 0) (hx : a.eval x = nxv s i) : (execOp a.eval o).run P w = .ok (.value (.bool (decide (i < s.length)))) w := by
  by_cases h : i < s.length
  · exact r_ext 0 ho (hx.trans (if_pos h)) (by rw [decide_eq_true h]; rfl)
  · exact r_ext 0 ho (hx.trans (if_neg h)) (by rw [decide_eq_false h]; rfl)
theorem r_ext1 {s : List UInt8} {i : Nat} (h : i < s.length) (ho : o.op = .extract x 1) (hx : a.eval x = nxv s i) : (execOp a.eval o).run P w = .ok (.value (.int .i64 (i : Int))) w := r_ext 1 ho (hx.trans (if_pos h)) rfl
theorem r_ext2 {s : List UInt8} {i : Nat} (h : i < s.length) (ho : o.op = .extract x 2) (hx : a.eval x = nxv s i) : (execOp a.eval o).run P w = .ok (.value (.int .i32 ((dec s i).1 : Int))) w := r_ext 2 ho (hx.trans (if_pos h)) rfl
end
end Go.Proofs.YtikmkgoeepgbkaaGreatDoor.Mem
