/- Walks by program: a range over a text. -/
import Derived.Test.YtagjeabdcjcchaaGreatDoorKI
import Derived.Laws.RangeString
import Derived.Lib.ValidLaws
import Derived.Laws.Cover4
set_option linter.all false
namespace Go.Proofs.YtagjeabdcjcchaaGreatDoor.Mem
open Go.RowKit
/-- The rune at a place of a text, and how many bytes it has. -/
def dec (s : List UInt8) (i : Nat) : Nat × Nat := Utf8.decode (tx s) i
/-- What the next round finds, and where it leaves the place. -/
def nxv (s : List UInt8) (i : Nat) : Value := if i < s.length then .tuple #[.bool true, .int .i64 (i : Int), .int .i32 ((dec s i).1 : Int)] else .tuple #[.bool false]
def nxp (s : List UInt8) (i : Nat) : Nat := if i < s.length then i + (dec s i).2 else i
theorem nxp_lt {s : List UInt8} {i : Nat} (h : i < s.length) : nxp s i = i + (dec s i).2 := if_pos h
theorem dec_pos (s : List UInt8) (i : Nat) : 1 ≤ (dec s i).2 ∧ (dec s i).2 ≤ 4 := by
  unfold dec Utf8.decode
  dsimp only
  repeat' split
  all_goals exact ⟨by simp, by simp⟩
theorem dec_le (s : List UInt8) (i : Nat) (h : i < s.length) : i + (dec s i).2 ≤ s.length := by
  unfold dec Utf8.decode
  dsimp only
  rw [show (tx s).size = s.length from tx_size s]
  repeat' split
  all_goals first | (simp_all; omega) | (simp_all)
theorem dec_max (s : List UInt8) (i : Nat) : (dec s i).1 ≤ 1114111 := by
  unfold dec Utf8.decode Utf8.runeError
  dsimp only
  repeat' split
  all_goals simp_all [Utf8.valid]
  all_goals omega
theorem nxp_or (s : List UInt8) (i : Nat) : (i < s.length ∧ i < nxp s i ∧ nxp s i ≤ i + 4 ∧ nxp s i ≤ s.length) ∨ (s.length ≤ i ∧ nxp s i = i) := by
  by_cases h : i < s.length
  · have h1 := dec_pos s i
    have h2 := dec_le s i h
    rw [nxp_lt h]
    exact .inl ⟨h, by omega, by omega, h2⟩
  · exact .inr ⟨by omega, if_neg h⟩
section
variable {P : Program} {Q : Exit → Act → World → Prop} {K : Act → World → Prop} {oi : Oper} {a : Act} {r : Option Nat} {S : Nat → Prop} {w0 w : World} {l : List Ent}
theorem m_range {T : TypeId} {x : Operand} (s : List UInt8) (hm : Mm r S w0 w l) (d : Tmp) (hd : oi.dst = some d) (ho : oi.op = .range T x) (hu : P.underlying T = some .string) (hx : a.eval x = .string (tx s))
    (h : ∀ g w', Mm r S w0 w' (l ++ [.itr g (tx s) 0]) → K { a with tmps := a.tmps.setIfInBounds d (.pointer (some ⟨g, 0, none⟩)) } w') : oi.wp P a w K Q := by
  have h2 : Mm r S w0 (w.iter (tx s) 0) (l ++ [.itr w.heap.size (tx s) 0]) :=
    hm.more ((Below.refl _ _).alloc (Nat.le_refl _) _) (World.iter_heap w (tx s) 0) (fun g hg => by have hg : w.heap.size = g := hg; omega)
  have := h _ _ h2
  unfold Oper.wp execOp
  simp only [ho, hx, Sem.run_bind, run_range_string w T (tx s) hu]
  show K (a.put oi.dst _) _
  unfold Act.put
  rw [hd]
  exact this
theorem m_next {x : Operand} {g pos : Nat} (s : List UInt8) (i : Nat) (hm : Mm r S w0 w l) (hi : l[i]? = some (.itr g (tx s) pos)) (d : Tmp) (hd : oi.dst = some d) (ho : oi.op = .next x true) (hx : a.eval x = .pointer (some ⟨g, 0, none⟩))
    (h : ∀ w', Mm r S w0 w' (l.set i (.itr g (tx s) (nxp s pos))) → K { a with tmps := a.tmps.setIfInBounds d (nxv s pos) } w') : oi.wp P a w K Q := by
  have hg : w.heap[g]? = some (.stringIter (tx s) pos) := hm.ok i _ hi
  have hlt : g < w.heap.size := (Array.getElem?_eq_some_iff.1 hg).1
  by_cases hp : pos < s.length
  · have hrun : (Instr.next (.pointer (some ⟨g, 0, none⟩)) true oi.type).run P w = .ok (nxv s pos) { w with heap := w.heap.setIfInBounds g (.stringIter (tx s) (pos + (dec s pos).2)) } := by
      have hp' : pos < (tx s).size := by rw [tx_size]; exact hp
      simp only [Instr.next, getObj, setObj, Sem.run_bind, Sem.run, hg, Result.andThen, hp', if_true]
      unfold nxv dec goInt
      rw [if_pos hp]
      rfl
    have h2 : Mm r S w0 { w with heap := w.heap.setIfInBounds g (.stringIter (tx s) (pos + (dec s pos).2)) } (l.set i (.itr g (tx s) (nxp s pos))) := by
      refine hm.change i hi (o := some g) ⟨rfl, rfl, rfl, by simp, fun k _ hk => ?_⟩ (fun _ e => Option.some.inj e) ?_ (fun _ e => .inl e)
      · show (w.heap.setIfInBounds g _)[k]? = _
        rw [Array.getElem?_setIfInBounds_ne (fun e => hk (by rw [e]))]
      · show (w.heap.setIfInBounds g _)[g]? = _
        rw [Array.getElem?_setIfInBounds_self_of_lt hlt, nxp_lt hp]
    have := h _ h2
    unfold Oper.wp execOp
    simp only [ho, hx, Sem.run_bind, hrun]
    show K (a.put oi.dst _) _
    unfold Act.put
    rw [hd]
    exact this
  · have hrun : (Instr.next (.pointer (some ⟨g, 0, none⟩)) true oi.type).run P w = .ok (nxv s pos) w := by
      have hp' : ¬ pos < (tx s).size := by rw [tx_size]; exact hp
      simp only [Instr.next, getObj, Sem.run_bind, Sem.run, hg, Result.andThen, hp', if_false]
      unfold nxv
      rw [if_neg hp]
      rfl
    have h2 : Mm r S w0 w (l.set i (.itr g (tx s) (nxp s pos))) := by
      have e : nxp s pos = pos := if_neg hp
      rw [e]
      have hl := (List.getElem?_eq_some_iff.1 hi)
      obtain ⟨h1, h2⟩ := hl
      rw [← h2, List.set_getElem_self]
      exact hm
    have := h _ h2
    unfold Oper.wp execOp
    simp only [ho, hx, Sem.run_bind, hrun]
    show K (a.put oi.dst _) _
    unfold Act.put
    rw [hd]
    exact this
variable {o : Oper} {x : Operand}
theorem r_ext {v : Value} {vs : Array Value} (i : Nat) (ho : o.op = .extract x i) (hx : a.eval x = .tuple vs) (hv : vs[i]? = some v) : (execOp a.eval o).run P w = .ok (.value v) w := by
  unfold execOp
  simp only [ho, hx, Instr.extract, hv]
  rfl
theorem r_ext0 (s : List UInt8) (i : Nat) (ho : o.op = .extract x 0) (hx : a.eval x = nxv s i) : (execOp a.eval o).run P w = .ok (.value (.bool (decide (i < s.length)))) w := by
  by_cases h : i < s.length
  · exact r_ext 0 ho (hx.trans (if_pos h)) (by rw [decide_eq_true h]; rfl)
  · exact r_ext 0 ho (hx.trans (if_neg h)) (by rw [decide_eq_false h]; rfl)
theorem r_ext1 {s : List UInt8} {i : Nat} (h : i < s.length) (ho : o.op = .extract x 1) (hx : a.eval x = nxv s i) : (execOp a.eval o).run P w = .ok (.value (.int .i64 (i : Int))) w := r_ext 1 ho (hx.trans (if_pos h)) rfl
theorem r_ext2 {s : List UInt8} {i : Nat} (h : i < s.length) (ho : o.op = .extract x 2) (hx : a.eval x = nxv s i) : (execOp a.eval o).run P w = .ok (.value (.int .i32 ((dec s i).1 : Int))) w := r_ext 2 ho (hx.trans (if_pos h)) rfl
end
end Go.Proofs.YtagjeabdcjcchaaGreatDoor.Mem
namespace Go.Proofs.YtagjeabdcjcchaaGreatDoor.Mem
open Go.RowKit
def cutV (v : Value) (l h size : Nat) : Value := match v with
  | .slice a _ c => .slice (if c = l then a else a.map (·.add (l * size))) (h - l) (c - l)
  | v => v
theorem flat_drop {α : Type} {enc : α → List Value} {size : Nat} (hl : ∀ x, (enc x).length = size) : ∀ (n : Nat) (l : List α), (l.drop n).flatMap enc = (l.flatMap enc).drop (n * size)
  | 0, l => by simp
  | n + 1, [] => by simp
  | n + 1, x :: l => by
    rw [List.drop_succ_cons, flat_drop hl n l, List.flatMap_cons, List.drop_append, hl]
    have e : (n + 1) * size - size = n * size := by rw [Nat.add_mul, Nat.one_mul]; omega
    have h0 : (enc x).drop ((n + 1) * size) = [] := List.drop_eq_nil_of_le (by rw [hl, Nat.add_mul, Nat.one_mul]; omega)
    rw [e, h0, List.nil_append]
theorem flat_take {α : Type} {enc : α → List Value} {size : Nat} (hl : ∀ x, (enc x).length = size) : ∀ (n : Nat) (l : List α), (l.take n).flatMap enc = (l.flatMap enc).take (n * size)
  | 0, l => by simp
  | n + 1, [] => by simp
  | n + 1, x :: l => by
    rw [List.take_succ_cons, List.flatMap_cons, flat_take hl n l, List.flatMap_cons, List.take_append, hl]
    have e : (n + 1) * size - size = n * size := by rw [Nat.add_mul, Nat.one_mul]; omega
    have h0 : (enc x).take ((n + 1) * size) = enc x := List.take_of_length_le (by rw [hl, Nat.add_mul, Nat.one_mul]; omega)
    rw [e, h0]
section
variable {α : Type} {enc : α → List Value} {size : Nat} {l : List α} {v : Value} {W : World}
theorem Rs.cut (h : Rs enc size l v W) (hlen : ∀ x, (enc x).length = size) (a b : Nat) (hab : a ≤ b) (hb : b ≤ l.length) : Rs enc size ((l.take b).drop a) (cutV v a b size) W := by
  have hn : ((l.take b).drop a).length = b - a := by rw [List.length_drop, List.length_take]; omega
  unfold Rs
  rw [hn]
  refine ⟨by rw [flat_len hlen, hn], ?_⟩
  rcases h.2 with ⟨h0, ao, c, rfl⟩ | ⟨g, o, c, rfl, hc, hnc⟩
  · exact .inl ⟨by omega, _, _, by unfold cutV; dsimp only; rw [show b - a = 0 by omega]⟩
  · by_cases hz : b - a = 0
    · exact .inl ⟨hz, _, _, by unfold cutV; dsimp only; rw [hz]⟩
    · refine .inr ⟨g, o + a * size, c - a, ?_, fun j u hu => ?_, by omega⟩
      · unfold cutV
        dsimp only
        rw [if_neg (by omega)]
        simp only [Option.map_some, add_lit]
      · rw [flat_drop hlen, flat_take hlen, List.getElem?_drop] at hu
        have h1 : (l.flatMap enc)[a * size + j]? = some u := by
          rw [List.getElem?_take] at hu
          split at hu
          · exact hu
          · cases hu
        rw [Nat.add_assoc]
        exact hc _ u h1
theorem Rs.cut_h (h : Rs enc size l v W) (hlen : ∀ x, (enc x).length = size) (b : Nat) (hb : b ≤ l.length) : Rs enc size (l.take b) (cutV v 0 b size) W := by
  have := Rs.cut h hlen 0 b (Nat.zero_le _) hb
  rwa [List.drop_zero] at this
theorem Rs.cut_l (h : Rs enc size l v W) (hlen : ∀ x, (enc x).length = size) (a : Nat) (ha : a ≤ l.length) : Rs enc size (l.drop a) (cutV v a l.length size) W := by
  have := Rs.cut h hlen a l.length ha (Nat.le_refl _)
  rwa [List.take_length] at this
end
section
variable {P : Program} {o : Oper} {a : Act} {w : World} {x : Operand} {T e : TypeId} {v : Value} {n size : Nat} {xs : List Value}
variable {kl kh : IntKind} {y z : Operand}
theorem sz_run (hz : (P.info? e).map (·.size) = some size) : (sizeOf e).run P w = .ok size w := by
  cases h : P.info? e with
  | none => rw [h] at hz; cases hz
  | some inf =>
    rw [h] at hz
    simp only [Option.map_some, Option.some.injEq] at hz
    simp [sizeOf, typeInfo, h, hz]
theorem Rd.room (h : Rd w v n size xs) : ∃ ao c, v = .slice ao n c ∧ n ≤ c := by
  rcases h.2 with ⟨rfl, ao, c, rfl⟩ | ⟨g, o, c, rfl, _, hn⟩
  · exact ⟨_, _, rfl, Nat.zero_le _⟩
  · exact ⟨_, _, rfl, hn⟩
theorem r_cut_h (h : Rd w v n size xs) (b : Nat) (hb : b ≤ n) (hT : P.underlying T = some (.slice e)) (hz : (P.info? e).map (·.size) = some size) (ho : o.op = .slice T x none (some y) none) (hx : a.eval x = v) (hy : a.eval y = .int kh (b : Int)) :
    (execOp a.eval o).run P w = .ok (.value (cutV v 0 b size)) w := by
  obtain ⟨ao, c, rfl, hc⟩ := h.room
  have he : P.elem T = e := by unfold Program.elem; rw [hT]
  have h1 := run_slice_h (P := P) (t := T) (w := w) (a := ao) (len := n) (cap := c) (by rw [he]; exact hT) kh (b : Int) (by omega) (by omega)
  rw [he, sz_run hz] at h1
  unfold execOp
  simp only [ho, hx, hy, Option.map_some, Option.map_none, Sem.run_bind, run_sliceAt_slice w T _ _ _ _ (show P.underlying T = some (.slice (P.elem T)) by rw [he]; exact hT), h1]
  simp only [Result.andThen, Int.toNat_natCast, sliced, Nat.sub_zero]
  rfl
theorem r_cut_lh (h : Rd w v n size xs) (l b : Nat) (hl : l ≤ b) (hb : b ≤ n) (hT : P.underlying T = some (.slice e)) (hz : (P.info? e).map (·.size) = some size) (ho : o.op = .slice T x (some z) (some y) none) (hx : a.eval x = v) (hw : a.eval z = .int kl (l : Int)) (hy : a.eval y = .int kh (b : Int)) :
    (execOp a.eval o).run P w = .ok (.value (cutV v l b size)) w := by
  obtain ⟨ao, c, rfl, hc⟩ := h.room
  have he : P.elem T = e := by unfold Program.elem; rw [hT]
  have h1 := run_slice_lh (P := P) (t := T) (w := w) (a := ao) (len := n) (cap := c) (by rw [he]; exact hT) kl kh (l : Int) (b : Int) (by omega) (by omega) (by omega)
  rw [he, sz_run hz] at h1
  unfold execOp
  simp only [ho, hx, hy, hw, Option.map_some, Option.map_none, Sem.run_bind, run_sliceAt_slice w T _ _ _ _ (show P.underlying T = some (.slice (P.elem T)) by rw [he]; exact hT), h1]
  simp only [Result.andThen, Int.toNat_natCast, sliced]
  rfl
theorem r_cut_l (h : Rd w v n size xs) (l : Nat) (hl : l ≤ n) (hT : P.underlying T = some (.slice e)) (hz : (P.info? e).map (·.size) = some size) (ho : o.op = .slice T x (some z) none none) (hx : a.eval x = v) (hw : a.eval z = .int kl (l : Int)) :
    (execOp a.eval o).run P w = .ok (.value (cutV v l n size)) w := by
  obtain ⟨ao, c, rfl, hc⟩ := h.room
  have he : P.elem T = e := by unfold Program.elem; rw [hT]
  have h1 := run_slice_l (P := P) (t := T) (w := w) (a := ao) (len := n) (cap := c) (by rw [he]; exact hT) kl (l : Int) (by omega) (by omega)
  rw [he, sz_run hz] at h1
  unfold execOp
  simp only [ho, hx, hw, Option.map_some, Option.map_none, Sem.run_bind, run_sliceAt_slice w T _ _ _ _ (show P.underlying T = some (.slice (P.elem T)) by rw [he]; exact hT), h1]
  simp only [Result.andThen, Int.toNat_natCast, sliced]
  rfl
end
end Go.Proofs.YtagjeabdcjcchaaGreatDoor.Mem
namespace Go.Proofs.YtagjeabdcjcchaaGreatDoor.Mem
/-- The byte at a place, or 0. -/
def at0 (s : List UInt8) (i : Nat) : Nat := (s.getD i 0).toNat
theorem at0_lt (s : List UInt8) (i : Nat) : at0 s i < 256 := (s.getD i 0).toNat_lt
theorem tx_get! (s : List UInt8) (i : Nat) : ((tx s).get! i).toNat = at0 s i := by
  unfold at0
  congr 1
  show (tx s).data[i]! = _
  unfold tx
  rw [List.getD_eq_getElem?_getD]
  by_cases h : i < s.length
  · rw [getElem!_pos _ _ (by simpa using h), List.getElem?_eq_getElem h]
    simp
  · rw [getElem!_neg _ _ (by simpa using h), List.getElem?_eq_none (by omega)]
    rfl
def validR (c : Nat) : Prop := c < 55296 ∨ (57344 ≤ c ∧ c ≤ 1114111)
theorem valid_iff (c : Nat) : Utf8.valid (c : Int) = true ↔ validR c := by
  unfold Utf8.valid validR
  simp only [Bool.or_eq_true, Bool.and_eq_true, decide_eq_true_eq]
  omega
/-- All that the decoder may find. -/
theorem dec_cases (s : List UInt8) (i : Nat) :
    (at0 s i < 128 ∧ dec s i = (at0 s i, 1)) ∨
    (128 ≤ at0 s i ∧ dec s i = (65533, 1)) ∨
    (i + 2 ≤ s.length ∧ at0 s i / 32 = 6 ∧ at0 s (i + 1) / 64 = 2 ∧ dec s i = (at0 s i % 32 * 64 + at0 s (i + 1) % 64, 2) ∧ 128 ≤ at0 s i % 32 * 64 + at0 s (i + 1) % 64) ∨
    (i + 3 ≤ s.length ∧ at0 s i / 16 = 14 ∧ at0 s (i + 1) / 64 = 2 ∧ at0 s (i + 2) / 64 = 2 ∧ dec s i = (at0 s i % 16 * 4096 + at0 s (i + 1) % 64 * 64 + at0 s (i + 2) % 64, 3) ∧ 2048 ≤ at0 s i % 16 * 4096 + at0 s (i + 1) % 64 * 64 + at0 s (i + 2) % 64 ∧ validR (at0 s i % 16 * 4096 + at0 s (i + 1) % 64 * 64 + at0 s (i + 2) % 64)) ∨
    (i + 4 ≤ s.length ∧ at0 s i / 8 = 30 ∧ at0 s (i + 1) / 64 = 2 ∧ at0 s (i + 2) / 64 = 2 ∧ at0 s (i + 3) / 64 = 2 ∧ dec s i = (at0 s i % 8 * 262144 + at0 s (i + 1) % 64 * 4096 + at0 s (i + 2) % 64 * 64 + at0 s (i + 3) % 64, 4) ∧ 65536 ≤ at0 s i % 8 * 262144 + at0 s (i + 1) % 64 * 4096 + at0 s (i + 2) % 64 * 64 + at0 s (i + 3) % 64 ∧ validR (at0 s i % 8 * 262144 + at0 s (i + 1) % 64 * 4096 + at0 s (i + 2) % 64 * 64 + at0 s (i + 3) % 64)) := by
  unfold dec Utf8.decode Utf8.runeError
  simp only [tx_get!, tx_size, Nat.add_zero, beq_iff_eq, Bool.and_eq_true, decide_eq_true_eq, ge_iff_le]
  by_cases h0 : at0 s i < 128
  · rw [if_pos h0]; exact .inl ⟨h0, rfl⟩
  rw [if_neg h0]
  right
  have h0' : 128 ≤ at0 s i := by omega
  split
  · rename_i h1
    split
    · rename_i h2
      right; left
      exact ⟨by omega, h1.1, h1.2.2, rfl, h2⟩
    · exact .inl ⟨h0', rfl⟩
  split
  · rename_i h1
    split
    · rename_i h2
      right; right; left
      exact ⟨by omega, h1.1.1, h1.1.2.2, h1.2.2, rfl, h2.1, (valid_iff _).1 h2.2⟩
    · exact .inl ⟨h0', rfl⟩
  split
  · rename_i h1
    split
    · rename_i h2
      right; right; right
      exact ⟨by omega, h1.1.1.1, h1.1.1.2.2, h1.1.2.2, h1.2.2, rfl, h2.1, (valid_iff _).1 h2.2⟩
    · exact .inl ⟨h0', rfl⟩
  · exact .inl ⟨h0', rfl⟩
theorem at0_drop (s : List UInt8) (i k : Nat) : at0 (s.drop i) k = at0 s (i + k) := by
  unfold at0
  rw [List.getD_eq_getElem?_getD, List.getD_eq_getElem?_getD, List.getElem?_drop]
theorem dec_drop (s : List UInt8) (i : Nat) : dec (s.drop i) 0 = dec s i := by
  unfold dec Utf8.decode
  simp only [tx_get!, tx_size, at0_drop, List.length_drop, Nat.add_zero, Nat.zero_add]
  have e : ∀ k, 0 < k → decide (k < s.length - i) = decide (i + k < s.length) := fun k _ => decide_eq_decide.2 (by omega)
  rw [e 1 (by decide), e 2 (by decide), e 3 (by decide)]
theorem decodeL_drop (s : List UInt8) (i : Nat) : Lib.decodeL (s.drop i) = dec s i := by
  rw [← dec_drop]
  rfl
theorem valid_at (s : List UInt8) (i : Nat) (h : i < s.length) : Lib.validD (s.drop i) = if dec s i = (65533, 1) then false else Lib.validD (s.drop (nxp s i)) := by
  rw [Lib.validD_step _ (by intro e; have := congrArg List.length e; rw [List.length_drop] at this; simp at this; omega), decodeL_drop, List.drop_drop, nxp_lt h]
  have e : ((dec s i).1 = 65533 ∧ (dec s i).2 = 1) = (dec s i = (65533, 1)) := by
    apply propext
    constructor
    · intro h; exact Prod.ext h.1 h.2
    · intro h; rw [h]; exact ⟨rfl, rfl⟩
  simp only [e]
/-- A rune's bytes. -/
def rune1 (r : Int) : List UInt8 := bl (Utf8.encode r)
section
variable {P : Program} {o : Oper} {a : Act} {w : World} {x : Operand} {T e T' t : TypeId}
theorem r_rune1 {g c : Nat} (r : Int) (hb : Blk w g #[.int .i32 r] t) (hs : P.underlying T = some (.slice e)) (he : P.underlying e = some (.int .i32)) (hd : P.underlying T' = some .string) (ho : o.op = .convert T T' x) (hx : a.eval x = .slice (some ⟨g, 0, none⟩) 1 c) :
    (execOp a.eval o).run P w = .ok (.value (.string (tx (rune1 r)))) w := by
  have h1 := run_convert_runes (P := P) w T T' e ⟨g, 0, none⟩ 1 c [r] (by simp) hs he hd (fun j hj => by
    have hj' : j < 1 := by simpa using hj
    obtain rfl : j = 0 := by omega
    rw [add_lit, hb.cell]
    rfl)
  have e2 : runesBytes ([r].take 1) = tx (rune1 r) := by
    unfold rune1
    rw [tx_bl]
    simp [runesBytes]
  rw [e2] at h1
  unfold execOp
  simp only [ho, hx, Sem.run_bind, h1]
  rfl
end
theorem rune1_len (r : Int) : (rune1 r).length = if Utf8.valid r = true then (if r.toNat < 128 then 1 else if r.toNat < 2048 then 2 else if r.toNat < 65536 then 3 else 4) else 3 := by
  unfold rune1 bl Utf8.encode
  by_cases hv : Utf8.valid r = true
  · rw [if_pos hv]
    simp only [hv, if_true]
    repeat' split
    all_goals rfl
  · rw [if_neg hv]
    simp only [Utf8.runeError, if_neg hv]
    rfl
end Go.Proofs.YtagjeabdcjcchaaGreatDoor.Mem
