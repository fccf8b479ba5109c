/- Walks by program: parts of slices. -/
import Derived.Test.YtikmkgoeepgbkaaGreatDoorRng
set_option linter.all false
namespace Go.Proofs.YtikmkgoeepgbkaaGreatDoor.Mem
open Go.RowKit
def cutV (v : Value) (l h size : Nat) : Value := match v with
  | .slice a _ c => .slice (if c = l then a else a.map (·.add (l * size))) (h - l) (c - l)
  | v => v
theorem flat_drop {α : Type} {enc : α → List Value} {size : Nat} (hl : ∀ x, (enc x).length = size) : ∀ (n : Nat) (l : List α), (l.drop n).flatMap enc = (l.flatMap enc).drop (n * size)
  | 0, l => by simp
  | n + 1, [] => by simp
  | n + 1, x :: l => by
    rw [List.drop_succ_cons, flat_drop hl n l, List.flatMap_cons, List.drop_append, hl]
    have e : (n + 1) * size - size = n * size := by rw [Nat.add_mul, Nat.one_mul]; omega
    have h0 : (enc x).drop ((n + 1) * size) = [] := List.drop_eq_nil_of_le (by rw [hl, Nat.add_mul, Nat.one_mul]; omega)
    rw [e, h0, List.nil_append]
theorem flat_take {α : Type} {enc : α → List Value} {size : Nat} (hl : ∀ x, (enc x).length = size) : ∀ (n : Nat) (l : List α), (l.take n).flatMap enc = (l.flatMap enc).take (n * size)
  | 0, l => by simp
  | n + 1, [] => by simp
  | n + 1, x :: l => by
    rw [List.take_succ_cons, List.flatMap_cons, flat_take hl n l, List.flatMap_cons, List.take_append, hl]
    have e : (n + 1) * size - size = n * size := by rw [Nat.add_mul, Nat.one_mul]; omega
    have h0 : (enc x).take ((n + 1) * size) = enc x := List.take_of_length_le (by rw [hl, Nat.add_mul, Nat.one_mul]; omega)
    rw [e, h0]
section
variable {α : Type} {enc : α → List Value} {size : Nat} {l : List α} {v : Value} {W : World}
theorem Rs.cut (h : Rs enc size l v W) (hlen : ∀ x, (enc x).length = size) (a b : Nat) (hab : a ≤ b) (hb : b ≤ l.length) : Rs enc size ((l.take b).drop a) (cutV v a b size) W := by
  have hn : ((l.take b).drop a).length = b - a := by rw [List.length_drop, List.length_take]; omega
  unfold Rs
  rw [hn]
  refine ⟨by rw [flat_len hlen, hn], ?_⟩
  rcases h.2 with ⟨h0, ao, c, rfl⟩ | ⟨g, o, c, rfl, hc, hnc⟩
  · exact .inl ⟨by omega, _, _, by unfold cutV; dsimp only; rw [show b - a = 0 by omega]⟩
  · by_cases hz : b - a = 0
    · exact .inl ⟨hz, _, _, by unfold cutV; dsimp only; rw [hz]⟩
    · refine .inr ⟨g, o + a * size, c - a, ?_, fun j u hu => ?_, by omega⟩
      · unfold cutV
        dsimp only
        rw [if_neg (by omega)]
        simp only [Option.map_some, add_lit]
      · rw [flat_drop hlen, flat_take hlen, List.getElem?_drop] at hu
        have h1 : (l.flatMap enc)[a * size + j]? = some u := by
          rw [List.getElem?_take] at hu
          split at hu
          · exact hu
          · cases hu
        rw [Nat.add_assoc]
        exact hc _ u h1
theorem Rs.cut_h (h : Rs enc size l v W) (hlen : ∀ x, (enc x).length = size) (b : Nat) (hb : b ≤ l.length) : Rs enc size (l.take b) (cutV v 0 b size) W := by
  have := Rs.cut h hlen 0 b (Nat.zero_le _) hb
  rwa [List.drop_zero] at this
theorem Rs.cut_l (h : Rs enc size l v W) (hlen : ∀ x, (enc x).length = size) (a : Nat) (ha : a ≤ l.length) : Rs enc size (l.drop a) (cutV v a l.length size) W := by
  have := Rs.cut h hlen a l.length ha (Nat.le_refl _)
  rwa [List.take_length] at this
end
section
variable {P : Program} {o : Oper} {a : Act} {w : World} {x : Operand} {T e : TypeId} {v : Value} {n size : Nat} {xs : List Value}
variable {kl kh : IntKind} {y z : Operand}
theorem sz_run (hz : (P.info? e).map (·.size) = some size) : (sizeOf e).run P w = .ok size w := by
  cases h : P.info? e with
  | none => rw [h] at hz; cases hz
  | some inf =>
    rw [h] at hz
    simp only [Option.map_some, Option.some.injEq] at hz
    simp [sizeOf, typeInfo, h, hz]
theorem Rd.room (h : Rd w v n size xs) : ∃ ao c, v = .slice ao n c ∧ n ≤ c := by
  rcases h.2 with ⟨rfl, ao, c, rfl⟩ | ⟨g, o, c, rfl, _, hn⟩
  · exact ⟨_, _, rfl, Nat.zero_le _⟩
  · exact ⟨_, _, rfl, hn⟩
theorem r_cut_h (h : Rd w v n size xs) (b : Nat) (hb : b ≤ n) (hT : P.underlying T = some (.slice e)) (hz : (P.info? e).map (·.size) = some size) (ho : o.op = .slice T x none (some y) none) (hx : a.eval x = v) (hy : a.eval y = .int kh (b : Int)) :
    (execOp a.eval o).run P w = .ok (.value (cutV v 0 b size)) w := by
  obtain ⟨ao, c, rfl, hc⟩ := h.room
  have he : P.elem T = e := by unfold Program.elem; rw [hT]
  have h1 := run_slice_h (P := P) (t := T) (w := w) (a := ao) (len := n) (cap := c) (by rw [he]; exact hT) kh (b : Int) (by omega) (by omega)
  rw [he, sz_run hz] at h1
  unfold execOp
  simp only [ho, hx, hy, Option.map_some, Option.map_none, Sem.run_bind, run_sliceAt_slice w T _ _ _ _ (show P.underlying T = some (.slice (P.elem T)) by rw [he]; exact hT), h1]
  simp only [Result.andThen, Int.toNat_natCast, sliced, Nat.sub_zero]
  rfl
theorem r_cut_lh (h : Rd w v n size xs) (l b : Nat) (hl : l ≤ b) (hb : b ≤ n) (hT : P.underlying T = some (.slice e)) (hz : (P.info? e).map (·.size) = some size) (ho : o.op = .slice T x (some z) (some y) none) (hx : a.eval x = v) (hw : a.eval z = .int kl (l : Int)) (hy : a.eval y = .int kh (b : Int)) :
    (execOp a.eval o).run P w = .ok (.value (cutV v l b size)) w := by
  obtain ⟨ao, c, rfl, hc⟩ := h.room
  have he : P.elem T = e := by unfold Program.elem; rw [hT]
  have h1 := run_slice_lh (P := P) (t := T) (w := w) (a := ao) (len := n) (cap := c) (by rw [he]; exact hT) kl kh (l : Int) (b : Int) (by omega) (by omega) (by omega)
  rw [he, sz_run hz] at h1
  unfold execOp
  simp only [ho, hx, hy, hw, Option.map_some, Option.map_none, Sem.run_bind, run_sliceAt_slice w T _ _ _ _ (show P.underlying T = some (.slice (P.elem T)) by rw [he]; exact hT), h1]
  simp only [Result.andThen, Int.toNat_natCast, sliced]
  rfl
theorem r_cut_l (h : Rd w v n size xs) (l : Nat) (hl : l ≤ n) (hT : P.underlying T = some (.slice e)) (hz : (P.info? e).map (·.size) = some size) (ho : o.op = .slice T x (some z) none none) (hx : a.eval x = v) (hw : a.eval z = .int kl (l : Int)) :
    (execOp a.eval o).run P w = .ok (.value (cutV v l n size)) w := by
  obtain ⟨ao, c, rfl, hc⟩ := h.room
  have he : P.elem T = e := by unfold Program.elem; rw [hT]
  have h1 := run_slice_l (P := P) (t := T) (w := w) (a := ao) (len := n) (cap := c) (by rw [he]; exact hT) kl (l : Int) (by omega) (by omega)
  rw [he, sz_run hz] at h1
  unfold execOp
  simp only [ho, hx, hw, Option.map_some, Option.map_none, Sem.run_bind, run_sliceAt_slice w T _ _ _ _ (show P.underlying T = some (.slice (P.elem T)) by rw [he]; exact hT), h1]
  simp only [Result.andThen, Int.toNat_natCast, sliced]
  rfl
end
end Go.Proofs.YtikmkgoeepgbkaaGreatDoor.Mem
