/- Layer 20: what the library's functions give: texts in order, and each once. -/
import Derived.Test.YtpbenhfnebgbiaaDoorPaL
import Derived.Test.YtpbenhfnebgbiaaDoorAl
import Derived.Sort.OwnSorted
set_option linter.unusedVariables false
namespace Go.Proofs.YtpbenhfnebgbiaaDoor.So
open Go.RowKit
open Go.Proofs.YtpbenhfnebgbiaaDoor.Mem Go.Proofs.YtpbenhfnebgbiaaDoor.Pa
open Go.Sort
section
variable {P : Program} {Q : Exit → Act → World → Prop} {K : Act → World → Prop} {oi : Oper} {a : Act} {r : Option Nat} {S : Nat → Prop} {w0 w : World} {l : List Ent}
/-- A call that changes one row, and hands back something else. -/
theorem m_callq {f : FuncId} {args : Array Value} (i : Nat) {v : Value} {n m : Nat} {xs ys : List Value} {e : TypeId} {size : Nat} (hm : Mm r S w0 w l) (hi : l[i]? = some (.row v n xs e size)) (d : Tmp) (hd : oi.dst = some d) (hrun : (execOp a.eval oi).run P w = .ok (.enter f args) w) (u : Value)
    (hc : Calls P f args w fun e' w' => e' = .returned u ∧ w'.ownsRow 0 e size v m ys ∧ w.grownBy w' v.ownBlock)
    (h : ∀ w', Mm r S w0 w' (l.set i (.row v m ys e size)) → K { a with tmps := a.tmps.setIfInBounds d u } w') : oi.wp P a w K Q := by
  unfold Oper.wp
  rw [hrun]
  show Calls P f args w _
  refine hc.mono ?_
  rintro e w' ⟨rfl, hv, hb⟩
  have := h w' (hm.change i hi hb (fun _ e => e) hv (fun g hg => .inl hg))
  show K (a.put oi.dst u) w'
  unfold Act.put
  rw [hd]
  exact this
end
theorem eS_enc (l : List (List UInt8)) : l.flatMap eS = l.map encStr := by
  rw [flat_eS]
  rfl
/-- In order. -/
def srt (l : List (List UInt8)) : List (List UInt8) := l.mergeSort fun x y => decide (x ≤ y)
/-- Neighbours that are the same stand once. -/
def cpt (l : List (List UInt8)) : List (List UInt8) := Lib.compact l
theorem srt_len (l : List (List UInt8)) : (srt l).length = l.length := by simp [srt]
theorem cpt_len (l : List (List UInt8)) : (cpt l).length ≤ l.length := by
  unfold cpt Lib.compact Lib.compactUpTo
  rw [List.length_map]
  exact Nat.le_trans (List.length_filter_le _ _) (by simp)
theorem sort_own {l : List (List UInt8)} {v : Value} {e : TypeId} {w : World} (hr : w.ownsRow 0 e 1 v l.length (l.flatMap eS)) (hp : l.length < 4611686018427387904) :
    Calls Tryd.prog 23 #[v] w fun e' w' => e' = .returned (.tuple #[]) ∧ w'.ownsRow 0 e 1 v (srt l).length ((srt l).flatMap eS) ∧ w.grownBy w' v.ownBlock := by
  rcases hr.2 with ⟨rfl, h0⟩ | ⟨g, cap, cur, rfl, hbase, hb, h1, h2, h3, h4⟩
  · refine (Tryd.slices_Sort_string_none none 0 w).mono ?_
    rintro e' w' ⟨rfl, rfl⟩
    have : l = [] := List.eq_nil_of_length_eq_zero h0
    subst this
    rw [show srt [] = [] from by simp [srt]]
    exact ⟨rfl, hr, grown_refl _ _⟩
  · rw [eS_enc, Nat.mul_one] at h4
    refine (Tryd.slices_Sort_string g 0 cap l w (holds_of_block hb h4) (Array.getElem?_eq_some_iff.1 hb).1 hp).mono ?_
    rintro e' w' ⟨rfl, n, os, rfl⟩
    refine ⟨rfl, ?_, grownBy_sorted _⟩
    have := ownsRow_sorted (n := n) (os := os) (ts := srt l) (srt_len l) hbase hb h1 h2 h3
    rw [eS_enc, srt_len]
    exact this
theorem compact_own {l : List (List UInt8)} {v : Value} {e : TypeId} {w : World} (hr : w.ownsRow 0 e 1 v l.length (l.flatMap eS)) (hp : l.length < 4611686018427387904) :
    Calls Tryd.prog 24 #[v] w fun e' w' => (∃ v', e' = .returned v' ∧ w'.ownsRow 0 e 1 v' (cpt l).length ((cpt l).flatMap eS) ∧ (∀ g, v'.ownBlock = some g → v.ownBlock = some g ∨ w.heap.size ≤ g)) ∧ w.grownBy w' v.ownBlock := by
  rcases hr.2 with ⟨rfl, h0⟩ | ⟨g, cap, cur, rfl, hbase, hb, h1, h2, h3, h4⟩
  · refine (Tryd.slices_Compact_string_empty none 0 w).mono ?_
    rintro e' w' ⟨rfl, rfl⟩
    have : l = [] := List.eq_nil_of_length_eq_zero h0
    subst this
    exact ⟨⟨_, rfl, hr, fun g hg => .inl hg⟩, grown_refl _ _⟩
  · rw [eS_enc, Nat.mul_one] at h4
    refine (Tryd.slices_Compact_string g 0 cap l w (holds_of_block hb h4) (by omega) h1).mono ?_
    rintro e' w' ⟨rfl, q, rfl⟩
    have hl := cpt_len l
    have hall : (cpt l ++ List.replicate (l.length - (cpt l).length) []).length = l.length := by rw [List.length_append, List.length_replicate]; omega
    have hg := heap_sorted (n := q) (os := #[]) (cpt l ++ List.replicate (l.length - (cpt l).length) []).toArray hb
    have hgr := grownBy_sorted (w := w) (g := g) (n := q) (os := #[]) (cpt l ++ List.replicate (l.length - (cpt l).length) []).toArray
    have ht := take_putCells cur (cpt l ++ List.replicate (l.length - (cpt l).length) []) (by omega)
    rw [grow_empty] at hg hgr
    refine ⟨⟨_, rfl, ⟨?_, .inr ⟨g, cap, _, rfl, hbase, hg, Nat.le_trans hl h1, h2, by simp [putCells, h3], ?_⟩⟩, fun g hg => .inl hg⟩, hgr⟩
    · rw [eS_enc, List.length_map, Nat.mul_one]
    · have h6 : ((cpt l).map encStr).take (cpt l).length = (cpt l).map encStr := List.take_of_length_le (by rw [List.length_map]; exact Nat.le_refl _)
      have h5 := congrArg (List.take (cpt l).length) ht
      rw [hall, List.take_take, Nat.min_eq_left hl, List.map_append, List.take_append_of_le_length (by rw [List.length_map]; exact Nat.le_refl _), h6] at h5
      rw [eS_enc, Nat.mul_one]
      exact h5
end Go.Proofs.YtpbenhfnebgbiaaDoor.So
