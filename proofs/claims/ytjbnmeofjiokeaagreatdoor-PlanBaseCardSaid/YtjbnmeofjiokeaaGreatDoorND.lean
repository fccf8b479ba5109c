/- Manifests read: the head's lines, modes, rules. -/
import Derived.Test.YtjbnmeofjiokeaaGreatDoorNC
set_option linter.all false
namespace Go.Proofs.YtjbnmeofjiokeaaGreatDoor.Ev
open Go.RowKit
open Go.Proofs.YtjbnmeofjiokeaaGreatDoor.Mem
set_option linter.unusedVariables false
set_option linter.unusedSimpArgs false
set_option maxRecDepth 100000
theorem sp_cnt (c : UInt8) : ∀ s : List UInt8, (sp c s).length ≤ s.length + 1
  | [] => by simp [sp]
  | x :: r => by
    have h := sp_cnt c r
    have hn := sp_ne c r
    unfold sp
    split
    · simp only [List.length_cons]; omega
    · simp only [List.length_cons, List.length_tail]
      have : (sp c r).length ≠ 0 := fun e => hn (List.length_eq_zero_iff.1 e)
      omega
inductive Sd
  | no
  | nd (r : Rul)
  | cl (r : Rul)
  | th (x : Ent)
theorem evw : (∀ bk, vw bk .inil = .inil) ∧ (∀ bk t v, vw bk (.it t v) = .it t (vw bk v)) := ⟨fun _ => rfl, fun _ _ _ => rfl⟩
theorem gr {p q : Prop} (hq : q) (h : p ↔ q := by simp (config := { maxSteps := 10000000 }) (disch := omega) only [evw, eSdD, fxM, cSd, wrc, eRd, eEd, eMd, eBd, eEE, rDs, eok, true_implies, eo5, ev5, Nat.mul_one, Nat.zero_mul, Nat.one_mul, Nat.add_zero, lenl, bne_self_eq_false, Int.reduceLT, Int.reduceLE, Int.reduceEq, Int.reduceNe, Int.reduceAdd, Int.reduceSub, Int.reduceMul, Int.reduceNeg, ebr, wr64, sdl, ler, true_or, or_true, rng, List.length_map, List.length_range, List.length_append, List.length_replicate, List.length_set, List.length_take, List.length_drop, List.not_mem_nil, false_implies, implies_true, ↓ec, ↓eg, ↓eo, ↓eox, ↓es, ↓et1, em, emR, efz, enl, ebx, ebt, et, ev, List.drop_nil, Option.some.injEq, Option.isSome_none, Int.reduceToNat, List.replicate_zero, Bool.or_self, ez, ef, ebd, et2, Int.toNat_natCast, Option.map_none, Option.map_some, List.all_cons, List.all_nil, Bool.and_self, List.cons_append, List.nil_append, List.append_nil, List.append_assoc, ep, ew, Option.isSome_some, id_eq, Nat.reduceLT, Nat.reduceSub, Bool.false_or, Bool.true_or, Bool.or_true, Bool.true_and, Bool.and_true, reduceCtorEq, Nat.reduceBEq, Bool.true_eq_false, Bool.false_eq_true, List.map_cons, List.map_nil, List.take_succ_cons, List.take_zero, List.drop_succ_cons, List.drop_zero, List.length_cons, List.length_nil, Nat.zero_add, Nat.reduceAdd, Nat.reduceLeDiff, Bool.not_true, Bool.not_false, List.getElem?_cons_succ, List.getElem?_cons_zero, Option.bind_some, ne_eq, not_false_eq_true, ↓eh1, eh, en, List.getD_cons_zero, List.getD_cons_succ, Nat.reduceEqDiff, ↓reduceIte, cond_true, cond_false, Bool.or_false, decide_true, decide_false, true_and, and_true, decide_eq_true_eq, decide_eq_false_iff_not, Bool.not_eq_true', Bool.not_eq_false', not_true_eq_false, Decidable.not_not]; exact Iff.rfl) : p := h.2 hq
-- driver gr
end Go.Proofs.YtjbnmeofjiokeaaGreatDoor.Ev
namespace Go.Proofs.YtjbnmeofjiokeaaGreatDoor.Ev
open Go.RowKit
open Go.Proofs.YtjbnmeofjiokeaaGreatDoor.Mem
set_option linter.unusedVariables false
set_option linter.unusedSimpArgs false
set_option maxRecDepth 100000
theorem sp_pos (c : UInt8) (s : List UInt8) : 0 < (sp c s).length := Nat.pos_of_ne_zero fun e => sp_ne c s (List.length_eq_zero_iff.1 e)
end Go.Proofs.YtjbnmeofjiokeaaGreatDoor.Ev
namespace Go.Proofs.YtjbnmeofjiokeaaGreatDoor.Ev
open Go.RowKit
open Go.Proofs.YtjbnmeofjiokeaaGreatDoor.Mem
set_option linter.unusedVariables false
set_option linter.unusedSimpArgs false
set_option maxRecDepth 100000
def dM : Man := ⟨[], [], [], [], []⟩
theorem dM_le : le (.ag [.s [], .s [], .nl, .nl, .nl]) (eMan dM) := ⟨le_refl _, le_refl _, .inr ⟨rfl, _, _, _, _, rfl⟩, .inr ⟨rfl, _, _, _, _, rfl⟩, .inr ⟨rfl, _, _, _, _, rfl⟩, trivial⟩
def hEn : Elp := ⟨5, Ent, dE, eEnt, cEnt⟩
/-- What a manifest that was read fits. -/
def Man.In (m : Man) (k n : Nat) : Prop := m.name.length ≤ n ∧ m.ver.length ≤ n ∧ m.needs.length ≤ k ∧ m.clashes.length ≤ k ∧ m.ents.length ≤ k ∧ (∀ r ∈ m.needs, r.name.length ≤ n ∧ r.ver.length ≤ n) ∧ (∀ r ∈ m.clashes, r.name.length ≤ n ∧ r.ver.length ≤ n) ∧ ∀ x ∈ m.ents, x.path.length ≤ n ∧ x.target.length ≤ n ∧ x.sum.length ≤ n
theorem Man.In.fit {m : Man} {k n : Nat} (h : m.In k n) (hk : k ≤ 2000000) (hn : n ≤ 2000000) : m.Fit := by
  obtain ⟨q1, q2, q3, q4, q5, q6, q7, q8⟩ := h
  exact ⟨by omega, by omega, by omega, by omega, by omega, fun r hr => ⟨by have := (q6 r hr).1; omega, by have := (q6 r hr).2; omega⟩, fun r hr => ⟨by have := (q7 r hr).1; omega, by have := (q7 r hr).2; omega⟩, fun x hx => ⟨by have := (q8 x hx).1; omega, by have := (q8 x hx).2.1; omega, by have := (q8 x hx).2.2; omega⟩⟩
end Go.Proofs.YtjbnmeofjiokeaaGreatDoor.Ev
