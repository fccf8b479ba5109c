/- Rules for drawn regions with calls that hand rows over or are given blocks. -/
import Derived.Test.YtikmkgoeepgbkaaGreatDoorKD
import Derived.Test.YtikmkgoeepgbkaaGreatDoorEpw
set_option linter.all false
namespace Go.Proofs.YtikmkgoeepgbkaaGreatDoor.Ev
open Go.RowKit
open Go.Proofs.YtikmkgoeepgbkaaGreatDoor.Mem
set_option linter.unusedVariables false
set_option linter.unusedSimpArgs false
theorem edr : (∀ (C : Cx) (σ : St) (k : St → Prop) (d : Nat) (x : Operand) (ty : TypeId) (ps : String) (af : Array Edge) (g : Option (Nat × Bool)), exXD C ⟨some d, .nilCheck x, ty, ps, af, g⟩ k σ = exOp C ⟨some d, .nilCheck x, ty, ps, af, g⟩ k σ) ∧
    (∀ (C : Cx) b f d av (σ : St) k, callB C b true f d av σ k = (xCall C.P C.L f d av σ k ∨ xCallO C.P C.L f d av σ k ∨ xCallP C.P C.L f d av σ k)) ∧ (∀ (C : Cx) f d av (σ : St) k, callB C false false f d av σ k = xCall C.P C.L f d av σ k) ∧ (∀ (C : Cx) f d av (σ : St) k, callB C true false f d av σ k = (xCall C.P C.L f d av σ k ∨ xCallO C.P C.L f d av σ k ∨ xCallQ C.P C.L f d av σ k)) ∧
    (∀ (C : Cx) (σ : St) (k : St → Prop) o, drR C true o k σ = (drawOk2 C.cut o = true ∧ wpD C o.toList o.toList k σ)) ∧
    (∀ (C : Cx) (σ : St) (k : St → Prop) (ops : List Oper), wpD C ops [] k σ = k σ) ∧
    (∀ (C : Cx) (σ : St) (k : St → Prop) (ops : List Oper) o l, wpD C ops (o :: l) k σ = exYD C ops o (wpD C ops l k) σ) ∧
    (∀ (C : Cx) (σ : St) (k : St → Prop) (ops : List Oper) (ty : TypeId) (ps : String) (af : Array Edge) d op, exYD C ops ⟨d, op, ty, ps, af, none⟩ k σ = exXD C ⟨d, op, ty, ps, af, none⟩ k σ) ∧
    (∀ (C : Cx) (σ : St) (k : St → Prop) (ops : List Oper) (ty : TypeId) (ps : String) (af : Array Edge) d op g, exYD C ops ⟨d, op, ty, ps, af, some g⟩ k σ = exG C ops ⟨d, op, ty, ps, af, some g⟩ k σ) :=
  ⟨by intros; rfl, (by intro C b; cases b <;> intros <;> rfl), by intros; rfl, by intros; rfl, by intros; rfl, by intros; rfl, by intros; rfl, by intros; rfl, by intros; rfl⟩
theorem eod : (∀ (C : Cx) (σ : St) (k : St → Prop) (d : Nat) (x : Operand) (ty : TypeId) (ps : String) (af : Array Edge) (g : Option (Nat × Bool)), exXD C ⟨some d, .move x, ty, ps, af, g⟩ k σ = exOp C ⟨some d, .move x, ty, ps, af, g⟩ k σ) ∧
    (∀ (C : Cx) (σ : St) (k : St → Prop) (d : Nat) (x : Operand) (ty : TypeId) (ps : String) (af : Array Edge) (g : Option (Nat × Bool)), exXD C ⟨some d, .assign x, ty, ps, af, g⟩ k σ = exOp C ⟨some d, .assign x, ty, ps, af, g⟩ k σ) ∧
    (∀ (C : Cx) (σ : St) (k : St → Prop) (d : Nat) (x : Operand) (y : Operand) (ty : TypeId) (ps : String) (af : Array Edge) (g : Option (Nat × Bool)) c, exXD C ⟨some d, .pick c x y, ty, ps, af, g⟩ k σ = exOp C ⟨some d, .pick c x y, ty, ps, af, g⟩ k σ) ∧
    (∀ (C : Cx) (σ : St) (k : St → Prop) (d : Nat) (x : Operand) (y : Operand) (ty : TypeId) (T : TypeId) (T' : TypeId) (ps : String) (af : Array Edge) (g : Option (Nat × Bool)) op, exXD C ⟨some d, .binOp op T x y T', ty, ps, af, g⟩ k σ = exOp C ⟨some d, .binOp op T x y T', ty, ps, af, g⟩ k σ) ∧
    (∀ (C : Cx) (σ : St) (k : St → Prop) (d : Nat) (x : Operand) (ty : TypeId) (T : TypeId) (ps : String) (af : Array Edge) (g : Option (Nat × Bool)) op, exXD C ⟨some d, .unOp op T x, ty, ps, af, g⟩ k σ = exOp C ⟨some d, .unOp op T x, ty, ps, af, g⟩ k σ) ∧
    (∀ (C : Cx) (σ : St) (k : St → Prop) (d : Nat) (x : Operand) (ty : TypeId) (T : TypeId) (T' : TypeId) (ps : String) (af : Array Edge) (g : Option (Nat × Bool)), exXD C ⟨some d, .convert T T' x, ty, ps, af, g⟩ k σ = exOp C ⟨some d, .convert T T' x, ty, ps, af, g⟩ k σ) ∧
    (∀ (C : Cx) (σ : St) (k : St → Prop) (d : Nat) (x : Operand) (ty : TypeId) (ps : String) (af : Array Edge) (g : Option (Nat × Bool)) i, exXD C ⟨some d, .extract x i, ty, ps, af, g⟩ k σ = exOp C ⟨some d, .extract x i, ty, ps, af, g⟩ k σ) ∧
    (∀ (C : Cx) (σ : St) (k : St → Prop) (d : Nat) (x : Operand) (ty : TypeId) (T : TypeId) (ps : String) (af : Array Edge) (g : Option (Nat × Bool)) i, exXD C ⟨some d, .field T x i, ty, ps, af, g⟩ k σ = exOp C ⟨some d, .field T x i, ty, ps, af, g⟩ k σ) ∧
    (∀ (C : Cx) (σ : St) (k : St → Prop) (d : Nat) (x : Operand) (y : Operand) (ty : TypeId) (T : TypeId) (ps : String) (af : Array Edge) (g : Option (Nat × Bool)), exXD C ⟨some d, .index T x y, ty, ps, af, g⟩ k σ = exOp C ⟨some d, .index T x y, ty, ps, af, g⟩ k σ) ∧
    (∀ (C : Cx) (σ : St) (k : St → Prop) (d : Nat) (x : Operand) (ty : TypeId) (T : TypeId) (ps : String) (af : Array Edge) (g : Option (Nat × Bool)) lo hi, exXD C ⟨some d, .slice T x lo hi none, ty, ps, af, g⟩ k σ = exOp C ⟨some d, .slice T x lo hi none, ty, ps, af, g⟩ k σ) ∧
    (∀ (C : Cx) (σ : St) (k : St → Prop) (d : Nat) (x : Operand) (y : Operand) (ty : TypeId) (T : TypeId) (ps : String) (af : Array Edge) (g : Option (Nat × Bool)), exXD C ⟨some d, .indexAddr T x y, ty, ps, af, g⟩ k σ = exOp C ⟨some d, .indexAddr T x y, ty, ps, af, g⟩ k σ) ∧
    (∀ (C : Cx) (σ : St) (k : St → Prop) (d : Nat) (x : Operand) (ty : TypeId) (T : TypeId) (ps : String) (af : Array Edge) (g : Option (Nat × Bool)) i, exXD C ⟨some d, .fieldAddr T x i, ty, ps, af, g⟩ k σ = exOp C ⟨some d, .fieldAddr T x i, ty, ps, af, g⟩ k σ) ∧
    (∀ (C : Cx) (σ : St) (k : St → Prop) (d : Nat) (x : Operand) (ty : TypeId) (T : TypeId) (ps : String) (af : Array Edge) (g : Option (Nat × Bool)), exXD C ⟨some d, .load T x, ty, ps, af, g⟩ k σ = exOp C ⟨some d, .load T x, ty, ps, af, g⟩ k σ) ∧
    (∀ (C : Cx) (σ : St) (k : St → Prop) (d : Nat) (ty : TypeId) (T : TypeId) (ps : String) (af : Array Edge) (g : Option (Nat × Bool)) p, exXD C ⟨some d, .build T p, ty, ps, af, g⟩ k σ = exOp C ⟨some d, .build T p, ty, ps, af, g⟩ k σ) ∧
    (∀ (C : Cx) (σ : St) (k : St → Prop) (d : Nat) (ty : TypeId) (T : TypeId) (ps : String) (af : Array Edge) (g : Option (Nat × Bool)), exXD C ⟨some d, .alloc T, ty, ps, af, g⟩ k σ = exOp C ⟨some d, .alloc T, ty, ps, af, g⟩ k σ) ∧
    (∀ (C : Cx) (σ : St) (k : St → Prop) (d : Nat) (x : Operand) (ty : TypeId) (T : TypeId) (ps : String) (af : Array Edge) (g : Option (Nat × Bool)), exXD C ⟨some d, .box T x, ty, ps, af, g⟩ k σ = exOp C ⟨some d, .box T x, ty, ps, af, g⟩ k σ) ∧
    (∀ (C : Cx) (σ : St) (k : St → Prop) (x : Operand) (y : Operand) (ty : TypeId) (T : TypeId) (ps : String) (af : Array Edge) (g : Option (Nat × Bool)), exXD C ⟨none, .store T x y, ty, ps, af, g⟩ k σ = exOp C ⟨none, .store T x y, ty, ps, af, g⟩ k σ) ∧
    (∀ (C : Cx) (σ : St) (k : St → Prop) (d : Nat) (x : Operand) (y : Operand) (ty : TypeId) (T : TypeId) (ps : String) (af : Array Edge) (g : Option (Nat × Bool)), exXD C ⟨some d, .makeSlice T x y, ty, ps, af, g⟩ k σ = exOp C ⟨some d, .makeSlice T x y, ty, ps, af, g⟩ k σ) ∧
    (∀ (C : Cx) (σ : St) (k : St → Prop) (d : Nat) (ty : TypeId) (T : TypeId) (ps : String) (af : Array Edge) (g : Option (Nat × Bool)) n p, exXD C ⟨some d, .buildSlice T n p, ty, ps, af, g⟩ k σ = exOp C ⟨some d, .buildSlice T n p, ty, ps, af, g⟩ k σ) ∧
    (∀ (C : Cx) (σ : St) (k : St → Prop) (d : Nat) (ty : TypeId) (ps : String) (af : Array Edge) (g : Option (Nat × Bool)) f xs ts, exXD C ⟨some d, .call ⟨.value (.func f), xs, ts⟩, ty, ps, af, g⟩ k σ = callB C (inC (2000000 + f) C.cut) (inC (3000000 + f) C.cut) f d (xs.toList.map σ.rd) σ k) ∧
    (∀ (C : Cx) (σ : St) (k : St → Prop) (d : Nat) (x : Operand) (ty : TypeId) (T : TypeId) (ps : String) (af : Array Edge) (g : Option (Nat × Bool)), exXD C ⟨some d, .call ⟨.builtin .len, ⟨[x]⟩, ⟨[T]⟩⟩, ty, ps, af, g⟩ k σ = exOp C ⟨some d, .call ⟨.builtin .len, ⟨[x]⟩, ⟨[T]⟩⟩, ty, ps, af, g⟩ k σ) ∧
    (∀ (C : Cx) (σ : St) (k : St → Prop) (d : Nat) (x : Operand) (y : Operand) (ty : TypeId) (T : TypeId) (T' : TypeId) (ps : String) (af : Array Edge) (g : Option (Nat × Bool)), exXD C ⟨some d, .call ⟨.builtin .append, ⟨[x, y]⟩, ⟨[T, T']⟩⟩, ty, ps, af, g⟩ k σ = exOp C ⟨some d, .call ⟨.builtin .append, ⟨[x, y]⟩, ⟨[T, T']⟩⟩, ty, ps, af, g⟩ k σ) :=
  ⟨by intros; rfl, by intros; rfl, by intros; rfl, by intros; rfl, by intros; rfl, by intros; rfl, by intros; rfl, by intros; rfl, by intros; rfl, by intros; rfl, by intros; rfl, by intros; rfl, by intros; rfl, by intros; rfl, by intros; rfl, by intros; rfl, by intros; rfl, by intros; rfl, by intros; rfl, by intros; rfl, by intros; rfl, by intros; rfl⟩
section
variable {P : Program} {L : World → Prop} {f d : Nat} {av bs : List V} {r : V} {B B' : List (Nat × Bk)} {σ : St} {k : St → Prop}
/-- A call in such a region: values alone. -/
theorem dq (h : Spec P L f bs r) (hle : leL av bs) (hk : k (σ.put d r)) (hm : ∀ i, menL av i = false := by intro i; rfl) : xCall P L f d av σ k ∨ xCallO P L f d av σ k ∨ xCallQ P L f d av σ k :=
  .inl ⟨bs, r, .inl ⟨hm, hle⟩, h, hk⟩
/-- .. rows are handed over. -/
theorem dqO {rb : List Bk} (ids : List Nat) (h : SpecO P L f bs r rb) (hle : leL av bs) (h1 : ids.length = rb.length) (h2 : ndb ids = true) (h3 : allP (fun i => σ.al i = false ∧ i < 1000000000) ids) (hk : k (σ.adds d (rnV (fun k => ids.getD k 0) r) ids rb)) (hm : ∀ i, menL av i = false := by intro i; rfl) : xCall P L f d av σ k ∨ xCallO P L f d av σ k ∨ xCallQ P L f d av σ k :=
  .inr (.inl ⟨bs, r, rb, ids, .inl ⟨hm, hle⟩, h, ⟨h1, ndb_of h2, allP_mem h3⟩, hk⟩)
/-- .. blocks are given, some of which stay. -/
theorem dqF (ρ ρ' : Nat → Nat) (h : SpecP P L f bs B r B') (hle : leL av (rnL ρ bs)) (h1 : allP (fun p => σ.bk (ρ p.1) = some (rnB ρ p.2)) B) (h2 : allP (fun p => allP (fun q => ρ p.1 = ρ q.1 → p.1 = q.1) B) B)
    (h3 : allP (fun p => bif decide (1000000000 ≤ p.1) then ρ' p.1 = ρ p.1 else σ.al (ρ' p.1) = false ∧ ρ' p.1 < 1000000000) B') (h4 : allP (fun p => allP (fun q => ρ' p.1 = ρ' q.1 → p.1 = q.1) B') B') (hk : k (σ.giv d r B B' ρ ρ')) :
    xCall P L f d av σ k ∨ xCallO P L f d av σ k ∨ xCallP P L f d av σ k := by
  refine .inr <| .inr ⟨bs, B, r, B', ρ, ρ', hle, allP_mem h1, fun p hp q hq => allP_mem (allP_mem h2 p hp) q hq, h, fun p hp => ?_, fun p hp q hq => allP_mem (allP_mem h4 p hp) q hq, hk⟩
  have := allP_mem h3 p hp
  by_cases e : 1000000000 ≤ p.1
  · rw [decide_eq_true e] at this
    rw [if_pos e]
    exact this
  · rw [decide_eq_false e] at this
    rw [if_neg e]
    exact this
/-- .. blocks are given. -/
theorem dqP (ρ ρ' : Nat → Nat) (h : SpecP P L f bs B r B') (hle : leL av (rnL ρ bs)) (h1 : allP (fun p => σ.bk (ρ p.1) = some (rnB ρ p.2)) B) (h2 : allP (fun p => allP (fun q => ρ p.1 = ρ q.1 → p.1 = q.1) B) B)
    (h3 : allP (fun p => p.1 < 1000000000 ∧ σ.al (ρ' p.1) = false ∧ ρ' p.1 < 1000000000) B') (h4 : allP (fun p => allP (fun q => ρ' p.1 = ρ' q.1 → p.1 = q.1) B') B') (hk : k (σ.giv d r B B' ρ ρ')) :
    xCall P L f d av σ k ∨ xCallO P L f d av σ k ∨ xCallQ P L f d av σ k :=
  .inr (.inr ⟨bs, B, r, B', ρ, ρ', hle, allP_mem h1, fun p hp q hq => allP_mem (allP_mem h2 p hp) q hq, h, allP_mem h3, fun p hp q hq => allP_mem (allP_mem h4 p hp) q hq, hk⟩)
end
end Go.Proofs.YtikmkgoeepgbkaaGreatDoor.Ev
