/- Calls that are given blocks: rules. -/
import Derived.Test.YtikmkgoeepgbkaaGreatDoorEpz
import Derived.Test.YtikmkgoeepgbkaaGreatDoorKD
set_option linter.all false
namespace Go.Proofs.YtikmkgoeepgbkaaGreatDoor.Ev
open Go.RowKit
open Go.Proofs.YtikmkgoeepgbkaaGreatDoor.Mem
set_option linter.unusedVariables false
set_option linter.unusedSimpArgs false
def keyb (B : List (Nat × Bk)) (i : Nat) : Bool := inL i (B.map (·.1))
theorem keyb_iff {B : List (Nat × Bk)} {i : Nat} : keyb B i = true ↔ keyB B i := by unfold keyb; rw [← inL_eq, key_al]
def ndb : List Nat → Bool
  | [] => true
  | x :: l => !inL x l && ndb l
theorem ndb_of : ∀ {l : List Nat}, ndb l = true → l.Nodup
  | [], _ => List.nodup_nil
  | x :: l, h => by
    simp only [ndb, Bool.and_eq_true, Bool.not_eq_true'] at h
    refine List.nodup_cons.2 ⟨fun hm => ?_, ndb_of h.2⟩
    rw [← inL_eq, List.contains_iff_mem.2 hm] at h
    exact absurd h.1 (by simp)
theorem spec_ofP' {C : Cx} {f : Nat} {fn : Func} {c : Code} {l rl : List V} {rs : List ResultVar} {B B' : List (Nat × Bk)} (hx : C.P.follows .mixedOrders = true) (hS : Stab C.L) (hf : C.P.funcs[f]? = some fn) (hb : fn.body = some c) (hname : (fn.name == "runtime.NumGoroutine") = false) (hrs : fn.results = rs.toArray)
    (hchk0 : chkM fn.ntmps c = true) (hlen : l.length ≤ fn.ntmps) (hm : inML (keyb B) l = true) (hmB : (B.all fun p => bkM (keyb B) p.2) = true) (n1 : ndb (B.map (·.1)) = true) (n2 : ndb (B'.map (·.1)) = true)
    (hmr : inML (keyb B') rl = true) (n4 : (B'.all fun p => bkM (keyb B') p.2) = true) (n5 : (B'.all fun p => !decide (1000000000 ≤ p.1) || keyb B p.1) = true) (hlr : rl.length = rs.length) (hl4 : rs.length ≤ 4)
    (h : wpC C c ⟨OutP C rs rl B', fun _ _ => False, OutP C rs rl B'⟩ (iniP l B)) : SpecP C.P C.L f l B (pack rl) B' := by
  refine spec_ofP hx hS hf hb hname hrs hchk0 hlen (fun i hi => keyb_iff.1 (inML_men l i hm hi)) (fun p hp k hk => keyb_iff.1 (bkM_men (List.all_eq_true.1 hmB p hp) k hk)) (ndb_of n1) (ndb_of n2)
    (fun i hi => keyb_iff.1 (inML_men rl i hmr hi)) (fun p hp k hk => keyb_iff.1 (bkM_men (List.all_eq_true.1 n4 p hp) k hk)) (fun k hk ⟨b, hb'⟩ => ?_) hlr hl4 h
  have := List.all_eq_true.1 n5 _ hb'
  simp only [Bool.or_eq_true, Bool.not_eq_true', decide_eq_false_iff_not] at this
  exact keyb_iff.1 (this.resolve_left fun h => h hk)
section
variable {P : Program} {L : World → Prop} {f d : Nat} {av bs : List V} {r : V} {B B' : List (Nat × Bk)} {σ : St} {k : St → Prop} {xs : List Operand}
/-- Blocks are given. -/
theorem cp (ρ ρ' : Nat → Nat) (h : SpecP P L f bs B r B') (hle : leL av (rnL ρ bs)) (h1 : allP (fun p => σ.bk (ρ p.1) = some (rnB ρ p.2)) B) (h2 : allP (fun p => allP (fun q => ρ p.1 = ρ q.1 → p.1 = q.1) B) B)
    (h3 : allP (fun p => bif decide (1000000000 ≤ p.1) then ρ' p.1 = ρ p.1 else σ.al (ρ' p.1) = false ∧ ρ' p.1 < 1000000000) B') (h4 : allP (fun p => allP (fun q => ρ' p.1 = ρ' q.1 → p.1 = q.1) B') B') (hk : k (σ.giv d r B B' ρ ρ')) :
    xCall P L f d av σ k ∨ xCallO P L f d av σ k ∨ xCallF P L f d xs σ k ∨ xCallP P L f d av σ k := by
  refine .inr <| .inr <| .inr ⟨bs, B, r, B', ρ, ρ', hle, allP_mem h1, fun p hp q hq => allP_mem (allP_mem h2 p hp) q hq, h, fun p hp => ?_, fun p hp q hq => allP_mem (allP_mem h4 p hp) q hq, hk⟩
  have := allP_mem h3 p hp
  by_cases e : 1000000000 ≤ p.1
  · rw [decide_eq_true e] at this
    rw [if_pos e]
    exact this
  · rw [decide_eq_false e] at this
    rw [if_neg e]
    exact this
/-- The end of a function that was given blocks. -/
theorem outP {C : Cx} {rs : List ResultVar} {l : List V} (ids : List Nat) (κ : Nat → Nat) (h : vRes C.P (σ.fz ids).bk (σ.fz ids).sl rs (fun vl => leL vl (rnL (fxr κ) l))) (h1 : allP (fun p => (σ.fz ids).bk (fxr κ p.1) = some (rnB (fxr κ) p.2)) B') (h2 : allP (fun p => allP (fun q => fxr κ p.1 = fxr κ q.1 → p.1 = q.1) B') B') : OutP C rs l B' σ :=
  ⟨ids, κ, h, allP_mem h1, fun p hp q hq => allP_mem (allP_mem h2 p hp) q hq⟩
end
theorem epw : (∀ (σ : St) d r B B' ρ ρ' t, (σ.giv d r B B' ρ ρ').sl t = if t = d then rnV ρ' r else σ.sl t) ∧ (∀ (σ : St) d r B B' ρ ρ' i, (σ.giv d r B B' ρ ρ').bk i = match lk i (B'.map fun p => (ρ' p.1, rnB ρ' p.2)) with
      | some b => some b
      | none => bif inL i (B.map fun p => ρ p.1) then none else σ.bk i) ∧ (∀ (σ : St) d r B B' ρ ρ' i, (σ.giv d r B B' ρ ρ').al i = (inL i (B'.map fun p => ρ' p.1) || σ.al i)) ∧
    (∀ l B t, (iniP l B).sl t = l.getD t .j) ∧ (∀ l B i, (iniP l B).bk i = lk i B) ∧ (∀ l B i, (iniP l B).al i = inL i (B.map (·.1))) :=
  ⟨fun _ _ _ _ _ _ _ _ => rfl, fun _ _ _ _ _ _ _ _ => by simp only [St.giv, lk_eq, inL_eq] <;> rfl, fun _ _ _ _ _ _ _ _ => by simp only [St.giv, inL_eq], fun _ _ _ => rfl, fun _ _ _ => by simp only [iniP, lk_eq], fun _ _ _ => by simp only [iniP, inL_eq]⟩
end Go.Proofs.YtikmkgoeepgbkaaGreatDoor.Ev
