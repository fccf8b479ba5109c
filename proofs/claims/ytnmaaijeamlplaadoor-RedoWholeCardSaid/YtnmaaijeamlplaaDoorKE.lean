/- Block's functions. -/
import Derived.Test.YtnmaaijeamlplaaDoorKD
import Derived.Test.YtnmaaijeamlplaaDoorRows
import Derived.Test.YtnmaaijeamlplaaDoorShelf
set_option linter.all false
namespace Go.Proofs.YtnmaaijeamlplaaDoor.Ev
open Go.RowKit
open Go.Proofs.YtnmaaijeamlplaaDoor.Mem
set_option linter.unusedVariables false
set_option linter.unusedSimpArgs false
theorem fx : strT Tryd.prog 9 = true ∧ ik Tryd.prog 3 = some .i64 ∧ sle Tryd.prog 22 = some 9 ∧ sle Tryd.prog 23 = some 51 ∧ fld Tryd.prog 25 0 = some (0, false, 1) ∧ fld Tryd.prog 25 1 = some (1, false, 1) ∧ fld Tryd.prog 25 2 = some (2, false, 1) ∧ fld Tryd.prog 25 3 = some (3, false, 1) ∧
   fld Tryd.prog 51 0 = some (0, false, 1) ∧ fld Tryd.prog 51 1 = some (1, false, 1) ∧ sz Tryd.prog 22 = some 1 ∧ sz Tryd.prog 23 = some 1 ∧ sz Tryd.prog 9 = some 1 ∧ sz Tryd.prog 51 = some 2 ∧ sz Tryd.prog 25 = some 4 ∧ sz Tryd.prog 3 = some 1 ∧ sz Tryd.prog 4 = some 1 ∧ agT Tryd.prog 51 = true ∧ agT Tryd.prog 25 = true ∧ agT Tryd.prog 9 = false ∧ agT Tryd.prog 22 = false ∧ agT Tryd.prog 23 = false ∧ agT Tryd.prog 3 = false ∧ agT Tryd.prog 4 = false ∧ (Tryd.prog.underlying 51).isSome = true ∧ (Tryd.prog.underlying 25).isSome = true ∧ (Tryd.prog.underlying 9).isSome = true ∧ (Tryd.prog.underlying 22).isSome = true ∧ (Tryd.prog.underlying 23).isSome = true ∧ (Tryd.prog.underlying 3).isSome = true ∧ (Tryd.prog.underlying 4).isSome = true ∧ (sle Tryd.prog 22).isSome = true ∧ bys Tryd.prog 51 = some 24 ∧ bys Tryd.prog 9 = some 16 ∧ zc Tryd.prog 25 = some [.nl, .nl, .n .i64 0, .b false] ∧ zc Tryd.prog 51 = some [.n .i64 0, .s []] ∧ zc Tryd.prog 9 = some [.s []] ∧ plc Tryd.prog 51 = some [(0, 1), (1, 1)] :=
  ⟨by kernel_rfl, by kernel_rfl, by kernel_rfl, by kernel_rfl, by kernel_rfl, by kernel_rfl, by kernel_rfl, by kernel_rfl, by kernel_rfl, by kernel_rfl, by kernel_rfl, by kernel_rfl, by kernel_rfl, by kernel_rfl, by kernel_rfl, by kernel_rfl, by kernel_rfl, by kernel_rfl, by kernel_rfl, by kernel_rfl, by kernel_rfl, by kernel_rfl, by kernel_rfl, by kernel_rfl, by kernel_rfl, by kernel_rfl, by kernel_rfl, by kernel_rfl, by kernel_rfl, by kernel_rfl, by kernel_rfl, by kernel_rfl, by kernel_rfl, by kernel_rfl, by kernel_rfl, by kernel_rfl, by kernel_rfl, by kernel_rfl⟩
set_option maxRecDepth 100000
structure Wr where
  at_ : Int
  data : List UInt8
structure Dk where
  safe : List (List UInt8)
  loose : List Wr
  fuse : Int
  down : Bool
def eWr (x : Wr) : V := .ag [.n .i64 x.at_, .s x.data]
def eDk (d : Dk) : V := .ag [.sl 1 _ [] d.safe .s, .sl 2 _ ⟨0, []⟩ d.loose eWr, .n .i64 d.fuse, .b d.down]
theorem dk (d : Dk) : eDk d = .ag [.sl 1 _ [] d.safe .s, .sl 2 _ ⟨0, []⟩ d.loose eWr, .n .i64 d.fuse, .b d.down] := rfl
def cS : V → List UInt8
  | .s l => l
  | _ => []
def cWr : V → Wr
  | .ag [.n _ a, .s l] => ⟨a, l⟩
  | _ => ⟨0, []⟩
def hS : Elp := ⟨1, List UInt8, [], .s, cS⟩
def hWr : Elp := ⟨2, Wr, ⟨0, []⟩, eWr, cWr⟩
def E0 : Nat → Option Elp := fun t => if t = 51 then some hWr else if t = 9 then some hS else none
def rS (l : List (List UInt8)) : Bk := .row 9 1 (List UInt8) [] l .s cS
def rW (l : List Wr) : Bk := .row 51 2 Wr ⟨0, []⟩ l eWr cWr
theorem e51 : E0 51 = some ⟨2, Wr, ⟨0, []⟩, eWr, cWr⟩ := rfl
theorem e9 : E0 9 = some ⟨1, List UInt8, [], .s, cS⟩ := rfl
def burn (d : Dk) : Dk × Int := if d.fuse = 0 then ({ d with down := true }, 11) else if 0 < d.fuse then ({ d with fuse := d.fuse - 1 }, 0) else (d, 0)
def oDk (d : Dk) : V := .ag [.ow 0 d.safe.length, .ow 1 d.loose.length, .n .i64 d.fuse, .b d.down]
theorem odk (d : Dk) : oDk d = .ag [.ow 0 d.safe.length, .ow 1 d.loose.length, .n .i64 d.fuse, .b d.down] := rfl
theorem ewr (w : Wr) : eWr w = .ag [.n .i64 w.at_, .s w.data] := rfl
theorem rSd (l : List (List UInt8)) : rS l = .row 9 1 (List UInt8) [] l .s cS := rfl
theorem rWd (l : List Wr) : rW l = .row 51 2 Wr ⟨0, []⟩ l eWr cWr := rfl
theorem go {p q : Prop} (hq : q) (h : p ↔ q := by simp only [ec, eg, eo, eox, es, et1, em, emR, efz, ebt, et, ev, fx, dk, ewr, odk, List.drop_nil, e51, e9, Option.some.injEq, Option.isSome_none, Int.reduceToNat, List.replicate_zero, Bool.or_self, rSd, rWd, ez, ef, ebd, et2, Int.toNat_natCast, Option.map_none, Option.map_some, List.all_cons, List.all_nil, Bool.and_self, List.cons_append, List.nil_append, List.append_nil, List.append_assoc, ep, ew, Option.isSome_some, id_eq, Nat.reduceLT, Nat.reduceSub, Bool.false_or, Bool.true_or, Bool.or_true, Bool.true_and, Bool.and_true, reduceCtorEq, Nat.reduceBEq, Bool.true_eq_false, Bool.false_eq_true, false_implies, List.map_cons, List.map_nil, List.take_succ_cons, List.take_zero, List.drop_succ_cons, List.drop_zero, List.length_cons, List.length_nil, Nat.zero_add, Nat.reduceAdd, Nat.reduceLeDiff, Bool.not_true, Bool.not_false, List.getElem?_cons_succ, List.getElem?_cons_zero, Option.bind_some, ne_eq, not_false_eq_true, eh1, eh, en, List.getD_cons_zero, List.getD_cons_succ, Nat.reduceEqDiff, ↓reduceIte, cond_true, cond_false, Bool.or_false, decide_true, decide_false, true_and, and_true, implies_true]; exact Iff.rfl) : p := h.2 hq

theorem one_arg {xs : Array Value} (h : xs.size = 1) : ∃ v, xs = #[v] := ⟨xs[0], by
  apply Array.ext
  · simpa using h
  · intro i h1 h2
    have : i = 0 := by simp at h2; omega
    subst this
    rfl⟩
theorem repeat_ok (s : List UInt8) (c : Nat) (hc : c ≤ 9223372036854775807) (hlen : s.length * c ≤ 140737488355328) : Spec Tryd.prog (fun _ => True) 65 [.s s, .n .i64 (c : Int)] (.s (Lib.repeatL s c)) := by
  refine Spec.of (fn := Tryd.f65) Tryd.func65 (by kernel_rfl) (by kernel_rfl) (fun _ => rfl) fun S W xs _ hs hx _ => ?_
  have hs : xs.size = 2 := hs
  have h0 := (hx 0 (.s s) _ rfl (Array.getElem?_eq_getElem (by omega))).s_inv
  have h1 := (hx 1 (.n .i64 (c : Int)) _ rfl (Array.getElem?_eq_getElem (by omega))).n_inv
  have e : xs = #[.string (tx s), .int .i64 c] := by
    apply Array.ext
    · simpa using hs
    · intro i h2 h3
      rcases i with _ | _ | i
      · exact h0
      · exact h1
      · rw [hs] at h2
        omega
  rw [e]
  refine (Tryd.strings_Repeat (tx s) c W hc (by rw [tx_size]; exact hlen)).mono ?_
  rintro e W' ⟨rfl, hb⟩
  exact ⟨_, rfl, hb, .s _ _⟩
theorem inf9 : ∃ i : TypeInfo, Tryd.prog.info? 9 = some i ∧ i.zero = some (.string ByteArray.empty) ∧ i.size = 1 ∧ i.bytes = 16 := by
  cases h : Tryd.prog.info? 9 with
  | none => exact absurd h (by intro h; have : (Tryd.prog.info? 9).isSome = true := by kernel_rfl
                               rw [h] at this; cases this)
  | some i =>
    have e1 : (Tryd.prog.info? 9).bind (·.zero) = some (.string ByteArray.empty) := by kernel_rfl
    have e2 : (Tryd.prog.info? 9).map (·.size) = some 1 := by kernel_rfl
    have e3 : (Tryd.prog.info? 9).map (·.bytes) = some 16 := by kernel_rfl
    rw [h] at e1 e2 e3
    exact ⟨i, rfl, e1, Option.some.inj e2, Option.some.inj e3⟩
theorem clone_ok (l : List (List UInt8)) (hl : l.length ≤ 1000000) : SpecO Tryd.prog (fun _ => True) 100 [.sl 1 (List UInt8) [] l .s] (.ow 0 l.length) [rS l] := by
  refine ⟨⟨Tryd.f100, Tryd.func100, by kernel_rfl, by kernel_rfl⟩, ⟨fun k h => by simp [men] at h; simp; omega, fun b h => by simp at h; subst h; trivial⟩, fun S W xs _ hs hx hS => ?_⟩
  have hs : xs.size = 1 := hs
  obtain ⟨v, rfl⟩ := one_arg hs
  have h0 := hx 0 _ v rfl rfl
  have row : ∀ (v' : Value) (W' : World), W'.ownsRow W.heap.size 9 1 v' l.length (l.map fun s => Value.string (tx s)) → Below W.heap.size W W' → ∃ v F' G', (Ending.returned v' : Ending) = .returned v ∧ Below W.heap.size W W' ∧ (∀ g, F' g → g < W'.heap.size ∧ (W.heap.size ≤ g ∨ S g)) ∧ Rep F' W' G' (.ow 0 l.length) v ∧
      (∀ (k : Nat) (b : Bk), [rS l][k]? = some b → BkRep F' W' G' k b ∧ ∀ g, b.ob G' k g → W.heap.size ≤ g ∧ g < W'.heap.size ∧ ¬ F' g) ∧ ∀ (k k' : Nat) (b b' : Bk) (g : Nat), k ≠ k' → [rS l][k]? = some b → [rS l][k']? = some b' → b.ob G' k g → ¬ b'.ob G' k' g := fun v' W' ho hb => by
    have hform : ∃ ao cap, v' = .slice ao l.length cap := by
      rcases ho.2 with ⟨rfl, h⟩ | ⟨g, cap, cur, rfl, _⟩
      · exact ⟨none, 0, by rw [h]⟩
      · exact ⟨_, _, rfl⟩
    obtain ⟨ao, cap, hv⟩ := hform
    refine ⟨v', fun _ => False, fun _ => (v'.ownBlock.getD 0, v'), rfl, hb, fun g h => h.elim, by rw [hv]; exact .ow _ _ _ _ _ rfl, fun k b h => ?_, fun k k' b b' g hk h h' => ?_⟩
    · cases k with
      | succ k => simp at h
      | zero =>
        simp at h
        subst h
        refine ⟨⟨_, ho.mono (Nat.zero_le _), fun g hg => by dsimp only at hg ⊢; rw [hg]; rfl, fun q x hq => ⟨rfl, fun _ => rfl, fun t y ht => ?_⟩⟩, fun g hg => ?_⟩
        · cases t with
          | succ t => simp [cs] at ht
          | zero =>
            simp [cs] at ht
            subst ht
            exact ⟨.string (tx x), by simp [hq], .s _ _⟩
        · have hg : v'.ownBlock = some g := hg
          exact ⟨(ho.lt g hg).1, (ho.lt g hg).2, fun h => h⟩
    · cases k with
      | succ k => simp at h
      | zero =>
        cases k' with
        | zero => exact absurd rfl hk
        | succ k' => simp at h'
  obtain ⟨iq, hiq, hz1, hz2, hz3⟩ := inf9
  rcases h0.sl_inv with ⟨ao, c, rfl, rfl⟩ | ⟨g, o, c, u, rfl, hg, hc, hm, hz, hu, hr⟩
  · cases ao with
    | none =>
      refine (Tryd.slices_Clone_nil 0 c W).mono ?_
      rintro e W' ⟨rfl, rfl⟩
      exact row _ _ (World.ownsRow_nil _ _ _ _) (Below.refl _ _)
    | some a =>
      refine (Tryd.slices_Clone_string_zero a c W).mono ?_
      rintro e W' ⟨v', rfl, h1, _, hb⟩
      exact row _ _ h1 hb
  · refine (Tryd.slices_Clone iq _ 1 16 hiq hz1 hz2 hz3 rfl (by decide) Tryd.sizeOf9 g o l.length c (l.map fun s => Value.string (tx s)) W (by simp) (by unfold maxLen; omega) (by omega) (fun j y hj => ?_) (fun y hy => ?_)).mono ?_
    · rw [List.getElem?_map] at hj
      cases hq : l[j]? with
      | none => rw [hq] at hj; cases hj
      | some x =>
        rw [hq, Option.map_some, Option.some.injEq] at hj
        have h1 := hu j x 0 (.s x) hq rfl
        have h2 := (hr j x 0 (.s x) hq rfl).s_inv
        rw [h2, hj, Nat.mul_one, Nat.add_zero] at h1
        exact h1
    · obtain ⟨x, _, rfl⟩ := List.mem_map.1 hy
      rfl
    · rintro e W' ⟨v', rfl, h1, _, hb⟩
      exact row _ _ h1 hb
theorem wr64 {x : Int} (h : -9223372036854775808 ≤ x) (h' : x < 9223372036854775808) : IntKind.wrap .i64 x = x := by
  simp [IntKind.wrap, IntKind.bits, IntKind.signed]; omega
theorem okWr (v : Wr) : okE 2 eWr cWr (eWr v) := ⟨rfl, rfl, rfl, fun _ => rfl⟩
theorem okS (v : List UInt8) : okE 1 V.s cS (.s v) := ⟨rfl, rfl, rfl, fun _ => rfl⟩
theorem copied_ok (d : Dk) (hl : d.loose.length ≤ 1000000) (hs : d.safe.length ≤ 1000000) : SpecO Tryd.prog (fun _ => True) 94 [eDk d] (.ag [.ow 0 d.safe.length, .ow 1 d.loose.length, .n .i64 d.fuse, .b d.down]) [rS d.safe, rW d.loose] := by
  refine spec_ofO (C := ⟨Tryd.prog, fun _ => True, E0, []⟩) (rl := [.ag [.ow 0 d.safe.length, .ow 1 d.loose.length, .n .i64 d.fuse, .b d.down]]) (rs := [.cell 2 25]) (by kernel_rfl) (fun _ _ _ _ => trivial) Tryd.func94 rfl (by kernel_rfl) rfl (by kernel_rfl) (Nat.le_of_ble_eq_true rfl) (fun i => rfl) (fun i h => by simp [menL, men] at h; simp; omega) (fun b h => by simp at h; rcases h with rfl | rfl <;> trivial) rfl (by decide) ?_
  refine go ?_
  refine .inr <| .inl ⟨[.sl 1 (List UInt8) [] d.safe .s], .ow 0 d.safe.length, [rS d.safe], [5], .inl ⟨fun i => rfl, leL_refl _⟩, clone_ok d.safe hs, ⟨rfl, by decide, fun i h => by simp at h; subst h; rfl⟩, ?_⟩
  refine go ?_
  have w := wr64 (x := (d.loose.length : Int) + 1) (by omega) (by omega)
  rw [w]
  refine ⟨okWr ⟨0, []⟩, ⟨.inr trivial, by omega, by omega, by omega⟩, by omega, by omega, fun v _ => okWr v, [5, 14], ?_, by decide, ?_⟩
  · refine go ?_
    exact le_refl _
  · refine go ?_
    rw [show d.loose.map (fun v => cWr (.ag [.n .i64 v.at_, .s v.data])) = d.loose from List.map_id _]
theorem burn_ok (d : Dk) (hfu : d.fuse < 9223372036854775808) (hC : SpecO Tryd.prog (fun _ => True) 94 [eDk d] (oDk d) [rS d.safe, rW d.loose]) : SpecO Tryd.prog (fun _ => True) 82 [eDk d] (.tp [oDk (burn d).1, .n .i64 (burn d).2]) [rS d.safe, rW d.loose] := by
  refine spec_ofO (C := ⟨Tryd.prog, fun _ => True, E0, []⟩) (rl := [oDk (burn d).1, .n .i64 (burn d).2]) (rs := [.cell 2 25, .tmp 3]) (by kernel_rfl) (fun _ _ _ _ => trivial) Tryd.func82 rfl (by kernel_rfl) rfl (by kernel_rfl) (Nat.le_of_ble_eq_true rfl) (fun i => rfl) (fun i h => by simp [menL, men, oDk] at h; simp; omega) (fun b h => by simp at h; rcases h with rfl | rfl <;> trivial) rfl (by decide) ?_
  refine go ?_
  refine .inr <| .inl ⟨[eDk d], oDk d, [rS d.safe, rW d.loose], [5, 105], .inl ⟨fun i => rfl, leL_refl _⟩, hC, ⟨rfl, by decide, fun i h => by simp at h; rcases h with rfl | rfl <;> rfl⟩, ?_⟩
  refine go ?_
  refine cnd_d (fun h => ?_) (fun h => ?_)
  · have e : burn d = ({ d with down := true }, 11) := if_pos h
    refine go ?_
    refine ⟨[5, 105], ?_, by decide, ?_⟩
    · refine go ?_
      rw [e]
      exact ⟨le_refl _, rfl⟩
    · refine go ?_
      trivial
  · refine go ?_
    refine cnd_d (fun h2 => ?_) (fun h2 => ?_)
    · have e : burn d = ({ d with fuse := d.fuse - 1 }, 0) := (if_neg h).trans (if_pos h2)
      refine go ?_
      rw [wr64 (by omega) (by omega)]
      refine ⟨[5, 105], ?_, by decide, ?_⟩
      · refine go ?_
        rw [e]
        exact ⟨le_refl _, rfl⟩
      · refine go ?_
        trivial
    · have e : burn d = (d, 0) := (if_neg h).trans (if_neg h2)
      refine go ?_
      refine ⟨[5, 105], ?_, by decide, ?_⟩
      · refine go ?_
        rw [e]
        exact ⟨le_refl _, rfl⟩
      · refine go ?_
        trivial
theorem full_ok (s : List UInt8) : Spec Tryd.prog (fun _ => True) 63 [.s s] (.b (decide (s.length = 256))) := by
  refine spec_of (C := ⟨Tryd.prog, fun _ => True, E0, []⟩) (rl := [.b (decide (s.length = 256))]) (rs := [.tmp 2]) (by kernel_rfl) (fun _ _ _ _ => trivial) Tryd.func63 rfl (by kernel_rfl) rfl (by kernel_rfl) (Nat.le_of_ble_eq_true rfl) (fun i => rfl) (fun i => rfl) rfl (by decide) ?_
  refine go ?_
  exact decide_eq_decide.2 (by omega)
def okW (n : Nat) (w : Wr) : Bool := decide (0 ≤ w.at_) && decide (w.at_ < n) && decide (w.data.length = 256)
def right (d : Dk) : Bool := decide (32 ≤ d.safe.length) && decide (d.safe.length ≤ 2048) && d.safe.all (fun s => decide (s.length = 256)) && d.loose.all (okW d.safe.length)
theorem right_no {d : Dk} (h : ¬ (32 ≤ d.safe.length ∧ d.safe.length ≤ 2048 ∧ d.safe.all (fun s => decide (s.length = 256)) = true ∧ d.loose.all (okW d.safe.length) = true)) : right d = false := by
  cases e : right d with
  | false => rfl
  | true =>
    simp only [right, Bool.and_eq_true, decide_eq_true_eq] at e
    exact absurd ⟨e.1.1.1, e.1.1.2, e.1.2, e.2⟩ h
theorem getD_mem {α : Type} {l : List α} {i : Nat} {x : α} (h : i < l.length) : l.getD i x ∈ l := by
  rw [List.getD_eq_getElem?_getD, List.getElem?_eq_getElem h]
  exact List.getElem_mem h
theorem right_ok (d : Dk) (hl : d.loose.length ≤ 1000000) : Spec Tryd.prog (fun _ => True) 35 [eDk d] (.b (right d)) := by
  refine spec_of (C := ⟨Tryd.prog, fun _ => True, E0, []⟩) (rl := [.b (right d)]) (rs := [.tmp 2]) (by kernel_rfl) (fun _ _ _ _ => trivial) Tryd.func35 rfl (by kernel_rfl) rfl (by kernel_rfl) (Nat.le_of_ble_eq_true rfl) (fun i => rfl) (fun i => rfl) rfl (by decide) ?_
  refine go ?_
  refine gsp_f (fun h1 => ?_) (fun h1 => ?_)
  · refine go ?_
    refine cnd_d (fun h2 => ?_) (fun h2 => ?_)
    · refine go ?_
      exact (right_no fun hr => by omega).symm
    · refine go ?_
      refine lp_hd [1, 3, 18, 19] [1] (fun i : Nat => [(20, .n .i64 (i : Int))]) (fun _ => []) (fun i => i ≤ d.safe.length ∧ ∀ j, j < i → (d.safe.getD j []).length = 256) (fun i => d.safe.length - i) 0 id id ⟨Nat.zero_le _, fun j h => by omega⟩ (fits_of (go ?_) (go ?_) (go ?_) (go ?_) (go ?_)) ?_
      · trivial
      · rfl
      · trivial
      · trivial
      · trivial
      rintro i ⟨hi, hf⟩
      refine go ?_
      refine cnd_d (fun h => ?_) (fun h => ?_)
      · refine go ?_
        refine ⟨⟨by omega, by omega⟩, .inl ⟨[.s (d.safe.getD i [])], _, .inl ⟨fun i => rfl, leL_refl _⟩, full_ok _, ?_⟩⟩
        refine go ?_
        refine cnd_n (fun h3 => ?_) (fun h3 => ?_)
        · refine go ?_
          refine (right_no fun hr => h3 ?_).symm
          have := List.all_eq_true.1 hr.2.2.1 (d.safe.getD i []) (getD_mem (by omega))
          simpa using this
        · refine go ?_
          refine ⟨i + 1, ⟨by omega, fun j hj => ?_⟩, by omega, fits_of (go ?_) (go ?_) (go ?_) (go ?_) (go ?_)⟩
          · rcases Nat.lt_or_ge j i with h4 | h4
            · exact hf j h4
            · rw [show j = i by omega]; exact h3
          · trivial
          · rw [wr64 (by omega) (by omega)]; rfl
          · trivial
          · trivial
          · trivial
      · refine go ?_
        refine lp_hd [1, 3, 29, 30] [1] (fun i : Nat => [(31, .n .i64 (i : Int))]) (fun _ => []) (fun i => i ≤ d.loose.length ∧ ∀ j, j < i → okW d.safe.length (d.loose.getD j ⟨0, []⟩) = true) (fun i => d.loose.length - i) 0 id id ⟨Nat.zero_le _, fun j h => by omega⟩ (fits_of (go ?_) (go ?_) (go ?_) (go ?_) (go ?_)) ?_
        · trivial
        · rfl
        · trivial
        · trivial
        · trivial
        rintro k ⟨hk, hg⟩
        refine go ?_
        have hok : d.loose.all (okW d.safe.length) = true → (hk : k < d.loose.length) → okW d.safe.length (d.loose.getD k ⟨0, []⟩) = true := fun h hk => List.all_eq_true.1 h _ (getD_mem hk)
        refine cnd_d (fun h3 => ?_) (fun h3 => ?_)
        · refine go ?_
          refine ⟨⟨by omega, by omega⟩, ?_⟩
          refine gsp_f (fun h4 => ?_) (fun h4 => ?_)
          · refine go ?_
            refine gsp_f (fun h5 => ?_) (fun h5 => ?_)
            · refine go ?_
              refine .inl ⟨[.s (d.loose.getD k ⟨0, []⟩).data], _, .inl ⟨fun i => rfl, leL_refl _⟩, full_ok _, ?_⟩
              refine go ?_
              refine cnd_n (fun h6 => ?_) (fun h6 => ?_)
              · refine go ?_
                exact (right_no fun hr => h6 (by have := hok hr.2.2.2 (by omega); simp only [okW, Bool.and_eq_true, decide_eq_true_eq] at this; exact this.2)).symm
              · refine go ?_
                refine ⟨k + 1, ⟨by omega, fun j hj => ?_⟩, by omega, fits_of (go ?_) (go ?_) (go ?_) (go ?_) (go ?_)⟩
                · rcases Nat.lt_or_ge j k with h7 | h7
                  · exact hg j h7
                  · rw [show j = k by omega]
                    simp only [okW, Bool.and_eq_true, decide_eq_true_eq]
                    exact ⟨⟨by omega, by omega⟩, h6⟩
                · trivial
                · rw [wr64 (by omega) (by omega)]; rfl
                · trivial
                · trivial
                · trivial
            · refine go ?_
              exact (right_no fun hr => by have := hok hr.2.2.2 (by omega); simp only [okW, Bool.and_eq_true, decide_eq_true_eq] at this; omega).symm
          · refine go ?_
            exact (right_no fun hr => by have := hok hr.2.2.2 (by omega); simp only [okW, Bool.and_eq_true, decide_eq_true_eq] at this; omega).symm
        · refine go ?_
          have e1 : ∀ x ∈ d.safe, x.length = 256 := fun x hx => by
            obtain ⟨j, hj, rfl⟩ := List.getElem_of_mem hx
            have := hf j (by omega)
            rwa [List.getD_eq_getElem?_getD, List.getElem?_eq_getElem hj] at this
          have e2 : ∀ x ∈ d.loose, okW d.safe.length x = true := fun x hx => by
            obtain ⟨j, hj, rfl⟩ := List.getElem_of_mem hx
            have := hg j (by omega)
            rwa [List.getD_eq_getElem?_getD, List.getElem?_eq_getElem hj] at this
          simp only [right, Bool.and_eq_true, decide_eq_true_eq, List.all_eq_true, eq_comm (a := true)]
          exact ⟨⟨⟨by omega, by omega⟩, e1⟩, e2⟩
  · refine go ?_
    exact (right_no fun hr => by omega).symm
end Go.Proofs.YtnmaaijeamlplaaDoor.Ev
namespace Go.Proofs.YtnmaaijeamlplaaDoor.Ev
open Go.RowKit
open Go.Proofs.YtnmaaijeamlplaaDoor.Mem
set_option linter.unusedVariables false
set_option linter.unusedSimpArgs false
set_option maxRecDepth 100000
def ready (d : Dk) : Int := if right d = true then if d.down = true then 11 else 0 else 1
theorem cnd_b {x : Bool} {A B : St → Prop} {σ : St} (h1 : x = true → A σ) (h2 : x = false → B σ) : cnd (.b x) A B σ := ⟨h1, h2⟩
theorem ready_ok (d : Dk) (hl : d.loose.length ≤ 1000000) : Spec Tryd.prog (fun _ => True) 59 [eDk d] (.n .i64 (ready d)) := by
  refine spec_of (C := ⟨Tryd.prog, fun _ => True, E0, []⟩) (rl := [.n .i64 (ready d)]) (rs := [.tmp 2]) (by kernel_rfl) (fun _ _ _ _ => trivial) Tryd.func59 rfl (by kernel_rfl) rfl (by kernel_rfl) (Nat.le_of_ble_eq_true rfl) (fun i => rfl) (fun i => rfl) rfl (by decide) ?_
  refine go ?_
  refine .inl ⟨[eDk d], _, .inl ⟨fun i => rfl, leL_refl _⟩, right_ok d hl, ?_⟩
  refine go ?_
  refine cnd_b (fun h => ?_) (fun h => ?_)
  · refine go ?_
    have h : right d = false := by simpa using h
    simp [ready, h]
  · refine go ?_
    have h : right d = true := by simpa using h
    refine cnd_b (fun h2 => ?_) (fun h2 => ?_)
    · refine go ?_
      simp [ready, h, h2]
    · refine go ?_
      simp [ready, h, h2]
theorem ready_small {d : Dk} (h : ¬ ¬ ready d = 0) : d.safe.length ≤ 1000000 := by
  cases e : right d with
  | false => simp [ready, e] at h
  | true =>
    simp only [right, Bool.and_eq_true, decide_eq_true_eq] at e
    omega
def lastAt (l : List Wr) (a : Int) : Nat → Option Nat
  | 0 => none
  | n + 1 => if (l.getD n ⟨0, []⟩).at_ = a then some n else lastAt l a n
def got (d : Dk) (at_ : Int) : List UInt8 := match lastAt d.loose at_ d.loose.length with
  | some j => (d.loose.getD j ⟨0, []⟩).data
  | none => d.safe.getD at_.toNat []
def get (d : Dk) (at_ : Int) : List UInt8 × Int := if ¬ ready d = 0 then ([], ready d) else if at_ < 0 ∨ d.safe.length ≤ at_ then ([], 1) else (got d at_, 0)
theorem get_ok (d : Dk) (hl : d.loose.length ≤ 1000000) (at_ : Int) : Spec Tryd.prog (fun _ => True) 29 [eDk d, .n .i64 at_] (.tp [.s (get d at_).1, .n .i64 (get d at_).2]) := by
  refine spec_of (C := ⟨Tryd.prog, fun _ => True, E0, []⟩) (rl := [.s (get d at_).1, .n .i64 (get d at_).2]) (rs := [.tmp 4, .tmp 5]) (by kernel_rfl) (fun _ _ _ _ => trivial) Tryd.func29 rfl (by kernel_rfl) rfl (by kernel_rfl) (Nat.le_of_ble_eq_true rfl) (fun i => rfl) (fun i => rfl) rfl (by decide) ?_
  refine go ?_
  refine .inl ⟨[eDk d], _, .inl ⟨fun i => rfl, leL_refl _⟩, ready_ok d hl, ?_⟩
  refine go ?_
  refine cnd_d (fun h1 => ?_) (fun h1 => ?_)
  · have e : get d at_ = ([], ready d) := if_pos h1
    refine go ?_
    rw [e]; exact ⟨rfl, rfl⟩
  · refine go ?_
    have bad : at_ < 0 ∨ d.safe.length ≤ at_ → get d at_ = ([], 1) := fun h => (if_neg h1).trans (if_pos h)
    refine gsp_f (fun h2 => ?_) (fun h2 => ?_)
    · refine go ?_
      refine cnd_d (fun h3 => ?_) (fun h3 => ?_)
      · refine go ?_
        rw [bad (.inr h3)]; exact ⟨rfl, rfl⟩
      · refine go ?_
        have e : get d at_ = (got d at_, 0) := (if_neg h1).trans (if_neg (fun h => by omega))
        rw [e, wr64 (by omega) (by omega)]
        refine lp_hd [0, 1, 2] [2] (fun n : Nat => [(7, .n .i64 ((n : Int) - 1))]) (fun _ => []) (fun n => n ≤ d.loose.length ∧ lastAt d.loose at_ d.loose.length = lastAt d.loose at_ n) (fun n => n) d.loose.length id id ⟨Nat.le_refl _, rfl⟩ (fits_of (go ?_) (go ?_) (go ?_) (go ?_) (go ?_)) ?_
        · trivial
        · trivial
        · trivial
        · trivial
        · trivial
        rintro n ⟨hn, hg⟩
        refine go ?_
        refine cnd_d (fun h4 => ?_) (fun h4 => ?_)
        · obtain ⟨n, rfl⟩ : ∃ k, n = k + 1 := ⟨n - 1, by omega⟩
          rw [show (((n + 1 : Nat) : Int) - 1) = (n : Int) by omega]
          refine go ?_
          refine ⟨⟨by omega, by omega⟩, cnd_d (fun h5 => ?_) (fun h5 => ?_)⟩
          · refine go ?_
            refine ⟨⟨by omega, by omega⟩, ?_⟩
            have e2 : got d at_ = (d.loose.getD n ⟨0, []⟩).data := by unfold got; rw [hg]; simp only [lastAt]; rw [if_pos h5]
            rw [e2]
          · refine go ?_
            refine ⟨n, ⟨by omega, by rw [hg]; simp only [lastAt]; rw [if_neg h5]⟩, by omega, fits_of (go ?_) (go ?_) (go ?_) (go ?_) (go ?_)⟩
            · trivial
            · rw [wr64 (by omega) (by omega)]
            · trivial
            · trivial
            · trivial
        · refine go ?_
          obtain rfl : n = 0 := by omega
          have e2 : got d at_ = d.safe.getD at_.toNat [] := by unfold got; rw [hg]; rfl
          rw [e2]
          exact ⟨⟨by omega, by omega⟩, rfl⟩
    · refine go ?_
      rw [bad (.inl h2)]; exact ⟨rfl, rfl⟩
def put (d : Dk) (at_ : Int) (x : List UInt8) : Dk × Int := if ¬ ready d = 0 then (d, ready d) else if at_ < 0 ∨ d.safe.length ≤ at_ ∨ ¬ x.length = 256 then (d, 1) else if ¬ (burn d).2 = 0 then burn d else ({ (burn d).1 with loose := (burn d).1.loose ++ [⟨at_, x⟩] }, 0)
/-- What stays of a disk. -/
theorem burn_rows (d : Dk) : (burn d).1.safe = d.safe ∧ (burn d).1.loose = d.loose := by
  unfold burn
  split
  · exact ⟨rfl, rfl⟩
  · split <;> exact ⟨rfl, rfl⟩
theorem put_ok (d : Dk) (hl : d.loose.length ≤ 1000000) (hfu : d.fuse < 9223372036854775808) (at_ : Int) (x : List UInt8) : Spec Tryd.prog (fun _ => True) 72 [eDk d, .n .i64 at_, .s x] (.tp [eDk (put d at_ x).1, .n .i64 (put d at_ x).2]) := by
  refine spec_of (C := ⟨Tryd.prog, fun _ => True, E0, []⟩) (rl := [eDk (put d at_ x).1, .n .i64 (put d at_ x).2]) (rs := [.cell 6 25, .tmp 7]) (by kernel_rfl) (fun _ _ _ _ => trivial) Tryd.func72 rfl (by kernel_rfl) rfl (by kernel_rfl) (Nat.le_of_ble_eq_true rfl) (fun i => rfl) (fun i => rfl) rfl (by decide) ?_
  refine go ?_
  refine .inl ⟨[eDk d], _, .inl ⟨fun i => rfl, leL_refl _⟩, ready_ok d hl, ?_⟩
  refine go ?_
  refine cnd_d (fun h1 => ?_) (fun h1 => ?_)
  · have e : put d at_ x = (d, ready d) := if_pos h1
    refine go ?_
    rw [e]; exact ⟨le_refl _, rfl⟩
  · refine go ?_
    have bad : at_ < 0 ∨ d.safe.length ≤ at_ ∨ ¬ x.length = 256 → put d at_ x = (d, 1) := fun h => (if_neg h1).trans (if_pos h)
    refine gsp_f (fun h2 => ?_) (fun h2 => ?_)
    · refine go ?_
      refine gsp_f (fun h3 => ?_) (fun h3 => ?_)
      · refine go ?_
        refine .inl ⟨[.s x], _, .inl ⟨fun i => rfl, leL_refl _⟩, full_ok _, ?_⟩
        refine go ?_
        refine cnd_n (fun h4 => ?_) (fun h4 => ?_)
        · refine go ?_
          rw [bad (.inr (.inr h4))]; exact ⟨le_refl _, rfl⟩
        · refine go ?_
          obtain ⟨b1, b2⟩ := burn_rows d
          refine .inr <| .inl ⟨[eDk d], .tp [oDk (burn d).1, .n .i64 (burn d).2], [rS d.safe, rW d.loose], [32, 132], .inl ⟨fun i => rfl, leL_refl _⟩, burn_ok d hfu (copied_ok d hl (ready_small h1)), ⟨rfl, by decide, fun i h => by simp at h; rcases h with rfl | rfl <;> rfl⟩, ?_⟩
          refine go ?_

          refine cnd_d (fun h5 => ?_) (fun h5 => ?_)
          · refine go ?_
            have e : put d at_ x = burn d := (if_neg h1).trans ((if_neg (fun h => by omega)).trans (if_pos h5))
            rw [e, b1, b2, if_pos rfl, if_pos rfl]
            exact ⟨le_refl _, rfl⟩
          · refine go ?_
            have e : put d at_ x = ({ (burn d).1 with loose := (burn d).1.loose ++ [⟨at_, x⟩] }, 0) := (if_neg h1).trans ((if_neg (fun h => by omega)).trans (if_neg h5))
            refine ⟨rfl, .inl (lto (go ?_))⟩
            refine ⟨by omega, okWr ⟨at_, x⟩, by omega, ⟨by rw [b2], by omega⟩, fun v _ => okWr v, ?_, by rw [e]⟩
            rw [e, if_pos (by rw [b1]), if_pos (by simp)]
            dsimp only
            rw [b1, b2]
            exact le_refl _
      · refine go ?_
        rw [bad (.inr (.inl h3))]; exact ⟨le_refl _, rfl⟩
    · refine go ?_
      rw [bad (.inl h2)]; exact ⟨le_refl _, rfl⟩
end Go.Proofs.YtnmaaijeamlplaaDoor.Ev
namespace Go.Proofs.YtnmaaijeamlplaaDoor.Ev
open Go.RowKit
open Go.Proofs.YtnmaaijeamlplaaDoor.Mem
set_option linter.unusedVariables false
set_option linter.unusedSimpArgs false
set_option maxRecDepth 100000
def laid (s : List (List UInt8)) (l : List Wr) : List (List UInt8) := l.foldl (fun s w => s.set w.at_.toNat w.data) s
theorem laid_len (l : List Wr) : ∀ s, (laid s l).length = s.length := by
  induction l with
  | nil => intro s; rfl
  | cons w l ih => intro s; exact (ih _).trans (List.length_set)
theorem laid_take (s : List (List UInt8)) (l : List Wr) (k : Nat) (h : k < l.length) : laid s (l.take (k + 1)) = (laid s (l.take k)).set (l.getD k ⟨0, []⟩).at_.toNat (l.getD k ⟨0, []⟩).data := by
  unfold laid
  rw [List.take_succ_eq_append_getElem h, List.foldl_append, List.getD_eq_getElem?_getD, List.getElem?_eq_getElem h]
  rfl
def flush (d : Dk) : Dk × Int := if ¬ ready d = 0 then (d, ready d) else if ¬ (burn d).2 = 0 then burn d else ({ (burn d).1 with safe := laid (burn d).1.safe (burn d).1.loose, loose := [] }, 0)
theorem flush_ok (d : Dk) (hl : d.loose.length ≤ 1000000) (hfu : d.fuse < 9223372036854775808) : Spec Tryd.prog (fun _ => True) 67 [eDk d] (.tp [eDk (flush d).1, .n .i64 (flush d).2]) := by
  refine spec_of (C := ⟨Tryd.prog, fun _ => True, E0, []⟩) (rl := [eDk (flush d).1, .n .i64 (flush d).2]) (rs := [.cell 2 25, .tmp 3]) (by kernel_rfl) (fun _ _ _ _ => trivial) Tryd.func67 rfl (by kernel_rfl) rfl (by kernel_rfl) (Nat.le_of_ble_eq_true rfl) (fun i => rfl) (fun i => rfl) rfl (by decide) ?_
  refine go ?_
  refine .inl ⟨[eDk d], _, .inl ⟨fun i => rfl, leL_refl _⟩, ready_ok d hl, ?_⟩
  refine go ?_
  refine cnd_d (fun h1 => ?_) (fun h1 => ?_)
  · have e : flush d = (d, ready d) := if_pos h1
    refine go ?_
    rw [e]; exact ⟨le_refl _, rfl⟩
  · refine go ?_
    obtain ⟨b1, b2⟩ := burn_rows d
    refine .inr <| .inl ⟨[eDk d], .tp [oDk (burn d).1, .n .i64 (burn d).2], [rS d.safe, rW d.loose], [15, 115], .inl ⟨fun i => rfl, leL_refl _⟩, burn_ok d hfu (copied_ok d hl (ready_small h1)), ⟨rfl, by decide, fun i h => by simp at h; rcases h with rfl | rfl <;> rfl⟩, ?_⟩
    refine go ?_
    refine cnd_d (fun h5 => ?_) (fun h5 => ?_)
    · refine go ?_
      have e : flush d = burn d := (if_neg h1).trans (if_pos h5)
      rw [e, b1, b2, if_pos rfl, if_pos rfl]
      exact ⟨le_refl _, rfl⟩
    · refine go ?_
      have e : flush d = ({ (burn d).1 with safe := laid (burn d).1.safe (burn d).1.loose, loose := [] }, 0) := (if_neg h1).trans (if_neg h5)
      have hr : right d = true := by
        cases h : right d with
        | true => rfl
        | false => simp [ready, h] at h1
      rw [b1, b2]
      refine lp_hd [2, 3, 23, 24] [2, 115] (fun k : Nat => [(1, .p 1 0), (25, .n .i64 (k : Int))]) (fun k => [(1, .cells 25 [.ow 15 d.safe.length, .ow 115 d.loose.length, .n .i64 (burn d).1.fuse, .b (burn d).1.down]), (15, rS (laid d.safe (d.loose.take k)))]) (fun k => k ≤ d.loose.length) (fun k => d.loose.length - k) 0 id id (Nat.zero_le _) (fits_of (go ?_) (go ?_) (go ?_) (go ?_) (go ?_)) ?_
      · trivial
      · trivial
      · trivial
      · rfl
      · trivial
      rintro k hk
      refine go ?_
      refine cnd_d (fun h6 => ?_) (fun h6 => ?_)
      · refine go ?_
        have hw : okW d.safe.length (d.loose.getD k ⟨0, []⟩) = true := by
          simp only [right, Bool.and_eq_true] at hr
          exact List.all_eq_true.1 hr.2 _ (getD_mem (by omega))
        simp only [okW, Bool.and_eq_true, decide_eq_true_eq] at hw
        have hll := laid_len (d.loose.take k) d.safe
        refine ⟨⟨by omega, by omega⟩, by omega, ⟨by omega, by omega, by omega⟩, ⟨by omega, okS _⟩, k + 1, by omega, by omega, fits_of (go ?_) (go ?_) (go ?_) (go ?_) (go ?_)⟩
        · trivial
        · rw [wr64 (by omega) (by omega)]; rfl
        · trivial
        · rw [laid_take _ _ _ (by omega)]; rfl
        · trivial
      · refine go ?_
        obtain rfl : k = d.loose.length := by omega
        rw [List.take_length, if_pos (laid_len _ _).symm, e]
        dsimp only
        rw [b1, b2]
        exact ⟨⟨.inl rfl, .inr ⟨rfl, _, _, _, _, rfl⟩, .inl rfl, .inl rfl, trivial⟩, rfl⟩
end Go.Proofs.YtnmaaijeamlplaaDoor.Ev
namespace Go.Proofs.YtnmaaijeamlplaaDoor.Ev
open Go.RowKit
open Go.Proofs.YtnmaaijeamlplaaDoor.Mem
set_option linter.unusedVariables false
set_option linter.unusedSimpArgs false
set_option maxRecDepth 100000
def Small (d : Dk) : Prop := d.fuse < 9223372036854775808
theorem burn_small {d : Dk} (h : Small d) : Small (burn d).1 := by
  unfold Small at *
  unfold burn
  split
  · exact h
  · split
    · dsimp only; omega
    · exact h
theorem put_small {d : Dk} (h : Small d) (a : Int) (x : List UInt8) : Small (put d a x).1 ∧ (put d a x).1.loose.length ≤ d.loose.length + 1 := by
  have h1 := burn_small h
  obtain ⟨b1, b2⟩ := burn_rows d
  unfold put
  split
  · exact ⟨h, by dsimp only; omega⟩
  · split
    · exact ⟨h, by dsimp only; omega⟩
    · split
      · exact ⟨h1, by rw [b2]; omega⟩
      · exact ⟨h1, by simp [b2]⟩
def putAll (a : Int) : Dk → Nat → List (List UInt8) → Dk × Int
  | d, _, [] => (d, 0)
  | d, i, x :: l => if ¬ (put d (IntKind.wrap .i64 (a + i)) x).2 = 0 then put d (IntKind.wrap .i64 (a + i)) x else putAll a (put d (IntKind.wrap .i64 (a + i)) x).1 (i + 1) l
theorem putAll_ok (d : Dk) (a : Int) (l : List (List UInt8)) (hl : d.loose.length + l.length ≤ 1000000) (hfu : Small d) : Spec Tryd.prog (fun _ => True) 66 [eDk d, .n .i64 a, .sl 1 (List UInt8) [] l .s] (.tp [eDk (putAll a d 0 l).1, .n .i64 (putAll a d 0 l).2]) := by
  refine spec_of (C := ⟨Tryd.prog, fun _ => True, E0, []⟩) (rl := [eDk (putAll a d 0 l).1, .n .i64 (putAll a d 0 l).2]) (rs := [.cell 6 25, .tmp 7]) (by kernel_rfl) (fun _ _ _ _ => trivial) Tryd.func66 rfl (by kernel_rfl) rfl (by kernel_rfl) (Nat.le_of_ble_eq_true rfl) (fun i => rfl) (fun i => rfl) rfl (by decide) ?_
  refine go ?_
  refine lp_hd [1, 6, 7, 12, 13] [6] (fun x : Nat × Dk => [(3, .p 3 0), (14, .n .i64 (x.1 : Int))]) (fun x => [(3, .cells 25 [.sl 1 _ [] x.2.safe .s, .sl 2 _ ⟨0, []⟩ x.2.loose eWr, .n .i64 x.2.fuse, .b x.2.down])])
    (fun x => x.1 ≤ l.length ∧ putAll a d 0 l = putAll a x.2 x.1 (l.drop x.1) ∧ x.2.loose.length ≤ d.loose.length + x.1 ∧ Small x.2) (fun x => l.length - x.1) (0, d) id id ⟨Nat.zero_le _, rfl, Nat.le_refl _, hfu⟩ (fits_of (go ?_) (go ?_) (go ?_) (go ?_) (go ?_)) ?_
  · trivial
  · trivial
  · trivial
  · trivial
  · trivial
  rintro ⟨k, c⟩ ⟨hk, hg, hc1, hc2⟩
  dsimp only at hk hg hc1 hc2 ⊢
  refine go ?_
  refine cnd_d (fun h => ?_) (fun h => ?_)
  · refine go ?_
    have hd : l.drop k = l.getD k [] :: l.drop (k + 1) := by
      rw [List.drop_eq_getElem_cons (by omega), List.getD_eq_getElem?_getD, List.getElem?_eq_getElem (by omega)]; rfl
    refine ⟨⟨by omega, by omega⟩, .inl ⟨[eDk c, .n .i64 (IntKind.wrap .i64 (a + k)), .s (l.getD k [])], _, .inl ⟨fun i => rfl, leL_refl _⟩, put_ok c (by omega) hc2 _ _, ?_⟩⟩
    refine go ?_
    refine cnd_d (fun h2 => ?_) (fun h2 => ?_)
    · refine go ?_
      rw [hg, hd, show putAll a c k (l.getD k [] :: l.drop (k + 1)) = put c (IntKind.wrap .i64 (a + k)) (l.getD k []) from if_pos h2]
      exact ⟨le_refl _, rfl⟩
    · refine go ?_
      obtain ⟨s1, s2⟩ := put_small hc2 (IntKind.wrap .i64 (a + k)) (l.getD k [])
      refine ⟨(k + 1, (put c (IntKind.wrap .i64 (a + k)) (l.getD k [])).1), ⟨by dsimp only; omega, ?_, by dsimp only; omega, s1⟩, by dsimp only; omega, fits_of (go ?_) (go ?_) (go ?_) (go ?_) (go ?_)⟩
      · rw [hg, hd]
        exact if_neg h2
      · trivial
      · rw [wr64 (by omega) (by omega)]; rfl
      · trivial
      · trivial
      · trivial
  · refine go ?_
    rw [hg, List.drop_eq_nil_of_le (by omega)]
    exact ⟨le_refl _, rfl⟩
theorem putAll_small (a : Int) : ∀ (l : List (List UInt8)) (d : Dk) (i : Nat), Small d → Small (putAll a d i l).1 ∧ (putAll a d i l).1.loose.length ≤ d.loose.length + l.length
  | [], d, i, h => ⟨h, Nat.le_refl _⟩
  | x :: l, d, i, h => by
    obtain ⟨s1, s2⟩ := put_small h (IntKind.wrap .i64 (a + i)) x
    unfold putAll
    split
    · exact ⟨s1, by simp only [List.length_cons]; omega⟩
    · obtain ⟨t1, t2⟩ := putAll_small a l _ (i + 1) s1
      exact ⟨t1, by simp only [List.length_cons]; omega⟩
def putFl (d : Dk) (a : Int) (l : List (List UInt8)) : Dk × Int := if ¬ (putAll a d 0 l).2 = 0 then putAll a d 0 l else flush (putAll a d 0 l).1
theorem putFl_ok (d : Dk) (a : Int) (l : List (List UInt8)) (hl : d.loose.length + l.length ≤ 1000000) (hfu : Small d) : Spec Tryd.prog (fun _ => True) 41 [eDk d, .n .i64 a, .sl 1 (List UInt8) [] l .s] (.tp [eDk (putFl d a l).1, .n .i64 (putFl d a l).2]) := by
  refine spec_of (C := ⟨Tryd.prog, fun _ => True, E0, []⟩) (rl := [eDk (putFl d a l).1, .n .i64 (putFl d a l).2]) (rs := [.cell 6 25, .tmp 7]) (by kernel_rfl) (fun _ _ _ _ => trivial) Tryd.func41 rfl (by kernel_rfl) rfl (by kernel_rfl) (Nat.le_of_ble_eq_true rfl) (fun i => rfl) (fun i => rfl) rfl (by decide) ?_
  refine go ?_
  refine .inl ⟨[eDk d, .n .i64 a, .sl 1 (List UInt8) [] l .s], _, .inl ⟨fun i => rfl, leL_refl _⟩, putAll_ok d a l hl hfu, ?_⟩
  refine go ?_
  obtain ⟨s1, s2⟩ := putAll_small a l d 0 hfu
  refine cnd_d (fun h => ?_) (fun h => ?_)
  · refine go ?_
    rw [show putFl d a l = putAll a d 0 l from if_pos h]
    exact ⟨le_refl _, rfl⟩
  · refine go ?_
    refine .inl ⟨[eDk (putAll a d 0 l).1], _, .inl ⟨fun i => rfl, leL_refl _⟩, flush_ok _ (by omega) s1, ?_⟩
    refine go ?_
    rw [show putFl d a l = flush (putAll a d 0 l).1 from if_neg h]
    exact ⟨le_refl _, rfl⟩
theorem log_ok (d : Dk) (hs : d.safe.length ≤ 1000000000) : Spec Tryd.prog (fun _ => True) 13 [eDk d] (.n .i64 ((d.safe.length / 4 : Nat) : Int)) := by
  refine spec_of (C := ⟨Tryd.prog, fun _ => True, E0, []⟩) (rl := [.n .i64 ((d.safe.length / 4 : Nat) : Int)]) (rs := [.tmp 2]) (by kernel_rfl) (fun _ _ _ _ => trivial) Tryd.func13 rfl (by kernel_rfl) rfl (by kernel_rfl) (Nat.le_of_ble_eq_true rfl) (fun i => rfl) (fun i => rfl) rfl (by decide) ?_
  refine go ?_
  refine ⟨by omega, ?_⟩
  rw [Int.tdiv_eq_ediv_of_nonneg (by omega), wr64 (by omega) (by omega)]
  omega
theorem all_iff {α : Type} {l : List α} {x : α} {p : α → Bool} (h : ∀ j, j < l.length → p (l.getD j x) = true) : l.all p = true := List.all_eq_true.2 fun y hy => by
  obtain ⟨j, hj, rfl⟩ := List.getElem_of_mem hy
  have := h j hj
  rwa [List.getD_eq_getElem?_getD, List.getElem?_eq_getElem hj] at this
theorem all_no {α : Type} {l : List α} {x : α} {p : α → Bool} (j : Nat) (hj : j < l.length) (h : p (l.getD j x) = false) : l.all p = false := by
  cases e : l.all p with
  | false => rfl
  | true => rw [List.all_eq_true.1 e _ (getD_mem hj)] at h; cases h
theorem sized_ok (l : List Wr) (hl : l.length ≤ 100000000000000) : Spec Tryd.prog (fun _ => True) 45 [.sl 2 Wr ⟨0, []⟩ l eWr] (.b (l.all fun w => decide (w.data.length = 256))) := by
  refine spec_of (C := ⟨Tryd.prog, fun _ => True, E0, []⟩) (rl := [.b (l.all fun w => decide (w.data.length = 256))]) (rs := [.tmp 2]) (by kernel_rfl) (fun _ _ _ _ => trivial) Tryd.func45 rfl (by kernel_rfl) rfl (by kernel_rfl) (Nat.le_of_ble_eq_true rfl) (fun i => rfl) (fun i => rfl) rfl (by decide) ?_
  refine go ?_
  refine lp_hd [5, 6] [] (fun k : Nat => [(7, .n .i64 (k : Int))]) (fun _ => []) (fun k => k ≤ l.length ∧ ∀ j, j < k → (l.getD j ⟨0, []⟩).data.length = 256) (fun k => l.length - k) 0 id id ⟨Nat.zero_le _, fun j h => by omega⟩ (fits_of (go ?_) (go ?_) (go ?_) (go ?_) (go ?_)) ?_
  · trivial
  · trivial
  · trivial
  · trivial
  · trivial
  rintro k ⟨hk, hg⟩
  refine go ?_
  refine cnd_d (fun h => ?_) (fun h => ?_)
  · refine go ?_
    refine ⟨⟨by omega, by omega⟩, cnd_d (fun h2 => ?_) (fun h2 => ?_)⟩
    · refine go ?_
      exact (all_no (x := (⟨0, []⟩ : Wr)) (p := fun w => decide (w.data.length = 256)) k (by omega) (decide_eq_false (by omega))).symm
    · refine go ?_
      refine ⟨k + 1, ⟨by omega, fun j hj => ?_⟩, by omega, fits_of (go ?_) (go ?_) (go ?_) (go ?_) (go ?_)⟩
      · rcases Nat.lt_or_ge j k with h4 | h4
        · exact hg j h4
        · rw [show j = k by omega]; omega
      · trivial
      · rw [wr64 (by omega) (by omega)]; rfl
      · trivial
      · trivial
      · trivial
  · refine go ?_
    exact (all_iff (x := (⟨0, []⟩ : Wr)) (p := fun w => decide (w.data.length = 256)) fun j hj => decide_eq_true (hg j (by omega))).symm
theorem lists_ok (n : Int) (h0 : 0 ≤ n) (h1 : n ≤ 1000000000) : Spec Tryd.prog (fun _ => True) 38 [.n .i64 n] (.n .i64 ((n + 60) / 61)) := by
  refine spec_of (C := ⟨Tryd.prog, fun _ => True, E0, []⟩) (rl := [.n .i64 ((n + 60) / 61)]) (rs := [.tmp 2]) (by kernel_rfl) (fun _ _ _ _ => trivial) Tryd.func38 rfl (by kernel_rfl) rfl (by kernel_rfl) (Nat.le_of_ble_eq_true rfl) (fun i => rfl) (fun i => rfl) rfl (by decide) ?_
  refine go ?_
  rw [wr64 (x := n + 61) (by omega) (by omega), wr64 (x := n + 61 - 1) (by omega) (by omega), Int.tdiv_eq_ediv_of_nonneg (by omega), wr64 (by omega) (by omega)]
  exact ⟨by omega, by omega⟩
theorem rfill_ok (s : List UInt8) (h : s.length ≤ 256) : Spec Tryd.prog (fun _ => True) 40 [.s s] (.s (s ++ Lib.repeatL [0] (256 - s.length))) := by
  refine spec_of (C := ⟨Tryd.prog, fun _ => True, E0, []⟩) (rl := [.s (s ++ Lib.repeatL [0] (256 - s.length))]) (rs := [.tmp 2]) (by kernel_rfl) (fun _ _ _ _ => trivial) Tryd.func40 rfl (by kernel_rfl) rfl (by kernel_rfl) (Nat.le_of_ble_eq_true rfl) (fun i => rfl) (fun i => rfl) rfl (by decide) ?_
  refine go ?_
  rw [wr64 (by omega) (by omega), show (256 : Int) - s.length = ((256 - s.length : Nat) : Int) by omega]
  refine .inl ⟨[.s [0], .n .i64 ((256 - s.length : Nat) : Int)], _, .inl ⟨fun i => rfl, leL_refl _⟩, repeat_ok [0] _ (by omega) (by simp; omega), ?_⟩
  refine go ?_
  rw [Lib.repeatL_length]
  simp
  omega
theorem rfits_ok (d : Dk) (n : Int) (hs : d.safe.length ≤ 1000000000) : Spec Tryd.prog (fun _ => True) 15 [eDk d, .n .i64 n] (.b (decide (0 ≤ n) && (decide (n ≤ d.safe.length) && decide ((n + 60) / 61 + n + 2 ≤ ((d.safe.length / 4 : Nat) : Int))))) := by
  refine spec_of (C := ⟨Tryd.prog, fun _ => True, E0, []⟩) (rl := [.b _]) (rs := [.tmp 4]) (by kernel_rfl) (fun _ _ _ _ => trivial) Tryd.func15 rfl (by kernel_rfl) rfl (by kernel_rfl) (Nat.le_of_ble_eq_true rfl) (fun i => rfl) (fun i => rfl) rfl (by decide) ?_
  refine go ?_
  refine gsp_t (fun h1 => ?_) (fun h1 => ?_)
  · refine go ?_
    refine gsp_t (fun h2 => ?_) (fun h2 => ?_)
    · refine go ?_
      refine ⟨[.n .i64 n], .n .i64 ((n + 60) / 61), .inl ⟨fun i => rfl, leL_refl _⟩, lists_ok n h1 (by omega), ?_⟩
      refine go ?_
      refine ⟨[eDk d], _, .inl ⟨fun i => rfl, leL_refl _⟩, log_ok d hs, ?_⟩
      refine go ?_
      rw [wr64 (x := (n + 60) / 61 + n) (by omega) (by omega), wr64 (by omega) (by omega), decide_eq_true h1, decide_eq_true h2]; rfl
    · refine go ?_
      rw [decide_eq_true h1, decide_eq_false h2]; rfl
  · refine go ?_
    rw [decide_eq_false h1]; rfl
end Go.Proofs.YtnmaaijeamlplaaDoor.Ev
namespace Go.Proofs.YtnmaaijeamlplaaDoor.Ev
open Go.RowKit
open Go.Proofs.YtnmaaijeamlplaaDoor.Mem
set_option linter.unusedVariables false
set_option linter.unusedSimpArgs false
def cB : V → UInt8
  | .n _ x => UInt8.ofNat x.toNat
  | _ => 0
def E1 : Nat → Option Elp := fun t => if t = 5 then some ⟨1, UInt8, 0, eB, cB⟩ else none
theorem e5 : E1 5 = some ⟨1, UInt8, 0, eB, cB⟩ := rfl
theorem eBd (c : UInt8) : eB c = .n .u8 (c.toNat : Int) := rfl
theorem fx2 : sle Tryd.prog 43 = some 5 ∧ sz Tryd.prog 5 = some 1 ∧ bys Tryd.prog 5 = some 1 ∧ zc Tryd.prog 5 = some [.n .u8 0] ∧ ik Tryd.prog 5 = some .u8 ∧ agT Tryd.prog 5 = false ∧ (Tryd.prog.underlying 43).isSome = true ∧ (Tryd.prog.underlying 5).isSome = true :=
  ⟨by kernel_rfl, by kernel_rfl, by kernel_rfl, by kernel_rfl, by kernel_rfl, by kernel_rfl, by kernel_rfl, by kernel_rfl⟩
set_option maxRecDepth 100000
theorem go2 {p q : Prop} (hq : q) (h : p ↔ q := by simp only [ebt, emR, efz, fx2, e5, eBd, ec, eg, eo, eox, es, et1, em, et, ev, fx, dk, ewr, odk, List.drop_nil, e51, e9, Option.some.injEq, Option.isSome_none, Int.reduceToNat, List.replicate_zero, Bool.or_self, rSd, rWd, ez, ef, ebd, et2, Int.toNat_natCast, Option.map_none, Option.map_some, List.all_cons, List.all_nil, Bool.and_self, List.cons_append, List.nil_append, List.append_nil, List.append_assoc, ep, ew, Option.isSome_some, id_eq, Nat.reduceLT, Nat.reduceSub, Bool.false_or, Bool.true_or, Bool.or_true, Bool.true_and, Bool.and_true, reduceCtorEq, Nat.reduceBEq, Bool.true_eq_false, Bool.false_eq_true, false_implies, List.map_cons, List.map_nil, List.take_succ_cons, List.take_zero, List.drop_succ_cons, List.drop_zero, List.length_cons, List.length_nil, Nat.zero_add, Nat.reduceAdd, Nat.reduceLeDiff, Bool.not_true, Bool.not_false, List.getElem?_cons_succ, List.getElem?_cons_zero, Option.bind_some, ne_eq, not_false_eq_true, eh1, eh, en, List.getD_cons_zero, List.getD_cons_succ, Nat.reduceEqDiff, ↓reduceIte, cond_true, cond_false, Bool.or_false, decide_true, decide_false, true_and, and_true, implies_true]; exact Iff.rfl) : p := h.2 hq
theorem okB (v : UInt8) : okE 1 eB cB (.n .u8 (v.toNat : Int)) := ⟨by simp [cB, eB], rfl, rfl, fun _ => rfl⟩
theorem okU (c : Int) : okE 1 eB cB (.n .u8 (IntKind.wrap .u8 c)) := by
  have h : 0 ≤ IntKind.wrap .u8 c ∧ IntKind.wrap .u8 c < 256 := by simp [IntKind.wrap, IntKind.bits, IntKind.signed]; omega
  generalize IntKind.wrap .u8 c = w at h
  obtain ⟨m, rfl⟩ := Int.eq_ofNat_of_zero_le h.1
  refine ⟨?_, rfl, rfl, fun _ => rfl⟩
  simp only [cB, eB, Int.toNat_natCast]
  rw [show (UInt8.ofNat m).toNat = m from (UInt8.toNat_ofNat' (n := m)).trans (Nat.mod_eq_of_lt (by omega))]
/-- The bytes of a number, the last ones first set. -/
def byteOf (n : Int) : UInt8 := UInt8.ofNat (IntKind.wrap .u8 n).toNat
def numL : Nat → Int → List UInt8 → List UInt8
  | 0, _, l => l
  | k + 1, n, l => numL k (n.fdiv 256) (l.set k (byteOf n))
theorem number_ok (n : Int) (k : Nat) (hk : k ≤ 1000) : Spec Tryd.prog (fun _ => True) 60 [.n .i64 n, .n .i64 (k : Int)] (.s (numL k n (List.replicate k 0))) := by
  refine spec_of (C := ⟨Tryd.prog, fun _ => True, E1, []⟩) (rl := [.s (numL k n (List.replicate k 0))]) (rs := [.tmp 4]) (by kernel_rfl) (fun _ _ _ _ => trivial) Tryd.func60 rfl (by kernel_rfl) rfl (by kernel_rfl) (Nat.le_of_ble_eq_true rfl) (fun i => rfl) (fun i => rfl) rfl (by decide) ?_
  refine go2 ?_
  refine ⟨rfl, okB 0, ⟨.inl trivial, by omega, by omega, by omega⟩, ?_⟩
  rw [wr64 (x := (k : Int) - 1) (by omega) (by omega)]
  refine lp_hd [] [] (fun x : Nat × Int × List UInt8 => [(0, .n .i64 x.2.1), (5, .ow 8 k), (6, .n .i64 ((x.1 : Int) - 1))]) (fun x => [(8, .row 5 1 UInt8 0 x.2.2 eB cB)]) (fun x => x.1 ≤ k ∧ x.2.2.length = k ∧ numL k n (List.replicate k 0) = numL x.1 x.2.1 x.2.2) (fun x => x.1) (k, n, List.replicate k 0) id id ⟨Nat.le_refl _, by simp, rfl⟩ (fits_of (go2 ?_) (go2 ?_) (go2 ?_) (go2 ?_) (go2 ?_)) ?_
  · trivial
  · trivial
  · trivial
  · trivial
  · trivial
  rintro ⟨r, c, l⟩ ⟨h1, h2, h3⟩
  dsimp only at h1 h2 h3 ⊢
  refine go2 ?_
  refine cnd_d (fun h => ?_) (fun h => ?_)
  · obtain ⟨r, rfl⟩ : ∃ q, r = q + 1 := ⟨r - 1, by omega⟩
    rw [show (((r + 1 : Nat) : Int) - 1) = (r : Int) by omega]
    refine go2 ?_
    refine ⟨⟨by omega, by omega, by omega⟩, ⟨by omega, okU c⟩, by omega, (r, c.fdiv 256, l.set r (byteOf c)), ⟨by dsimp only; omega, by simp [h2], ?_⟩, by dsimp only; omega, fits_of (go2 ?_) (go2 ?_) (go2 ?_) (go2 ?_) (go2 ?_)⟩
    · rw [h3]; rfl
    · trivial
    · rw [wr64 (x := (r : Int) - 1) (by omega) (by omega)]
      exact ⟨rfl, rfl⟩
    · trivial
    · rfl
    · trivial
  · refine go2 ?_
    rw [if_pos h2.symm]
    refine ⟨l, 5, ⟨rfl, rfl, by kernel_rfl, by kernel_rfl, by kernel_rfl⟩, ?_⟩
    refine go2 ?_
    obtain rfl : r = 0 := by omega
    exact h3.symm
theorem numL_len : ∀ (k : Nat) (n : Int) (l : List UInt8), (numL k n l).length = l.length
  | 0, _, _ => rfl
  | k + 1, n, l => by unfold numL; rw [numL_len k]; simp
def filled (s : List UInt8) : List UInt8 := s ++ Lib.repeatL [0] (256 - s.length)
def begin_ (epoch : Int) : List UInt8 := filled ([72, 76, 79, 71] ++ numL 8 epoch (List.replicate 8 0))
theorem beginning_ok (epoch : Int) : Spec Tryd.prog (fun _ => True) 31 [.n .i64 epoch] (.s (begin_ epoch)) := by
  refine spec_of (C := ⟨Tryd.prog, fun _ => True, E1, []⟩) (rl := [.s (begin_ epoch)]) (rs := [.tmp 2]) (by kernel_rfl) (fun _ _ _ _ => trivial) Tryd.func31 rfl (by kernel_rfl) rfl (by kernel_rfl) (Nat.le_of_ble_eq_true rfl) (fun i => rfl) (fun i => rfl) rfl (by decide) ?_
  refine go2 ?_
  refine .inl ⟨[.n .i64 epoch, .n .i64 ((8 : Nat) : Int)], _, .inl ⟨fun i => rfl, leL_refl _⟩, number_ok epoch 8 (by omega), ?_⟩
  refine go2 ?_
  have hn : (numL 8 epoch (List.replicate 8 0)).length = 8 := by rw [numL_len]; simp
  refine ⟨by omega, .inl ⟨[.s (72 :: 76 :: 79 :: 71 :: numL 8 epoch (List.replicate 8 0))], _, .inl ⟨fun i => rfl, leL_refl _⟩, rfill_ok _ (by simp only [List.length_cons]; omega), ?_⟩⟩
  refine go2 ?_
  rfl
/-- One byte more. -/
def stp (s : List UInt8) (x : Int) (i : Nat) : Int := IntKind.wrap .i64 (BitVec.ofInt 64 (IntKind.wrap .i64 (x * 2 ^ 8)) ||| BitVec.ofInt 64 (IntKind.wrap .i64 (by' s i : Nat))).toNat
def val (s : List UInt8) (n : Nat) : Int := (List.range n).foldl (stp s) 0
theorem val_succ (s : List UInt8) (n : Nat) : val s (n + 1) = stp s (val s n) n := by
  unfold val
  rw [List.range_succ, List.foldl_append]
  rfl
theorem value_ok (s : List UInt8) (hs : s.length ≤ 1000000) : Spec Tryd.prog (fun _ => True) 30 [.s s] (.n .i64 (val s s.length)) := by
  refine spec_of (C := ⟨Tryd.prog, fun _ => True, E1, []⟩) (rl := [.n .i64 (val s s.length)]) (rs := [.tmp 2]) (by kernel_rfl) (fun _ _ _ _ => trivial) Tryd.func30 rfl (by kernel_rfl) rfl (by kernel_rfl) (Nat.le_of_ble_eq_true rfl) (fun i => rfl) (fun i => rfl) rfl (by decide) ?_
  refine go2 ?_
  refine lp_hd [0] [] (fun x : Nat × Int => [(3, .n .i64 x.2), (4, .n .i64 (x.1 : Int))]) (fun _ => []) (fun x => x.1 ≤ s.length ∧ x.2 = val s x.1) (fun x => s.length - x.1) (0, 0) id id ⟨Nat.zero_le _, rfl⟩ (fits_of (go2 ?_) (go2 ?_) (go2 ?_) (go2 ?_) (go2 ?_)) ?_
  · trivial
  · trivial
  · trivial
  · trivial
  · trivial
  rintro ⟨i, x⟩ ⟨h1, h2⟩
  dsimp only at h1 h2 ⊢
  refine go2 ?_
  refine cnd_d (fun h => ?_) (fun h => ?_)
  · refine go2 ?_
    refine ⟨by omega, ⟨by omega, by omega⟩, (i + 1, stp s x i), ⟨by dsimp only; omega, by dsimp only; rw [val_succ, h2]⟩, by dsimp only; omega, fits_of (go2 ?_) (go2 ?_) (go2 ?_) (go2 ?_) (go2 ?_)⟩
    · trivial
    · rw [wr64 (x := (i : Int) + 1) (by omega) (by omega)]
      exact ⟨rfl, rfl⟩
    · trivial
    · trivial
    · trivial
  · refine go2 ?_
    rw [h2, show i = s.length by omega]
end Go.Proofs.YtnmaaijeamlplaaDoor.Ev
namespace Go.Proofs.YtnmaaijeamlplaaDoor.Ev
open Go.RowKit
open Go.Proofs.YtnmaaijeamlplaaDoor.Mem
set_option linter.unusedVariables false
set_option linter.unusedSimpArgs false
set_option maxRecDepth 100000
theorem lastAt_lt (l : List Wr) (a : Int) : ∀ n j, lastAt l a n = some j → j < n
  | 0, j, h => by cases h
  | n + 1, j, h => by
    unfold lastAt at h
    split at h
    · cases h; omega
    · have := lastAt_lt l a n j h; omega
theorem get_len {d : Dk} {a : Int} (h : (get d a).2 = 0) : (get d a).1.length = 256 := by
  unfold get at h ⊢
  split
  · rename_i h1; rw [if_pos h1] at h; exact absurd h h1
  · rename_i h1
    rw [if_neg h1] at h
    split
    · rename_i h2; rw [if_pos h2] at h; cases h
    · rename_i h2
      have hr : right d = true := by
        cases e : right d with
        | true => rfl
        | false => simp [ready, e] at h1
      simp only [right, Bool.and_eq_true, decide_eq_true_eq] at hr
      dsimp only
      unfold got
      split
      · rename_i j hj
        have := lastAt_lt _ _ _ _ hj
        have := List.all_eq_true.1 hr.2 _ (getD_mem (x := ⟨0, []⟩) this)
        simp only [okW, Bool.and_eq_true, decide_eq_true_eq] at this
        exact this.2
      · have := List.all_eq_true.1 hr.1.2 _ (getD_mem (x := []) (show a.toNat < d.safe.length by omega))
        simpa using this
def epoch (d : Dk) : Int × Bool := if (get d 0).2 = 0 ∧ (get d 0).1.take 4 = [72, 76, 79, 71] then (val (((get d 0).1.take 12).drop 4) 8, decide (1 ≤ val (((get d 0).1.take 12).drop 4) 8) && decide ((get d 0).1 = begin_ (val (((get d 0).1.take 12).drop 4) 8))) else (0, false)
theorem epoch_ok (d : Dk) (hl : d.loose.length ≤ 1000000) : Spec Tryd.prog (fun _ => True) 8 [eDk d] (.tp [.n .i64 (epoch d).1, .b (epoch d).2]) := by
  refine spec_of (C := ⟨Tryd.prog, fun _ => True, E1, []⟩) (rl := [.n .i64 (epoch d).1, .b (epoch d).2]) (rs := [.tmp 2, .tmp 3]) (by kernel_rfl) (fun _ _ _ _ => trivial) Tryd.func8 rfl (by kernel_rfl) rfl (by kernel_rfl) (Nat.le_of_ble_eq_true rfl) (fun i => rfl) (fun i => rfl) rfl (by decide) ?_
  refine go2 ?_
  refine .inl ⟨[eDk d, .n .i64 0], _, .inl ⟨fun i => rfl, leL_refl _⟩, get_ok d hl 0, ?_⟩
  refine go2 ?_
  refine gsp_f (fun h1 => ?_) (fun h1 => ?_)
  · have h1 : (get d 0).2 = 0 := by simpa using h1
    have hlen := get_len h1
    refine go2 ?_
    refine ⟨by omega, ?_⟩
    refine cnd_d (fun h2 => ?_) (fun h2 => ?_)
    · refine go2 ?_
      have e : epoch d = (0, false) := if_neg (fun h => h2 h.2)
      rw [e]
      exact ⟨rfl, rfl⟩
    · have h2 : (get d 0).1.take 4 = [72, 76, 79, 71] := by simpa using h2
      refine go2 ?_
      refine ⟨by omega, .inl ⟨[.s (((get d 0).1.take 12).drop 4)], _, .inl ⟨fun i => rfl, leL_refl _⟩, value_ok _ (by simp; omega), ?_⟩⟩
      have h8 : (((get d 0).1.take 12).drop 4).length = 8 := by simp; omega
      have e : epoch d = (val (((get d 0).1.take 12).drop 4) 8, decide (1 ≤ val (((get d 0).1.take 12).drop 4) 8) && decide ((get d 0).1 = begin_ (val (((get d 0).1.take 12).drop 4) 8))) := if_pos ⟨h1, h2⟩
      rw [h8]
      refine go2 ?_
      refine gsp_t (fun h3 => ?_) (fun h3 => ?_)
      · refine go2 ?_
        refine .inl ⟨[.n .i64 (val (((get d 0).1.take 12).drop 4) 8)], _, .inl ⟨fun i => rfl, leL_refl _⟩, beginning_ok _, ?_⟩
        refine go2 ?_
        rw [e, decide_eq_true h3]
        exact ⟨rfl, rfl⟩
      · refine go2 ?_
        rw [e, decide_eq_false h3]
        exact ⟨rfl, rfl⟩
  · refine go2 ?_
    have e : epoch d = (0, false) := if_neg (fun h => h1 h.1)
    rw [e]
    exact ⟨rfl, rfl⟩
def current (d : Dk) : Int × Int := if d.down = true then (0, 11) else if (epoch d).2 = true ∧ (epoch d).1 < 4611686018427387904 then ((epoch d).1, 0) else (0, 20)
theorem gsp_nf {x : Bool} {g : Nat} {A B : St → Prop} {σ : St} (h1 : x = true → A (σ.put g (.b false))) (h2 : x = false → B (σ.put g (.b true))) : gsp (.b (!x)) g false A B σ := ⟨fun h => h1 (by simpa using h), fun h => h2 (by simpa using h)⟩
theorem current_ok (d : Dk) (hl : d.loose.length ≤ 1000000) : Spec Tryd.prog (fun _ => True) 46 [eDk d] (.tp [.n .i64 (current d).1, .n .i64 (current d).2]) := by
  refine spec_of (C := ⟨Tryd.prog, fun _ => True, E1, []⟩) (rl := [.n .i64 (current d).1, .n .i64 (current d).2]) (rs := [.tmp 2, .tmp 3]) (by kernel_rfl) (fun _ _ _ _ => trivial) Tryd.func46 rfl (by kernel_rfl) rfl (by kernel_rfl) (Nat.le_of_ble_eq_true rfl) (fun i => rfl) (fun i => rfl) rfl (by decide) ?_
  refine go2 ?_
  refine cnd_b (fun h1 => ?_) (fun h1 => ?_)
  · refine go2 ?_
    rw [show current d = (0, 11) from if_pos h1]
    exact ⟨rfl, rfl⟩
  · refine go2 ?_
    have n1 : ¬ d.down = true := by rw [h1]; simp
    refine .inl ⟨[eDk d], _, .inl ⟨fun i => rfl, leL_refl _⟩, epoch_ok d hl, ?_⟩
    refine go2 ?_
    refine gsp_nf (fun h2 => ?_) (fun h2 => ?_)
    · refine go2 ?_
      refine cnd_d (fun h3 => ?_) (fun h3 => ?_)
      · refine go2 ?_
        rw [show current d = (0, 20) from (if_neg n1).trans (if_neg fun h => by omega)]
        exact ⟨rfl, rfl⟩
      · refine go2 ?_
        rw [show current d = ((epoch d).1, 0) from (if_neg n1).trans (if_pos ⟨h2, by omega⟩)]
        exact ⟨rfl, rfl⟩
    · refine go2 ?_
      rw [show current d = (0, 20) from (if_neg n1).trans (if_neg fun h => by rw [h2] at h; cases h.1)]
      exact ⟨rfl, rfl⟩
def riseL (lim : Int) : Int → List Wr → Bool
  | _, [] => true
  | last, w :: l => if w.at_ ≤ last ∨ lim ≤ w.at_ then false else riseL lim w.at_ l
def lim (d : Dk) : Int := d.safe.length - ((d.safe.length / 4 : Nat) : Int)
theorem rise_ok (d : Dk) (l : List Wr) (hs : d.safe.length ≤ 1000000) (hl : l.length ≤ 100000000000000) : Spec Tryd.prog (fun _ => True) 44 [eDk d, .sl 2 Wr ⟨0, []⟩ l eWr] (.b (riseL (lim d) (-1) l)) := by
  refine spec_of (C := ⟨Tryd.prog, fun _ => True, E1, []⟩) (rl := [.b (riseL (lim d) (-1) l)]) (rs := [.tmp 4]) (by kernel_rfl) (fun _ _ _ _ => trivial) Tryd.func44 rfl (by kernel_rfl) rfl (by kernel_rfl) (Nat.le_of_ble_eq_true rfl) (fun i => rfl) (fun i => rfl) rfl (by decide) ?_
  refine go2 ?_
  refine lp_hd [2, 8, 9] [2] (fun x : Nat × Int => [(5, .n .i64 x.2), (10, .n .i64 (x.1 : Int))]) (fun _ => []) (fun x => x.1 ≤ l.length ∧ riseL (lim d) (-1) l = riseL (lim d) x.2 (l.drop x.1)) (fun x => l.length - x.1) (0, -1) id id ⟨Nat.zero_le _, rfl⟩ (fits_of (go2 ?_) (go2 ?_) (go2 ?_) (go2 ?_) (go2 ?_)) ?_
  · trivial
  · trivial
  · trivial
  · trivial
  · trivial
  rintro ⟨k, last⟩ ⟨h1, h2⟩
  dsimp only at h1 h2 ⊢
  refine go2 ?_
  refine cnd_d (fun h => ?_) (fun h => ?_)
  · refine go2 ?_
    have hd : l.drop k = l.getD k ⟨0, []⟩ :: l.drop (k + 1) := by
      rw [List.drop_eq_getElem_cons (by omega), List.getD_eq_getElem?_getD, List.getElem?_eq_getElem (by omega)]; rfl
    rw [hd] at h2
    refine ⟨⟨by omega, by omega⟩, ?_⟩
    refine gsp_f (fun h3 => ?_) (fun h3 => ?_)
    · refine go2 ?_
      refine ⟨[eDk d], _, .inl ⟨fun i => rfl, leL_refl _⟩, log_ok d (by omega), ?_⟩
      refine go2 ?_
      rw [wr64 (by omega) (by omega)]
      refine cnd_d (fun h4 => ?_) (fun h4 => ?_)
      · refine go2 ?_
        rw [h2]; exact (if_pos (.inr h4)).symm
      · refine go2 ?_
        refine ⟨(k + 1, (l.getD k ⟨0, []⟩).at_), ⟨by dsimp only; omega, h2.trans (if_neg (fun h => by unfold lim at h; omega))⟩, by dsimp only; omega, fits_of (go2 ?_) (go2 ?_) (go2 ?_) (go2 ?_) (go2 ?_)⟩
        · trivial
        · rw [wr64 (by omega) (by omega)]; rfl
        · trivial
        · trivial
        · trivial
    · refine go2 ?_
      rw [h2]; exact (if_pos (.inl h3)).symm
  · refine go2 ?_
    rw [h2, List.drop_eq_nil_of_le (by omega)]; rfl
/-- A contract that asks nothing of worlds holds where something is asked. -/
theorem Spec.mono {P : Program} {L : World → Prop} {f : Nat} {av : List V} {r : V} (h : Spec P (fun _ => True) f av r) : Spec P L f av r := ⟨h.1, h.2.1, fun S W xs _ => h.2.2 S W xs trivial⟩
theorem SpecO.mono {P : Program} {L : World → Prop} {f : Nat} {av : List V} {r : V} {rb : List Bk} (h : SpecO P (fun _ => True) f av r rb) : SpecO P L f av r rb := ⟨h.1, h.2.1, fun S W xs _ => h.2.2 S W xs trivial⟩
end Go.Proofs.YtnmaaijeamlplaaDoor.Ev
