/- Calls, branches; the library's functions. -/
import Derived.Test.YtnmaaijeamlplaaDoorKE
import Derived.Test.YtnmaaijeamlplaaDoorKD
import Derived.Test.YtnmaaijeamlplaaDoorKF
set_option linter.all false
namespace Go.Proofs.YtnmaaijeamlplaaDoor.Ev
open Go.RowKit
open Go.Proofs.YtnmaaijeamlplaaDoor.Mem
set_option linter.unusedVariables false
set_option linter.unusedSimpArgs false
set_option maxRecDepth 100000
mutual
theorem le_men : ∀ (v v' : V), le v v' → (∀ i, men v' i = false) → ∀ i, men v i = false
  | .ag l, v', h, hm, i => by
    rcases le_alt h with (rfl | ⟨h1, _⟩) | ⟨l1, l', h1, rfl, h3⟩
    · exact hm i
    · cases h1
    · cases h1
      simp only [men] at hm ⊢
      exact leL_men l l' h3 hm i
  | v, v', h, hm, i => by
    rcases le_alt h with (rfl | ⟨rfl, _⟩) | ⟨l1, l', rfl, rfl, h3⟩
    · exact hm i
    · rfl
    · simp only [men] at hm ⊢
      exact leL_men l1 l' h3 hm i
theorem leL_men : ∀ (l l' : List V), leL l l' → (∀ i, menL l' i = false) → ∀ i, menL l i = false
  | [], _, _, _, _ => rfl
  | x :: l, [], h, _, _ => h.elim
  | x :: l, y :: l', h, hm, i => by
    have h1 : ∀ i, men y i = false ∧ menL l' i = false := fun i => by have := hm i; simpa [menL] using this
    simp only [menL, Bool.or_eq_false_iff]
    exact ⟨le_men x y h.1 (fun i => (h1 i).1) i, leL_men l l' h.2 (fun i => (h1 i).2) i⟩
end
section
variable {P : Program} {L : World → Prop} {f d : Nat} {av bs : List V} {r : V} {rb : List Bk} {σ : St} {k : St → Prop} {xs : List Operand}
theorem cl (h : Spec P L f av r) (hk : k (σ.put d r)) (hm : ∀ i, menL av i = false := by intro i; rfl) : xCall P L f d av σ k ∨ xCallO P L f d av σ k ∨ xCallF P L f d xs σ k := .inl ⟨av, r, .inl ⟨hm, leL_refl _⟩, h, hk⟩
theorem cd (h : Spec P L f av r) (hk : k (σ.put d r)) (hm : ∀ i, menL av i = false := by intro i; rfl) : xCall P L f d av σ k := ⟨av, r, .inl ⟨hm, leL_refl _⟩, h, hk⟩
/-- Nil slices are read as empty ones. -/
theorem cln (h : Spec P L f bs r) (hle : leL av bs) (hk : k (σ.put d r)) (hm : ∀ i, menL av i = false := by intro i; rfl) : xCall P L f d av σ k ∨ xCallO P L f d av σ k ∨ xCallF P L f d xs σ k := .inl ⟨bs, r, .inl ⟨hm, hle⟩, h, hk⟩
theorem cdn (h : Spec P L f bs r) (hle : leL av bs) (hk : k (σ.put d r)) (hm : ∀ i, menL av i = false := by intro i; rfl) : xCall P L f d av σ k := ⟨bs, r, .inl ⟨hm, hle⟩, h, hk⟩
/-- Own rows are read by what hands back a plain value. -/
theorem cv (h : Spec P L f bs r) (hf : flat r = true) (hle : leL (vwL σ.bk av) bs) (hk : k (σ.put d r)) : xCall P L f d av σ k ∨ xCallO P L f d av σ k ∨ xCallF P L f d xs σ k := .inl ⟨bs, r, .inr ⟨hf, hle⟩, h, hk⟩
theorem cdv (h : Spec P L f bs r) (hf : flat r = true) (hle : leL (vwL σ.bk av) bs) (hk : k (σ.put d r)) : xCall P L f d av σ k := ⟨bs, r, .inr ⟨hf, hle⟩, h, hk⟩
/-- Own rows are let go. -/
theorem cf (ids : List Nat) (h : Spec P L f bs r) (hle : leL (xs.map (σ.fz ids).rd) bs) (hm : ∀ i, menL bs i = false) (hk : k ((σ.fz ids).put d r)) : xCall P L f d av σ k ∨ xCallO P L f d av σ k ∨ xCallF P L f d xs σ k := .inr <| .inr ⟨ids, bs, r, .inl ⟨leL_men _ _ hle hm, hle⟩, h, hk⟩
end
theorem br {p : Prop} {A B : St → Prop} {σ : St} (h1 : p → A σ) (h2 : ¬ p → B σ) : Br p A B σ := ⟨h1, h2⟩
theorem ebr : (∀ x A B (σ : St), cnd (.b x) A B σ = Br (x = true) A B σ) ∧ (∀ x g w A B (σ : St), gsp (.b x) g w A B σ = Br (x = w) (fun σ => A (σ.put g (.b w))) (fun σ => B (σ.put g (.b (!w)))) σ) ∧ (∀ A B (σ : St), Br True A B σ = A σ) ∧ (∀ A B (σ : St), Br False A B σ = B σ) :=
  ⟨fun x A B σ => propext ⟨fun h => ⟨h.1, fun e => h.2 (by simpa using e)⟩, fun h => ⟨h.1, fun e => h.2 (by simp [e])⟩⟩,
   fun x g w A B σ => propext ⟨fun h => ⟨h.1, fun e => h.2 (by cases x <;> cases w <;> first | rfl | exact absurd rfl e)⟩, fun h => ⟨h.1, fun e => h.2 (by cases x <;> cases w <;> first | (intro e'; cases e'; done) | cases e)⟩⟩,
   fun A B σ => propext ⟨fun h => h.1 trivial, fun h => ⟨fun _ => h, fun e => absurd trivial e⟩⟩, fun A B σ => propext ⟨fun h => h.2 id, fun h => ⟨fun e => e.elim, fun _ => h⟩⟩⟩
def LL : World → Prop := fun w => Sha.KT 0 w
theorem LLs : Stab LL := fun w W h hb => Sha.KT.below h hb h.lt
def EE : Nat → Option Elp := fun t => if t = 51 then some hWr else if t = 9 then some hS else if t = 5 then some ⟨1, UInt8, 0, eB, cB⟩ else none
theorem CCx : (⟨Tryd.prog, LL, EE, []⟩ : Cx).P.follows .mixedOrders = true := by kernel_rfl
theorem eEE : EE 51 = some ⟨2, Wr, ⟨0, []⟩, eWr, cWr⟩ ∧ EE 9 = some ⟨1, List UInt8, [], .s, cS⟩ ∧ EE 5 = some ⟨1, UInt8, 0, eB, cB⟩ := ⟨rfl, rfl, rfl⟩
theorem rng : List.range 0 = [] ∧ List.range 1 = [0] ∧ List.range 2 = [0, 1] ∧ List.range 3 = [0, 1, 2] ∧ List.range 4 = [0, 1, 2, 3] ∧ List.range 5 = [0, 1, 2, 3, 4] := ⟨rfl, rfl, rfl, rfl, rfl, rfl⟩
theorem eok : (∀ v, okE 1 V.s cS (V.s v) = True) ∧ (∀ a v, okE 2 eWr cWr (.ag [.n .i64 a, .s v]) = True) ∧ (∀ c : UInt8, okE 1 eB cB (.n .u8 (c.toNat : Int)) = True) ∧ (∀ c : Int, okE 1 eB cB (.n .u8 (IntKind.wrap .u8 c)) = True) := ⟨fun v => eq_true (okS v), fun a v => eq_true (okWr ⟨a, v⟩), fun c => eq_true (okB c), fun c => eq_true (okU c)⟩
theorem ler : ∀ v, le v v = True := fun v => eq_true (le_refl v)
theorem lenl : ∀ (z : Nat) (α : Type) (d : α) (e : α → V), le .nl (.sl z α d [] e) = True := fun z α d e => eq_true (.inr ⟨rfl, z, α, d, e, rfl⟩)
theorem sdl {p q : Prop} (h : p) : (p ∧ q) = q := propext ⟨fun h => h.2, fun hq => ⟨h, hq⟩⟩
theorem gy {p q : Prop} (hq : q) (h : p ↔ q := by simp (config := { maxSteps := 10000000 }) (disch := omega) only [true_implies, lenl, bne_self_eq_false, Int.reduceLT, Int.reduceLE, Int.reduceEq, Int.reduceNe, Int.reduceAdd, Int.reduceSub, Int.reduceMul, Int.reduceNeg, ebr, wr64, sdl, ler, true_or, or_true, rng, eok, List.length_map, List.length_range, List.length_append, List.length_replicate, List.length_set, List.length_take, List.length_drop, List.not_mem_nil, false_implies, implies_true, ↓ec, ↓eg, ↓eo, ↓eox, ↓es, ↓et1, em, emR, efz, enl, ebt, et, ev, fx, fx2, dk, ewr, odk, eBd, List.drop_nil, eEE, Option.some.injEq, Option.isSome_none, Int.reduceToNat, List.replicate_zero, Bool.or_self, rSd, rWd, ez, ef, ebd, et2, Int.toNat_natCast, Option.map_none, Option.map_some, List.all_cons, List.all_nil, Bool.and_self, List.cons_append, List.nil_append, List.append_nil, List.append_assoc, ep, ew, Option.isSome_some, id_eq, Nat.reduceLT, Nat.reduceSub, Bool.false_or, Bool.true_or, Bool.or_true, Bool.true_and, Bool.and_true, reduceCtorEq, Nat.reduceBEq, Bool.true_eq_false, Bool.false_eq_true, List.map_cons, List.map_nil, List.take_succ_cons, List.take_zero, List.drop_succ_cons, List.drop_zero, List.length_cons, List.length_nil, Nat.zero_add, Nat.reduceAdd, Nat.reduceLeDiff, Bool.not_true, Bool.not_false, List.getElem?_cons_succ, List.getElem?_cons_zero, Option.bind_some, ne_eq, not_false_eq_true, ↓eh1, eh, en, List.getD_cons_zero, List.getD_cons_succ, Nat.reduceEqDiff, ↓reduceIte, cond_true, cond_false, Bool.or_false, decide_true, decide_false, true_and, and_true, decide_eq_true_eq, decide_eq_false_iff_not, Bool.not_eq_true', Bool.not_eq_false', not_true_eq_false, Decidable.not_not]; exact Iff.rfl) : p := h.2 hq
theorem Spec.up {f : Nat} {av : List V} {r : V} (h : Spec Tryd.prog (fun _ => True) f av r) : Spec Tryd.prog LL f av r := h.mono
/-! ### Sums, and the library's -/
theorem tx_dl (s : List UInt8) : (tx s).data.toList = s := by simp [tx]
theorem sum_ok (s : List UInt8) (hs : s.length ≤ 250000) : Spec Tryd.prog LL 70 [.s s] (.s (Sha.sha (tx s))) := by
  refine Spec.of (fn := Tryd.f70) Tryd.func70 (by kernel_rfl) (by kernel_rfl) (fun _ => rfl) fun S W xs hL hs' hx _ => ?_
  obtain ⟨v, rfl⟩ := one_arg hs'
  rw [(hx 0 _ v rfl rfl).s_inv]
  refine (Sha.sum_any (tx s) W (by rw [tx_size]; exact hs) hL).mono ?_
  rintro e W' ⟨rfl, hb⟩
  exact ⟨_, rfl, hb, .s _ _⟩
theorem two_arg {xs : Array Value} (h : xs.size = 2) : ∃ v u, xs = #[v, u] := ⟨xs[0], xs[1], by
  apply Array.ext
  · simpa using h
  · intro i h1 h2
    rcases i with _ | _ | i
    · rfl
    · rfl
    · simp at h2; omega⟩
theorem hpre_ok (s p : List UInt8) : Spec Tryd.prog LL 75 [.s s, .s p] (.b (Lib.hasPrefix s p)) := by
  refine Spec.of (fn := Tryd.f75) Tryd.func75 (by kernel_rfl) (by kernel_rfl) (fun _ => rfl) fun S W xs hL hs' hx _ => ?_
  obtain ⟨v, u, rfl⟩ := two_arg hs'
  rw [(hx 0 _ v rfl rfl).s_inv, (hx 1 _ u rfl rfl).s_inv]
  refine (Tryd.strings_HasPrefix (tx s) (tx p) W).mono ?_
  rintro e w' ⟨rfl, rfl⟩
  rw [tx_dl, tx_dl]
  exact ⟨_, rfl, Below.refl _ _, .b _ _⟩
theorem join_ok (l : List (List UInt8)) (sep : List UInt8) (hp0 : l.length ≤ 140737488355328) (hp1 : (Lib.join l sep).length ≤ 140737488355328) : Spec Tryd.prog LL 71 [.sl 1 (List UInt8) [] l .s, .s sep] (.s (Lib.join l sep)) := by
  refine Spec.of (fn := Tryd.f71) Tryd.func71 (by kernel_rfl) (by kernel_rfl) (fun _ => rfl) fun S W xs hL hs' hx _ => ?_
  obtain ⟨v, u, rfl⟩ := two_arg hs'
  have h0 := hx 0 _ v rfl rfl
  rw [(hx 1 _ u rfl rfl).s_inv]
  rcases h0.sl_inv with ⟨ao, c, rfl, rfl⟩ | ⟨g, o, c, u', rfl, hg, hc, hm, hz, hu, hr⟩
  · refine (Tryd.strings_Join_none ao c (tx sep) W).mono ?_
    rintro e w' ⟨rfl, rfl⟩
    exact ⟨_, rfl, Below.refl _ _, .s _ _⟩
  · by_cases h0 : l = []
    · subst h0
      refine (Tryd.strings_Join_none (some ⟨g, o, none⟩) c (tx sep) W).mono ?_
      rintro e w' ⟨rfl, rfl⟩
      exact ⟨_, rfl, Below.refl _ _, .s _ _⟩
    have e1 : (l.map tx).map (fun b => b.data.toList) = l := by
      rw [List.map_map]
      have : ((fun b : ByteArray => b.data.toList) ∘ tx) = id := funext tx_dl
      rw [this, List.map_id]
    have hcells : ∀ (j : Nat) (x : ByteArray), (l.map tx)[j]? = some x → W.cell? ⟨g, o + j, none⟩ = some (.string x) := by
      intro j x hx
      rw [List.getElem?_map] at hx
      cases hl : l[j]? with
      | none => rw [hl] at hx; cases hx
      | some s =>
        rw [hl, Option.map_some, Option.some.injEq] at hx
        have h1 := hu j s 0 (.s s) hl rfl
        have h2 := (hr j s 0 (.s s) hl rfl).s_inv
        rw [h2, hx, Nat.mul_one, Nat.add_zero] at h1
        exact h1
    have hlt : g < W.heap.size := by
      obtain ⟨x, r, rfl⟩ := List.exists_cons_of_ne_nil h0
      exact block_lt_of_cell (hcells 0 _ rfl)
    have h := Tryd.strings_Join g o c (l.map tx) (tx sep) W hcells hlt (by rw [List.length_map]; exact hp0) (by rw [List.length_map]; exact hc) (by rw [e1, tx_dl]; exact hp1)
    rw [e1, tx_dl, List.length_map] at h
    refine h.mono ?_
    rintro e w' ⟨rfl, hb⟩
    exact ⟨_, rfl, hb, .s _ _⟩
end Go.Proofs.YtnmaaijeamlplaaDoor.Ev
namespace Go.Proofs.YtnmaaijeamlplaaDoor.Ev
open Go.RowKit
open Go.Proofs.YtnmaaijeamlplaaDoor.Mem
set_option linter.unusedVariables false
set_option linter.unusedSimpArgs false
set_option maxRecDepth 100000
def nb (k : Nat) (n : Int) : List UInt8 := numL k n (List.replicate k 0)
theorem nb_len (k : Nat) (n : Int) : (nb k n).length = k := by unfold nb; rw [numL_len]; simp
theorem number8_ok (n : Int) : Spec Tryd.prog LL 60 [.n .i64 n, .n .i64 8] (.s (nb 8 n)) := (number_ok n 8 (by omega)).up
theorem number4_ok (n : Int) : Spec Tryd.prog LL 60 [.n .i64 n, .n .i64 4] (.s (nb 4 n)) := (number_ok n 4 (by omega)).up
theorem fil_ok (s : List UInt8) (h : s.length ≤ 256) : Spec Tryd.prog LL 40 [.s s] (.s (filled s)) := (rfill_ok s h).up
theorem repeatL_len (s : List UInt8) : ∀ k, (Lib.repeatL s k).length = s.length * k
  | 0 => rfl
  | k + 1 => by
    show (s ++ Lib.repeatL s k).length = _
    rw [List.length_append, repeatL_len s k, Nat.mul_succ, Nat.add_comm]
theorem filled_len (s : List UInt8) (h : s.length ≤ 256) : (filled s).length = 256 := by
  unfold filled
  rw [List.length_append, repeatL_len]
  simp
  omega
def endS (e n : Int) (sec : List (List UInt8)) : List UInt8 := filled (68 :: 79 :: 78 :: 69 :: (nb 8 e ++ (nb 4 n ++ Sha.sha (tx (Lib.join sec [])))))
theorem sha_len (s : ByteArray) : (Sha.sha s).length = 32 := Sha.spellN_length _ 8
theorem end_ok (e n : Int) (sec : List (List UInt8)) (h1 : sec.length ≤ 1000000) (h2 : (Lib.join sec []).length ≤ 250000) : Spec Tryd.prog LL 48 [.n .i64 e, .n .i64 n, .sl 1 (List UInt8) [] sec .s] (.s (endS e n sec)) := by
  refine spec_of (C := ⟨Tryd.prog, LL, EE, []⟩) (rl := [.s (endS e n sec)]) (rs := [.tmp 6]) CCx LLs Tryd.func48 rfl (by kernel_rfl) rfl (by kernel_rfl) (Nat.le_of_ble_eq_true rfl) (fun i => rfl) (fun i => rfl) rfl (by decide) ?_
  refine gy ?_
  have k1 := nb_len 8 e
  have k2 := nb_len 4 n
  have k3 := sha_len (tx (Lib.join sec []))
  refine cl (number8_ok e) ?_
  refine gy ?_
  refine cl (number4_ok n) ?_
  refine gy ?_
  refine cl (join_ok sec [] (by omega) (by omega)) ?_
  refine gy ?_
  refine cl (sum_ok _ h2) ?_
  refine gy ?_
  refine cl (fil_ok _ (by simp only [List.length_cons, List.length_append]; omega)) ?_
  refine gy ?_
  rfl
theorem rowc {T z : Nat} {α : Type} {d : α} {a b : List α} {e : α → V} {c : V → α} (h : a = b) : Bk.row T z α d a e c = Bk.row T z α d b e c := by rw [h]
theorem cSd : (∀ l, cS (.s l) = l) ∧ (∀ a v, cWr (.ag [.n .i64 a, .s v]) = ⟨a, v⟩) := ⟨fun _ => rfl, fun _ _ => rfl⟩
def plcs (l : List Wr) : List UInt8 := l.flatMap fun w => nb 4 w.at_
theorem plcs_app (l l' : List Wr) : plcs (l ++ l') = plcs l ++ plcs l' := by unfold plcs; rw [List.flatMap_append]
theorem take_at {α : Type} (l : List α) (k : Nat) (d : α) (h : k < l.length) : l.take (k + 1) = l.take k ++ [l.getD k d] := by
  rw [List.take_add_one, List.getD_eq_getElem?_getD, List.getElem?_eq_getElem h]; rfl
theorem plcs_take (l : List Wr) (k : Nat) (h : k < l.length) : plcs (l.take (k + 1)) = plcs (l.take k) ++ nb 4 (l.getD k ⟨0, []⟩).at_ := by
  rw [take_at l k ⟨0, []⟩ h, plcs_app]; simp [plcs]
theorem plcs_len : ∀ l : List Wr, (plcs l).length = 4 * l.length
  | [] => rfl
  | w :: l => by
    show (nb 4 w.at_ ++ plcs l).length = _
    rw [List.length_append, nb_len, plcs_len l, List.length_cons]; omega
def headS (e : Int) (l : List Wr) (i : Nat) : List UInt8 := filled (nb 8 e ++ (nb 4 (l.length : Int) ++ plcs ((l.drop (61 * i)).take 61)))
def bodyS (e : Int) (l : List Wr) : List (List UInt8) := (List.range ((l.length + 60) / 61)).map (headS e l) ++ l.map Wr.data
theorem cutW (l : List Wr) (a b : Nat) : (l.take b).drop a = (l.drop a).take (b - a) := by rw [List.drop_take]
theorem body_ok (e : Int) (l : List Wr) (hl : l.length ≤ 100000) : Spec Tryd.prog LL 47 [.n .i64 e, .sl 2 Wr ⟨0, []⟩ l eWr] (.sl 1 (List UInt8) [] (bodyS e l) .s) := by
  refine spec_of (C := ⟨Tryd.prog, LL, EE, []⟩) (rl := [.sl 1 (List UInt8) [] (bodyS e l) .s]) (rs := [.tmp 4]) CCx LLs Tryd.func47 rfl (by kernel_rfl) rfl (by kernel_rfl) (Nat.le_of_ble_eq_true rfl) (fun i => rfl) (fun i => rfl) rfl (by decide) ?_
  refine gy ?_
  have k1 := nb_len 8 e
  have k2 := nb_len 4 (l.length : Int)
  refine cl (number8_ok e) ?_
  refine gy ?_
  refine cl (number4_ok _) ?_
  refine gy ?_
  refine lp_nil 6 9 hS (gy ?_) (gy ?_) ?_
  · trivial
  · trivial
  refine lp_hd [1, 5] [] (fun i : Nat => [(6, .ow 6 i), (7, .n .i64 (61 * (i : Int)))]) (fun i : Nat => [(6, rS ((List.range i).map (headS e l)))]) (fun i : Nat => i ≤ (l.length + 60) / 61) (fun i : Nat => (l.length + 60) / 61 - i) (0) id (fun i => if i = 6 then 49 else i) (Nat.zero_le _) (fits_of (gy ?_) (gy ?_) (gy ?_) (gy ?_) (gy ?_)) ?_
  · first | trivial | rfl | exact ⟨rfl, rfl⟩ | exact ⟨rfl, rfl, rfl⟩ | exact rowc (List.map_id _)
  · first | trivial | rfl | exact ⟨rfl, rfl⟩ | exact ⟨rfl, rfl, rfl⟩ | exact rowc (List.map_id _)
  · first | trivial | rfl | exact ⟨rfl, rfl⟩ | exact ⟨rfl, rfl, rfl⟩ | exact rowc (List.map_id _)
  · first | trivial | rfl | exact ⟨rfl, rfl⟩ | exact ⟨rfl, rfl, rfl⟩ | exact rowc (List.map_id _)
  · first | trivial | rfl | exact ⟨rfl, rfl⟩ | exact ⟨rfl, rfl, rfl⟩ | exact rowc (List.map_id _)
  rintro i hi
  refine gy ?_
  refine br (fun h => ?_) (fun h => ?_)
  · refine gy ?_
    have hc : List.drop (61 * (i : Int)).toNat (List.take (min (61 * (i : Int) + 61) (l.length : Int)).toNat l) = (l.drop (61 * i)).take 61 := by
      rw [List.drop_take, show (61 * (i : Int)).toNat = 61 * i by omega]
      rcases Nat.le_total (61 * i + 61) l.length with h1 | h1
      · rw [show (min (61 * (i : Int) + 61) (l.length : Int)).toNat - 61 * i = 61 by omega]
      · rw [List.take_of_length_le (by simp; omega), List.take_of_length_le (by simp; omega)]
    rw [hc]
    generalize hC : (l.drop (61 * i)).take 61 = C
    have hC1 : C.length = min 61 (l.length - 61 * i) := by rw [← hC]; simp
    refine lp_hd [1, 5, 6, 7, 33, 34] [6] (fun k : Nat => [(8, .s (nb 8 e ++ (nb 4 (l.length : Int) ++ plcs (C.take k)))), (35, .n .i64 (k : Int))]) (fun k : Nat => []) (fun k : Nat => k ≤ C.length) (fun k : Nat => C.length - k) (0) id (id) (Nat.zero_le _) (fits_of (gy ?_) (gy ?_) (gy ?_) (gy ?_) (gy ?_)) ?_
    · first | trivial | rfl | exact ⟨rfl, rfl⟩ | exact ⟨rfl, rfl, rfl⟩ | exact rowc (List.map_id _)
    · first | trivial | rfl | exact ⟨rfl, rfl⟩ | exact ⟨rfl, rfl, rfl⟩ | exact rowc (List.map_id _)
    · first | trivial | rfl | exact ⟨rfl, rfl⟩ | exact ⟨rfl, rfl, rfl⟩ | exact rowc (List.map_id _)
    · first | trivial | rfl | exact ⟨rfl, rfl⟩ | exact ⟨rfl, rfl, rfl⟩ | exact rowc (List.map_id _)
    · first | trivial | rfl | exact ⟨rfl, rfl⟩ | exact ⟨rfl, rfl, rfl⟩ | exact rowc (List.map_id _)
    rintro k hk
    refine gy ?_
    have hp := plcs_len (C.take k)
    have hp2 := plcs_len C
    rw [List.length_take] at hp
    refine br (fun h2 => ?_) (fun h2 => ?_)
    · refine gy ?_
      have k3 := nb_len 4 (C.getD k ⟨0, []⟩).at_
      refine cl (number4_ok _) ?_
      refine gy ?_
      refine ⟨k + 1, (by omega), (by omega), fits_of (gy ?_) (gy ?_) (gy ?_) (gy ?_) (gy ?_)⟩
      · first | trivial | rfl | exact ⟨rfl, rfl⟩ | exact ⟨rfl, rfl, rfl⟩ | exact rowc (List.map_id _)
      · exact ⟨by rw [plcs_take C k (by omega)], rfl⟩
      · first | trivial | rfl | exact ⟨rfl, rfl⟩ | exact ⟨rfl, rfl, rfl⟩ | exact rowc (List.map_id _)
      · first | trivial | rfl | exact ⟨rfl, rfl⟩ | exact ⟨rfl, rfl, rfl⟩ | exact rowc (List.map_id _)
      · first | trivial | rfl | exact ⟨rfl, rfl⟩ | exact ⟨rfl, rfl, rfl⟩ | exact rowc (List.map_id _)
    · refine gy ?_
      refine cl (fil_ok _ (by simp only [List.length_append]; omega)) ?_
      refine gy ?_
      refine .inr ?_
      refine ⟨i + 1, (by omega), (by omega), fits_of (gy ?_) (gy ?_) (gy ?_) (gy ?_) (gy ?_)⟩
      · first | trivial | rfl | exact ⟨rfl, rfl⟩ | exact ⟨rfl, rfl, rfl⟩ | exact rowc (List.map_id _)
      · (congr 1 <;> omega)
      · first | trivial | rfl | exact ⟨rfl, rfl⟩ | exact ⟨rfl, rfl, rfl⟩ | exact rowc (List.map_id _)
      · exact rowc (by rw [List.range_succ, List.map_append]; simp only [cSd, List.map_cons, List.map_nil]; unfold headS; rw [hC, List.take_of_length_le (by omega)])
      · first | trivial | rfl | exact ⟨rfl, rfl⟩ | exact ⟨rfl, rfl, rfl⟩ | exact rowc (List.map_id _)
  · refine gy ?_
    obtain rfl : i = (l.length + 60) / 61 := by omega
    refine lp_hd [50, 51] [] (fun k : Nat => [(6, .ow 6 ((l.length + 60) / 61 + k)), (52, .n .i64 (k : Int))]) (fun k : Nat => [(6, rS ((List.range ((l.length + 60) / 61)).map (headS e l) ++ (l.take k).map Wr.data))]) (fun k : Nat => k ≤ l.length) (fun k : Nat => l.length - k) (0) id (fun i => if i = 6 then 60 else i) (Nat.zero_le _) (fits_of (gy ?_) (gy ?_) (gy ?_) (gy ?_) (gy ?_)) ?_
    · first | trivial | rfl | exact ⟨rfl, rfl⟩ | exact ⟨rfl, rfl, rfl⟩ | exact rowc (List.map_id _)
    · first | trivial | rfl | exact ⟨rfl, rfl⟩ | exact ⟨rfl, rfl, rfl⟩ | exact rowc (List.map_id _)
    · first | trivial | rfl | exact ⟨rfl, rfl⟩ | exact ⟨rfl, rfl, rfl⟩ | exact rowc (List.map_id _)
    · first | trivial | rfl | exact ⟨rfl, rfl⟩ | exact ⟨rfl, rfl, rfl⟩ | exact rowc (List.map_id _)
    · first | trivial | rfl | exact ⟨rfl, rfl⟩ | exact ⟨rfl, rfl, rfl⟩ | exact rowc (List.map_id _)
    rintro k hk
    refine gy ?_
    refine br (fun h2 => ?_) (fun h2 => ?_)
    · refine gy ?_
      refine .inr ?_
      refine ⟨k + 1, (by omega), (by omega), fits_of (gy ?_) (gy ?_) (gy ?_) (gy ?_) (gy ?_)⟩
      · first | trivial | rfl | exact ⟨rfl, rfl⟩ | exact ⟨rfl, rfl, rfl⟩ | exact rowc (List.map_id _)
      · exact ⟨by congr 1 <;> omega, rfl⟩
      · first | trivial | rfl | exact ⟨rfl, rfl⟩ | exact ⟨rfl, rfl, rfl⟩ | exact rowc (List.map_id _)
      · exact rowc (by rw [take_at l k ⟨0, []⟩ (by omega), List.map_append]; rfl)
      · first | trivial | rfl | exact ⟨rfl, rfl⟩ | exact ⟨rfl, rfl, rfl⟩ | exact rowc (List.map_id _)
    · refine gy ?_
      rw [if_pos (by omega), show k = l.length by omega, List.take_length]
      exact le_refl _
theorem tdq : (∀ i : Nat, (i : Int).tdiv 61 = ((i / 61 : Nat) : Int)) ∧ (∀ i : Nat, (i : Int).tmod 61 = ((i % 61 : Nat) : Int)) := ⟨fun i => rfl, fun i => rfl⟩
def cD (x : Dk) : Bk := .cells 25 [.sl 1 _ [] x.safe .s, .sl 2 _ ⟨0, []⟩ x.loose eWr, .n .i64 x.fuse, .b x.down]
theorem cDd (x : Dk) : cD x = .cells 25 [.sl 1 _ [] x.safe .s, .sl 2 _ ⟨0, []⟩ x.loose eWr, .n .i64 x.fuse, .b x.down] := rfl
theorem gz {p q : Prop} (hq : q) (h : p ↔ q := by simp (config := { maxSteps := 10000000 }) (disch := omega) only [nb_len, sha_len, cSd, tdq, cDd, true_implies, lenl, bne_self_eq_false, Int.reduceLT, Int.reduceLE, Int.reduceEq, Int.reduceNe, Int.reduceAdd, Int.reduceSub, Int.reduceMul, Int.reduceNeg, ebr, wr64, sdl, ler, true_or, or_true, rng, eok, List.length_map, List.length_range, List.length_append, List.length_replicate, List.length_set, List.length_take, List.length_drop, List.not_mem_nil, false_implies, implies_true, ↓ec, ↓eg, ↓eo, ↓eox, ↓es, ↓et1, em, emR, efz, enl, ebt, et, ev, fx, fx2, dk, ewr, odk, eBd, List.drop_nil, eEE, Option.some.injEq, Option.isSome_none, Int.reduceToNat, List.replicate_zero, Bool.or_self, rSd, rWd, ez, ef, ebd, et2, Int.toNat_natCast, Option.map_none, Option.map_some, List.all_cons, List.all_nil, Bool.and_self, List.cons_append, List.nil_append, List.append_nil, List.append_assoc, ep, ew, Option.isSome_some, id_eq, Nat.reduceLT, Nat.reduceSub, Bool.false_or, Bool.true_or, Bool.or_true, Bool.true_and, Bool.and_true, reduceCtorEq, Nat.reduceBEq, Bool.true_eq_false, Bool.false_eq_true, List.map_cons, List.map_nil, List.take_succ_cons, List.take_zero, List.drop_succ_cons, List.drop_zero, List.length_cons, List.length_nil, Nat.zero_add, Nat.reduceAdd, Nat.reduceLeDiff, Bool.not_true, Bool.not_false, List.getElem?_cons_succ, List.getElem?_cons_zero, Option.bind_some, ne_eq, not_false_eq_true, ↓eh1, eh, en, List.getD_cons_zero, List.getD_cons_succ, Nat.reduceEqDiff, ↓reduceIte, cond_true, cond_false, Bool.or_false, decide_true, decide_false, true_and, and_true, decide_eq_true_eq, decide_eq_false_iff_not, Bool.not_eq_true', Bool.not_eq_false', not_true_eq_false, Decidable.not_not]; exact Iff.rfl) : p := h.2 hq
def valS (s : List UInt8) : Int := val s s.length
theorem vals_ok (s : List UInt8) (hs : s.length ≤ 1000000) : Spec Tryd.prog LL 30 [.s s] (.n .i64 (valS s)) := (value_ok s hs).up
def fitsB (d : Dk) (n : Int) : Bool := decide (0 ≤ n) && (decide (n ≤ d.safe.length) && decide ((n + 60) / 61 + n + 2 ≤ ((d.safe.length / 4 : Nat) : Int)))
theorem fitsL (d : Dk) (n : Int) (hs : d.safe.length ≤ 1000000000) : Spec Tryd.prog LL 15 [eDk d, .n .i64 n] (.b (fitsB d n)) := (rfits_ok d n hs).up
theorem listsL (n : Int) (h0 : 0 ≤ n) (h1 : n ≤ 1000000000) : Spec Tryd.prog LL 38 [.n .i64 n] (.n .i64 ((n + 60) / 61)) := (lists_ok n h0 h1).up
theorem logL (d : Dk) (hs : d.safe.length ≤ 1000000000) : Spec Tryd.prog LL 13 [eDk d] (.n .i64 ((d.safe.length / 4 : Nat) : Int)) := (log_ok d hs).up
theorem putL (d : Dk) (hl : d.loose.length ≤ 1000000) (hfu : Small d) (a : Int) (x : List UInt8) : Spec Tryd.prog LL 72 [eDk d, .n .i64 a, .s x] (.tp [eDk (put d a x).1, .n .i64 (put d a x).2]) := (put_ok d hl hfu a x).up
theorem flushL (d : Dk) (hl : d.loose.length ≤ 1000000) (hfu : Small d) : Spec Tryd.prog LL 67 [eDk d] (.tp [eDk (flush d).1, .n .i64 (flush d).2]) := (flush_ok d hl hfu).up
theorem putFlL (d : Dk) (a : Int) (l : List (List UInt8)) (hl : d.loose.length + l.length ≤ 1000000) (hfu : Small d) : Spec Tryd.prog LL 41 [eDk d, .n .i64 a, .sl 1 (List UInt8) [] l .s] (.tp [eDk (putFl d a l).1, .n .i64 (putFl d a l).2]) := (putFl_ok d a l hl hfu).up
theorem beginL (e : Int) : Spec Tryd.prog LL 31 [.n .i64 e] (.s (begin_ e)) := (beginning_ok e).up
theorem rightL (d : Dk) (hl : d.loose.length ≤ 1000000) : Spec Tryd.prog LL 35 [eDk d] (.b (right d)) := (right_ok d hl).up
theorem riseL' (d : Dk) (l : List Wr) (hs : d.safe.length ≤ 1000000) (hl : l.length ≤ 100000000000000) : Spec Tryd.prog LL 44 [eDk d, .sl 2 Wr ⟨0, []⟩ l eWr] (.b (riseL (lim d) (-1) l)) := (rise_ok d l hs hl).up
theorem sizedL (l : List Wr) (hl : l.length ≤ 100000000000000) : Spec Tryd.prog LL 45 [.sl 2 Wr ⟨0, []⟩ l eWr] (.b (l.all fun w => decide (w.data.length = 256))) := (sized_ok l hl).up
theorem curL (d : Dk) (hl : d.loose.length ≤ 1000000) : Spec Tryd.prog LL 46 [eDk d] (.tp [.n .i64 (current d).1, .n .i64 (current d).2]) := (current_ok d hl).up
theorem epochL (d : Dk) (hl : d.loose.length ≤ 1000000) : Spec Tryd.prog LL 8 [eDk d] (.tp [.n .i64 (epoch d).1, .b (epoch d).2]) := (epoch_ok d hl).up
theorem getL (d : Dk) (hl : d.loose.length ≤ 1000000) (a : Int) : Spec Tryd.prog LL 29 [eDk d, .n .i64 a] (.tp [.s (get d a).1, .n .i64 (get d a).2]) := (get_ok d hl a).up
theorem get_is {d : Dk} {a : Int} (h : ready d = 0) (h0 : 0 ≤ a) (h1 : a < d.safe.length) : get d a = (got d a, 0) := by
  unfold get
  rw [if_neg (by rw [h]; simp), if_neg (by omega)]
theorem getK (d : Dk) (hl : d.loose.length ≤ 1000000) (a : Int) (h : ready d = 0) (h0 : 0 ≤ a) (h1 : a < d.safe.length) : Spec Tryd.prog LL 29 [eDk d, .n .i64 a] (.tp [.s (got d a), .n .i64 0]) := by
  have := getL d hl a
  rw [get_is h h0 h1] at this
  exact this
end Go.Proofs.YtnmaaijeamlplaaDoor.Ev
namespace Go.Proofs.YtnmaaijeamlplaaDoor.Ev
open Go.RowKit
open Go.Proofs.YtnmaaijeamlplaaDoor.Mem
set_option linter.unusedVariables false
set_option linter.unusedSimpArgs false
set_option maxRecDepth 100000
def endedM (d : Dk) (e : Int) (s : List UInt8) : Int := if Lib.hasPrefix s (68 :: 79 :: 78 :: 69 :: nb 8 e) = true ∧ fitsB d (valS ((s.take 16).drop 12)) = true then valS ((s.take 16).drop 12) else 0
theorem ended_ok (d : Dk) (e : Int) (s : List UInt8) (hs : s.length = 256) (hsz : d.safe.length ≤ 1000000000) : Spec Tryd.prog LL 54 [eDk d, .n .i64 e, .s s] (.n .i64 (endedM d e s)) := by
  refine spec_of (C := ⟨Tryd.prog, LL, EE, []⟩) (rl := [.n .i64 (endedM d e s)]) (rs := [.tmp 6]) CCx LLs Tryd.func54 rfl (by kernel_rfl) rfl (by kernel_rfl) (Nat.le_of_ble_eq_true rfl) (fun i => rfl) (fun i => rfl) rfl (by decide) ?_
  refine gz ?_
  refine cl (number8_ok e) ?_
  refine gz ?_
  refine cl (hpre_ok _ _) ?_
  refine gz ?_
  refine br (fun h => ?_) (fun h => ?_)
  · refine gz ?_
    simp [endedM, h]
  · refine gz ?_
    have h : Lib.hasPrefix s (68 :: 79 :: 78 :: 69 :: nb 8 e) = true := by simpa using h
    refine cl (vals_ok ((s.take 16).drop 12) (by simp only [List.length_drop, List.length_take]; omega)) ?_
    refine gz ?_
    refine cl (fitsL d _ hsz) ?_
    refine gz ?_
    refine br (fun h2 => ?_) (fun h2 => ?_)
    · refine gz ?_
      simp [endedM, h2]
    · refine gz ?_
      have h2 : fitsB d (valS ((s.take 16).drop 12)) = true := by simpa using h2
      simp [endedM, h, h2]
theorem readBody_ok (d : Dk) (n : Nat) (hr : ready d = 0) (hn : (n + 60) / 61 + n + 2 ≤ d.safe.length) (hl : d.loose.length ≤ 1000000) (hd : d.safe.length ≤ 100000) : Spec Tryd.prog LL 55 [eDk d, .n .i64 (n : Int)] (.tp [.sl 1 (List UInt8) [] ((List.range ((n + 60) / 61 + n)).map fun i => got d (2 + (i : Nat))) .s, .n .i64 0]) := by
  refine spec_of (C := ⟨Tryd.prog, LL, EE, []⟩) (rl := [.sl 1 (List UInt8) [] ((List.range ((n + 60) / 61 + n)).map fun i => got d (2 + (i : Nat))) .s, .n .i64 0]) (rs := [.tmp 4, .tmp 5]) CCx LLs Tryd.func55 rfl (by kernel_rfl) rfl (by kernel_rfl) (Nat.le_of_ble_eq_true rfl) (fun i => rfl) (fun i => rfl) rfl (by decide) ?_
  refine gz ?_
  refine cl (listsL (n : Int) (by omega) (by omega)) ?_
  refine gz ?_
  refine lp_nil 6 9 hS (gz ?_) (gz ?_) ?_
  · trivial
  · trivial
  refine lp_hd [2, 13] [2] (fun i : Nat => [(6, .ow 6 i), (14, .n .i64 (i : Int))]) (fun i : Nat => [(6, rS ((List.range i).map fun i => got d (2 + (i : Nat))))]) (fun i : Nat => i ≤ (n + 60) / 61 + n) (fun i : Nat => (n + 60) / 61 + n - i) (0) id (fun i => if i = 6 then 30 else i) (Nat.zero_le _) (fits_of (gz ?_) (gz ?_) (gz ?_) (gz ?_) (gz ?_)) ?_
  · first | trivial | rfl | exact ⟨rfl, rfl⟩ | exact ⟨rfl, rfl, rfl⟩ | exact rowc (List.map_id _)
  · first | trivial | rfl | exact ⟨rfl, rfl⟩ | exact ⟨rfl, rfl, rfl⟩ | exact rowc (List.map_id _)
  · first | trivial | rfl | exact ⟨rfl, rfl⟩ | exact ⟨rfl, rfl, rfl⟩ | exact rowc (List.map_id _)
  · first | trivial | rfl | exact ⟨rfl, rfl⟩ | exact ⟨rfl, rfl, rfl⟩ | exact rowc (List.map_id _)
  · first | trivial | rfl | exact ⟨rfl, rfl⟩ | exact ⟨rfl, rfl, rfl⟩ | exact rowc (List.map_id _)
  rintro i hi
  refine gz ?_
  refine br (fun h => ?_) (fun h => ?_)
  · refine gz ?_
    refine cl (getK d hl _ hr (by omega) (by omega)) ?_
    refine gz ?_
    refine .inr ?_
    refine ⟨i + 1, (by omega), (by omega), fits_of (gz ?_) (gz ?_) (gz ?_) (gz ?_) (gz ?_)⟩
    · first | trivial | rfl | exact ⟨rfl, rfl⟩ | exact ⟨rfl, rfl, rfl⟩ | exact rowc (List.map_id _)
    · rfl
    · first | trivial | rfl | exact ⟨rfl, rfl⟩ | exact ⟨rfl, rfl, rfl⟩ | exact rowc (List.map_id _)
    · exact rowc (by rw [List.range_succ, List.map_append]; rfl)
    · first | trivial | rfl | exact ⟨rfl, rfl⟩ | exact ⟨rfl, rfl, rfl⟩ | exact rowc (List.map_id _)
  · refine gz ?_
    rw [show i = (n + 60) / 61 + n by omega]
    exact le_refl _
def wrAt (sec : List (List UInt8)) (n i : Nat) : Wr := ⟨valS (((sec.getD (i / 61) []).take (12 + 4 * (i % 61) + 4)).drop (12 + 4 * (i % 61))), sec.getD ((n + 60) / 61 + i) []⟩
theorem writes_ok (sec : List (List UInt8)) (n : Nat) (h1 : sec.length = (n + 60) / 61 + n) (h2 : ∀ s ∈ sec, s.length = 256) (hn : n ≤ 100000) : Spec Tryd.prog LL 56 [.sl 1 (List UInt8) [] sec .s, .n .i64 (n : Int)] (.sl 2 Wr ⟨0, []⟩ ((List.range n).map (wrAt sec n)) eWr) := by
  refine spec_of (C := ⟨Tryd.prog, LL, EE, []⟩) (rl := [.sl 2 Wr ⟨0, []⟩ ((List.range n).map (wrAt sec n)) eWr]) (rs := [.tmp 4]) CCx LLs Tryd.func56 rfl (by kernel_rfl) rfl (by kernel_rfl) (Nat.le_of_ble_eq_true rfl) (fun i => rfl) (fun i => rfl) rfl (by decide) ?_
  refine gz ?_
  refine cl (listsL (n : Int) (by omega) (by omega)) ?_
  refine gz ?_
  refine lp_nil 6 51 hWr (gz ?_) (gz ?_) ?_
  · trivial
  · trivial
  refine lp_hd [0, 5, 11] [] (fun i : Nat => [(6, .ow 6 i), (12, .n .i64 (i : Int))]) (fun i : Nat => [(6, rW ((List.range i).map (wrAt sec n)))]) (fun i : Nat => i ≤ n) (fun i : Nat => n - i) (0) id (fun i => if i = 6 then 38 else i) (Nat.zero_le _) (fits_of (gz ?_) (gz ?_) (gz ?_) (gz ?_) (gz ?_)) ?_
  · first | trivial | rfl | exact ⟨rfl, rfl⟩ | exact ⟨rfl, rfl, rfl⟩ | exact rowc (List.map_id _)
  · first | trivial | rfl | exact ⟨rfl, rfl⟩ | exact ⟨rfl, rfl, rfl⟩ | exact rowc (List.map_id _)
  · first | trivial | rfl | exact ⟨rfl, rfl⟩ | exact ⟨rfl, rfl, rfl⟩ | exact rowc (List.map_id _)
  · first | trivial | rfl | exact ⟨rfl, rfl⟩ | exact ⟨rfl, rfl, rfl⟩ | exact rowc (List.map_id _)
  · first | trivial | rfl | exact ⟨rfl, rfl⟩ | exact ⟨rfl, rfl, rfl⟩ | exact rowc (List.map_id _)
  rintro i hi
  refine gz ?_
  refine br (fun h => ?_) (fun h => ?_)
  · refine gz ?_
    have hq : i / 61 < sec.length := by omega
    have hs : (sec.getD (i / 61) []).length = 256 := h2 _ (getD_mem hq)
    refine gz ?_
    rw [show (12 + 4 * ((i % 61 : Nat) : Int)).toNat = 12 + 4 * (i % 61) by omega, show (12 + 4 * ((i % 61 : Nat) : Int) + 4).toNat = 12 + 4 * (i % 61) + 4 by omega]
    refine cd (vals_ok _ (by simp only [List.length_drop, List.length_take]; omega)) ?_
    refine gz ?_
    refine .inr ?_
    refine ⟨i + 1, (by omega), (by omega), fits_of (gz ?_) (gz ?_) (gz ?_) (gz ?_) (gz ?_)⟩
    · first | trivial | rfl | exact ⟨rfl, rfl⟩ | exact ⟨rfl, rfl, rfl⟩ | exact rowc (List.map_id _)
    · rfl
    · first | trivial | rfl | exact ⟨rfl, rfl⟩ | exact ⟨rfl, rfl, rfl⟩ | exact rowc (List.map_id _)
    · exact rowc (by rw [List.range_succ, List.map_append, show (((n : Int) + 60) / 61 + (i : Int)).toNat = (n + 60) / 61 + i by omega]; rfl)
    · first | trivial | rfl | exact ⟨rfl, rfl⟩ | exact ⟨rfl, rfl, rfl⟩ | exact rowc (List.map_id _)
  · refine gz ?_
    rw [show i = n by omega]
    exact le_refl _
end Go.Proofs.YtnmaaijeamlplaaDoor.Ev
namespace Go.Proofs.YtnmaaijeamlplaaDoor.Ev
open Go.RowKit
open Go.Proofs.YtnmaaijeamlplaaDoor.Mem
set_option linter.unusedVariables false
set_option linter.unusedSimpArgs false
set_option maxRecDepth 100000
def putW (off : Int) : Dk → List Wr → Dk × Int
  | d, [] => (d, 0)
  | d, w :: l => if ¬ (put d (off + w.at_) w.data).2 = 0 then put d (off + w.at_) w.data else putW off (put d (off + w.at_) w.data).1 l
theorem put_len (d : Dk) (a : Int) (x : List UInt8) : (put d a x).1.safe = d.safe := by
  obtain ⟨b1, b2⟩ := burn_rows d
  unfold put
  split
  · rfl
  · split
    · rfl
    · split
      · exact b1
      · exact b1
theorem putW_small (off : Int) : ∀ (l : List Wr) (d : Dk), Small d → Small (putW off d l).1 ∧ (putW off d l).1.loose.length ≤ d.loose.length + l.length
  | [], d, h => ⟨h, Nat.le_refl _⟩
  | w :: l, d, h => by
    obtain ⟨s1, s2⟩ := put_small h (off + w.at_) w.data
    unfold putW
    split
    · exact ⟨s1, by simp only [List.length_cons]; omega⟩
    · obtain ⟨t1, t2⟩ := putW_small off l _ s1
      exact ⟨t1, by simp only [List.length_cons]; omega⟩
theorem drop_at {α : Type} (l : List α) (k : Nat) (x : α) (h : k < l.length) : l.drop k = l.getD k x :: l.drop (k + 1) := by
  rw [List.drop_eq_getElem_cons (by omega), List.getD_eq_getElem?_getD, List.getElem?_eq_getElem (by omega)]; rfl
def bringM (d : Dk) (e : Int) (l : List Wr) : Dk × Int :=
  if ¬ (putW ((d.safe.length / 4 : Nat) : Int) d l).2 = 0 then putW ((d.safe.length / 4 : Nat) : Int) d l else
  if ¬ (flush (putW ((d.safe.length / 4 : Nat) : Int) d l).1).2 = 0 then flush (putW ((d.safe.length / 4 : Nat) : Int) d l).1 else
  putFl (flush (putW ((d.safe.length / 4 : Nat) : Int) d l).1).1 0 [begin_ (e + 1)]
theorem flush_small {d : Dk} (h : Small d) : Small (flush d).1 ∧ (flush d).1.loose.length ≤ d.loose.length := by
  obtain ⟨b1, b2⟩ := burn_rows d
  unfold flush
  split
  · exact ⟨h, Nat.le_refl _⟩
  · split
    · exact ⟨burn_small h, by rw [b2]; exact Nat.le_refl _⟩
    · exact ⟨burn_small h, by simp⟩
theorem bring_ok (d : Dk) (e : Int) (l : List Wr) (hl : d.loose.length + l.length ≤ 100000) (hfu : Small d) (hd : d.safe.length ≤ 1000000) (he : 0 ≤ e ∧ e < 4611686018427387904) (hw : ∀ w ∈ l, 0 ≤ w.at_ ∧ w.at_ ≤ 1000000) : Spec Tryd.prog LL 49 [eDk d, .n .i64 e, .sl 2 Wr ⟨0, []⟩ l eWr] (.tp [eDk (bringM d e l).1, .n .i64 (bringM d e l).2]) := by
  refine spec_of (C := ⟨Tryd.prog, LL, EE, []⟩) (rl := [eDk (bringM d e l).1, .n .i64 (bringM d e l).2]) (rs := [.cell 6 25, .tmp 7]) CCx LLs Tryd.func49 rfl (by kernel_rfl) rfl (by kernel_rfl) (Nat.le_of_ble_eq_true rfl) (fun i => rfl) (fun i => rfl) rfl (by decide) ?_
  refine gz ?_
  refine lp_hd [1, 6, 13, 14] [6] (fun x : Nat × Dk => [(3, .p 3 0), (15, .n .i64 (x.1 : Int))]) (fun x : Nat × Dk => [(3, cD x.2)]) (fun x : Nat × Dk => x.1 ≤ l.length ∧ putW ((d.safe.length / 4 : Nat) : Int) d l = putW ((d.safe.length / 4 : Nat) : Int) x.2 (l.drop x.1) ∧ x.2.loose.length ≤ d.loose.length + x.1 ∧ Small x.2 ∧ x.2.safe = d.safe) (fun x : Nat × Dk => l.length - x.1) ((0, d)) id (id) ⟨Nat.zero_le _, rfl, Nat.le_refl _, hfu, rfl⟩ (fits_of (gz ?_) (gz ?_) (gz ?_) (gz ?_) (gz ?_)) ?_
  · first | trivial | rfl | exact ⟨rfl, rfl⟩ | exact ⟨rfl, rfl, rfl⟩ | exact rowc (List.map_id _)
  · first | trivial | rfl | exact ⟨rfl, rfl⟩ | exact ⟨rfl, rfl, rfl⟩ | exact rowc (List.map_id _)
  · first | trivial | rfl | exact ⟨rfl, rfl⟩ | exact ⟨rfl, rfl, rfl⟩ | exact rowc (List.map_id _)
  · first | trivial | rfl | exact ⟨rfl, rfl⟩ | exact ⟨rfl, rfl, rfl⟩ | exact rowc (List.map_id _)
  · first | trivial | rfl | exact ⟨rfl, rfl⟩ | exact ⟨rfl, rfl, rfl⟩ | exact rowc (List.map_id _)
  rintro ⟨k, c⟩ ⟨hk, hg, hc1, hc2, hc3⟩
  dsimp only at hk hg hc1 hc2 hc3 ⊢
  refine gz ?_
  refine br (fun h => ?_) (fun h => ?_)
  · have hmem : l.getD k ⟨0, []⟩ ∈ l := getD_mem (by omega)
    have hwk := hw _ hmem
    refine gz ?_
    have hc4 : c.safe.length = d.safe.length := by rw [hc3]
    refine cd (logL c (by omega)) ?_
    refine gz ?_
    refine cd (putL c (by omega) hc2 _ _) ?_
    refine gz ?_
    rw [hc4]
    have hd' := drop_at l k ⟨0, []⟩ (by omega)
    refine br (fun h2 => ?_) (fun h2 => ?_)
    · refine gz ?_
      have e1 : putW ((d.safe.length / 4 : Nat) : Int) d l = put c (((d.safe.length / 4 : Nat) : Int) + (l.getD k ⟨0, []⟩).at_) (l.getD k ⟨0, []⟩).data := by rw [hg, hd']; exact if_pos h2
      rw [show bringM d e l = put c (((d.safe.length / 4 : Nat) : Int) + (l.getD k ⟨0, []⟩).at_) (l.getD k ⟨0, []⟩).data by unfold bringM; rw [e1, if_pos h2]]
      exact ⟨le_refl _, rfl⟩
    · refine gz ?_
      obtain ⟨s1, s2⟩ := put_small hc2 (((d.safe.length / 4 : Nat) : Int) + (l.getD k ⟨0, []⟩).at_) (l.getD k ⟨0, []⟩).data
      refine ⟨(k + 1, (put c (((d.safe.length / 4 : Nat) : Int) + (l.getD k ⟨0, []⟩).at_) (l.getD k ⟨0, []⟩).data).1), ⟨by dsimp only; omega, by rw [hg, hd']; exact if_neg h2, by dsimp only; omega, s1, by rw [put_len, hc3]⟩, (by dsimp only; omega), fits_of (gz ?_) (gz ?_) (gz ?_) (gz ?_) (gz ?_)⟩
      · first | trivial | rfl | exact ⟨rfl, rfl⟩ | exact ⟨rfl, rfl, rfl⟩ | exact rowc (List.map_id _)
      · first | trivial | rfl | exact ⟨rfl, rfl⟩ | exact ⟨rfl, rfl, rfl⟩ | exact rowc (List.map_id _)
      · first | trivial | rfl | exact ⟨rfl, rfl⟩ | exact ⟨rfl, rfl, rfl⟩ | exact rowc (List.map_id _)
      · first | trivial | rfl | exact ⟨rfl, rfl⟩ | exact ⟨rfl, rfl, rfl⟩ | exact rowc (List.map_id _)
      · first | trivial | rfl | exact ⟨rfl, rfl⟩ | exact ⟨rfl, rfl, rfl⟩ | exact rowc (List.map_id _)
  · refine gz ?_
    have e1 : putW ((d.safe.length / 4 : Nat) : Int) d l = (c, 0) := by rw [hg, List.drop_eq_nil_of_le (by omega)]; rfl
    obtain ⟨s1, s2⟩ := flush_small hc2
    refine cl (flushL c (by omega) hc2) ?_
    refine gz ?_
    refine br (fun h3 => ?_) (fun h3 => ?_)
    · refine gz ?_
      rw [show bringM d e l = flush c by unfold bringM; rw [e1, if_neg (by simp), if_pos h3]]
      exact ⟨le_refl _, rfl⟩
    · refine gz ?_
      refine cd (beginL _) ?_
      refine gz ?_
      refine .inr ?_
      refine cd (putFlL (flush c).1 0 [begin_ (e + 1)] (by simp only [List.length_cons, List.length_nil]; omega) s1) ?_
      refine gz ?_
      rw [show bringM d e l = putFl (flush c).1 0 [begin_ (e + 1)] by unfold bringM; rw [e1, if_neg (by simp), if_neg h3]]
      exact ⟨le_refl _, rfl⟩
end Go.Proofs.YtnmaaijeamlplaaDoor.Ev
namespace Go.Proofs.YtnmaaijeamlplaaDoor.Ev
open Go.RowKit
open Go.Proofs.YtnmaaijeamlplaaDoor.Mem
set_option linter.unusedVariables false
set_option linter.unusedSimpArgs false
set_option maxRecDepth 100000
def formL (n : Nat) : List (List UInt8) := (List.replicate n (filled [])).set 0 (begin_ 1)
def formatM (d : Dk) : Dk × Int := if right d = false then (d, 1) else putFl d 0 (formL (d.safe.length / 4))
theorem right_len {d : Dk} (h : right d = true) : 32 ≤ d.safe.length ∧ d.safe.length ≤ 2048 := by
  simp only [right, Bool.and_eq_true, decide_eq_true_eq] at h
  omega
theorem rep_set {α : Type} (a b : α) (i n : Nat) (h : i < n) : (List.replicate i a ++ List.replicate (n - i) b).set i a = List.replicate (i + 1) a ++ List.replicate (n - (i + 1)) b := by
  rw [show n - i = (n - (i + 1)) + 1 by omega, List.replicate_succ, List.set_append_right _ _ (by simp)]
  simp only [List.length_replicate, Nat.sub_self, List.set_cons_zero]
  rw [List.replicate_succ', List.append_assoc]; rfl
theorem format_ok (d : Dk) (hl : d.loose.length ≤ 100000) (hfu : Small d) : Spec Tryd.prog LL 18 [eDk d] (.tp [eDk (formatM d).1, .n .i64 (formatM d).2]) := by
  refine spec_of (C := ⟨Tryd.prog, LL, EE, []⟩) (rl := [eDk (formatM d).1, .n .i64 (formatM d).2]) (rs := [.cell 2 25, .tmp 3]) CCx LLs Tryd.func18 rfl (by kernel_rfl) rfl (by kernel_rfl) (Nat.le_of_ble_eq_true rfl) (fun i => rfl) (fun i => rfl) rfl (by decide) ?_
  refine gz ?_
  refine cl (rightL d (by omega)) ?_
  refine gz ?_
  refine br (fun h => ?_) (fun h => ?_)
  · refine gz ?_
    rw [show formatM d = (d, 1) from if_pos h]
    exact ⟨le_refl _, rfl⟩
  · refine gz ?_
    have hr : right d = true := by simpa using h
    obtain ⟨q1, q2⟩ := right_len hr
    refine cl (logL d (by omega)) ?_
    refine gz ?_
    refine lp_hd [1, 2, 14] [1, 2] (fun i : Nat => [(4, .ow 12 (d.safe.length / 4)), (15, .n .i64 (i : Int))]) (fun i : Nat => [(12, rS (List.replicate i (filled []) ++ List.replicate (d.safe.length / 4 - i) []))]) (fun i : Nat => i ≤ d.safe.length / 4) (fun i : Nat => d.safe.length / 4 - i) (0) id (id) (Nat.zero_le _) (fits_of (gz ?_) (gz ?_) (gz ?_) (gz ?_) (gz ?_)) ?_
    · first | trivial | rfl | exact ⟨rfl, rfl⟩ | exact ⟨rfl, rfl, rfl⟩ | exact rowc (List.map_id _)
    · first | trivial | rfl | exact ⟨rfl, rfl⟩ | exact ⟨rfl, rfl, rfl⟩ | exact rowc (List.map_id _)
    · first | trivial | rfl | exact ⟨rfl, rfl⟩ | exact ⟨rfl, rfl, rfl⟩ | exact rowc (List.map_id _)
    · first | trivial | rfl | exact ⟨rfl, rfl⟩ | exact ⟨rfl, rfl, rfl⟩ | exact rowc (List.map_id _)
    · first | trivial | rfl | exact ⟨rfl, rfl⟩ | exact ⟨rfl, rfl, rfl⟩ | exact rowc (List.map_id _)
    rintro i hi
    refine gz ?_
    refine br (fun h2 => ?_) (fun h2 => ?_)
    · refine gz ?_
      refine cl (fil_ok [] (by simp)) ?_
      refine gz ?_
      refine ⟨i + 1, (by omega), (by omega), fits_of (gz ?_) (gz ?_) (gz ?_) (gz ?_) (gz ?_)⟩
      · first | trivial | rfl | exact ⟨rfl, rfl⟩ | exact ⟨rfl, rfl, rfl⟩ | exact rowc (List.map_id _)
      · rfl
      · first | trivial | rfl | exact ⟨rfl, rfl⟩ | exact ⟨rfl, rfl, rfl⟩ | exact rowc (List.map_id _)
      · exact rowc (rep_set _ _ _ _ (by omega))
      · first | trivial | rfl | exact ⟨rfl, rfl⟩ | exact ⟨rfl, rfl, rfl⟩ | exact rowc (List.map_id _)
    · refine gz ?_
      obtain rfl : i = d.safe.length / 4 := by omega
      refine cl (beginL 1) ?_
      refine gz ?_
      rw [Nat.sub_self, List.replicate_zero, List.append_nil]
      refine cf [12] (putFlL d 0 (formL (d.safe.length / 4)) (by simp [formL]; omega) hfu) (gz ?_) (fun i => rfl) ?_
      · exact le_refl _
      refine gz ?_
      rw [show formatM d = putFl d 0 (formL (d.safe.length / 4)) from if_neg h]
      exact ⟨le_refl _, rfl⟩
theorem home_ok (d : Dk) (hl : d.loose.length ≤ 100000) (hr : ready d = 0) (hg : right d = true) : Spec Tryd.prog LL 10 [eDk d] (.tp [.sl 1 (List UInt8) [] ((List.range (d.safe.length - d.safe.length / 4)).map fun i => got d (((d.safe.length / 4 : Nat) : Int) + (i : Nat))) .s, .n .i64 0]) := by
  refine spec_of (C := ⟨Tryd.prog, LL, EE, []⟩) (rl := [.sl 1 (List UInt8) [] ((List.range (d.safe.length - d.safe.length / 4)).map fun i => got d (((d.safe.length / 4 : Nat) : Int) + (i : Nat))) .s, .n .i64 0]) (rs := [.tmp 2, .tmp 3]) CCx LLs Tryd.func10 rfl (by kernel_rfl) rfl (by kernel_rfl) (Nat.le_of_ble_eq_true rfl) (fun i => rfl) (fun i => rfl) rfl (by decide) ?_
  refine gz ?_
  obtain ⟨q1, q2⟩ := right_len hg
  refine cl (rightL d (by omega)) ?_
  refine gz ?_
  rw [hg]
  refine gz ?_
  refine cl (logL d (by omega)) ?_
  refine gz ?_
  refine lp_nil 4 9 hS (gz ?_) (gz ?_) ?_
  · trivial
  · trivial
  refine lp_hd [1] [1] (fun i : Nat => [(4, .ow 4 i), (5, .n .i64 (((d.safe.length / 4 : Nat) : Int) + (i : Int)))]) (fun i : Nat => [(4, rS ((List.range i).map fun i => got d (((d.safe.length / 4 : Nat) : Int) + (i : Nat))))]) (fun i : Nat => i ≤ d.safe.length - d.safe.length / 4) (fun i : Nat => d.safe.length - d.safe.length / 4 - i) (0) id (fun i => if i = 4 then 32 else i) (Nat.zero_le _) (fits_of (gz ?_) (gz ?_) (gz ?_) (gz ?_) (gz ?_)) ?_
  · first | trivial | rfl | exact ⟨rfl, rfl⟩ | exact ⟨rfl, rfl, rfl⟩ | exact rowc (List.map_id _)
  · first | trivial | rfl | exact ⟨rfl, rfl⟩ | exact ⟨rfl, rfl, rfl⟩ | exact rowc (List.map_id _)
  · first | trivial | rfl | exact ⟨rfl, rfl⟩ | exact ⟨rfl, rfl, rfl⟩ | exact rowc (List.map_id _)
  · first | trivial | rfl | exact ⟨rfl, rfl⟩ | exact ⟨rfl, rfl, rfl⟩ | exact rowc (List.map_id _)
  · first | trivial | rfl | exact ⟨rfl, rfl⟩ | exact ⟨rfl, rfl, rfl⟩ | exact rowc (List.map_id _)
  rintro i hi
  refine gz ?_
  refine br (fun h => ?_) (fun h => ?_)
  · refine gz ?_
    refine cl (getK d (by omega) _ hr (by omega) (by omega)) ?_
    refine gz ?_
    refine .inr ?_
    refine ⟨i + 1, (by omega), (by omega), fits_of (gz ?_) (gz ?_) (gz ?_) (gz ?_) (gz ?_)⟩
    · first | trivial | rfl | exact ⟨rfl, rfl⟩ | exact ⟨rfl, rfl, rfl⟩ | exact rowc (List.map_id _)
    · (congr 1 <;> omega)
    · first | trivial | rfl | exact ⟨rfl, rfl⟩ | exact ⟨rfl, rfl, rfl⟩ | exact rowc (List.map_id _)
    · exact rowc (by rw [List.range_succ, List.map_append]; rfl)
    · first | trivial | rfl | exact ⟨rfl, rfl⟩ | exact ⟨rfl, rfl, rfl⟩ | exact rowc (List.map_id _)
  · refine gz ?_
    rw [show i = d.safe.length - d.safe.length / 4 by omega]
    exact le_refl _
end Go.Proofs.YtnmaaijeamlplaaDoor.Ev
namespace Go.Proofs.YtnmaaijeamlplaaDoor.Ev
open Go.RowKit
open Go.Proofs.YtnmaaijeamlplaaDoor.Mem
set_option linter.unusedVariables false
set_option linter.unusedSimpArgs false
set_option maxRecDepth 100000
theorem join_len : ∀ l : List (List UInt8), (∀ s ∈ l, s.length = 256) → (Lib.join l []).length = 256 * l.length
  | [], _ => rfl
  | [x], h => by
    simp [Lib.join, h]
  | x :: y :: l, h => by
    show (x ++ ([] ++ Lib.join (y :: l) [])).length = _
    rw [List.nil_append, List.length_append, join_len (y :: l) (fun s hs => h s (List.mem_cons_of_mem _ hs)), h x (by simp), List.length_cons (a := x)]; omega
theorem bodyS_len (e : Int) (l : List Wr) : (bodyS e l).length = (l.length + 60) / 61 + l.length := by simp [bodyS]
theorem bodyS_all (e : Int) (l : List Wr) (hl : ∀ w ∈ l, w.data.length = 256) : ∀ s ∈ bodyS e l, s.length = 256 := fun s hs => by
  rcases List.mem_append.1 hs with hs | hs
  · obtain ⟨i, _, rfl⟩ := List.mem_map.1 hs
    unfold headS
    refine filled_len _ ?_
    rw [List.length_append, List.length_append, nb_len, nb_len, plcs_len, List.length_take]
    omega
  · obtain ⟨w, hw, rfl⟩ := List.mem_map.1 hs
    exact hl w hw
theorem putAll_len (a : Int) : ∀ (l : List (List UInt8)) (d : Dk) (i : Nat), (putAll a d i l).1.safe = d.safe
  | [], d, i => rfl
  | x :: l, d, i => by
    unfold putAll
    split
    · exact put_len _ _ _
    · rw [putAll_len, put_len]
theorem flush_len (d : Dk) : (flush d).1.safe.length = d.safe.length := by
  obtain ⟨b1, b2⟩ := burn_rows d
  unfold flush
  split
  · rfl
  · split
    · rw [b1]
    · show (laid _ _).length = _
      rw [laid_len, b1]
theorem putFl_len (d : Dk) (a : Int) (l : List (List UInt8)) : (putFl d a l).1.safe.length = d.safe.length := by
  unfold putFl
  split
  · rw [putAll_len]
  · rw [flush_len, putAll_len]
theorem putFl_small (d : Dk) (a : Int) (l : List (List UInt8)) (h : Small d) : Small (putFl d a l).1 ∧ (putFl d a l).1.loose.length ≤ d.loose.length + l.length := by
  obtain ⟨s1, s2⟩ := putAll_small a l d 0 h
  unfold putFl
  split
  · exact ⟨s1, s2⟩
  · obtain ⟨t1, t2⟩ := flush_small s1
    exact ⟨t1, by omega⟩
theorem riseL_mem (lim : Int) : ∀ (l : List Wr) (last : Int), riseL lim last l = true → ∀ w ∈ l, last < w.at_ ∧ w.at_ < lim
  | [], _, _, w, hw => by cases hw
  | x :: l, last, h, w, hw => by
    unfold riseL at h
    split at h
    · cases h
    · rename_i h1
      rcases List.mem_cons.1 hw with rfl | hw
      · omega
      · have := riseL_mem lim l x.at_ h w hw
        omega
def okW' (d : Dk) (l : List Wr) : Prop := right d = true ∧ riseL (lim d) (-1) l = true ∧ (l.all fun w => decide (w.data.length = 256)) = true
instance (d : Dk) (l : List Wr) : Decidable (okW' d l) := by unfold okW'; infer_instance
def commitM (d : Dk) (l : List Wr) : Dk × Int :=
  if ¬ okW' d l then (d, 1) else if ¬ (current d).2 = 0 then (d, (current d).2) else if l.length = 0 then (d, 0) else if fitsB d l.length = false then (d, 10) else
  if ¬ (putFl d 2 (bodyS (current d).1 l)).2 = 0 then putFl d 2 (bodyS (current d).1 l) else
  if ¬ (putFl (putFl d 2 (bodyS (current d).1 l)).1 1 [endS (current d).1 l.length (bodyS (current d).1 l)]).2 = 0 then putFl (putFl d 2 (bodyS (current d).1 l)).1 1 [endS (current d).1 l.length (bodyS (current d).1 l)] else
  bringM (putFl (putFl d 2 (bodyS (current d).1 l)).1 1 [endS (current d).1 l.length (bodyS (current d).1 l)]).1 (current d).1 l
theorem cur_lt {d : Dk} (h : (current d).2 = 0) : 0 ≤ (current d).1 ∧ (current d).1 < 4611686018427387904 := by
  unfold current at h ⊢
  split
  · rename_i h1; rw [if_pos h1] at h; cases h
  · rename_i h1
    rw [if_neg h1] at h
    split
    · rename_i h2
      refine ⟨?_, h2.2⟩
      have := h2.1
      unfold epoch at this ⊢
      split
      · rename_i h3
        rw [if_pos h3] at this
        simp only [Bool.and_eq_true, decide_eq_true_eq] at this
        dsimp only
        omega
      · rename_i h3; rw [if_neg h3] at this; cases this
    · rename_i h2; rw [if_neg h2] at h; cases h
theorem commit_ok (d : Dk) (l : List Wr) (hl : d.loose.length ≤ 1000) (hfu : Small d) (hd : d.safe.length ≤ 1000000) (hll : l.length ≤ 100000000000000) : Spec Tryd.prog LL 20 [eDk d, .sl 2 Wr ⟨0, []⟩ l eWr] (.tp [eDk (commitM d l).1, .n .i64 (commitM d l).2]) := by
  refine spec_of (C := ⟨Tryd.prog, LL, EE, []⟩) (rl := [eDk (commitM d l).1, .n .i64 (commitM d l).2]) (rs := [.cell 4 25, .tmp 5]) CCx LLs Tryd.func20 rfl (by kernel_rfl) rfl (by kernel_rfl) (Nat.le_of_ble_eq_true rfl) (fun i => rfl) (fun i => rfl) rfl (by decide) ?_
  refine gz ?_
  refine cl (rightL d (by omega)) ?_
  refine gz ?_
  refine br (fun r1 => ?_) (fun r1 => ?_)
  · refine gz ?_
    obtain ⟨q1, q2⟩ := right_len r1
    refine cl (riseL' d l (by omega) hll) ?_
    refine gz ?_
    refine br (fun r2 => ?_) (fun r2 => ?_)
    · refine gz ?_
      refine cl (sizedL l hll) ?_
      refine gz ?_
      refine br (fun r3 => ?_) (fun r3 => ?_)
      · refine gz ?_
        rw [show commitM d l = (d, 1) from if_pos (fun h => by have := h.2.2; rw [r3] at this; cases this)]
        exact ⟨le_refl _, rfl⟩
      · have hok : okW' d l := ⟨r1, r2, by simpa using r3⟩
        have e1 : ¬ ¬ okW' d l := fun h => h hok
        refine gz ?_
        refine cl (curL d (by omega)) ?_
        refine gz ?_
        refine br (fun c1 => ?_) (fun c1 => ?_)
        · refine gz ?_
          rw [show commitM d l = (d, (current d).2) from (if_neg e1).trans (if_pos c1)]
          exact ⟨le_refl _, rfl⟩
        · have e2 : commitM d l = _ := (if_neg e1).trans (if_neg c1)
          have hc := cur_lt (d := d) (by simpa using c1)
          refine gz ?_
          refine br (fun c2 => ?_) (fun c2 => ?_)
          · refine gz ?_
            rw [e2, if_pos (by omega)]
            exact ⟨le_refl _, rfl⟩
          · rw [if_neg (show ¬ l.length = 0 by omega)] at e2
            refine gz ?_
            refine cl (fitsL d _ (by omega)) ?_
            refine gz ?_
            refine br (fun c3 => ?_) (fun c3 => ?_)
            · refine gz ?_
              rw [e2, if_pos c3]
              exact ⟨le_refl _, rfl⟩
            · rw [if_neg c3] at e2
              have hf : fitsB d l.length = true := by simpa using c3
              simp only [fitsB, Bool.and_eq_true, decide_eq_true_eq] at hf
              have hw : ∀ w ∈ l, w.data.length = 256 := fun w hw => by have := List.all_eq_true.1 hok.2.2 w hw; simpa using this
              have hb := bodyS_len (current d).1 l
              have hj := join_len (bodyS (current d).1 l) (bodyS_all _ l hw)
              refine gz ?_
              refine cl (body_ok _ l (by omega)) ?_
              refine gz ?_
              obtain ⟨s1, s2⟩ := putFl_small d 2 (bodyS (current d).1 l) hfu
              have s3 := putFl_len d 2 (bodyS (current d).1 l)
              refine cl (putFlL d 2 (bodyS (current d).1 l) (by omega) hfu) ?_
              refine gz ?_
              refine br (fun c4 => ?_) (fun c4 => ?_)
              · refine gz ?_
                rw [e2, if_pos c4]
                exact ⟨le_refl _, rfl⟩
              · rw [if_neg c4] at e2
                refine gz ?_
                refine cd (end_ok (current d).1 _ (bodyS (current d).1 l) (by omega) (by omega)) ?_
                refine gz ?_
                refine .inr ?_
                obtain ⟨t1, t2⟩ := putFl_small (putFl d 2 (bodyS (current d).1 l)).1 1 [endS (current d).1 l.length (bodyS (current d).1 l)] s1
                have t3 := putFl_len (putFl d 2 (bodyS (current d).1 l)).1 1 [endS (current d).1 l.length (bodyS (current d).1 l)]
                simp only [List.length_cons, List.length_nil] at t2
                refine cd (putFlL (putFl d 2 (bodyS (current d).1 l)).1 1 [endS (current d).1 l.length (bodyS (current d).1 l)] (by simp only [List.length_cons, List.length_nil]; omega) s1) ?_
                refine gz ?_
                refine br (fun c5 => ?_) (fun c5 => ?_)
                · refine gz ?_
                  rw [e2, if_pos c5]
                  exact ⟨le_refl _, rfl⟩
                · rw [if_neg c5] at e2
                  refine gz ?_
                  refine cl (bring_ok (putFl (putFl d 2 (bodyS (current d).1 l)).1 1 [endS (current d).1 l.length (bodyS (current d).1 l)]).1 (current d).1 l (by omega) t1 (by omega) hc (fun w hw => by have := riseL_mem _ l _ hok.2.1 w hw; unfold lim at this; omega)) ?_
                  refine gz ?_
                  rw [e2]
                  exact ⟨le_refl _, rfl⟩
    · refine gz ?_
      rw [show commitM d l = (d, 1) from if_pos (fun h => r2 h.2.1)]
      exact ⟨le_refl _, rfl⟩
  · refine gz ?_
    rw [show commitM d l = (d, 1) from if_pos (fun h => r1 h.1)]
    exact ⟨le_refl _, rfl⟩
def recN (d : Dk) : Nat := (endedM d (current d).1 (got d 1)).toNat
def recS (d : Dk) : List (List UInt8) := (List.range ((recN d + 60) / 61 + recN d)).map fun i => got d (2 + (i : Nat))
def recL (d : Dk) : List Wr := (List.range (recN d)).map (wrAt (recS d) (recN d))
def recoverM (d : Dk) : Dk × Int :=
  if right d = false then (d, 1) else if ¬ (current d).2 = 0 then (d, (current d).2) else if recN d = 0 then (d, 0) else
  if ¬ got d 1 = endS (current d).1 (recN d) (recS d) ∨ riseL (lim d) (-1) (recL d) = false then (d, 20) else bringM d (current d).1 (recL d)
theorem got_len {d : Dk} {a : Int} (h : ready d = 0) (h0 : 0 ≤ a) (h1 : a < d.safe.length) : (got d a).length = 256 := by
  have e := get_is h h0 h1
  have := get_len (d := d) (a := a) (by rw [e])
  rw [e] at this
  exact this
theorem ready_of {d : Dk} (h : right d = true) (hc : (current d).2 = 0) : ready d = 0 := by
  unfold current at hc
  split at hc
  · cases hc
  · rename_i h1
    unfold ready
    rw [if_pos h, if_neg h1]
theorem recN_fits {d : Dk} : recN d = 0 ∨ fitsB d (recN d) = true ∧ endedM d (current d).1 (got d 1) = recN d := by
  unfold recN endedM
  split
  · rename_i h
    have h2 := h.2
    simp only [fitsB, Bool.and_eq_true, decide_eq_true_eq] at h2
    right
    rw [Int.toNat_of_nonneg h2.1]
    exact ⟨h.2, rfl⟩
  · exact .inl rfl
theorem recover_ok (d : Dk) (hl : d.loose.length ≤ 1000) (hfu : Small d) (hd : d.safe.length ≤ 1000000) : Spec Tryd.prog LL 22 [eDk d] (.tp [eDk (recoverM d).1, .n .i64 (recoverM d).2]) := by
  refine spec_of (C := ⟨Tryd.prog, LL, EE, []⟩) (rl := [eDk (recoverM d).1, .n .i64 (recoverM d).2]) (rs := [.cell 2 25, .tmp 3]) CCx LLs Tryd.func22 rfl (by kernel_rfl) rfl (by kernel_rfl) (Nat.le_of_ble_eq_true rfl) (fun i => rfl) (fun i => rfl) rfl (by decide) ?_
  refine gz ?_
  refine cl (rightL d (by omega)) ?_
  refine gz ?_
  refine br (fun r1 => ?_) (fun r1 => ?_)
  · refine gz ?_
    rw [show recoverM d = (d, 1) from if_pos r1]
    exact ⟨le_refl _, rfl⟩
  · have r2 : right d = true := by simpa using r1
    have e1 : recoverM d = _ := if_neg r1
    obtain ⟨q1, q2⟩ := right_len r2
    refine gz ?_
    refine cl (curL d (by omega)) ?_
    refine gz ?_
    refine br (fun c1 => ?_) (fun c1 => ?_)
    · refine gz ?_
      rw [e1, if_pos c1]
      exact ⟨le_refl _, rfl⟩
    · have hr := ready_of r2 (by simpa using c1)
      rw [if_neg c1] at e1
      have hc := cur_lt (d := d) (by simpa using c1)
      refine gz ?_
      refine cl (getK d (by omega) 1 hr (by omega) (by omega)) ?_
      refine gz ?_
      have g1 := got_len (a := 1) hr (by omega) (by omega)
      refine cl (ended_ok d (current d).1 (got d 1) g1 (by omega)) ?_
      refine gz ?_
      refine br (fun c2 => ?_) (fun c2 => ?_)
      · refine gz ?_
        rw [e1, if_pos (by unfold recN; rw [c2]; rfl)]
        exact ⟨le_refl _, rfl⟩
      · rcases recN_fits (d := d) with h0 | ⟨h0, h1⟩
        · exfalso
          apply c2
          unfold recN at h0
          unfold endedM at h0 ⊢
          split
          · rename_i h
            rw [if_pos h] at h0
            have h2 := h.2
            simp only [fitsB, Bool.and_eq_true, decide_eq_true_eq] at h2
            omega
          · rfl
        · rw [h1] at c2 ⊢
          rw [if_neg (show ¬ recN d = 0 by omega)] at e1
          simp only [fitsB, Bool.and_eq_true, decide_eq_true_eq] at h0
          have hsl : (recS d).length = (recN d + 60) / 61 + recN d := by simp [recS]
          have hsa : ∀ s ∈ recS d, s.length = 256 := fun s hs => by
            obtain ⟨i, hi, rfl⟩ := List.mem_map.1 hs
            have := List.mem_range.1 hi
            exact got_len hr (by omega) (by omega)
          have hj := join_len (recS d) hsa
          refine gz ?_
          refine cl (readBody_ok d (recN d) hr (by omega) (by omega) (by omega)) ?_
          refine gz ?_
          refine cl (writes_ok (recS d) (recN d) hsl hsa (by omega)) ?_
          refine gz ?_
          refine cl (end_ok (current d).1 (recN d) (recS d) (by omega) (by omega)) ?_
          refine gz ?_
          refine br (fun c3 => ?_) (fun c3 => ?_)
          · refine gz ?_
            refine cl (riseL' d (recL d) (by omega) (by simp [recL]; omega)) ?_
            refine gz ?_
            refine br (fun c4 => ?_) (fun c4 => ?_)
            · refine gz ?_
              rw [e1, if_pos (.inr c4)]
              exact ⟨le_refl _, rfl⟩
            · refine gz ?_
              refine cl (bring_ok d (current d).1 (recL d) (by simp [recL]; omega) hfu (by omega) hc (fun w hw => by have := riseL_mem _ (recL d) (-1) (by simpa using c4) w hw; unfold lim at this; omega)) ?_
              refine gz ?_
              rw [e1, if_neg (fun h => h.elim (fun h => h c3) c4)]
              exact ⟨le_refl _, rfl⟩
          · refine gz ?_
            rw [e1, if_pos (.inl c3)]
            exact ⟨le_refl _, rfl⟩
end Go.Proofs.YtnmaaijeamlplaaDoor.Ev
