import Derived.Test.YtnmaaijeamlplaaDoorAx
import Derived.WalkKit
import Derived.ProofKit
import Derived.OpenShut
import Derived.ChangeMaps5
import Derived.Carry
import Derived.SizedLaws
import Derived.Deep.Slices
set_option linter.unusedVariables false
set_option linter.unusedSimpArgs false
namespace Go.Proofs.YtnmaaijeamlplaaDoor.Mem
open Go.ChangeShapes Go.WideShapes Go.ChangeAt Go.RowKit Go.ChangeMaps
def Small {H : Type} (R : Nat) (P : Program) (t : TypeId) (d : DataW H) : Prop := ∀ n ∈ DataW.weights P t d, n ≤ R
def Opens (R : Nat) (P : Program) (e : TypeId) {α : Type} (ec : α → List Value) (ok : α → Prop) : Prop :=
 ∀ {H : Type} {enc : TypeId × Value → H} {W : World} {base : Nat} {held : Bool} {m : Nat} {cs : List Value} {x : DataW H × List MemPlace}, DataW.trod enc P W base (fun _ => true) held m e cs = some x → Small R P e x.1 → ∃ y, cs = ec y ∧ ok y
theorem opens_int {R : Nat} {P : Program} {t : TypeId} (ht : P.underlying t = some (.int .i64)) : Opens R P t eI (fun n => -9223372036854775808 ≤ n ∧ n ≤ 9223372036854775807) := by
 intro H enc W base held m cs x h _
 obtain ⟨n, rfl, _, hw⟩ := DataW.trod_int ht h
 exact ⟨n, rfl, bounds_i64 hw⟩
theorem opens_string {R : Nat} {P : Program} {t : TypeId} (ht : P.underlying t = some .string) : Opens R P t eS (fun s => s.length ≤ R) := by
 intro H enc W base held m cs x h hs
 obtain ⟨s, rfl, hx, _⟩ := DataW.trod_string ht h
 refine ⟨bl s, by rw [eS, tx_bl], ?_⟩
 have h1 := hs s.data.toList.length (by rw [hx]; simp [DataW.weights])
 exact h1
def eT (b : Bool) : List Value := [.bool b]
theorem opens_bool {R : Nat} {P : Program} {t : TypeId} (ht : P.underlying t = some .bool) : Opens R P t eT (fun _ => True) := by
 intro H enc W base held m cs x h _
 obtain ⟨b, rfl, _⟩ := DataW.trod_bool ht h
 exact ⟨b, rfl, trivial⟩
theorem weights_all {H : Type} {P : Program} {e : TypeId} {d : DataW H} : ∀ {l : List (DataW H)}, d ∈ l → ∀ n ∈ DataW.weights P e d, n ∈ DataW.weightsAll P e l
 | x :: l, h, n, hn => by
  unfold DataW.weightsAll
  rcases List.mem_cons.1 h with rfl | h
  ·exact List.mem_append.2 (.inl hn)
  exact List.mem_append.2 (.inr (weights_all h n hn))
theorem spot_none {W : World} {a : Addr} {v : Value} (h : W.cell? ((a.add 0).add 0) = some v) : a.spot = none := by
 have := World.cell?_spot h
 simpa [Addr.add] using this
theorem open_rs {R : Nat} {P : Program} {t e : TypeId} {α : Type} [Inhabited α] {ec : α → List Value} {ok : α → Prop} {k b : Nat} (ht : P.underlying t = some (.slice e)) (hk : P.cellsOf e = k) (hb : P.bytesOf e = b) (hk0 : 0 < k) (hlen : ∀ y, (ec y).length = k) (O : Opens R P e ec ok)
  {H : Type} {enc : TypeId × Value → H} {W : World} {base : Nat} {held : Bool} {m : Nat} {v : Value} {x : DataW H × List MemPlace} (h : DataW.trod enc P W base (fun _ => true) held m t [v] = some x) (hs : Small R P t x.1) :
  ∃ l : List α, Rs ec k l v W ∧ (∀ y ∈ l, ok y) ∧ l.length * b ≤ R := by
 rcases Go.Deep.open_slice ht h with ⟨hcs, _⟩ | ⟨a, len, cap, m', n, D, Pl, hcs, _, hlc, hl, hm, hx, hel⟩
 ·simp only [List.cons.injEq, and_true] at hcs
  subst hcs
  exact ⟨[], Rs.nil ec k W, fun y hy => (by cases hy), by simp⟩
 simp only [List.cons.injEq, and_true] at hcs
 subst hcs
 simp only [if_true] at hm
 subst hm
 rw [hk] at hel
 have hw : ∀ i, i < len → ∃ y, W.cells? base (a.add (i * k)) k = some (ec y) ∧ ok y := by
  intro i hi
  obtain ⟨cs', h1, h2⟩ := hel i (by omega)
  obtain ⟨y, rfl, hy⟩ := O h2 (fun n hn => hs n (by
   rw [hx]
   unfold DataW.weights
   simp only [ht]
   exact List.mem_cons_of_mem _ (List.mem_append.2 (.inl (weights_all (d := D i) (List.mem_map.2 ⟨i, List.mem_range.2 hi, rfl⟩) n hn)))))
  exact ⟨y, h1, hy⟩
 obtain ⟨Y, hY⟩ := Go.Deep.choose_lt hw
 have hll : ((List.range len).map Y).length = len := by simp
 refine ⟨(List.range len).map Y, ⟨flat_len hlen _, ?_⟩, fun y hy => ?_, ?_⟩
 ·rw [hll]
  by_cases h0 : len = 0
  ·exact .inl ⟨h0, some a, m', by rw [h0]⟩
  have c0 := (World.cells?_some (hY 0 (by omega)).1).2.2 0 hk0
  have hspot : a.spot = none := by
   rw [List.getElem?_eq_getElem (by rw [hlen]; exact hk0), Nat.zero_mul] at c0
   exact spot_none c0
  obtain ⟨b', o', s'⟩ := a
  obtain rfl : s' = none := hspot
  refine .inr ⟨b', o', m', rfl, fun j u hu => ?_, hlc⟩
  have hj : j < len * k := by
   have := (List.getElem?_eq_some_iff.1 hu).1
   rwa [flat_len hlen, hll] at this
  have hi : j / k < len := Nat.div_lt_of_lt_mul (by rwa [Nat.mul_comm] at hj)
  have hr : j % k < k := Nat.mod_lt _ hk0
  have hjj : j / k * k + j % k = j := by rw [Nat.mul_comm]; exact Nat.div_add_mod j k
  have c1 := (World.cells?_some (hY (j / k) hi).1).2.2 (j % k) hr
  have hg : ((List.range len).map Y).getD (j / k) default = Y (j / k) := by
   rw [List.getD_eq_getElem?_getD, List.getElem?_map, List.getElem?_range hi]; rfl
  have hlt : j % k < (ec (Y (j / k))).length := by rw [hlen]; exact hr
  have h3 := flat_at hlen default ((List.range len).map Y) (j / k) (j % k) ((ec (Y (j / k)))[j % k]'hlt) (by rw [hll]; exact hi) (by rw [hg]; exact List.getElem?_eq_getElem hlt)
  rw [hjj, hu] at h3
  obtain rfl := Option.some.inj h3
  rw [List.getElem?_eq_getElem hlt, add_lit, add_lit, Nat.add_assoc, hjj] at c1
  exact c1
 ·obtain ⟨i, hi, rfl⟩ := List.mem_map.1 hy
  exact (hY i (List.mem_range.1 hi)).2
 have h1 := hs ((((List.range len).map D).length + ((List.range (m' - len)).map fun j => D (len + j)).length) * P.bytesOf e) (by
  rw [hx]
  unfold DataW.weights
  simp only [ht]
  exact List.mem_cons_self)
 rw [hll]
 rw [hb] at h1
 simp only [List.length_map, List.length_range] at h1
 exact Nat.le_trans (Nat.mul_le_mul_right _ (by omega)) h1
theorem field_open {R : Nat} {P : Program} {T : TypeId} {fs : Array Field} (ht : P.underlying T = some (.struct fs)) {H : Type} {enc : TypeId × Value → H} {W : World} {base : Nat} {held : Bool} {m : Nat} {cs : List Value} {x : DataW H × List MemPlace} (h : DataW.trod enc P W base (fun _ => true) held m T cs = some x) (hs : Small R P T x.1) :
  cs.length = P.cellsOf T ∧ ∃ n, ∀ (i : Nat) (f : Field), fs[i]? = some f → ∃ y, DataW.trod enc P W base (fun _ => true) held n f.type ((cs.drop f.offset).take (P.cellsOf f.type)) = some y ∧ Small R P f.type y.1 := by
 obtain ⟨xs, n, _, hx, hl, hlen, hel⟩ := DataW.trod_struct ht h
 refine ⟨hl, n, fun i f hf => ?_⟩
 have hi : i < fs.size := (Array.getElem?_eq_some_iff.1 hf).1
 have h1 := hel i f hf
 rw [List.getElem?_eq_getElem (by omega)] at h1
 refine ⟨_, h1, fun w hw => hs w ?_⟩
 rw [hx]
 unfold DataW.weights
 simp only [ht]
 exact DataW.weights_mem_each (j := i) (t := f.type) (d := (xs[i]'(by omega)).1) (by simp [hf]) (by rw [List.getElem?_map, List.getElem?_eq_getElem (by omega)]; rfl) w hw
end Go.Proofs.YtnmaaijeamlplaaDoor.Mem
