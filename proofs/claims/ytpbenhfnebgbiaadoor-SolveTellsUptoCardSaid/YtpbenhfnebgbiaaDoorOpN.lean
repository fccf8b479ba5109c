/- Arguments that come in, opened: slices of structs that hold slices. -/
import Derived.Test.YtpbenhfnebgbiaaDoorOp
import Derived.Test.YtpbenhfnebgbiaaDoorNst
set_option linter.unusedVariables false
namespace Go.Proofs.YtpbenhfnebgbiaaDoor.Mem
open Go.ChangeShapes Go.WideShapes Go.ChangeAt Go.RowKit Go.ChangeMaps
theorem open_rsW {R : Nat} {P : Program} {t e : TypeId} {α : Type} [Inhabited α] {ec : α → List Value} {ok : α → Prop} {k b : Nat} (ht : P.underlying t = some (.slice e)) (hk : P.cellsOf e = k) (hb : P.bytesOf e = b) (hk0 : 0 < k) (hlen : ∀ y, (ec y).length = k)
    {H : Type} {enc : TypeId × Value → H} {W : World} {base : Nat} {held : Bool} {m : Nat} {v : Value} {x : DataW H × List MemPlace}
    (O : ∀ {m : Nat} {cs : List Value} {x : DataW H × List MemPlace}, DataW.trod enc P W base (fun _ => true) held m e cs = some x → Small R P e x.1 → ∃ y, cs = ec y ∧ ok y)
    (h : DataW.trod enc P W base (fun _ => true) held m t [v] = some x) (hs : Small R P t x.1) :
    ∃ l : List α, Rs ec k l v W ∧ (∀ y ∈ l, ok y) ∧ l.length * b ≤ R := by
  rcases Go.Deep.open_slice ht h with ⟨hcs, _⟩ | ⟨a, len, cap, m', n, D, Pl, hcs, _, hlc, hl, hm, hx, hel⟩
  · simp only [List.cons.injEq, and_true] at hcs
    subst hcs
    exact ⟨[], Rs.nil ec k W, fun y hy => (by cases hy), by simp⟩
  · simp only [List.cons.injEq, and_true] at hcs
    subst hcs
    simp only [if_true] at hm
    subst hm
    rw [hk] at hel
    have hw : ∀ i, i < len → ∃ y, W.cells? base (a.add (i * k)) k = some (ec y) ∧ ok y := by
      intro i hi
      obtain ⟨cs', h1, h2⟩ := hel i (by omega)
      obtain ⟨y, rfl, hy⟩ := O h2 (fun n hn => hs n (by
        rw [hx]
        unfold DataW.weights
        simp only [ht]
        exact List.mem_cons_of_mem _ (List.mem_append.2 (.inl (weights_all (d := D i) (List.mem_map.2 ⟨i, List.mem_range.2 hi, rfl⟩) n hn)))))
      exact ⟨y, h1, hy⟩
    obtain ⟨Y, hY⟩ := Go.Deep.choose_lt hw
    have hll : ((List.range len).map Y).length = len := by simp
    refine ⟨(List.range len).map Y, ⟨flat_len hlen _, ?_⟩, fun y hy => ?_, ?_⟩
    · rw [hll]
      by_cases h0 : len = 0
      · exact .inl ⟨h0, some a, m', by rw [h0]⟩
      · have c0 := (World.cells?_some (hY 0 (by omega)).1).2.2 0 hk0
        have hspot : a.spot = none := by
          rw [List.getElem?_eq_getElem (by rw [hlen]; exact hk0), Nat.zero_mul] at c0
          exact spot_none c0
        obtain ⟨b', o', s'⟩ := a
        obtain rfl : s' = none := hspot
        refine .inr ⟨b', o', m', rfl, fun j u hu => ?_, hlc⟩
        have hj : j < len * k := by
          have := (List.getElem?_eq_some_iff.1 hu).1
          rwa [flat_len hlen, hll] at this
        have hi : j / k < len := Nat.div_lt_of_lt_mul (by rwa [Nat.mul_comm] at hj)
        have hr : j % k < k := Nat.mod_lt _ hk0
        have hjj : j / k * k + j % k = j := by rw [Nat.mul_comm]; exact Nat.div_add_mod j k
        have c1 := (World.cells?_some (hY (j / k) hi).1).2.2 (j % k) hr
        have hg : ((List.range len).map Y).getD (j / k) default = Y (j / k) := by
          rw [List.getD_eq_getElem?_getD, List.getElem?_map, List.getElem?_range hi]; rfl
        have hlt : j % k < (ec (Y (j / k))).length := by rw [hlen]; exact hr
        have h3 := flat_at hlen default ((List.range len).map Y) (j / k) (j % k) ((ec (Y (j / k)))[j % k]'hlt) (by rw [hll]; exact hi) (by rw [hg]; exact List.getElem?_eq_getElem hlt)
        rw [hjj, hu] at h3
        obtain rfl := Option.some.inj h3
        rw [List.getElem?_eq_getElem hlt, add_lit, add_lit, Nat.add_assoc, hjj] at c1
        exact c1
    · obtain ⟨i, hi, rfl⟩ := List.mem_map.1 hy
      exact (hY i (List.mem_range.1 hi)).2
    · have h1 := hs ((((List.range len).map D).length + ((List.range (m' - len)).map fun j => D (len + j)).length) * P.bytesOf e) (by
        rw [hx]
        unfold DataW.weights
        simp only [ht]
        exact List.mem_cons_self)
      rw [hll]
      rw [hb] at h1
      simp only [List.length_map, List.length_range] at h1
      exact Nat.le_trans (Nat.mul_le_mul_right _ (by omega)) h1
theorem zip_unz {α β : Type} : ∀ ps : List (α × β), (ps.map Prod.fst).zip (ps.map Prod.snd) = ps
  | [] => rfl
  | p :: ps => by rw [List.map_cons, List.map_cons, List.zip_cons_cons, zip_unz ps]
theorem open_rn {R : Nat} {P : Program} {t e : TypeId} {α β : Type} {ec : α × β → List Value} {RM : α → β → World → Prop} {ok : α → Prop} {k b : Nat} (d : α) (d' : β) (ht : P.underlying t = some (.slice e)) (hk : P.cellsOf e = k) (hb : P.bytesOf e = b) (hk0 : 0 < k) (hlen : ∀ y, (ec y).length = k)
    {H : Type} {enc : TypeId × Value → H} {W : World} {base : Nat} {held : Bool} {m : Nat} {v : Value} {x : DataW H × List MemPlace}
    (O : ∀ {m : Nat} {cs : List Value} {x : DataW H × List MemPlace}, DataW.trod enc P W base (fun _ => true) held m e cs = some x → Small R P e x.1 → ∃ y u, cs = ec (y, u) ∧ RM y u W ∧ ok y)
    (h : DataW.trod enc P W base (fun _ => true) held m t [v] = some x) (hs : Small R P t x.1) :
    ∃ (l : List α) (u : List β), Rn ec k RM l u v W ∧ (∀ y ∈ l, ok y) ∧ l.length * b ≤ R := by
  haveI : Inhabited (α × β) := ⟨(d, d')⟩
  obtain ⟨ps, h1, h2, h3⟩ := open_rsW (ok := fun p : α × β => RM p.1 p.2 W ∧ ok p.1) ht hk hb hk0 hlen (fun h hs => by
    obtain ⟨y, u, a, b, c⟩ := O h hs
    exact ⟨(y, u), a, b, c⟩) h hs
  refine ⟨ps.map Prod.fst, ps.map Prod.snd, ⟨by rw [zip_unz]; exact h1, by rw [List.length_map, List.length_map], fun p hp => ?_⟩, fun y hy => ?_, by rw [List.length_map]; exact h3⟩
  · rw [zip_unz] at hp
    exact (h2 p hp).1
  · obtain ⟨p, hp, rfl⟩ := List.mem_map.1 hy
    exact (h2 p hp).2
end Go.Proofs.YtpbenhfnebgbiaaDoor.Mem
