/- Slices of structs that hold slices: at any program. -/
import Derived.Test.YtpbenhfnebgbiaaDoorCut
namespace Go.Proofs.YtpbenhfnebgbiaaDoor.Mem
open Go.RowKit
/-- The elements' slices read as they say. -/
def Els {α β : Type} (RM : α → β → World → Prop) (l : List α) (u : List β) (W : World) : Prop := u.length = l.length ∧ ∀ p ∈ l.zip u, RM p.1 p.2 W
/-- The slice v reads as the elements l, whose slices are u. -/
def Rn {α β : Type} (enc : α × β → List Value) (size : Nat) (RM : α → β → World → Prop) (l : List α) (u : List β) (v : Value) (W : World) : Prop := Rs enc size (l.zip u) v W ∧ Els RM l u W
section
variable {α β : Type} {enc : α × β → List Value} {size : Nat} {RM : α → β → World → Prop} {l l2 : List α} {u u2 : List β} {v : Value} {W W' : World} {S : Nat → Prop}
theorem zip_len (h : u.length = l.length) : (l.zip u).length = l.length := by rw [List.length_zip]; omega
theorem zip_cat (h : u.length = l.length) : (l ++ l2).zip (u ++ u2) = l.zip u ++ l2.zip u2 := List.zip_append h.symm
theorem zip_at (d : α) (d' : β) (i : Nat) (hi : i < l.length) (h : u.length = l.length) : (l.zip u).getD i (d, d') = (l.getD i d, u.getD i d') := by
  have h2 : i < u.length := by omega
  have h3 : i < (l.zip u).length := by rw [zip_len h]; exact hi
  simp only [List.getD_eq_getElem?_getD, List.getElem?_eq_getElem hi, List.getElem?_eq_getElem h2, List.getElem?_eq_getElem h3, List.getElem_zip, Option.getD_some]
theorem zip_mem (d : α) (d' : β) (i : Nat) (hi : i < l.length) (h : u.length = l.length) : (l.getD i d, u.getD i d') ∈ l.zip u := by
  rw [← zip_at d d' i hi h]
  have h3 : i < (l.zip u).length := by rw [zip_len h]; exact hi
  rw [List.getD_eq_getElem?_getD, List.getElem?_eq_getElem h3]
  exact List.getElem_mem h3
theorem Els.nil : Els RM [] [] W := ⟨rfl, fun p h => by cases h⟩
theorem Els.app (h : Els RM l u W) (k : Els RM l2 u2 W) : Els RM (l ++ l2) (u ++ u2) W :=
  ⟨by rw [List.length_append, List.length_append, h.1, k.1], fun p hp => by
    rw [zip_cat h.1] at hp
    rcases List.mem_append.1 hp with hp | hp
    · exact h.2 p hp
    · exact k.2 p hp⟩
theorem Els.one {a : α} {b : β} (h : RM a b W) : Els RM [a] [b] W := ⟨rfl, fun p hp => by
  rw [List.mem_singleton.1 (show p ∈ [(a, b)] from hp)]
  exact h⟩
theorem Els.el (h : Els RM l u W) (d : α) (d' : β) (i : Nat) (hi : i < l.length) : RM (l.getD i d) (u.getD i d') W := h.2 _ (zip_mem d d' i hi h.1)
theorem drop_zip : ∀ (a : Nat) (l : List α) (u : List β), (l.drop a).zip (u.drop a) = (l.zip u).drop a
  | 0, _, _ => rfl
  | a + 1, [], u => by simp
  | a + 1, x :: l, [] => by simp
  | a + 1, x :: l, y :: u => by simp only [List.drop_succ_cons, List.zip_cons_cons]; exact drop_zip a l u
theorem take_zip : ∀ (a : Nat) (l : List α) (u : List β), (l.take a).zip (u.take a) = (l.zip u).take a
  | 0, _, _ => by simp
  | a + 1, [], u => by simp
  | a + 1, x :: l, [] => by simp
  | a + 1, x :: l, y :: u => by simp only [List.take_succ_cons, List.zip_cons_cons]; rw [take_zip a l u]
theorem Els.drop (h : Els RM l u W) (a : Nat) : Els RM (l.drop a) (u.drop a) W := ⟨by rw [List.length_drop, List.length_drop, h.1], fun p hp => by
  rw [drop_zip] at hp
  exact h.2 p (List.mem_of_mem_drop hp)⟩
theorem Els.take (h : Els RM l u W) (a : Nat) : Els RM (l.take a) (u.take a) W := ⟨by rw [List.length_take, List.length_take, h.1], fun p hp => by
  rw [take_zip] at hp
  exact h.2 p (List.mem_of_mem_take hp)⟩
theorem Rn.rd (h : Rn enc size RM l u v W) : Rd W v l.length size ((l.zip u).flatMap enc) := by
  have := h.1
  unfold Rs at this
  rwa [zip_len h.2.1] at this
theorem Rn.cell (h : Rn enc size RM l u v W) (hl : ∀ x, (enc x).length = size) (d : α) (d' : β) (i : Nat) (hi : i < l.length) (j : Nat) (c : Value) (hc : (enc (l.getD i d, u.getD i d'))[j]? = some c) : W.cell? ⟨bk v, po v + i * size + j, none⟩ = some c := by
  rw [← zip_at d d' i hi h.2.1] at hc
  exact h.1.cell hl (d, d') i (by rw [zip_len h.2.1]; exact hi) j c hc
theorem Rn.el (h : Rn enc size RM l u v W) (d : α) (d' : β) (i : Nat) (hi : i < l.length) : RM (l.getD i d) (u.getD i d') W := h.2.el d d' i hi
theorem Rn.nil (enc : α × β → List Value) (size : Nat) (RM : α → β → World → Prop) (W : World) : Rn enc size RM [] [] (.slice none 0 0) W := ⟨Rs.nil enc size W, Els.nil⟩
theorem Rn.row {e : TypeId} (hr : W.ownsRow 0 e size v (l.zip u).length ((l.zip u).flatMap enc)) (h : Els RM l u W) : Rn enc size RM l u v W := ⟨Rs.row hr, h⟩
theorem Rn.cut (h : Rn enc size RM l u v W) (hlen : ∀ x, (enc x).length = size) (a b : Nat) (hab : a ≤ b) (hb : b ≤ l.length) : Rn enc size RM ((l.take b).drop a) ((u.take b).drop a) (cutV v a b size) W :=
  ⟨by rw [drop_zip, take_zip]; exact h.1.cut hlen a b hab (by rw [zip_len h.2.1]; exact hb), (h.2.take b).drop a⟩
theorem Rn.cut_h (h : Rn enc size RM l u v W) (hlen : ∀ x, (enc x).length = size) (b : Nat) (hb : b ≤ l.length) : Rn enc size RM (l.take b) (u.take b) (cutV v 0 b size) W :=
  ⟨by rw [take_zip]; exact h.1.cut_h hlen b (by rw [zip_len h.2.1]; exact hb), h.2.take b⟩
theorem Rn.cut_l (h : Rn enc size RM l u v W) (hlen : ∀ x, (enc x).length = size) (a : Nat) (ha : a ≤ l.length) : Rn enc size RM (l.drop a) (u.drop a) (cutV v a l.length size) W :=
  ⟨by
    have := h.1.cut_l hlen a (by rw [zip_len h.2.1]; exact ha)
    rwa [zip_len h.2.1, ← drop_zip] at this, h.2.drop a⟩
theorem Els.from (hl : u.length = l.length) (h : ∀ p ∈ l.zip u, From S (RM p.1 p.2) W) : From S (Els RM l u) W := by
  have key : ∀ ps : List (α × β), (∀ p ∈ ps, From S (RM p.1 p.2) W) → From S (fun W => ∀ p ∈ ps, RM p.1 p.2 W) W := by
    intro ps
    induction ps with
    | nil => intro _; exact From.pure (fun W p hp => by cases hp)
    | cons q ps ih =>
      intro hq
      refine ((hq q List.mem_cons_self).and (ih fun p hp => hq p (List.mem_cons_of_mem _ hp))).mono (fun W h2 p hp => ?_)
      rcases List.mem_cons.1 hp with rfl | hp
      · exact h2.1
      · exact h2.2 p hp
  exact (key _ h).mono (fun W h2 => ⟨hl, h2⟩)
theorem Els.all (hRM : ∀ a b W, RM a b W → From (fun _ => True) (RM a b) W) (h : Els RM l u W) : From (fun _ => True) (Els RM l u) W :=
  Els.from h.1 (fun p hp => hRM _ _ _ (h.2 p hp))
theorem Rn.all (hRM : ∀ a b W, RM a b W → From (fun _ => True) (RM a b) W) (h : Rn enc size RM l u v W) : From (fun _ => True) (Rn enc size RM l u v) W := (Rs.all h.1).and (Els.all hRM h.2)
theorem Rn.one (hone : ∀ x W, RM x.1 x.2 W → ∀ c ∈ enc x, c.oneCell' = true) (h : Els RM l u W) : ∀ c ∈ (l.zip u).flatMap enc, c.oneCell' = true := by
  intro c hc
  obtain ⟨x, hx, hc⟩ := List.mem_flatMap.1 hc
  exact hone x W (h.2 x hx) c hc
theorem Rn.blk {g : Nat} {c : Array Value} {T : TypeId} {n cap : Nat} (h : Blk W g c T) (hc : c.toList = (l.zip u).flatMap enc) (hn : n = (l.zip u).length) (hl : ∀ x, (enc x).length = size) (hcap : n ≤ cap) (he : Els RM l u W) : Rn enc size RM l u (.slice (some ⟨g, 0, none⟩) n cap) W := ⟨Rs.blk h hc hn hl hcap, he⟩
end
section
variable {P : Program} {Q : Exit → Act → World → Prop} {K : Act → World → Prop} {oi : Oper} {a : Act} {r : Option Nat} {S : Nat → Prop} {w0 w : World} {L : List Ent} {T e : TypeId} {x y : Operand}
/-- 'append' of a slice that is read to a row; the elements that are put behind are of one cell each. -/
theorem m_appendO {α : Type} {enc : α → List Value} (i : Nat) {v : Value} {l l2 : List α} {size bytes : Nat} (inf : TypeInfo) (z : Value) (s : Operand) (ty : TypeId) (xv : Value) (hm : Mm r S w0 w L) (hi : L[i]? = some (.row v l.length (l.flatMap enc) e size)) (d : Tmp) (hd : oi.dst = some d)
    (ho : oi.op = .call { callee := .builtin .append, args := #[s, x], argTypes := #[ty, ty] }) (ht : P.underlying ty = some (.slice e)) (hinf : P.info? e = some inf) (hz : inf.zero = some z)
    (hsize : inf.size = size) (hby : inf.bytes = bytes) (hlen : ∀ x, (enc x).length = size) (hone : ∀ u ∈ l2.flatMap enc, u.oneCell' = true) (hzs : z.cells.size = size) (hsz : 0 < size) (hs : a.eval s = v) (hx : a.eval x = xv) (hsrc : Rs enc size l2 xv w)
    (h63 : l.length + l2.length ≤ 9223372036854775807) (hbytes : (l.length + l2.length) * bytes ≤ 140737488355328)
    (h : ∀ v' w', Mm r S w0 w' (L.set i (.row v' (l ++ l2).length ((l ++ l2).flatMap enc) e size)) → K { a with tmps := a.tmps.setIfInBounds d v' } w') : oi.wp P a w K Q := by
  have e1 : (l ++ l2).flatMap enc = l.flatMap enc ++ l2.flatMap enc := List.flatMap_append
  obtain ⟨ao, c, rfl⟩ := Rd.form hsrc
  cases ao with
  | none =>
    have hl2 : l2 = [] := by
      rcases hsrc.2 with ⟨h0, _⟩ | ⟨g, o, c', h0, _⟩
      · exact List.eq_nil_of_length_eq_zero h0
      · cases h0
    subst hl2
    have hr := run_append_nothing (P := P) w 0 ty oi.type e inf ht hinf v l.length (l.flatMap enc) (hm.row i hi) c
    have := h v w (by
      rw [List.append_nil]
      have e2 : L.set i (.row v l.length (l.flatMap enc) e size) = L := by
        obtain ⟨hl, he⟩ := List.getElem?_eq_some_iff.1 hi
        rw [← he, List.set_getElem_self]
      rw [e2]
      exact hm)
    unfold Oper.wp execOp
    simp only [ho, resolve, invoke, builtin, Sem.run_bind, Sem.run_pure, Result.andThen_ok, List.map_toArray, List.map_cons, List.map_nil, hs, hx]
    simp only [List.length_nil] at hr ⊢
    simp only [hr]
    show K (a.put oi.dst _) _
    unfold Act.put
    rw [hd]
    exact this
  | some ad =>
    have hcells : ∀ (j : Nat) (u : Value), (l2.flatMap enc)[j]? = some u → w.cell? (ad.add j) = some u := by
      rcases hsrc.2 with ⟨h0, _⟩ | ⟨g, o, c', h0, hc, _⟩
      · intro j u hu
        rw [List.eq_nil_of_length_eq_zero h0] at hu
        cases hu
      · simp only [Value.slice.injEq, Option.some.injEq] at h0
        obtain ⟨rfl, _⟩ := h0
        intro j u hu
        rw [add_lit]
        exact hc j u hu
    refine m_append (P := P) i (news := l2.flatMap enc) inf z s x ty ad hm hi d hd ho ht hinf hz hsize hby hzs hsz hs hx (flat_len hlen l2) hcells hone (by unfold maxLen; omega) hbytes (fun v' w' _ hm' => h v' w' ?_)
    rw [List.length_append, e1]
    exact hm'
theorem m_appendN {α β : Type} {enc : α × β → List Value} {RM : α → β → World → Prop} (i : Nat) {v : Value} {l l2 : List α} {u u2 : List β} {size bytes : Nat} (inf : TypeInfo) (z : Value) (s : Operand) (ty : TypeId) (xv : Value) (hu : u.length = l.length) (hm : Mm r S w0 w L) (hi : L[i]? = some (.row v (l.zip u).length ((l.zip u).flatMap enc) e size)) (d : Tmp) (hd : oi.dst = some d)
    (ho : oi.op = .call { callee := .builtin .append, args := #[s, x], argTypes := #[ty, ty] }) (ht : P.underlying ty = some (.slice e)) (hinf : P.info? e = some inf) (hz : inf.zero = some z)
    (hsize : inf.size = size) (hby : inf.bytes = bytes) (hlen : ∀ x, (enc x).length = size) (hone : ∀ x W, RM x.1 x.2 W → ∀ c ∈ enc x, c.oneCell' = true) (hzs : z.cells.size = size) (hsz : 0 < size) (hs : a.eval s = v) (hx : a.eval x = xv) (hsrc : Rn enc size RM l2 u2 xv w)
    (h63 : l.length + l2.length ≤ 9223372036854775807) (hbytes : (l.length + l2.length) * bytes ≤ 140737488355328)
    (h : ∀ v' w', Mm r S w0 w' (L.set i (.row v' ((l ++ l2).zip (u ++ u2)).length (((l ++ l2).zip (u ++ u2)).flatMap enc) e size)) → K { a with tmps := a.tmps.setIfInBounds d v' } w') : oi.wp P a w K Q :=
  m_appendO i (l := l.zip u) (l2 := l2.zip u2) inf z s ty xv hm hi d hd ho ht hinf hz hsize hby hlen (Rn.one hone hsrc.2) hzs hsz hs hx hsrc.1 (by rw [zip_len hu, zip_len hsrc.2.1]; exact h63) (by rw [zip_len hu, zip_len hsrc.2.1]; exact hbytes)
    (fun v' w' hm' => h v' w' (by rw [zip_cat hu]; exact hm'))
end
end Go.Proofs.YtpbenhfnebgbiaaDoor.Mem
