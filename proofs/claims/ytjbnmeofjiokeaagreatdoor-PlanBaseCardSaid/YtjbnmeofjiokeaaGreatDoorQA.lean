/- Copies between rows whose elements have several cells; cells that are set. -/
import Derived.Test.YtjbnmeofjiokeaaGreatDoorKB
import Derived.Laws.IdiomCopy
import Derived.Lib.AppendZerosOnto
import Derived.Lib.Overlaps
import Derived.Deep.AppendSrc
import Derived.Laws.Externs
import Derived.Laws.AppendOwn
import Derived.WalkKit
import Derived.Test.YtjbnmeofjiokeaaGreatDoorPC
import Derived.Lib.AppendZeros
import Derived.OwnWalk
import Derived.Lib.Walk
import Derived.Shelf.RegionOpenPlain
set_option linter.all false
namespace Go.Proofs.YtjbnmeofjiokeaaGreatDoor.Ev
open Go.RowKit
open Go.Proofs.YtjbnmeofjiokeaaGreatDoor.Mem
set_option linter.unusedVariables false
set_option linter.unusedSimpArgs false
section
variable {P : Program}
theorem run_copy_z (w : World) (dT sT ty elem : TypeId) (b o dLen dCap : Nat) (a : Addr) (sLen sCap z k : Nat) (xs : List Value)
    (hu : P.underlying dT = some (.slice elem)) (hs : (P.info? elem).map (·.size) = some z) (hk : Nat.min sLen dLen = k) (hn : xs.length = k * z)
    (hsrc : ∀ j v, xs[j]? = some v → w.cell? (a.add j) = some v) (hc : ∀ j, j < xs.length → (w.cell? ⟨b, o + j, none⟩).isSome = true) (hf : ∀ j, j < xs.length → w.frozen? ⟨b, o + j, none⟩ = false) (h1 : ∀ v ∈ xs, v.oneCell' = true) :
    (Builtin.copy_ #[dT, sT] ty #[.slice (some ⟨b, o, none⟩) dLen dCap, .slice (some a) sLen sCap]).run P w = .ok (goInt k) (w.setCells b o xs) := by
  have hl := run_loadCells_list (P := P) w a xs hsrc
  have hst := run_storeCells_cells (P := P) b o xs 0 w (by simpa using hc) (by simpa using hf) h1
  cases hq : P.info? elem with
  | none => simp [hq] at hs
  | some i =>
    have hi : i.size = z := by simpa [hq] using hs
    simp [Builtin.copy_, run_underlying hu, Builtin.lenOf, Builtin.firstCells, sizeOf, typeInfo, hq, hi, hk, ← hn, hl, hst]
theorem wp_copy_z (w : World) {o : Oper} {a : Act} {K : Act → World → Prop} {Q : Exit → Act → World → Prop} (d s : Operand) (t t' : TypeId)
    (ho : o.op = .call { callee := .builtin .copy, args := #[d, s], argTypes := #[t, t'] }) (v u : Value) (hd : a.eval d = v) (hs : a.eval s = u) {v' : Value} {w' : World}
    (hr : (Builtin.copy_ #[t, t'] o.type #[v, u]).run P w = .ok v' w') (h : K (a.put o.dst v') w') : o.wp P a w K Q := by
  unfold Oper.wp execOp
  simp only [ho, resolve, invoke, builtin, Sem.run_bind, Sem.run_pure, Result.andThen_ok, List.map_toArray, List.map_cons, List.map_nil, hd, hs, hr]
  exact h
theorem wpList_copy_z (w : World) {ops : Array Oper} {rest : List Oper} {o : Oper} {a : Act} {Q : Exit → Act → World → Prop} (hgd : o.guard = none) (d s : Operand) (t t' : TypeId)
    (ho : o.op = .call { callee := .builtin .copy, args := #[d, s], argTypes := #[t, t'] }) (v u : Value) (hd : a.eval d = v) (hs : a.eval s = u) {v' : Value} {w' : World}
    (hr : (Builtin.copy_ #[t, t'] o.type #[v, u]).run P w = .ok v' w') (h : wpList P ops Q rest (a.put o.dst v') w') : wpList P ops Q (o :: rest) a w :=
  wpList_plain hgd fun _ hK => wp_copy_z w d s t t' ho v u hd hs hr (hK _ _ h)
theorem step_copy_z {ops : Array Oper} {o : Oper} {a : Act} {w : World} {K : Act → World → Prop} {Q : Exit → Act → World → Prop} {E : Prop}
    (hg : o.guard = none) (d x : Operand) (dT sT : TypeId) (hop : o.op = Op.call { callee := Callee.builtin Builtin.copy, args := #[d, x], argTypes := #[dT, sT] })
    (v u : Value) (hd : a.eval d = v) (hx : a.eval x = u) {v' : Value} {w' : World} (hr : (Builtin.copy_ #[dT, sT] o.type #[v, u]).run P w = .ok v' w') (hK : K (a.put o.dst v') w') :
    if Region.wanted o (yielded ops a.tmps) = true then Oper.wp P o a w K Q else E := by
  have hw : Region.wanted o (yielded ops a.tmps) = true := by simp [Region.wanted, hg]
  rw [if_pos hw]
  exact wp_copy_z w d x dT sT hop v u hd hx hr hK
end
/-- Cells that are set, as a row. -/
def putL (c : Array Value) : Nat → List Value → Array Value
  | _, [] => c
  | o, v :: r => putL (c.setIfInBounds o v) (o + 1) r
theorem putL_size : ∀ (xs : List Value) (c : Array Value) (o : Nat), (putL c o xs).size = c.size
  | [], _, _ => rfl
  | v :: r, c, o => by rw [putL, putL_size r]; simp
theorem putL_get : ∀ (xs : List Value) (c : Array Value) (o j : Nat), o + xs.length ≤ c.size → (putL c o xs)[j]? = if o ≤ j ∧ j < o + xs.length then xs[j - o]? else c[j]?
  | [], c, o, j, _ => by rw [putL, if_neg (by simp)]
  | v :: r, c, o, j, h => by
    have h : o + (r.length + 1) ≤ c.size := h
    rw [putL, putL_get r _ _ _ (by simp; omega)]
    by_cases h1 : o + 1 ≤ j ∧ j < o + 1 + r.length
    · rw [if_pos h1, if_pos (by simp; omega), show j - o = (j - (o + 1)) + 1 by omega]
      rfl
    · rw [if_neg h1]
      by_cases h2 : j = o
      · subst h2
        rw [if_pos (by simp), Array.getElem?_setIfInBounds_self_of_lt (by omega)]
        simp
      · rw [Array.getElem?_setIfInBounds_ne (Ne.symm h2), if_neg (by simp; omega)]
theorem setCells_heap (b : Nat) : ∀ (xs : List Value) (o : Nat) (w : World) (c : Array Value) (T : TypeId) (fz : Nat × Nat), w.heap[b]? = some (.cells c T fz) → (w.setCells b o xs).heap[b]? = some (.cells (putL c o xs) T fz)
  | [], _, _, _, _, _, h => h
  | v :: r, o, w, c, T, fz, h => by
    rw [World.setCells, putL]
    refine setCells_heap b r _ _ _ T fz ?_
    simp only [World.setCell]
    rw [Array.getElem?_modify, if_pos rfl, h]
    rfl
theorem setCells_other (b : Nat) : ∀ (xs : List Value) (o : Nat) (w : World) (g : Nat), g ≠ b → (w.setCells b o xs).heap[g]? = w.heap[g]?
  | [], _, _, _, _ => rfl
  | v :: r, o, w, g, h => by
    rw [World.setCells, setCells_other b r _ _ g h]
    simp only [World.setCell]
    rw [Array.getElem?_modify, if_neg (Ne.symm h)]
theorem setCells_rest (b : Nat) : ∀ (xs : List Value) (o : Nat) (w : World), (w.setCells b o xs).os = w.os ∧ (w.setCells b o xs).tape = w.tape ∧ (w.setCells b o xs).output = w.output ∧ (w.setCells b o xs).heap.size = w.heap.size ∧ (w.setCells b o xs).drawn = w.drawn
  | [], _, _ => ⟨rfl, rfl, rfl, rfl, rfl⟩
  | v :: r, o, w => by
    rw [World.setCells]
    obtain ⟨h1, h2, h3, h4, h5⟩ := setCells_rest b r (o + 1) (w.setCell ⟨b, o, none⟩ v)
    exact ⟨h1, h2, h3, by rw [h4]; simp [World.setCell], h5⟩
theorem pure_bnd {α β : Type} (x : α) (f : α → Sem β) : (pure x : Sem α).bind f = f x := rfl
theorem run_overlaps_own {P : Program} (w : World) (tS tR e : TypeId) (ht : P.underlying tS = some (.slice e)) (size : Nat) (hz : ∀ w, (Go.sizeOf e).run P w = .ok size w)
    (a b : Addr) (la ca lb cb : Nat) (hne : a.block ≠ b.block) (tA tB : TypeId) (kA kB : Nat)
    (hsa : w.shape? a.block = some (tA, kA + 1)) (hsb : w.shape? b.block = some (tB, kB + 1)) (hfb : w.frozen? b = false) (hfe : w.frozen? { block := b.block, off := kB + 1 } = false) :
    (Extern.SlicesOverlaps.overlaps #[tS, tS] #[tR] #[.slice (some a) la ca, .slice (some b) lb cb]).run P w = .ok (.bool false) w := by
  have hnb : (a.block != b.block) = true := by simpa using hne
  have hnb' : (a.block == b.block) = false := by simpa using hne
  conv in (Extern.SlicesOverlaps.overlaps _ _ _) => whnf
  simp only [Sem.run, Sem.bind, ht]
  by_cases h0 : la = 0 ∨ lb = 0 ∨ size = 0
  · simp [pure_bnd, Sem.bind, ht, hz, h0]
  · cases hfa : w.frozen? a <;> cases hga : w.frozen? { block := a.block, off := kA + 1 } <;> simp [pure_bnd, Sem.bind, ht, hz, h0, hnb, hnb', frozen, noView, viewAt, mayBeOne, stringish, shape, Sem.run, hsa, hsb, hfa, hga, hfb, hfe]

/-- A row with one element more, told cell by cell. -/
theorem row_ins {R : Array Value} {xs vs : List Value} {I N z : Nat} (hx : xs.length = N) (hv : vs.length = z) (hI : I ≤ N) (h1 : ∀ j, j < I → R[j]? = xs[j]?) (h2 : ∀ j, j < z → R[I + j]? = vs[j]?) (h3 : ∀ j, j < N - I → R[I + z + j]? = xs[I + j]?) :
    R.toList.take (N + z) = xs.take I ++ vs ++ xs.drop I := by
  apply List.ext_getElem?
  intro j
  rw [List.getElem?_take]
  have hl : (xs.take I ++ vs).length = I + z := by rw [List.length_append, List.length_take, hv]; omega
  have ht : (xs.take I).length = I := by rw [List.length_take]; omega
  by_cases hj : j < N + z
  · rw [if_pos hj, Array.getElem?_toList]
    by_cases k1 : j < I
    · rw [List.getElem?_append_left (by omega), List.getElem?_append_left (by omega), List.getElem?_take, if_pos k1]
      exact h1 j k1
    · by_cases k2 : j < I + z
      · rw [List.getElem?_append_left (by omega), List.getElem?_append_right (by omega), ht]
        have := h2 (j - I) (by omega)
        rwa [show I + (j - I) = j by omega] at this
      · rw [List.getElem?_append_right (by omega), hl, List.getElem?_drop]
        have := h3 (j - (I + z)) (by omega)
        rwa [show I + z + (j - (I + z)) = j by omega] at this
  · rw [if_neg hj, List.getElem?_eq_none]
    rw [List.length_append, hl, List.length_drop]
    omega
theorem shift_ins {c : Array Value} {xs vs : List Value} {I N z : Nat} (hx : xs = c.toList.take N) (hv : vs.length = z) (hI : I ≤ N) (hs : N + z ≤ c.size) :
    (putL (putL c (I + z) (xs.drop I)) I vs).toList.take (N + z) = xs.take I ++ vs ++ xs.drop I := by
  have hl : xs.length = N := by rw [hx, List.length_take, Array.length_toList]; omega
  have hd : (xs.drop I).length = N - I := by rw [List.length_drop, hl]
  have hg : ∀ j, j < N → xs[j]? = c[j]? := fun j hj => by rw [hx, List.getElem?_take, if_pos hj, Array.getElem?_toList]
  refine row_ins hl hv hI (fun j hj => ?_) (fun j hj => ?_) (fun j hj => ?_)
  · rw [putL_get _ _ _ _ (by rw [putL_size]; omega), if_neg (by omega), putL_get _ _ _ _ (by omega), if_neg (by omega), hg j (by omega)]
  · rw [putL_get _ _ _ _ (by rw [putL_size]; omega), if_pos (by omega), show I + j - I = j by omega]
  · rw [putL_get _ _ _ _ (by rw [putL_size]; omega), if_neg (by omega), putL_get _ _ _ _ (by omega), if_pos (by omega), List.getElem?_drop, show I + (I + z + j - (I + z)) = I + j by omega]
theorem grow_ins {c : Array Value} {xs vs : List Value} {I N z : Nat} (hl : xs.length = N) (hc : ∀ j, j < I → c[j]? = xs[j]?) (hv : vs.length = z) (hI : I ≤ N) (hs : N + z ≤ c.size) :
    (putL (putL c I vs) (I + z) (xs.drop I)).toList.take (N + z) = xs.take I ++ vs ++ xs.drop I := by
  have hd : (xs.drop I).length = N - I := by rw [List.length_drop, hl]
  refine row_ins hl hv hI (fun j hj => ?_) (fun j hj => ?_) (fun j hj => ?_)
  · rw [putL_get _ _ _ _ (by rw [putL_size]; omega), if_neg (by omega), putL_get _ _ _ _ (by omega), if_neg (by omega), hc j hj]
  · rw [putL_get _ _ _ _ (by rw [putL_size]; omega), if_neg (by omega), putL_get _ _ _ _ (by omega), if_pos (by omega), show I + j - I = j by omega]
  · rw [putL_get _ _ _ _ (by rw [putL_size]; omega), if_pos (by omega), List.getElem?_drop, show I + (I + z + j - (I + z)) = I + j by omega]
/-- One element is put into an own row. -/
def InsOk (P : Program) (f : Nat) (T : TypeId) (z b : Nat) : Prop :=
  ∀ (W : World) (v : Value) (n i : Nat) (xs vs : List Value) (g o c : Nat), W.ownsRow 0 T z v n xs → i ≤ n → (n + 1) * b ≤ 140737488355328 → vs.length = z → (∀ j u, vs[j]? = some u → W.cell? ⟨g, o + j, none⟩ = some u) → 1 ≤ c → v.ownBlock ≠ some g →
    (∀ u ∈ xs, u.oneCell' = true) → (∀ u ∈ vs, u.oneCell' = true) →
    Calls P f #[v, .int .i64 i, .slice (some ⟨g, o, none⟩) 1 c] W fun e W' => ∃ v', e = .returned v' ∧ W'.ownsRow 0 T z v' (n + 1) (xs.take (i * z) ++ vs ++ xs.drop (i * z)) ∧ W.grownBy W' v.ownBlock ∧ ∀ g', v'.ownBlock = some g' → v.ownBlock = some g' ∨ W.heap.size ≤ g'
end Go.Proofs.YtjbnmeofjiokeaaGreatDoor.Ev
namespace Go.Proofs.YtjbnmeofjiokeaaGreatDoor.Ev
open Go.RowKit
open Go.Proofs.YtjbnmeofjiokeaaGreatDoor.Mem
set_option linter.unusedVariables false
set_option linter.unusedSimpArgs false
set_option maxRecDepth 100000
theorem three_arg {xs : Array Value} (h : xs.size = 3) : ∃ v u w, xs = #[v, u, w] := ⟨xs[0], xs[1], xs[2], by
  apply Array.ext
  · simpa using h
  · intro i h1 h2
    rcases i with _ | _ | _ | i
    · rfl
    · rfl
    · rfl
    · simp at h2; omega⟩
theorem one_ofR {F : Nat → Prop} {W : World} {G : Gm} {y : V} {v : Value} (h : Rep F W G y v) (ho : oneV y = true) : v.oneCell' = true := by
  cases h <;> first | rfl | cases ho
set_option maxHeartbeats 4000000 in
theorem insS_nil (d : Shr) : Spec Tryz.prog LL 69 [.nl, .n .i64 0, .sl 3 Shr dS [d] eShr] (.sl 3 Shr dS [d] eShr) := by
  refine ⟨⟨Tryz.f69, Tryz.func69, by kernel_rfl, by kernel_rfl⟩, fun _ => rfl, fun S W xs hL hz hx hS => ?_⟩
  obtain ⟨v0, v1, v2, rfl⟩ := three_arg hz
  have h0 := (hx 0 _ v0 rfl rfl).nl_inv
  have h1 := (hx 1 _ v1 rfl rfl).n_inv
  subst h0
  subst h1
  rcases (hx 2 _ v2 rfl rfl).sl_inv with ⟨ao, c, hn, _⟩ | ⟨g, o, c, u, rfl, hg, hc, hn, hz', hu, hr⟩
  · cases hn
  · have hcell : ∀ (q : Nat) (y : V), (cs (eShr d))[q]? = some y → W.cell? ⟨g, o + q, none⟩ = some (u 0 q) ∧ Rep S W G0 y (u 0 q) := fun q y hq => by
      have h1 := hu 0 d q y rfl hq
      rw [Nat.zero_mul, Nat.zero_add] at h1
      exact ⟨h1, hr 0 d q y rfl hq⟩
    have hvs : ∀ (j : Nat) (v : Value), [u 0 0, u 0 1, u 0 2][j]? = some v → W.cell? ((⟨g, o, none⟩ : Addr).add j) = some v := fun j v hj => by
      rw [Addr.add_lit]
      rcases j with _ | _ | _ | j
      · simp at hj; subst hj; exact (hcell 0 _ rfl).1
      · simp at hj; subst hj; exact (hcell 1 _ rfl).1
      · simp at hj; subst hj; exact (hcell 2 _ rfl).1
      · simp at hj
    have h1v : ∀ v ∈ [u 0 0, u 0 1, u 0 2], v.oneCell' = true := fun v hv => by
      simp only [List.mem_cons, List.not_mem_nil, or_false] at hv
      rcases hv with rfl | rfl | rfl
      · exact one_ofR (hcell 0 _ rfl).2 rfl
      · exact one_ofR (hcell 1 _ rfl).2 rfl
      · exact one_ofR (hcell 2 _ rfl).2 rfl
    obtain ⟨i0, hi0, hz0, hzs, hzb⟩ := info_parts (P := Tryz.prog) (e := 61) (z := .agg #[.string ⟨#[]⟩, .int .i64 0, .bool false]) (size := 3) (bytes := 32) (by kernel_rfl)
    have hsrc : Go.Src Tryz.prog i0.size 23 (.slice (some ⟨g, o, none⟩) 1 c) 1 [u 0 0, u 0 1, u 0 2] W := by
      rw [hzs]
      exact Go.Src.ofSlice W Tryz.underlying23 ⟨g, o, none⟩ 1 c [u 0 0, u 0 1, u 0 2] rfl hvs h1v
    have hold : (Builtin.firstCells i0.size 0 (.slice none 0 0)).run Tryz.prog W.drew = .ok ([] : List Value).toArray W.drew := by
      rw [hzs]
      exact run_firstCells_none W.drew 3 0 0 0
    have hrun : ∀ ty, (Builtin.append_ #[23, 23] ty #[.slice none 0 0, .slice (some ⟨g, o, none⟩) 1 c]).run Tryz.prog W = _ := fun ty =>
      run_append_grow_src W 23 23 ty 61 i0 _ Tryz.underlying23 hi0 hz0 none 0 0 [] hold _ 1 [u 0 0, u 0 1, u 0 2] hsrc (by decide) (by decide) (by rw [hzb]; exact growslice_fits (by decide) (by decide))
    generalize hG : grownCap W (0 + 1) 0 61 = cap at hrun
    have hcap : 1 ≤ cap := by rw [← hG]; exact Nat.le_trans (by decide) (grownCap_ge W _ _ _)
    generalize hrow : ([] ++ [u 0 0, u 0 1, u 0 2]).toArray ++ Builtin.zeroCells (.agg #[.string ⟨#[]⟩, .int .i64 0, .bool false] : Value).cells (cap - (0 + 1)) = row at hrun
    have hget : ∀ q, q < 3 → row[q]? = some (u 0 q) := fun q hq => by
      rw [← hrow]
      rcases q with _ | _ | _ | q
      · rw [Array.getElem?_append_left (by simp)]; rfl
      · rw [Array.getElem?_append_left (by simp)]; rfl
      · rw [Array.getElem?_append_left (by simp)]; rfl
      · omega
    have u3 := Tryz.underlying3
    have a3 := Tryz.isAgg3
    have z3 := Tryz.sizeOf3
    have us' := Tryz.underlying23
    have as' := Tryz.isAgg23
    have zs := Tryz.sizeOf23
    have at' := Tryz.isAgg61
    have zt := Tryz.sizeOf61
    have hb : Below W.heap.size W (W.drew.alloc (.cells row 61)) := (Below.refl _ _).drew.alloc (Nat.le_refl _) _
    have key : Rep (fun g' => S g' ∨ g' = W.heap.size) (W.drew.alloc (.cells row 61)) G0 (.sl 3 Shr dS [d] eShr) (.slice (some ⟨W.heap.size, 0, none⟩) 1 cap) := by
      refine .sl G0 3 Shr dS [d] eShr W.heap.size 0 cap u (.inr rfl) hcap hn hz' (fun i x q y hi hq => ?_) (fun i x q y hi hq => ?_)
      · rcases i with _ | i
        · simp only [List.getElem?_cons_zero, Option.some.injEq] at hi
          subst hi
          have hq' : q < 3 := (List.getElem?_eq_some_iff.1 hq).1
          rw [World.cell?_alloc_at (w := W.drew) row 61 W.heap.size _ rfl, Nat.zero_mul, Nat.zero_add, Nat.zero_add]
          exact hget q hq'
        · simp at hi
      · exact ((hr i x q y hi hq).keep fun g' hg' => hb.block g' (hS g' hg')).wide fun g' => .inl
    clear hvs h1v hsrc hold hcell hu hr hx
    go_enter Tryz.func69, Tryz.ntmps69
    go_wp2_with (at_builtin; refine Lib.wpList_append_run _ rfl _ _ _ _ rfl _ _ rfl rfl _ _ (hrun _) ?_)
    go_ret
    exact ⟨_, fun g' => S g' ∨ g' = W.heap.size, rfl, hb, fun g' hg' => by
      rcases hg' with hg' | rfl
      · exact ⟨Nat.lt_of_lt_of_le (hS g' hg') hb.size, .inr hg'⟩
      · exact ⟨by simp, .inl (Nat.le_refl _)⟩, key⟩
end Go.Proofs.YtjbnmeofjiokeaaGreatDoor.Ev
namespace Go.Proofs.YtjbnmeofjiokeaaGreatDoor.Ev
open Go.RowKit
open Go.Proofs.YtjbnmeofjiokeaaGreatDoor.Mem
set_option linter.unusedVariables false
set_option linter.unusedSimpArgs false
theorem ix_lt {q i z k : Nat} (h : q < i) (hk : k < z) : q * z + k < i * z := by
  have : (q + 1) * z ≤ i * z := Nat.mul_le_mul_right _ h
  rw [Nat.add_mul, Nat.one_mul] at this
  omega
theorem row_one {F : Nat → Prop} {W : World} {z : Nat} {α : Type} {l : List α} {e : α → V} {ys : List Value} (hl : ys.length = l.length * z)
    (hel : ∀ (q : Nat) (x : α), l[q]? = some x → (cs (e x)).length = z ∧ (∀ k, men (e x) k = false) ∧ ∀ (k : Nat) (y : V), (cs (e x))[k]? = some y → ∃ v, ys[q * z + k]? = some v ∧ Rep F W G0 y v) (h1 : ∀ x ∈ l, ∀ y ∈ cs (e x), oneV y = true) : ∀ u ∈ ys, u.oneCell' = true := by
  intro u hu
  obtain ⟨j, hj, rfl⟩ := List.getElem_of_mem hu
  have hj2 : j < l.length * z := by rw [← hl]; exact hj
  have hz0 : 0 < z := by
    rcases Nat.eq_zero_or_pos z with h | h
    · rw [h] at hj2; omega
    · exact h
  have hq : j / z < l.length := (Nat.div_lt_iff_lt_mul hz0).2 hj2
  have e3 : l[j / z]? = some (l[j / z]'hq) := List.getElem?_eq_getElem _
  obtain ⟨k1, k2, k3⟩ := hel _ _ e3
  have hm := Nat.mod_lt j hz0
  have e4 : (cs (e (l[j / z]'hq)))[j % z]? = some ((cs (e (l[j / z]'hq)))[j % z]'(by omega)) := List.getElem?_eq_getElem _
  obtain ⟨v, hv1, hv2⟩ := k3 _ _ e4
  rw [show j / z * z + j % z = j by rw [Nat.mul_comm]; exact Nat.div_add_mod j z, List.getElem?_eq_getElem hj, Option.some.injEq] at hv1
  rw [hv1]
  exact one_ofR hv2 (h1 _ (List.getElem_mem hq) _ (List.getElem_mem _))
theorem spec_ins {P : Program} {L : World → Prop} {f T z b : Nat} {fn : Func} {α : Type} (d : α) (e : α → V) (c : V → α) (hf : P.funcs[f]? = some fn) (hbd : fn.body.isNone = false) (hnm : (fn.name == "runtime.NumGoroutine") = false) (hI : InsOk P f T z b)
    (l : List α) (m : α) (i : Nat) (hi : i ≤ l.length) (hb : (l.length + 1) * b ≤ 140737488355328) (h1 : ∀ x ∈ m :: l, ∀ y ∈ cs (e x), oneV y = true) :
    SpecP P L f [.ow 0 l.length, .n .i64 (i : Int), .sl z α d [m] e] [(0, .row T z α d l e c)] (.ow 0 (l.length + 1)) [(0, .row T z α d (l.take i ++ m :: l.drop i) e c)] := by
  refine ⟨⟨fn, hf, hbd, hnm⟩, ⟨by simp, by simp, fun k h => ?_, fun p hp k hk => by rw [List.mem_singleton] at hp; subst hp; exact (nomatch hk), fun k hk h => ?_⟩, fun S t W G xs hL ht hxs hx hS hB hap => ?_⟩
  · have : 0 = k := by simpa [men] using h
    exact ⟨_, by rw [← this]; exact List.mem_singleton.2 rfl⟩
  · obtain ⟨b', hb'⟩ := h
    rw [List.mem_singleton, Prod.mk.injEq] at hb'
    omega
  obtain ⟨v0, v1, v2, rfl⟩ := three_arg hxs
  have k0 := hx 0 _ v0 rfl rfl
  have k1 := (hx 1 _ v1 rfl rfl).n_inv
  obtain ⟨e1, ao, c0, e2⟩ := k0.ow_inv
  obtain ⟨⟨ys, ho, hob, hel⟩, hown⟩ := hB _ (List.mem_singleton.2 rfl)
  have apn : ∀ (G' : Gm) (bb : Bk), apB G' [(0, bb)] := fun G' bb p hp q hq hne => by
    rw [List.mem_singleton] at hp hq
    subst hp; subst hq
    exact absurd rfl hne
  rcases (hx 2 _ v2 rfl rfl).sl_inv with ⟨ao, c, hn, _⟩ | ⟨g, o, c2, u, rfl, hg, hc, hn, hz', hu, hr⟩
  · cases hn
  have hzm : (cs (e m)).length = z := hz' 0 m rfl
  have hcell : ∀ q, q < z → ∃ y, (cs (e m))[q]? = some y ∧ W.cell? ⟨g, o + q, none⟩ = some (u 0 q) ∧ Rep S W G0 y (u 0 q) := fun q hq => by
    have hy : (cs (e m))[q]? = some ((cs (e m))[q]'(by omega)) := List.getElem?_eq_getElem _
    have h1 := hu 0 m q _ rfl hy
    rw [Nat.zero_mul, Nat.zero_add] at h1
    exact ⟨_, hy, h1, hr 0 m q _ rfl hy⟩
  have hvg : ∀ j, ((List.range z).map (u 0))[j]? = if j < z then some (u 0 j) else none := fun j => by
    rw [List.getElem?_map]
    by_cases h : j < z
    · rw [if_pos h, List.getElem?_range h]; rfl
    · rw [if_neg h, List.getElem?_eq_none (by simp; omega)]; rfl
  refine Calls.mono (show Calls P f #[v0, v1, .slice (some ⟨g, o, none⟩) 1 c2] W _ by
    rw [e1, k1]
    exact hI W (G 0).2 l.length i ys ((List.range z).map (u 0)) g o c2 ho hi hb (by simp) (fun j w hj => by
      rw [hvg] at hj
      split at hj
      · rename_i h
        obtain ⟨_, _, h2, _⟩ := hcell j h
        rw [h2, Option.some.inj hj]
      · cases hj) hc (fun h => (hown g h).2.2 hg) (row_one ho.1 hel fun x hx => h1 x (List.mem_cons_of_mem _ hx)) (fun w hw => by
      obtain ⟨q, hq, rfl⟩ := List.mem_map.1 hw
      obtain ⟨y, h2, _, h3⟩ := hcell q (List.mem_range.1 hq)
      exact one_ofR h3 (h1 m (List.mem_cons_self ..) y (List.mem_of_getElem? h2)))) ?_
  rintro e' W' ⟨v', rfl, r1, r2, r3⟩
  obtain ⟨ao', cap', hv'⟩ : ∃ ao' cap', v' = .slice ao' (l.length + 1) cap' := by
    rcases r1.2 with ⟨_, h⟩ | ⟨g', cap, cur, rfl, _⟩
    · omega
    · exact ⟨_, _, rfl⟩
  have hkeep : ∀ g', S g' → W'.heap[g']? = W.heap[g']? := fun g' hg' => r2.block g' (hS g' hg') fun h => (hown g' h.symm).2.2 hg'
  refine ⟨v', S, fun _ => (v'.ownBlock.getD 0, v'), rfl, ⟨r2.os, r2.tape, r2.output, r2.size, fun g' hg' hn' => r2.block g' hg' fun h => hn' ⟨_, List.mem_singleton.2 rfl, h.symm⟩⟩, fun g' hg' => ⟨Nat.lt_of_lt_of_le (hS g' hg') r2.size, .inr (.inr hg')⟩, ?_, fun p hp => ?_, apn _ _, fun k hk h => ?_⟩
  · rw [hv']
    exact .ow _ _ _ _ _ rfl
  · rw [List.mem_singleton] at hp
    subst hp
    refine ⟨⟨ys.take (i * z) ++ (List.range z).map (u 0) ++ ys.drop (i * z), ?_, fun g' hg' => ?_, fun q x hq => ?_⟩, fun g' hg' => ?_⟩
    · have hl : (l.take i ++ m :: l.drop i).length = l.length + 1 := by
        rw [List.length_append, List.length_cons, List.length_take, List.length_drop]; omega
      rw [hl]
      exact r1
    · have hg' : v'.ownBlock = some g' := hg'
      show g' = v'.ownBlock.getD 0
      rw [hg']; rfl
    · have hli : (l.take i).length = i := by rw [List.length_take]; omega
      have hyi : (ys.take (i * z)).length = i * z := by
        have := Nat.mul_le_mul_right z hi
        rw [List.length_take, ho.1]; omega
      have hvl : ((List.range z).map (u 0)).length = z := by simp
      have hsl : (ys.take (i * z) ++ (List.range z).map (u 0)).length = i * z + z := by rw [List.length_append, hyi, hvl]
      rcases Nat.lt_trichotomy q i with hqi | hqi | hqi
      · rw [List.getElem?_append_left (by omega), List.getElem?_take, if_pos hqi] at hq
        obtain ⟨a1, a2, a3⟩ := hel q x hq
        refine ⟨a1, a2, fun k y hk => ?_⟩
        obtain ⟨w, hw1, hw2⟩ := a3 k y hk
        have hkz : k < z := by rw [← a1]; exact (List.getElem?_eq_some_iff.1 hk).1
        have := ix_lt hqi hkz
        refine ⟨w, ?_, hw2.keep hkeep⟩
        rw [List.getElem?_append_left (by omega), List.getElem?_append_left (by omega), List.getElem?_take, if_pos this]
        exact hw1
      · subst hqi
        rw [List.getElem?_append_right (by omega), hli, Nat.sub_self, List.getElem?_cons_zero, Option.some.injEq] at hq
        subst hq
        refine ⟨hzm, fun k => hn 0 m rfl k, fun k y hk => ?_⟩
        have hkz : k < z := by rw [← hzm]; exact (List.getElem?_eq_some_iff.1 hk).1
        obtain ⟨y', h2, _, h3⟩ := hcell k hkz
        rw [hk, Option.some.injEq] at h2
        subst h2
        refine ⟨u 0 k, ?_, h3.keep hkeep⟩
        rw [List.getElem?_append_left (by omega), List.getElem?_append_right (by omega), hyi, show q * z + k - q * z = k by omega, hvg, if_pos hkz]
      · rw [List.getElem?_append_right (by omega), hli, show q - i = (q - 1 - i) + 1 by omega, List.getElem?_cons_succ, List.getElem?_drop, show i + (q - 1 - i) = q - 1 by omega] at hq
        obtain ⟨a1, a2, a3⟩ := hel (q - 1) x hq
        refine ⟨a1, a2, fun k y hk => ?_⟩
        obtain ⟨w, hw1, hw2⟩ := a3 k y hk
        refine ⟨w, ?_, hw2.keep hkeep⟩
        have e3 : q * z = (q - 1) * z + z := by
          have : q = (q - 1) + 1 := by omega
          rw [this, Nat.add_mul, Nat.one_mul, Nat.add_sub_cancel]
        have e4 : i * z ≤ (q - 1) * z := Nat.mul_le_mul_right _ (by omega)
        rw [List.getElem?_append_right (by omega), hsl, List.getElem?_drop, show i * z + (q * z + k - (i * z + z)) = (q - 1) * z + k by omega]
        exact hw1
    · have hg' : v'.ownBlock = some g' := hg'
      refine ⟨?_, (r1.lt g' hg').2, fun hs => ?_⟩
      · rcases r3 g' hg' with h | h
        · exact .inr ⟨_, List.mem_singleton.2 rfl, h⟩
        · exact .inl h
      · rcases r3 g' hg' with h | h
        · exact (hown g' h).2.2 hs
        · exact absurd (hS g' hs) (by omega)
  · obtain ⟨b', hb'⟩ := h
    rw [List.mem_singleton, Prod.mk.injEq] at hb'
    omega
end Go.Proofs.YtjbnmeofjiokeaaGreatDoor.Ev
namespace Go.Proofs.YtjbnmeofjiokeaaGreatDoor.Ev
open Go.RowKit
open Go.Proofs.YtjbnmeofjiokeaaGreatDoor.Mem
set_option linter.unusedVariables false
set_option linter.unusedSimpArgs false
set_option maxRecDepth 100000
set_option maxHeartbeats 4000000 in
theorem insS_end (v : Value) (n m g o vc : Nat) (xs vs : List Value) (W : World) (hrow : W.ownsRow 0 61 3 v n xs) (hb : (n + m) * 32 ≤ 140737488355328) (hm : 0 < m) (hvc : m ≤ vc) (hvl : vs.length = m * 3) (hvs : ∀ j u, vs[j]? = some u → W.cell? ⟨g, o + j, none⟩ = some u) (h1v : ∀ u ∈ vs, u.oneCell' = true) :
    Calls Tryz.prog 69 #[v, .int .i64 n, .slice (some ⟨g, o, none⟩) m vc] W fun e W' => ∃ v', e = .returned v' ∧ W'.ownsRow 0 61 3 v' (n + m) (xs ++ vs) ∧ W.grownBy W' v.ownBlock ∧ ∀ g', v'.ownBlock = some g' → v.ownBlock = some g' ∨ W.heap.size ≤ g' := by
  obtain ⟨i0, hi0, hz0, hzs, hzb⟩ := info_parts (P := Tryz.prog) (e := 61) (z := .agg #[.string ⟨#[]⟩, .int .i64 0, .bool false]) (size := 3) (bytes := 32) (by kernel_rfl)
  have hsrc : Rd W (.slice (some ⟨g, o, none⟩) m vc) m 3 vs := ⟨hvl, .inr ⟨g, o, vc, rfl, hvs, hvc⟩⟩
  obtain ⟨v', w', hr, r2, r3, r4⟩ := run_app (P := Tryz.prog) (T := 23) (ty := 0) Tryz.underlying23 hi0 hz0 hzs hzb (by decide) (by decide) hrow hsrc h1v (by omega) (by decide) (by omega)
  have hrun : ∀ ty, (Builtin.append_ #[23, 23] ty #[v, .slice (some ⟨g, o, none⟩) m vc]).run Tryz.prog W = .ok v' w' := fun ty => hr
  have hz1 : ¬ ((m : Int) = 0) := by omega
  have mixed : Tryz.prog.follows .mixedOrders = true := by kernel_rfl
  have u3 := Tryz.underlying3
  have a3 := Tryz.isAgg3
  have z3 := Tryz.sizeOf3
  have us' := Tryz.underlying23
  have as' := Tryz.isAgg23
  have zs := Tryz.sizeOf23
  have at' := Tryz.isAgg61
  have zt := Tryz.sizeOf61
  clear hr hsrc
  rcases hrow.2 with ⟨rfl, rfl⟩ | ⟨b, cap, cur, rfl, _, _, hnc, _⟩
  all_goals
    go_enter Tryz.func69, Tryz.ntmps69
    go_wp2_with (at_builtin; refine Lib.wpList_append_run _ rfl _ _ _ _ rfl _ _ rfl rfl _ _ (hrun _) ?_)
    all_goals (go_ret; exact ⟨_, rfl, r2, r3, r4⟩)
set_option maxHeartbeats 4000000 in
theorem insS_shift (b n c i m g o vc : Nat) (cur : Array Value) (xs vs : List Value) (W : World) (hg0 : W.heap[b]? = some (.cells cur 61 (0, 0))) (hn : n ≤ c) (hcm : c ≤ maxLen) (hcs : cur.size = c * 3) (hxs : cur.toList.take (n * 3) = xs) (h1x : ∀ u ∈ xs, u.oneCell' = true) (hi : i < n) (hm : 0 < m) (hroom : n + m ≤ c) (hvc : m ≤ vc) (hgb : g ≠ b) (hvl : vs.length = m * 3) (hvs : ∀ j u, vs[j]? = some u → W.cell? ⟨g, o + j, none⟩ = some u) (h1v : ∀ u ∈ vs, u.oneCell' = true) :
    Calls Tryz.prog 69 #[.slice (some ⟨b, 0, none⟩) n c, .int .i64 i, .slice (some ⟨g, o, none⟩) m vc] W fun e W' => e = .returned (.slice (some ⟨b, 0, none⟩) (n + m) c) ∧ W' = (W.drew.setCells b ((i + m) * 3) (xs.drop (i * 3))).setCells b (i * 3) vs := by
  have hcell : ∀ j, W.cell? ⟨b, j, none⟩ = cur[j]? := fun j => by simp [World.cell?, hg0]
  have hfz : ∀ j, W.frozen? ⟨b, j, none⟩ = false := fun j => by simp [World.frozen?, hg0]
  have hxl : xs.length = n * 3 := by rw [← hxs, List.length_take, Array.length_toList]; omega
  have hxg : ∀ j v, xs[j]? = some v → W.cell? ⟨b, j, none⟩ = some v := fun j v hj => by
    rw [hcell]
    rw [← hxs, List.getElem?_take] at hj
    split at hj
    · simpa using hj
    · cases hj
  have hsp : ∀ j, j < (n + m) * 3 → (W.cell? ⟨b, j, none⟩).isSome = true := fun j hj => by rw [hcell, Array.getElem?_eq_getElem (by omega)]; rfl
  have hgs : ∃ tA kA, W.shape? g = some (tA, kA + 1) := by
    have h0 := hvs 0 _ (List.getElem?_eq_getElem (by omega))
    simp only [World.cell?] at h0
    split at h0
    · rename_i c2 t2 f2 hc2
      refine ⟨t2, c2.size - 1, ?_⟩
      simp only [World.shape?, hc2]
      have : 0 < c2.size := by
        have h1 := h0
        simp at h1
        have := (Array.getElem?_eq_some_iff.1 h1).1
        omega
      rw [show c2.size - 1 + 1 = c2.size by omega]
    · cases h0
  obtain ⟨tA, kA, hsa⟩ := hgs
  have hsb : W.shape? b = some (61, (cur.size - 1) + 1) := by simp only [World.shape?, hg0]; rw [show cur.size - 1 + 1 = cur.size by omega]
  have hov : ∀ lb cb, (callFunc 89 #[.slice (some ⟨g, o, none⟩) m vc, .slice (some ⟨b, (i + m) * 3, none⟩) lb cb]).run Tryz.prog W = .ok (.value (.bool false)) W := fun lb cb => by
    rw [run_callFunc_extern Tryz.func89 (by kernel_rfl) (by kernel_rfl) (by kernel_rfl) (e := Extern.SlicesOverlaps.overlaps #[23, 23] #[4]) (by kernel_rfl),
      run_overlaps_own W 23 4 61 Tryz.underlying23 3 Tryz.sizeOf61 ⟨g, o, none⟩ ⟨b, (i + m) * 3, none⟩ m vc lb cb hgb tA 61 kA (cur.size - 1) hsa hsb (hfz _) (hfz _)]
    rfl
  have hsz : (Tryz.prog.info? 61).map (·.size) = some 3 := by kernel_rfl
  have hdl : (xs.drop (i * 3)).length = (n - i) * 3 := by rw [List.length_drop, hxl]; omega
  have hz1 : ¬ ((m : Int) = 0) := by omega
  have hz2 : ¬ ((i : Int) = (n : Int)) := by omega
  have hc63 : c ≤ 9223372036854775807 := by simp only [maxLen] at hcm; omega
  have hw1 : IntKind.i64.wrap ((i : Int) + (m : Int)) = (i : Int) + (m : Int) := by rw [IntKind.wrap_i64]; omega
  have hb1 : (0 : Int) ≤ (i : Int) + (m : Int) := by omega
  have hin : i ≤ n := by omega
  have htn : ((i : Int) + (m : Int)).toNat = i + m := by omega
  have hb2 : ¬ (c = i + m) := by omega
  have hb3 : (i : Int) ≤ (n : Int) + (m : Int) := by omega
  have hb4 : ¬ (c = i) := by omega
  have hcp1 : ∀ ty dc sc, (Builtin.copy_ #[23, 23] ty #[.slice (some ⟨b, (i + m) * 3, none⟩) (n + m - (i + m)) dc, .slice (some ⟨b, i * 3, none⟩) (n + m - i) sc]).run Tryz.prog W.drew = .ok (goInt (n - i : Nat)) (W.drew.setCells b ((i + m) * 3) (xs.drop (i * 3))) := fun ty dc sc =>
    run_copy_z W.drew _ _ ty 61 b ((i + m) * 3) (n + m - (i + m)) dc ⟨b, i * 3, none⟩ (n + m - i) sc 3 (n - i) (xs.drop (i * 3)) Tryz.underlying23 hsz (by simp only [Nat.min_def]; split <;> omega) hdl
      (fun j v hj => by rw [Addr.add_lit]; exact hxg _ v (by rwa [List.getElem?_drop] at hj))
      (fun j hj => hsp _ (by omega)) (fun j hj => hfz _) (fun v hv => h1x v (List.mem_of_mem_drop hv))
  obtain ⟨W1, hW1⟩ : ∃ W1, W1 = W.drew.setCells b ((i + m) * 3) (xs.drop (i * 3)) := ⟨_, rfl⟩
  have hcp2 : ∀ (W2 : World), (∀ x, W2.cell? x = W1.cell? x) → (∀ x, W2.frozen? x = W1.frozen? x) → ∀ ty dc, (Builtin.copy_ #[23, 23] ty #[.slice (some ⟨b, i * 3, none⟩) (n + m - i) dc, .slice (some ⟨g, o, none⟩) m vc]).run Tryz.prog W2 = .ok (goInt m) (W2.setCells b (i * 3) vs) := fun W2 hWc hWf ty dc =>
    run_copy_z W2 _ _ ty 61 b (i * 3) (n + m - i) dc ⟨g, o, none⟩ m vc 3 m vs Tryz.underlying23 hsz (by simp only [Nat.min_def]; split <;> omega) hvl
      (fun j v hj => by
        rw [Addr.add_lit, hWc, hW1, World.cell?_setCells_out b _ _ _ _ (fun h _ => absurd h hgb)]
        exact hvs j v hj)
      (fun j hj => by
        have h1 : (W.drew.cell? ⟨b, i * 3 + j, none⟩).isSome = true := hsp _ (by omega)
        rw [hWc, hW1]
        by_cases hin : (i + m) * 3 ≤ i * 3 + j ∧ i * 3 + j < (i + m) * 3 + (xs.drop (i * 3)).length
        · have := World.cell?_setCells_in b (xs.drop (i * 3)) ((i + m) * 3) W.drew (fun t ht => hsp _ (by omega)) (i * 3 + j - (i + m) * 3) (by omega)
          rw [show (i + m) * 3 + (i * 3 + j - (i + m) * 3) = i * 3 + j by omega] at this
          rw [this]; rfl
        · rw [World.cell?_setCells_out b _ _ _ _ (fun _ _ => by show i * 3 + j < (i + m) * 3 ∨ _ ≤ i * 3 + j; omega)]
          exact h1)
      (fun j hj => by rw [hWf, hW1, World.frozen?_setCells]; exact hfz _) h1v
  rw [← hW1] at hcp1
  have mixed : Tryz.prog.follows .mixedOrders = true := by kernel_rfl
  have u3 := Tryz.underlying3
  have a3 := Tryz.isAgg3
  have z3 := Tryz.sizeOf3
  have us' := Tryz.underlying23
  have as' := Tryz.isAgg23
  have zs := Tryz.sizeOf23
  have at' := Tryz.isAgg61
  have zt := Tryz.sizeOf61
  clear hsa hsb hcell hfz hxg hsp hsz hg0
  go_enter Tryz.func69, Tryz.ntmps69
  go_wp2_with (simp only [hov])
  go_region_law_o (refine step_copy_z rfl _ _ 23 23 rfl _ _ (by simp [Act.eval, Act.put]) (by simp [Act.eval, Act.put]) (hcp1 _ _ _) ?_)
  go_wp2_with (at_builtin; refine wpList_copy_z _ rfl _ _ 23 23 rfl _ _ rfl rfl (hcp2 _ (fun _ => rfl) (fun _ => rfl) _ _) ?_)
  go_ret
  first | exact ⟨rfl, rfl⟩ | exact ⟨rfl, by rw [hW1]⟩
set_option maxHeartbeats 4000000 in
theorem insS_grow (b n c i m g o vc : Nat) (cur : Array Value) (xs vs : List Value) (W : World) (hg0 : W.heap[b]? = some (.cells cur 61 (0, 0))) (hn : n ≤ c) (hcm : c ≤ maxLen) (hcs : cur.size = c * 3) (hxs : cur.toList.take (n * 3) = xs) (h1x : ∀ u ∈ xs, u.oneCell' = true) (hi : i < n) (hm : 0 < m) (hroom : c < n + m) (hbig : (n + m) * 32 ≤ 140737488355328) (hvc : m ≤ vc) (hvl : vs.length = m * 3) (hvs : ∀ j u, vs[j]? = some u → W.cell? ⟨g, o + j, none⟩ = some u) (h1v : ∀ u ∈ vs, u.oneCell' = true) :
    Calls Tryz.prog 69 #[.slice (some ⟨b, 0, none⟩) n c, .int .i64 i, .slice (some ⟨g, o, none⟩) m vc] W fun e W' => ∃ (G : Nat) (ROW : Array Value), e = .returned (.slice (some ⟨W.heap.size, 0, none⟩) (n + m) G) ∧ n + m ≤ G ∧ G ≤ maxLen ∧ ROW.size = G * 3 ∧ (∀ j, j < i * 3 → ROW[j]? = xs[j]?) ∧
      W' = (((W.alloc (.cells ROW 61)).drew.setCells W.heap.size (i * 3) vs).drew).setCells W.heap.size ((i + m) * 3) (xs.drop (i * 3)) := by
  have hcell : ∀ j, W.cell? ⟨b, j, none⟩ = cur[j]? := fun j => by simp [World.cell?, hg0]
  have hxl : xs.length = n * 3 := by rw [← hxs, List.length_take, Array.length_toList]; omega
  have hxg : ∀ j v, xs[j]? = some v → W.cell? ⟨b, j, none⟩ = some v := fun j v hj => by
    rw [hcell]
    rw [← hxs, List.getElem?_take] at hj
    split at hj
    · simpa using hj
    · cases hj
  obtain ⟨i0, hi0, hz0, hzs, hzb⟩ := info_parts (P := Tryz.prog) (e := 61) (z := .agg #[.string ⟨#[]⟩, .int .i64 0, .bool false]) (size := 3) (bytes := 32) (by kernel_rfl)
  have hbw : b < W.heap.size := by
    rcases Nat.lt_or_ge b W.heap.size with h | h
    · exact h
    · rw [Array.getElem?_eq_none h] at hg0; cases hg0
  have hgw : g < W.heap.size := by
    have h0 := hvs 0 _ (List.getElem?_eq_getElem (by omega))
    rcases Nat.lt_or_ge g W.heap.size with h | h
    · exact h
    · simp [World.cell?, Array.getElem?_eq_none h] at h0
  have hkk : (n : Int) + (m : Int) - (i : Int) = ((n + m - i : Nat) : Int) := by omega
  have hik : i + (n + m - i) = n + m := by omega
  have hold : (Builtin.firstCells i0.size i (.slice (some ⟨b, 0, none⟩) i c)).run Tryz.prog W.drew = .ok (xs.take (i * 3)).toArray W.drew := by
    rw [hzs]
    exact run_firstCells_some W.drew 3 i ⟨b, 0, none⟩ i c (xs.take (i * 3)) (by rw [List.length_take]; omega) (fun j v hj => by
      rw [Addr.add_lit, Nat.zero_add]
      rw [List.getElem?_take] at hj
      split at hj
      · exact hxg j v hj
      · cases hj)
  have hrz : ∀ ty, (Builtin.append_ #[23, 3] ty #[.slice (some ⟨b, 0, none⟩) i c, .int .i64 ((n : Int) + (m : Int) - (i : Int))]).run Tryz.prog W =
      .ok (.slice (some ⟨W.heap.size, 0, none⟩) (n + m) (grownCap W (n + m) c 61)) (W.drew.alloc (.cells ((xs.take (i * 3)).toArray ++ Builtin.zeroCells (.agg #[.string ⟨#[]⟩, .int .i64 0, .bool false] : Value).cells (n + m - i) ++ Builtin.zeroCells (.agg #[.string ⟨#[]⟩, .int .i64 0, .bool false] : Value).cells (grownCap W (n + m) c 61 - (n + m))) 61)) := fun ty => by
    have h := Lib.run_append_grow_zeros W 23 3 ty 61 i0 _ .i64 .i64 Tryz.underlying23 Tryz.underlying3 hi0 hz0 (some ⟨b, 0, none⟩) i c (xs.take (i * 3)) hold (n + m - i) (by omega) (by omega) (by omega) (by omega) (by rw [hzb]; omega) (by rw [hzb, hik]; exact growslice_fits hroom hbig)
    rw [hik] at h
    rw [hkk]
    exact h
  have hGn : n + m ≤ grownCap W (n + m) c 61 := grownCap_ge W _ _ _
  have hGm : grownCap W (n + m) c 61 ≤ maxLen := grownCap_le_maxLen W (n + m) c 61 (by unfold maxLen; omega)
  obtain ⟨G, hG⟩ : ∃ G, G = grownCap W (n + m) c 61 := ⟨_, rfl⟩
  obtain ⟨ROW, hROW⟩ : ∃ ROW : Array Value, ROW = (xs.take (i * 3)).toArray ++ Builtin.zeroCells (.agg #[.string ⟨#[]⟩, .int .i64 0, .bool false] : Value).cells (n + m - i) ++ Builtin.zeroCells (.agg #[.string ⟨#[]⟩, .int .i64 0, .bool false] : Value).cells (G - (n + m)) := ⟨_, rfl⟩
  rw [← hG] at hrz hGn hGm
  rw [← hROW] at hrz
  have hRl : ROW.size = G * 3 := by
    have hz : ((.agg #[.string ⟨#[]⟩, .int .i64 0, .bool false] : Value).cells).size = 3 := rfl
    rw [hROW, Array.size_append, Array.size_append, size_zeroCells, size_zeroCells, hz, List.size_toArray, List.length_take]
    omega
  have hRx : ∀ j, j < i * 3 → ROW[j]? = xs[j]? := fun j hj => by
    have hsz : (xs.take (i * 3)).toArray.size = i * 3 := by rw [List.size_toArray, List.length_take]; omega
    rw [hROW, Array.getElem?_append_left (by rw [Array.size_append]; omega), Array.getElem?_append_left (by omega), List.getElem?_toArray, List.getElem?_take, if_pos hj]
  obtain ⟨W1, hW1⟩ : ∃ W1, W1 = W.drew.alloc (.cells ROW 61) := ⟨_, rfl⟩
  rw [← hW1] at hrz
  have hsz : (Tryz.prog.info? 61).map (·.size) = some 3 := by kernel_rfl
  have hN : ∀ j, j < (n + m) * 3 → (W1.cell? ⟨W.heap.size, j, none⟩).isSome = true := fun j hj => by
    rw [hW1, World.cell?_alloc_at (w := W.drew) ROW _ W.heap.size j rfl, Array.getElem?_eq_getElem (by omega)]; rfl
  have hNf : ∀ j, W1.frozen? ⟨W.heap.size, j, none⟩ = false := fun j => by rw [hW1]; exact World.frozen?_alloc_at (w := W.drew) ROW _ W.heap.size j rfl
  have hOb : ∀ j v, W.cell? ⟨b, j, none⟩ = some v → W1.cell? ⟨b, j, none⟩ = some v := fun j v h => by rw [hW1, World.cell?_alloc_past (w := W.drew) _ b j hbw]; exact h
  have hOv : ∀ j v, W.cell? ⟨g, j, none⟩ = some v → W1.cell? ⟨g, j, none⟩ = some v := fun j v h => by rw [hW1, World.cell?_alloc_past (w := W.drew) _ g j hgw]; exact h
  have hcpA : ∀ (W2 : World), (∀ x, W2.cell? x = W1.cell? x) → (∀ x, W2.frozen? x = W1.frozen? x) → ∀ ty dc, (Builtin.copy_ #[23, 23] ty #[.slice (some ⟨W.heap.size, i * 3, none⟩) (n + m - i) dc, .slice (some ⟨g, o, none⟩) m vc]).run Tryz.prog W2 = .ok (goInt m) (W2.setCells W.heap.size (i * 3) vs) := fun W2 hWc hWf ty dc =>
    run_copy_z W2 _ _ ty 61 W.heap.size (i * 3) (n + m - i) dc ⟨g, o, none⟩ m vc 3 m vs Tryz.underlying23 hsz (by simp only [Nat.min_def]; split <;> omega) hvl
      (fun j v hj => by rw [Addr.add_lit, hWc]; exact hOv _ v (hvs j v hj))
      (fun j hj => by rw [hWc]; exact hN _ (by omega)) (fun j hj => by rw [hWf]; exact hNf _) h1v
  have hG63 : G ≤ 9223372036854775807 := by unfold maxLen at hGm; omega
  have hGi : ¬ (G = i) := by omega
  have hGim : ¬ (G = i + m) := by omega
  have hci : ¬ (c = i) := by omega
  have hbN : b ≠ W.heap.size := by omega
  have hdl : (xs.drop (i * 3)).length = (n - i) * 3 := by rw [List.length_drop, hxl]; omega
  have hcpB : ∀ (W2 : World), (∀ x, W2.cell? x = (W1.setCells W.heap.size (i * 3) vs).cell? x) → (∀ x, W2.frozen? x = (W1.setCells W.heap.size (i * 3) vs).frozen? x) → ∀ ty dc sc, (Builtin.copy_ #[23, 23] ty #[.slice (some ⟨W.heap.size, (i + m) * 3, none⟩) (n + m - (i + m)) dc, .slice (some ⟨b, i * 3, none⟩) (n - i) sc]).run Tryz.prog W2 = .ok (goInt (n - i : Nat)) (W2.setCells W.heap.size ((i + m) * 3) (xs.drop (i * 3))) := fun W2 hWc hWf ty dc sc =>
    run_copy_z W2 _ _ ty 61 W.heap.size ((i + m) * 3) (n + m - (i + m)) dc ⟨b, i * 3, none⟩ (n - i) sc 3 (n - i) (xs.drop (i * 3)) Tryz.underlying23 hsz (by simp only [Nat.min_def]; split <;> omega) hdl
      (fun j v hj => by
        rw [Addr.add_lit, hWc, World.cell?_setCells_out _ _ _ _ _ (fun h _ => absurd h hbN)]
        exact hOb _ v (hxg _ v (by rwa [List.getElem?_drop] at hj)))
      (fun j hj => by
        rw [hWc]
        have h1 := hN ((i + m) * 3 + j) (by omega)
        rw [World.cell?_setCells_out _ _ _ _ _ (fun _ _ => by show (i + m) * 3 + j < i * 3 ∨ i * 3 + vs.length ≤ (i + m) * 3 + j; omega)]
        exact h1)
      (fun j hj => by rw [hWf, World.frozen?_setCells]; exact hNf _) (fun v hv => h1x v (List.mem_of_mem_drop hv))
  subst hW1
  have hE1 : ∀ x, ((W.alloc (.cells ROW 61)).drew).cell? x = (W.drew.alloc (.cells ROW 61)).cell? x := fun x => rfl
  have hE2 : ∀ x, ((W.alloc (.cells ROW 61)).drew).frozen? x = (W.drew.alloc (.cells ROW 61)).frozen? x := fun x => rfl
  have hF1 : ∀ x, (((W.alloc (.cells ROW 61)).drew.setCells W.heap.size (i * 3) vs).drew).cell? x = ((W.drew.alloc (.cells ROW 61)).setCells W.heap.size (i * 3) vs).cell? x := fun x => rfl
  have hF2 : ∀ x, (((W.alloc (.cells ROW 61)).drew.setCells W.heap.size (i * 3) vs).drew).frozen? x = ((W.drew.alloc (.cells ROW 61)).setCells W.heap.size (i * 3) vs).frozen? x := fun x => rfl
  have hz1 : ¬ ((m : Int) = 0) := by omega
  have hz2 : ¬ ((i : Int) = (n : Int)) := by omega
  have hz3 : (c : Int) < (n : Int) + (m : Int) := by omega
  have hw1 : IntKind.i64.wrap ((i : Int) + (m : Int)) = (i : Int) + (m : Int) := by rw [IntKind.wrap_i64]; omega
  have hb1 : (0 : Int) ≤ (i : Int) + (m : Int) := by omega
  have hin : i ≤ n := by omega
  have htn : ((i : Int) + (m : Int)).toNat = i + m := by omega
  have hb3 : (i : Int) ≤ (n : Int) := by omega
  have mixed : Tryz.prog.follows .mixedOrders = true := by kernel_rfl
  have u3 := Tryz.underlying3
  have a3 := Tryz.isAgg3
  have z3 := Tryz.sizeOf3
  have us' := Tryz.underlying23
  have as' := Tryz.isAgg23
  have zs := Tryz.sizeOf23
  have at' := Tryz.isAgg61
  have zt := Tryz.sizeOf61
  clear hkk hik hold hROW hG hg0 hcs hxs hcell hxg hOb hOv hN hNf hsz hi0 hz0 hzs hzb
  go_enter Tryz.func69, Tryz.ntmps69
  go_wp2_with (first
    | (at_builtin; refine Lib.wpList_append_run _ rfl _ _ _ _ rfl _ _ rfl rfl _ _ (hrz _) ?_)
    | (at_builtin; refine wpList_copy_z _ rfl _ _ 23 23 rfl _ _ rfl rfl (hcpA _ hE1 hE2 _ _) ?_)
    | (at_builtin; refine wpList_copy_z _ rfl _ _ 23 23 rfl _ _ rfl rfl (hcpB _ (fun _ => rfl) (fun _ => rfl) _ _ _) ?_))
  go_region_law_o (refine step_copy_z rfl _ _ 23 23 rfl (.slice (some ⟨W.heap.size, (i + m) * 3, none⟩) (n + m - (i + m)) (G - (i + m))) (.slice (some ⟨b, i * 3, none⟩) (n - i) (c - i)) (by simp [Act.eval, Act.put]) (by simp [Act.eval, Act.put]) (hcpB _ hF1 hF2 3 (G - (i + m)) (c - i)) ?_)
  go_wp2
  go_ret
  exact ⟨G, ROW, rfl, hGn, hGm, hRl, hRx, rfl⟩
theorem insS_ins : InsOk Tryz.prog 69 61 3 32 := by
  intro W v n i xs vs g o c hrow hin hb hvl hvs hc hvg h1x h1v
  have hvl1 : vs.length = 1 * 3 := by rw [hvl]
  rcases Nat.lt_or_ge i n with hi | hi
  · rcases hrow.2 with ⟨rfl, rfl⟩ | ⟨b, cap, cur, rfl, hb0, hg0, hnc, hcm, hcs, hxs⟩
    · omega
    have hgb : g ≠ b := fun e => hvg (by rw [e]; rfl)
    have hbw : b < W.heap.size := by
      rcases Nat.lt_or_ge b W.heap.size with h | h
      · exact h
      · rw [Array.getElem?_eq_none h] at hg0; cases hg0
    rcases Nat.lt_or_ge cap (n + 1) with hr | hr
    · refine (insS_grow b n cap i 1 g o c cur xs vs W hg0 hnc hcm hcs hxs h1x hi (by decide) hr hb hc hvl1 hvs h1v).mono ?_
      rintro e W' ⟨G, ROW, rfl, hGn, hGm, hRl, hRx, rfl⟩
      have h1 : ((W.alloc (.cells ROW 61)).drew).heap[W.heap.size]? = some (.cells ROW 61 (0, 0)) := by
        show (W.heap.push (.cells ROW 61))[W.heap.size]? = _
        simp
      have h2 := setCells_heap W.heap.size vs (i * 3) _ ROW 61 (0, 0) h1
      have h3 := setCells_heap W.heap.size (xs.drop (i * 3)) ((i + 1) * 3) (((W.alloc (.cells ROW 61)).drew.setCells W.heap.size (i * 3) vs).drew) _ 61 (0, 0) h2
      obtain ⟨a1, a2, a3, a4, _⟩ := setCells_rest W.heap.size (xs.drop (i * 3)) ((i + 1) * 3) (((W.alloc (.cells ROW 61)).drew.setCells W.heap.size (i * 3) vs).drew)
      obtain ⟨b1, b2, b3, b4, _⟩ := setCells_rest W.heap.size vs (i * 3) ((W.alloc (.cells ROW 61)).drew)
      refine ⟨_, rfl, ⟨?_, .inr ⟨W.heap.size, G, _, rfl, Nat.zero_le _, h3, hGn, hGm, by rw [putL_size, putL_size, hRl], ?_⟩⟩, ⟨?_, ?_, ?_, ?_, fun k hk _ => ?_⟩, fun g' hg' => .inr (by simp [Value.ownBlock] at hg'; omega)⟩
      · have := hrow.1
        simp only [List.length_append, List.length_take, List.length_drop]
        omega
      · have h := grow_ins (c := ROW) (xs := xs) (vs := vs) (I := i * 3) (N := n * 3) (z := 3) hrow.1 hRx hvl (by omega) (by omega)
        rw [show (n + 1) * 3 = n * 3 + 3 by omega, show (i + 1) * 3 = i * 3 + 3 by omega]
        exact h
      · exact a1.trans b1
      · exact a2.trans b2
      · exact a3.trans b3
      · rw [a4]
        show _ ≤ (World.setCells _ _ _ _).heap.size
        rw [b4]
        show _ ≤ (W.heap.push _).size
        simp
      · rw [setCells_other _ _ _ _ _ (by omega)]
        show (World.setCells _ _ _ _).heap[k]? = _
        rw [setCells_other _ _ _ _ _ (by omega)]
        show (W.heap.push _)[k]? = _
        rw [Array.getElem?_push, if_neg (by omega)]
    · refine (insS_shift b n cap i 1 g o c cur xs vs W hg0 hnc hcm hcs hxs h1x hi (by decide) hr hc hgb hvl1 hvs h1v).mono ?_
      rintro e W' ⟨rfl, rfl⟩
      have h2 := setCells_heap b (xs.drop (i * 3)) ((i + 1) * 3) W.drew cur 61 (0, 0) hg0
      have h3 := setCells_heap b vs (i * 3) _ _ 61 (0, 0) h2
      obtain ⟨a1, a2, a3, a4, _⟩ := setCells_rest b vs (i * 3) (W.drew.setCells b ((i + 1) * 3) (xs.drop (i * 3)))
      obtain ⟨b1, b2, b3, b4, _⟩ := setCells_rest b (xs.drop (i * 3)) ((i + 1) * 3) W.drew
      refine ⟨_, rfl, ⟨?_, .inr ⟨b, cap, _, rfl, hb0, h3, hr, hcm, by rw [putL_size, putL_size, hcs], ?_⟩⟩, ⟨a1.trans b1, a2.trans b2, a3.trans b3, by rw [a4, b4]; exact Nat.le_refl _, fun k hk hne => ?_⟩, fun g' hg' => .inl hg'⟩
      · have := hrow.1
        simp only [List.length_append, List.length_take, List.length_drop]
        omega
      · have h := shift_ins (c := cur) (xs := xs) (vs := vs) (I := i * 3) (N := n * 3) (z := 3) hxs.symm hvl (by omega) (by omega)
        rw [show (n + 1) * 3 = n * 3 + 3 by omega, show (i + 1) * 3 = i * 3 + 3 by omega]
        exact h
      · have hkb : k ≠ b := fun e => hne (by rw [e]; rfl)
        rw [setCells_other _ _ _ _ _ hkb, setCells_other _ _ _ _ _ hkb]
        rfl
  · obtain rfl : i = n := by omega
    refine (insS_end v i 1 g o c xs vs W hrow hb (by decide) hc hvl1 hvs h1v).mono ?_
    rintro e W' ⟨v', rfl, r2, r3, r4⟩
    refine ⟨v', rfl, ?_, r3, r4⟩
    rw [List.take_of_length_le (by rw [hrow.1]; exact Nat.le_refl _), List.drop_eq_nil_of_le (by rw [hrow.1]; exact Nat.le_refl _), List.append_nil]
    exact r2
set_option maxHeartbeats 4000000 in
theorem insM_end (v : Value) (n m g o vc : Nat) (xs vs : List Value) (W : World) (hrow : W.ownsRow 0 30 5 v n xs) (hb : (n + m) * 104 ≤ 140737488355328) (hm : 0 < m) (hvc : m ≤ vc) (hvl : vs.length = m * 5) (hvs : ∀ j u, vs[j]? = some u → W.cell? ⟨g, o + j, none⟩ = some u) (h1v : ∀ u ∈ vs, u.oneCell' = true) :
    Calls Tryz.prog 40 #[v, .int .i64 n, .slice (some ⟨g, o, none⟩) m vc] W fun e W' => ∃ v', e = .returned v' ∧ W'.ownsRow 0 30 5 v' (n + m) (xs ++ vs) ∧ W.grownBy W' v.ownBlock ∧ ∀ g', v'.ownBlock = some g' → v.ownBlock = some g' ∨ W.heap.size ≤ g' := by
  obtain ⟨i0, hi0, hz0, hzs, hzb⟩ := info_parts (P := Tryz.prog) (e := 30) (z := .agg #[.string ⟨#[]⟩, .string ⟨#[]⟩, .slice none 0 0, .slice none 0 0, .slice none 0 0]) (size := 5) (bytes := 104) (by kernel_rfl)
  have hsrc : Rd W (.slice (some ⟨g, o, none⟩) m vc) m 5 vs := ⟨hvl, .inr ⟨g, o, vc, rfl, hvs, hvc⟩⟩
  obtain ⟨v', w', hr, r2, r3, r4⟩ := run_app (P := Tryz.prog) (T := 22) (ty := 0) Tryz.underlying22 hi0 hz0 hzs hzb (by decide) (by decide) hrow hsrc h1v (by omega) (by decide) (by omega)
  have hrun : ∀ ty, (Builtin.append_ #[22, 22] ty #[v, .slice (some ⟨g, o, none⟩) m vc]).run Tryz.prog W = .ok v' w' := fun ty => hr
  have hz1 : ¬ ((m : Int) = 0) := by omega
  have mixed : Tryz.prog.follows .mixedOrders = true := by kernel_rfl
  have u3 := Tryz.underlying3
  have a3 := Tryz.isAgg3
  have z3 := Tryz.sizeOf3
  have us' := Tryz.underlying22
  have as' := Tryz.isAgg22
  have zs := Tryz.sizeOf22
  have at' := Tryz.isAgg30
  have zt := Tryz.sizeOf30
  clear hr hsrc
  rcases hrow.2 with ⟨rfl, rfl⟩ | ⟨b, cap, cur, rfl, _, _, hnc, _⟩
  all_goals
    go_enter Tryz.func40, Tryz.ntmps40
    go_wp2_with (at_builtin; refine Lib.wpList_append_run _ rfl _ _ _ _ rfl _ _ rfl rfl _ _ (hrun _) ?_)
    all_goals (go_ret; exact ⟨_, rfl, r2, r3, r4⟩)
set_option maxHeartbeats 4000000 in
theorem insM_shift (b n c i m g o vc : Nat) (cur : Array Value) (xs vs : List Value) (W : World) (hg0 : W.heap[b]? = some (.cells cur 30 (0, 0))) (hn : n ≤ c) (hcm : c ≤ maxLen) (hcs : cur.size = c * 5) (hxs : cur.toList.take (n * 5) = xs) (h1x : ∀ u ∈ xs, u.oneCell' = true) (hi : i < n) (hm : 0 < m) (hroom : n + m ≤ c) (hvc : m ≤ vc) (hgb : g ≠ b) (hvl : vs.length = m * 5) (hvs : ∀ j u, vs[j]? = some u → W.cell? ⟨g, o + j, none⟩ = some u) (h1v : ∀ u ∈ vs, u.oneCell' = true) :
    Calls Tryz.prog 40 #[.slice (some ⟨b, 0, none⟩) n c, .int .i64 i, .slice (some ⟨g, o, none⟩) m vc] W fun e W' => e = .returned (.slice (some ⟨b, 0, none⟩) (n + m) c) ∧ W' = (W.drew.setCells b ((i + m) * 5) (xs.drop (i * 5))).setCells b (i * 5) vs := by
  have hcell : ∀ j, W.cell? ⟨b, j, none⟩ = cur[j]? := fun j => by simp [World.cell?, hg0]
  have hfz : ∀ j, W.frozen? ⟨b, j, none⟩ = false := fun j => by simp [World.frozen?, hg0]
  have hxl : xs.length = n * 5 := by rw [← hxs, List.length_take, Array.length_toList]; omega
  have hxg : ∀ j v, xs[j]? = some v → W.cell? ⟨b, j, none⟩ = some v := fun j v hj => by
    rw [hcell]
    rw [← hxs, List.getElem?_take] at hj
    split at hj
    · simpa using hj
    · cases hj
  have hsp : ∀ j, j < (n + m) * 5 → (W.cell? ⟨b, j, none⟩).isSome = true := fun j hj => by rw [hcell, Array.getElem?_eq_getElem (by omega)]; rfl
  have hgs : ∃ tA kA, W.shape? g = some (tA, kA + 1) := by
    have h0 := hvs 0 _ (List.getElem?_eq_getElem (by omega))
    simp only [World.cell?] at h0
    split at h0
    · rename_i c2 t2 f2 hc2
      refine ⟨t2, c2.size - 1, ?_⟩
      simp only [World.shape?, hc2]
      have : 0 < c2.size := by
        have h1 := h0
        simp at h1
        have := (Array.getElem?_eq_some_iff.1 h1).1
        omega
      rw [show c2.size - 1 + 1 = c2.size by omega]
    · cases h0
  obtain ⟨tA, kA, hsa⟩ := hgs
  have hsb : W.shape? b = some (30, (cur.size - 1) + 1) := by simp only [World.shape?, hg0]; rw [show cur.size - 1 + 1 = cur.size by omega]
  have hov : ∀ lb cb, (callFunc 67 #[.slice (some ⟨g, o, none⟩) m vc, .slice (some ⟨b, (i + m) * 5, none⟩) lb cb]).run Tryz.prog W = .ok (.value (.bool false)) W := fun lb cb => by
    rw [run_callFunc_extern Tryz.func67 (by kernel_rfl) (by kernel_rfl) (by kernel_rfl) (e := Extern.SlicesOverlaps.overlaps #[22, 22] #[4]) (by kernel_rfl),
      run_overlaps_own W 22 4 30 Tryz.underlying22 5 Tryz.sizeOf30 ⟨g, o, none⟩ ⟨b, (i + m) * 5, none⟩ m vc lb cb hgb tA 30 kA (cur.size - 1) hsa hsb (hfz _) (hfz _)]
    rfl
  have hsz : (Tryz.prog.info? 30).map (·.size) = some 5 := by kernel_rfl
  have hdl : (xs.drop (i * 5)).length = (n - i) * 5 := by rw [List.length_drop, hxl]; omega
  have hz1 : ¬ ((m : Int) = 0) := by omega
  have hz2 : ¬ ((i : Int) = (n : Int)) := by omega
  have hc63 : c ≤ 9223372036854775807 := by simp only [maxLen] at hcm; omega
  have hw1 : IntKind.i64.wrap ((i : Int) + (m : Int)) = (i : Int) + (m : Int) := by rw [IntKind.wrap_i64]; omega
  have hb1 : (0 : Int) ≤ (i : Int) + (m : Int) := by omega
  have hin : i ≤ n := by omega
  have htn : ((i : Int) + (m : Int)).toNat = i + m := by omega
  have hb2 : ¬ (c = i + m) := by omega
  have hb3 : (i : Int) ≤ (n : Int) + (m : Int) := by omega
  have hb4 : ¬ (c = i) := by omega
  have hcp1 : ∀ ty dc sc, (Builtin.copy_ #[22, 22] ty #[.slice (some ⟨b, (i + m) * 5, none⟩) (n + m - (i + m)) dc, .slice (some ⟨b, i * 5, none⟩) (n + m - i) sc]).run Tryz.prog W.drew = .ok (goInt (n - i : Nat)) (W.drew.setCells b ((i + m) * 5) (xs.drop (i * 5))) := fun ty dc sc =>
    run_copy_z W.drew _ _ ty 30 b ((i + m) * 5) (n + m - (i + m)) dc ⟨b, i * 5, none⟩ (n + m - i) sc 5 (n - i) (xs.drop (i * 5)) Tryz.underlying22 hsz (by simp only [Nat.min_def]; split <;> omega) hdl
      (fun j v hj => by rw [Addr.add_lit]; exact hxg _ v (by rwa [List.getElem?_drop] at hj))
      (fun j hj => hsp _ (by omega)) (fun j hj => hfz _) (fun v hv => h1x v (List.mem_of_mem_drop hv))
  obtain ⟨W1, hW1⟩ : ∃ W1, W1 = W.drew.setCells b ((i + m) * 5) (xs.drop (i * 5)) := ⟨_, rfl⟩
  have hcp2 : ∀ (W2 : World), (∀ x, W2.cell? x = W1.cell? x) → (∀ x, W2.frozen? x = W1.frozen? x) → ∀ ty dc, (Builtin.copy_ #[22, 22] ty #[.slice (some ⟨b, i * 5, none⟩) (n + m - i) dc, .slice (some ⟨g, o, none⟩) m vc]).run Tryz.prog W2 = .ok (goInt m) (W2.setCells b (i * 5) vs) := fun W2 hWc hWf ty dc =>
    run_copy_z W2 _ _ ty 30 b (i * 5) (n + m - i) dc ⟨g, o, none⟩ m vc 5 m vs Tryz.underlying22 hsz (by simp only [Nat.min_def]; split <;> omega) hvl
      (fun j v hj => by
        rw [Addr.add_lit, hWc, hW1, World.cell?_setCells_out b _ _ _ _ (fun h _ => absurd h hgb)]
        exact hvs j v hj)
      (fun j hj => by
        have h1 : (W.drew.cell? ⟨b, i * 5 + j, none⟩).isSome = true := hsp _ (by omega)
        rw [hWc, hW1]
        by_cases hin : (i + m) * 5 ≤ i * 5 + j ∧ i * 5 + j < (i + m) * 5 + (xs.drop (i * 5)).length
        · have := World.cell?_setCells_in b (xs.drop (i * 5)) ((i + m) * 5) W.drew (fun t ht => hsp _ (by omega)) (i * 5 + j - (i + m) * 5) (by omega)
          rw [show (i + m) * 5 + (i * 5 + j - (i + m) * 5) = i * 5 + j by omega] at this
          rw [this]; rfl
        · rw [World.cell?_setCells_out b _ _ _ _ (fun _ _ => by show i * 5 + j < (i + m) * 5 ∨ _ ≤ i * 5 + j; omega)]
          exact h1)
      (fun j hj => by rw [hWf, hW1, World.frozen?_setCells]; exact hfz _) h1v
  rw [← hW1] at hcp1
  have mixed : Tryz.prog.follows .mixedOrders = true := by kernel_rfl
  have u3 := Tryz.underlying3
  have a3 := Tryz.isAgg3
  have z3 := Tryz.sizeOf3
  have us' := Tryz.underlying22
  have as' := Tryz.isAgg22
  have zs := Tryz.sizeOf22
  have at' := Tryz.isAgg30
  have zt := Tryz.sizeOf30
  clear hsa hsb hcell hfz hxg hsp hsz hg0
  go_enter Tryz.func40, Tryz.ntmps40
  go_wp2_with (simp only [hov])
  go_region_law_o (refine step_copy_z rfl _ _ 22 22 rfl _ _ (by simp [Act.eval, Act.put]) (by simp [Act.eval, Act.put]) (hcp1 _ _ _) ?_)
  go_wp2_with (at_builtin; refine wpList_copy_z _ rfl _ _ 22 22 rfl _ _ rfl rfl (hcp2 _ (fun _ => rfl) (fun _ => rfl) _ _) ?_)
  go_ret
  first | exact ⟨rfl, rfl⟩ | exact ⟨rfl, by rw [hW1]⟩
set_option maxHeartbeats 4000000 in
theorem insM_grow (b n c i m g o vc : Nat) (cur : Array Value) (xs vs : List Value) (W : World) (hg0 : W.heap[b]? = some (.cells cur 30 (0, 0))) (hn : n ≤ c) (hcm : c ≤ maxLen) (hcs : cur.size = c * 5) (hxs : cur.toList.take (n * 5) = xs) (h1x : ∀ u ∈ xs, u.oneCell' = true) (hi : i < n) (hm : 0 < m) (hroom : c < n + m) (hbig : (n + m) * 104 ≤ 140737488355328) (hvc : m ≤ vc) (hvl : vs.length = m * 5) (hvs : ∀ j u, vs[j]? = some u → W.cell? ⟨g, o + j, none⟩ = some u) (h1v : ∀ u ∈ vs, u.oneCell' = true) :
    Calls Tryz.prog 40 #[.slice (some ⟨b, 0, none⟩) n c, .int .i64 i, .slice (some ⟨g, o, none⟩) m vc] W fun e W' => ∃ (G : Nat) (ROW : Array Value), e = .returned (.slice (some ⟨W.heap.size, 0, none⟩) (n + m) G) ∧ n + m ≤ G ∧ G ≤ maxLen ∧ ROW.size = G * 5 ∧ (∀ j, j < i * 5 → ROW[j]? = xs[j]?) ∧
      W' = (((W.alloc (.cells ROW 30)).drew.setCells W.heap.size (i * 5) vs).drew).setCells W.heap.size ((i + m) * 5) (xs.drop (i * 5)) := by
  have hcell : ∀ j, W.cell? ⟨b, j, none⟩ = cur[j]? := fun j => by simp [World.cell?, hg0]
  have hxl : xs.length = n * 5 := by rw [← hxs, List.length_take, Array.length_toList]; omega
  have hxg : ∀ j v, xs[j]? = some v → W.cell? ⟨b, j, none⟩ = some v := fun j v hj => by
    rw [hcell]
    rw [← hxs, List.getElem?_take] at hj
    split at hj
    · simpa using hj
    · cases hj
  obtain ⟨i0, hi0, hz0, hzs, hzb⟩ := info_parts (P := Tryz.prog) (e := 30) (z := .agg #[.string ⟨#[]⟩, .string ⟨#[]⟩, .slice none 0 0, .slice none 0 0, .slice none 0 0]) (size := 5) (bytes := 104) (by kernel_rfl)
  have hbw : b < W.heap.size := by
    rcases Nat.lt_or_ge b W.heap.size with h | h
    · exact h
    · rw [Array.getElem?_eq_none h] at hg0; cases hg0
  have hgw : g < W.heap.size := by
    have h0 := hvs 0 _ (List.getElem?_eq_getElem (by omega))
    rcases Nat.lt_or_ge g W.heap.size with h | h
    · exact h
    · simp [World.cell?, Array.getElem?_eq_none h] at h0
  have hkk : (n : Int) + (m : Int) - (i : Int) = ((n + m - i : Nat) : Int) := by omega
  have hik : i + (n + m - i) = n + m := by omega
  have hold : (Builtin.firstCells i0.size i (.slice (some ⟨b, 0, none⟩) i c)).run Tryz.prog W.drew = .ok (xs.take (i * 5)).toArray W.drew := by
    rw [hzs]
    exact run_firstCells_some W.drew 5 i ⟨b, 0, none⟩ i c (xs.take (i * 5)) (by rw [List.length_take]; omega) (fun j v hj => by
      rw [Addr.add_lit, Nat.zero_add]
      rw [List.getElem?_take] at hj
      split at hj
      · exact hxg j v hj
      · cases hj)
  have hrz : ∀ ty, (Builtin.append_ #[22, 3] ty #[.slice (some ⟨b, 0, none⟩) i c, .int .i64 ((n : Int) + (m : Int) - (i : Int))]).run Tryz.prog W =
      .ok (.slice (some ⟨W.heap.size, 0, none⟩) (n + m) (grownCap W (n + m) c 30)) (W.drew.alloc (.cells ((xs.take (i * 5)).toArray ++ Builtin.zeroCells (.agg #[.string ⟨#[]⟩, .string ⟨#[]⟩, .slice none 0 0, .slice none 0 0, .slice none 0 0] : Value).cells (n + m - i) ++ Builtin.zeroCells (.agg #[.string ⟨#[]⟩, .string ⟨#[]⟩, .slice none 0 0, .slice none 0 0, .slice none 0 0] : Value).cells (grownCap W (n + m) c 30 - (n + m))) 30)) := fun ty => by
    have h := Lib.run_append_grow_zeros W 22 3 ty 30 i0 _ .i64 .i64 Tryz.underlying22 Tryz.underlying3 hi0 hz0 (some ⟨b, 0, none⟩) i c (xs.take (i * 5)) hold (n + m - i) (by omega) (by omega) (by omega) (by omega) (by rw [hzb]; omega) (by rw [hzb, hik]; exact growslice_fits hroom hbig)
    rw [hik] at h
    rw [hkk]
    exact h
  have hGn : n + m ≤ grownCap W (n + m) c 30 := grownCap_ge W _ _ _
  have hGm : grownCap W (n + m) c 30 ≤ maxLen := grownCap_le_maxLen W (n + m) c 30 (by unfold maxLen; omega)
  obtain ⟨G, hG⟩ : ∃ G, G = grownCap W (n + m) c 30 := ⟨_, rfl⟩
  obtain ⟨ROW, hROW⟩ : ∃ ROW : Array Value, ROW = (xs.take (i * 5)).toArray ++ Builtin.zeroCells (.agg #[.string ⟨#[]⟩, .string ⟨#[]⟩, .slice none 0 0, .slice none 0 0, .slice none 0 0] : Value).cells (n + m - i) ++ Builtin.zeroCells (.agg #[.string ⟨#[]⟩, .string ⟨#[]⟩, .slice none 0 0, .slice none 0 0, .slice none 0 0] : Value).cells (G - (n + m)) := ⟨_, rfl⟩
  rw [← hG] at hrz hGn hGm
  rw [← hROW] at hrz
  have hRl : ROW.size = G * 5 := by
    have hz : ((.agg #[.string ⟨#[]⟩, .string ⟨#[]⟩, .slice none 0 0, .slice none 0 0, .slice none 0 0] : Value).cells).size = 5 := rfl
    rw [hROW, Array.size_append, Array.size_append, size_zeroCells, size_zeroCells, hz, List.size_toArray, List.length_take]
    omega
  have hRx : ∀ j, j < i * 5 → ROW[j]? = xs[j]? := fun j hj => by
    have hsz : (xs.take (i * 5)).toArray.size = i * 5 := by rw [List.size_toArray, List.length_take]; omega
    rw [hROW, Array.getElem?_append_left (by rw [Array.size_append]; omega), Array.getElem?_append_left (by omega), List.getElem?_toArray, List.getElem?_take, if_pos hj]
  obtain ⟨W1, hW1⟩ : ∃ W1, W1 = W.drew.alloc (.cells ROW 30) := ⟨_, rfl⟩
  rw [← hW1] at hrz
  have hsz : (Tryz.prog.info? 30).map (·.size) = some 5 := by kernel_rfl
  have hN : ∀ j, j < (n + m) * 5 → (W1.cell? ⟨W.heap.size, j, none⟩).isSome = true := fun j hj => by
    rw [hW1, World.cell?_alloc_at (w := W.drew) ROW _ W.heap.size j rfl, Array.getElem?_eq_getElem (by omega)]; rfl
  have hNf : ∀ j, W1.frozen? ⟨W.heap.size, j, none⟩ = false := fun j => by rw [hW1]; exact World.frozen?_alloc_at (w := W.drew) ROW _ W.heap.size j rfl
  have hOb : ∀ j v, W.cell? ⟨b, j, none⟩ = some v → W1.cell? ⟨b, j, none⟩ = some v := fun j v h => by rw [hW1, World.cell?_alloc_past (w := W.drew) _ b j hbw]; exact h
  have hOv : ∀ j v, W.cell? ⟨g, j, none⟩ = some v → W1.cell? ⟨g, j, none⟩ = some v := fun j v h => by rw [hW1, World.cell?_alloc_past (w := W.drew) _ g j hgw]; exact h
  have hcpA : ∀ (W2 : World), (∀ x, W2.cell? x = W1.cell? x) → (∀ x, W2.frozen? x = W1.frozen? x) → ∀ ty dc, (Builtin.copy_ #[22, 22] ty #[.slice (some ⟨W.heap.size, i * 5, none⟩) (n + m - i) dc, .slice (some ⟨g, o, none⟩) m vc]).run Tryz.prog W2 = .ok (goInt m) (W2.setCells W.heap.size (i * 5) vs) := fun W2 hWc hWf ty dc =>
    run_copy_z W2 _ _ ty 30 W.heap.size (i * 5) (n + m - i) dc ⟨g, o, none⟩ m vc 5 m vs Tryz.underlying22 hsz (by simp only [Nat.min_def]; split <;> omega) hvl
      (fun j v hj => by rw [Addr.add_lit, hWc]; exact hOv _ v (hvs j v hj))
      (fun j hj => by rw [hWc]; exact hN _ (by omega)) (fun j hj => by rw [hWf]; exact hNf _) h1v
  have hG63 : G ≤ 9223372036854775807 := by unfold maxLen at hGm; omega
  have hGi : ¬ (G = i) := by omega
  have hGim : ¬ (G = i + m) := by omega
  have hci : ¬ (c = i) := by omega
  have hbN : b ≠ W.heap.size := by omega
  have hdl : (xs.drop (i * 5)).length = (n - i) * 5 := by rw [List.length_drop, hxl]; omega
  have hcpB : ∀ (W2 : World), (∀ x, W2.cell? x = (W1.setCells W.heap.size (i * 5) vs).cell? x) → (∀ x, W2.frozen? x = (W1.setCells W.heap.size (i * 5) vs).frozen? x) → ∀ ty dc sc, (Builtin.copy_ #[22, 22] ty #[.slice (some ⟨W.heap.size, (i + m) * 5, none⟩) (n + m - (i + m)) dc, .slice (some ⟨b, i * 5, none⟩) (n - i) sc]).run Tryz.prog W2 = .ok (goInt (n - i : Nat)) (W2.setCells W.heap.size ((i + m) * 5) (xs.drop (i * 5))) := fun W2 hWc hWf ty dc sc =>
    run_copy_z W2 _ _ ty 30 W.heap.size ((i + m) * 5) (n + m - (i + m)) dc ⟨b, i * 5, none⟩ (n - i) sc 5 (n - i) (xs.drop (i * 5)) Tryz.underlying22 hsz (by simp only [Nat.min_def]; split <;> omega) hdl
      (fun j v hj => by
        rw [Addr.add_lit, hWc, World.cell?_setCells_out _ _ _ _ _ (fun h _ => absurd h hbN)]
        exact hOb _ v (hxg _ v (by rwa [List.getElem?_drop] at hj)))
      (fun j hj => by
        rw [hWc]
        have h1 := hN ((i + m) * 5 + j) (by omega)
        rw [World.cell?_setCells_out _ _ _ _ _ (fun _ _ => by show (i + m) * 5 + j < i * 5 ∨ i * 5 + vs.length ≤ (i + m) * 5 + j; omega)]
        exact h1)
      (fun j hj => by rw [hWf, World.frozen?_setCells]; exact hNf _) (fun v hv => h1x v (List.mem_of_mem_drop hv))
  subst hW1
  have hE1 : ∀ x, ((W.alloc (.cells ROW 30)).drew).cell? x = (W.drew.alloc (.cells ROW 30)).cell? x := fun x => rfl
  have hE2 : ∀ x, ((W.alloc (.cells ROW 30)).drew).frozen? x = (W.drew.alloc (.cells ROW 30)).frozen? x := fun x => rfl
  have hF1 : ∀ x, (((W.alloc (.cells ROW 30)).drew.setCells W.heap.size (i * 5) vs).drew).cell? x = ((W.drew.alloc (.cells ROW 30)).setCells W.heap.size (i * 5) vs).cell? x := fun x => rfl
  have hF2 : ∀ x, (((W.alloc (.cells ROW 30)).drew.setCells W.heap.size (i * 5) vs).drew).frozen? x = ((W.drew.alloc (.cells ROW 30)).setCells W.heap.size (i * 5) vs).frozen? x := fun x => rfl
  have hz1 : ¬ ((m : Int) = 0) := by omega
  have hz2 : ¬ ((i : Int) = (n : Int)) := by omega
  have hz3 : (c : Int) < (n : Int) + (m : Int) := by omega
  have hw1 : IntKind.i64.wrap ((i : Int) + (m : Int)) = (i : Int) + (m : Int) := by rw [IntKind.wrap_i64]; omega
  have hb1 : (0 : Int) ≤ (i : Int) + (m : Int) := by omega
  have hin : i ≤ n := by omega
  have htn : ((i : Int) + (m : Int)).toNat = i + m := by omega
  have hb3 : (i : Int) ≤ (n : Int) := by omega
  have mixed : Tryz.prog.follows .mixedOrders = true := by kernel_rfl
  have u3 := Tryz.underlying3
  have a3 := Tryz.isAgg3
  have z3 := Tryz.sizeOf3
  have us' := Tryz.underlying22
  have as' := Tryz.isAgg22
  have zs := Tryz.sizeOf22
  have at' := Tryz.isAgg30
  have zt := Tryz.sizeOf30
  clear hkk hik hold hROW hG hg0 hcs hxs hcell hxg hOb hOv hN hNf hsz hi0 hz0 hzs hzb
  go_enter Tryz.func40, Tryz.ntmps40
  go_wp2_with (first
    | (at_builtin; refine Lib.wpList_append_run _ rfl _ _ _ _ rfl _ _ rfl rfl _ _ (hrz _) ?_)
    | (at_builtin; refine wpList_copy_z _ rfl _ _ 22 22 rfl _ _ rfl rfl (hcpA _ hE1 hE2 _ _) ?_)
    | (at_builtin; refine wpList_copy_z _ rfl _ _ 22 22 rfl _ _ rfl rfl (hcpB _ (fun _ => rfl) (fun _ => rfl) _ _ _) ?_))
  go_region_law_o (refine step_copy_z rfl _ _ 22 22 rfl (.slice (some ⟨W.heap.size, (i + m) * 5, none⟩) (n + m - (i + m)) (G - (i + m))) (.slice (some ⟨b, i * 5, none⟩) (n - i) (c - i)) (by simp [Act.eval, Act.put]) (by simp [Act.eval, Act.put]) (hcpB _ hF1 hF2 3 (G - (i + m)) (c - i)) ?_)
  go_wp2
  go_ret
  exact ⟨G, ROW, rfl, hGn, hGm, hRl, hRx, rfl⟩
theorem insM_ins : InsOk Tryz.prog 40 30 5 104 := by
  intro W v n i xs vs g o c hrow hin hb hvl hvs hc hvg h1x h1v
  have hvl1 : vs.length = 1 * 5 := by rw [hvl]
  rcases Nat.lt_or_ge i n with hi | hi
  · rcases hrow.2 with ⟨rfl, rfl⟩ | ⟨b, cap, cur, rfl, hb0, hg0, hnc, hcm, hcs, hxs⟩
    · omega
    have hgb : g ≠ b := fun e => hvg (by rw [e]; rfl)
    have hbw : b < W.heap.size := by
      rcases Nat.lt_or_ge b W.heap.size with h | h
      · exact h
      · rw [Array.getElem?_eq_none h] at hg0; cases hg0
    rcases Nat.lt_or_ge cap (n + 1) with hr | hr
    · refine (insM_grow b n cap i 1 g o c cur xs vs W hg0 hnc hcm hcs hxs h1x hi (by decide) hr hb hc hvl1 hvs h1v).mono ?_
      rintro e W' ⟨G, ROW, rfl, hGn, hGm, hRl, hRx, rfl⟩
      have h1 : ((W.alloc (.cells ROW 30)).drew).heap[W.heap.size]? = some (.cells ROW 30 (0, 0)) := by
        show (W.heap.push (.cells ROW 30))[W.heap.size]? = _
        simp
      have h2 := setCells_heap W.heap.size vs (i * 5) _ ROW 30 (0, 0) h1
      have h3 := setCells_heap W.heap.size (xs.drop (i * 5)) ((i + 1) * 5) (((W.alloc (.cells ROW 30)).drew.setCells W.heap.size (i * 5) vs).drew) _ 30 (0, 0) h2
      obtain ⟨a1, a2, a3, a4, _⟩ := setCells_rest W.heap.size (xs.drop (i * 5)) ((i + 1) * 5) (((W.alloc (.cells ROW 30)).drew.setCells W.heap.size (i * 5) vs).drew)
      obtain ⟨b1, b2, b3, b4, _⟩ := setCells_rest W.heap.size vs (i * 5) ((W.alloc (.cells ROW 30)).drew)
      refine ⟨_, rfl, ⟨?_, .inr ⟨W.heap.size, G, _, rfl, Nat.zero_le _, h3, hGn, hGm, by rw [putL_size, putL_size, hRl], ?_⟩⟩, ⟨?_, ?_, ?_, ?_, fun k hk _ => ?_⟩, fun g' hg' => .inr (by simp [Value.ownBlock] at hg'; omega)⟩
      · have := hrow.1
        simp only [List.length_append, List.length_take, List.length_drop]
        omega
      · have h := grow_ins (c := ROW) (xs := xs) (vs := vs) (I := i * 5) (N := n * 5) (z := 5) hrow.1 hRx hvl (by omega) (by omega)
        rw [show (n + 1) * 5 = n * 5 + 5 by omega, show (i + 1) * 5 = i * 5 + 5 by omega]
        exact h
      · exact a1.trans b1
      · exact a2.trans b2
      · exact a3.trans b3
      · rw [a4]
        show _ ≤ (World.setCells _ _ _ _).heap.size
        rw [b4]
        show _ ≤ (W.heap.push _).size
        simp
      · rw [setCells_other _ _ _ _ _ (by omega)]
        show (World.setCells _ _ _ _).heap[k]? = _
        rw [setCells_other _ _ _ _ _ (by omega)]
        show (W.heap.push _)[k]? = _
        rw [Array.getElem?_push, if_neg (by omega)]
    · refine (insM_shift b n cap i 1 g o c cur xs vs W hg0 hnc hcm hcs hxs h1x hi (by decide) hr hc hgb hvl1 hvs h1v).mono ?_
      rintro e W' ⟨rfl, rfl⟩
      have h2 := setCells_heap b (xs.drop (i * 5)) ((i + 1) * 5) W.drew cur 30 (0, 0) hg0
      have h3 := setCells_heap b vs (i * 5) _ _ 30 (0, 0) h2
      obtain ⟨a1, a2, a3, a4, _⟩ := setCells_rest b vs (i * 5) (W.drew.setCells b ((i + 1) * 5) (xs.drop (i * 5)))
      obtain ⟨b1, b2, b3, b4, _⟩ := setCells_rest b (xs.drop (i * 5)) ((i + 1) * 5) W.drew
      refine ⟨_, rfl, ⟨?_, .inr ⟨b, cap, _, rfl, hb0, h3, hr, hcm, by rw [putL_size, putL_size, hcs], ?_⟩⟩, ⟨a1.trans b1, a2.trans b2, a3.trans b3, by rw [a4, b4]; exact Nat.le_refl _, fun k hk hne => ?_⟩, fun g' hg' => .inl hg'⟩
      · have := hrow.1
        simp only [List.length_append, List.length_take, List.length_drop]
        omega
      · have h := shift_ins (c := cur) (xs := xs) (vs := vs) (I := i * 5) (N := n * 5) (z := 5) hxs.symm hvl (by omega) (by omega)
        rw [show (n + 1) * 5 = n * 5 + 5 by omega, show (i + 1) * 5 = i * 5 + 5 by omega]
        exact h
      · have hkb : k ≠ b := fun e => hne (by rw [e]; rfl)
        rw [setCells_other _ _ _ _ _ hkb, setCells_other _ _ _ _ _ hkb]
        rfl
  · obtain rfl : i = n := by omega
    refine (insM_end v i 1 g o c xs vs W hrow hb (by decide) hc hvl1 hvs h1v).mono ?_
    rintro e W' ⟨v', rfl, r2, r3, r4⟩
    refine ⟨v', rfl, ?_, r3, r4⟩
    rw [List.take_of_length_le (by rw [hrow.1]; exact Nat.le_refl _), List.drop_eq_nil_of_le (by rw [hrow.1]; exact Nat.le_refl _), List.append_nil]
    exact r2
end Go.Proofs.YtjbnmeofjiokeaaGreatDoor.Ev
