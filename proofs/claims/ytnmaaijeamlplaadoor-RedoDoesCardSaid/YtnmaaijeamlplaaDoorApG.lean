import Derived.Test.YtnmaaijeamlplaaDoorAx
set_option linter.unusedVariables false
set_option linter.unusedSimpArgs false
namespace Go.Proofs.YtnmaaijeamlplaaDoor.Mem
open Go.RowKit Go.ChangeShapes Go.WideShapes Go.ChangeAt
open Go.Proofs.YtnmaaijeamlplaaDoor.Sx hiding Mm m_alloc m_store m_call m_callx
section
variable {P : Program} {oi : Oper} {a : Act} {w w0 : World} {r : Option Nat} {S : Nat → Prop} {L : List Ent} {K : Act → World → Prop} {Q : Exit → Act → World → Prop} {x : Operand} {e : TypeId}
theorem m_appendG {α : Type} {enc : α → List Value} {l l2 : List α} {g n c0 size bytes : Nat} (inf : TypeInfo) (z : Value) (s : Operand) (ty : TypeId) (xv : Value) (hm : Mm r S w0 w L) (d : Tmp) (hd : oi.dst = some d)
  (ho : oi.op = .call { callee := .builtin .append, args := #[s, x], argTypes := #[ty, ty] }) (ht : P.underlying ty = some (.slice e)) (hinf : P.info? e = some inf) (hz : inf.zero = some z)
  (hsize : inf.size = size) (hby : inf.bytes = bytes) (hlen : ∀ x, (enc x).length = size) (hzs : z.cells.size = size) (hs : a.eval s = .slice (some ⟨g, 0, none⟩) n c0) (hx : a.eval x = xv) (hl : Rs enc size l (.slice (some ⟨g, 0, none⟩) n c0) w) (hsrc : Rs enc size l2 xv w)
  (hn : 0 < n) (hc : c0 < n + l2.length) (h63 : l.length + l2.length ≤ 9223372036854775807) (hbytes : (l.length + l2.length) * bytes ≤ 140737488355328)
  (h : ∀ v' w', Mm r S w0 w' (L ++ [.row v' (l ++ l2).length ((l ++ l2).flatMap enc) e size]) → K { a with tmps := a.tmps.setIfInBounds d v' } w') : oi.wp P a w K Q := by
 subst hsize
 subst hby
 have e1 : (l ++ l2).flatMap enc = l.flatMap enc ++ l2.flatMap enc := List.flatMap_append
 have hnl : n = l.length ∧ n ≤ c0 ∧ ∀ (j : Nat) (u : Value), (l.flatMap enc)[j]? = some u → w.cell? ((⟨g, 0, none⟩ : Addr).add j) = some u := by
  rcases hl.2 with ⟨_, ao, c, h0⟩ | ⟨g', o, c', h0, hcell, hle⟩
  ·simp only [Value.slice.injEq] at h0
   omega
  simp only [Value.slice.injEq, Option.some.injEq] at h0
  obtain ⟨ha, hb, hc'⟩ := h0
  refine ⟨hb, by omega, fun j u hu => ?_⟩
  rw [ha, add_lit]
  exact hcell j u hu
 obtain ⟨hnl, hn0, hold⟩ := hnl
 obtain ⟨ad, c, rfl, hnew⟩ : ∃ ad c, xv = .slice (some ad) l2.length c ∧ ∀ (j : Nat) (u : Value), (l2.flatMap enc)[j]? = some u → w.cell? (ad.add j) = some u := by
  rcases hsrc.2 with ⟨h0, _⟩ | ⟨g', o, c', h0, hcell, _⟩
  ·omega
  exact ⟨_, _, h0, fun j u hu => by rw [add_lit]; exact hcell j u hu⟩
 have hsmall : n + l2.length ≤ 9223372036854775807 := by omega
 have hmax : n + l2.length ≤ maxLen := by unfold maxLen; omega
 have hr := run_append_grow (P := P) w ty oi.type e inf z ht hinf hz ⟨g, 0, none⟩ n c0 (l.flatMap enc) (by rw [flat_len hlen, hnl]) hold ad l2.length c (l2.flatMap enc) (flat_len hlen l2) hnew hc (by omega) (growslice_fits (by omega) (by rw [hnl]; exact hbytes))
 have hge := grownCap_ge w (n + l2.length) c0 e
 have hcm : grownCap w (n + l2.length) c0 e ≤ maxLen := grownCap_le_maxLen w (n + l2.length) c0 e hmax
 have hfl := flat_len hlen l
 have hfl2 := flat_len hlen l2
 have hown : (w.drew.alloc (.cells ((l.flatMap enc).toArray ++ (l2.flatMap enc).toArray ++ Builtin.zeroCells z.cells (grownCap w (n + l2.length) c0 e - (n + l2.length))) e)).ownsRow w.heap.size e inf.size
   (.slice (some ⟨w.heap.size, 0, none⟩) (n + l2.length) (grownCap w (n + l2.length) c0 e)) (n + l2.length) (l.flatMap enc ++ l2.flatMap enc) := by
  have hlen2 : (l.flatMap enc ++ l2.flatMap enc).length = (n + l2.length) * inf.size := by rw [List.length_append, hfl, hfl2, ← hnl, Nat.add_mul]
  refine ⟨hlen2, .inr ⟨w.heap.size, _, _, rfl, Nat.le_refl _, heap_alloc_new w.drew _, hge, hcm, ?_, ?_⟩⟩
  ·simp only [Array.size_append, List.size_toArray, size_zeroCells, hzs, hfl, hfl2, ← hnl, ← Nat.add_mul]
   congr 1
   omega
  simp only [Array.toList_append, List.append_assoc]
  rw [← List.append_assoc, ← hlen2]
  exact List.take_left
 have hb : Below w.heap.size w (w.drew.alloc (.cells ((l.flatMap enc).toArray ++ (l2.flatMap enc).toArray ++ Builtin.zeroCells z.cells (grownCap w (n + l2.length) c0 e - (n + l2.length))) e)) := ⟨rfl, rfl, rfl, by simp, fun k hk => heap_alloc_old w.drew _ hk⟩
 have hm' := hm.gained hb hown
 unfold Oper.wp execOp
 simp only [ho, resolve, invoke, builtin, Sem.run_bind, Sem.run_pure, Result.andThen_ok, List.map_toArray, List.map_cons, List.map_nil, hs, hx, hr]
 show K (a.put oi.dst _) _
 unfold Act.put
 rw [hd]
 refine h _ _ ?_
 rw [e1, List.length_append, ← hnl]
 exact hm'
end
end Go.Proofs.YtnmaaijeamlplaaDoor.Mem
