/- Walks by program: texts and slices, arrays compared: at any program. -/
import Derived.Test.YtnmaaijeamlplaaDoorSx
import Derived.Laws.IdiomStrings
import Derived.Laws.MakeOwn
namespace Go.Proofs.YtnmaaijeamlplaaDoor.Sx
open Go.RowKit
open Go.Proofs.YtnmaaijeamlplaaDoor.Arr Go.Proofs.YtnmaaijeamlplaaDoor.Sym

/-- A text of n bytes. -/
def txt (f : Nat → Nat) (n : Nat) : ByteArray := ⟨((List.range n).map fun j => UInt8.ofNat (f j)).toArray⟩
theorem txt_size (f : Nat → Nat) (n : Nat) : (txt f n).size = n := by simp [txt, ByteArray.size]
theorem txt_at (f : Nat → Nat) (n i : Nat) (h : i < (txt f n).size) (hf : f i < 256) : ((txt f n)[i]'h).toNat = f i := by
  have hn : i < n := by rwa [txt_size] at h
  have key : ∀ (A : Array UInt8) (hA : A = ((List.range n).map fun j => UInt8.ofNat (f j)).toArray) (hi : i < A.size), A[i]'hi = UInt8.ofNat (f i) := by
    intro A hA hi
    subst hA
    simp
  have e : (txt f n)[i]'h = UInt8.ofNat (f i) := key _ rfl h
  rw [e]
  simp; omega
section
variable {P : Program} {o : Oper} {a : Act} {w : World} {x y : Operand} {T T' e : TypeId}
theorem r_sliceArr (g n : Nat) (hT : P.underlying T = some (.array n e)) (hz : (P.info? e).map (·.size) = some 1) (ho : o.op = .slice T x none none none) (hx : a.eval x = .pointer (some ⟨g, 0, none⟩)) :
    (execOp a.eval o).run P w = .ok (.value (.slice (some ⟨g, 0, none⟩) n n)) w := by
  have h1 := size_run hz w
  have h2 : (Instr.sliceAt T (.pointer (some ⟨g, 0, none⟩)) none none none).run P w = .ok (.slice (some ⟨g, 0, none⟩) n n) w := by
    simp only [Instr.sliceAt, Sem.run_bind, run_underlying hT, Result.andThen_ok, Instr.sureAddr, Instr.sliceBounds, Sem.run_pure, h1]
    have ha : (⟨g, 0, none⟩ : Addr).add 0 = ⟨g, 0, none⟩ := rfl
    by_cases h0 : n = 0
    · simp [h0]
    · simp [h0, ha]
  unfold execOp
  simp only [ho, hx, Option.map_none]
  simp only [Sem.run_bind, h2]
  rfl
theorem r_string (g n c : Nat) (f : Nat → Nat) (t : TypeId) (hf : ∀ j, j < n → f j < 256) (hb : Blk w g (rowOf .u8 f n) t) (hs : P.underlying T = some (.slice e)) (he : P.underlying e = some (.int .u8)) (hd : P.underlying T' = some .string)
    (ho : o.op = .convert T T' x) (hx : a.eval x = .slice (some ⟨g, 0, none⟩) n c) : (execOp a.eval o).run P w = .ok (.value (.string (txt f n))) w := by
  have h1 := run_convert_bytes_back (P := P) w T T' e ⟨g, 0, none⟩ c ((List.range n).map fun j => UInt8.ofNat (f j)) hs he hd (fun j hj => by
    have hj' : j < n := by simpa using hj
    have h2 := ((show Row w g n t .u8 f from hb).at j hj').1
    have e1 : (⟨g, 0, none⟩ : Addr).add j = ⟨g, j, none⟩ := by unfold Addr.add; split <;> simp_all
    rw [e1, h2]
    have := hf j hj'
    simp; omega)
  rw [List.length_map, List.length_range] at h1
  unfold execOp
  simp only [ho, hx]
  simp only [Sem.run_bind, h1]
  rfl
theorem r_cat (s t : ByteArray) (hst : s.size + t.size ≤ 9223372036854775807) (ho : o.op = .binOp .add T x y T') (hx : a.eval x = .string s) (hy : a.eval y = .string t) : (execOp a.eval o).run P w = .ok (.value (.string (s ++ t))) w := by
  unfold execOp
  simp only [ho, hx, hy]
  generalize a.eval = f at *
  go_simp
/-- A slice that is made: so many zero bytes. -/
theorem m_make {Q : Exit → Act → World → Prop} {K : Act → World → Prop} {w0 : World} {l : List (Nat × Array Value × TypeId)} {c : Array Value} (v : Nat → Value) (hm : Mm w0 w l) (d : Tmp) (hd : o.dst = some d) (hrun : (execOp a.eval o).run P w = .ok (.value (v w.heap.size)) (w.alloc (.cells c T)))
    (h : ∀ g w', Mm w0 w' (l ++ [(g, c, T)]) → K { a with tmps := a.tmps.setIfInBounds d (v g) } w') : o.wp P a w K Q := by
  unfold Oper.wp
  rw [hrun]
  have := h _ _ (hm.alloc c T)
  show K (a.put o.dst _) _
  unfold Act.put
  rw [hd]
  exact this
theorem made_zero (n : Nat) : madeCells (Value.cells (.int .u8 0)) (n * 1) = rowOf .u8 (fun _ => 0) n := by
  apply Array.ext
  · simp [size_madeCells, rowOf_size]
  · intro i h1 h2
    rw [rowOf_size] at h2
    have e2 := rowOf_get .u8 (fun _ => 0) n i h2
    rw [Array.getElem?_eq_getElem (by rw [rowOf_size]; exact h2)] at e2
    rw [Option.some.inj e2]
    simp [madeCells, Value.cells, Nat.mod_one]
theorem r_make (n : Nat) (i : TypeInfo) (hn : n ≤ 1000000000) (hs : P.underlying T = some (.slice e)) (hi : P.info? e = some i) (hz : i.zero = some (.int .u8 0)) (h1 : i.size = 1) (h2 : i.bytes = 1)
    (ho : o.op = .makeSlice T x y) (hx : a.eval x = .int .i64 (n : Int)) (hy : a.eval y = .int .i64 (n : Int)) : (execOp a.eval o).run P w = .ok (.value (.slice (some ⟨w.heap.size, 0, none⟩) n n)) (w.alloc (.cells (rowOf .u8 (fun _ => 0) n) e)) := by
  have h := run_make (P := P) w T e i (.int .u8 0) hs hi hz .i64 .i64 n n (by omega) (by omega) (by rw [h2]; omega) (by omega)
  rw [h1, Int.toNat_natCast, made_zero] at h
  unfold execOp
  simp only [ho, hx, hy]
  simp only [Sem.run_bind, h]
  rfl
end
end Go.Proofs.YtnmaaijeamlplaaDoor.Sx
