import Derived.Test.YtnmaaijeamlplaaDoorRows
import Derived.WalkKit
import Derived.ProofKit
import Derived.Lib.Hide
import Derived.Lib.Strings
import Derived.Lib.SlBytesRow
import Derived.Lib.BufferRead
import Derived.Deep.AppendLies
set_option linter.unusedVariables false
set_option linter.unusedSimpArgs false
namespace Go.Proofs.YtnmaaijeamlplaaDoor.Buf
open Go.RowKit
def vals (l : List UInt8) : List Value := l.map fun x => .int .u8 (x.toNat : Int)
theorem vals_length (l : List UInt8) : (vals l).length = l.length := by simp [vals]
theorem vals_append (a b : List UInt8) : vals (a ++ b) = vals a ++ vals b := by simp [vals]
theorem vals_get (l : List UInt8) (i : Nat) (h : i < l.length) : (vals l)[i]? = some (.int .u8 ((l[i]).toNat : Int)) := by
 simp [vals, h]
def Buf (w : World) (base : Nat) (v : Value) (l : List UInt8) : Prop := w.ownsRow base 5 1 v l.length (vals l)
theorem info5 : (Tryd.prog.info? 5).map (fun i => (i.zero, i.size, i.bytes)) = some (some (.int .u8 0), 1, 1) := by kernel_rfl
theorem buf_cell {w : World} {base g n cap : Nat} {l : List UInt8} (h : Buf w base (.slice (some ⟨g, 0, none⟩) n cap) l) (hn : n = l.length) (i : Nat) (hi : i < l.length) :
  w.cell? ⟨g, i, none⟩ = some (.int .u8 ((l[i]).toNat : Int)) := by
 subst hn
 rw [World.ownsRow.cellAt h i (by omega), vals_get l i hi]
theorem buf_lit {base : Nat} (w : World) (l : List UInt8) (hb : base ≤ w.heap.size) (hm : l.length ≤ maxLen) :
  Buf (w.alloc (.cells (vals l).toArray 5)) base (.slice (some ⟨w.heap.size, 0, none⟩) l.length l.length) l := by
 have := World.ownsRow_lit (base := base) (e := 5) (size := 1) w (vals l).toArray l.length hb hm (by simp [vals_length])
 simpa [Buf] using this
theorem buf_string {w : World} {base : Nat} {v : Value} {l : List UInt8} (h : Buf w base v l) :
  (convert 43 9 v).run Tryd.prog w = .ok (.string ⟨l.toArray⟩) w := by
 have h0 := h
 rcases h.2 with ⟨rfl, hn⟩ | ⟨g, cap, cur, rfl, _⟩
 ·have hl : l = [] := List.eq_nil_of_length_eq_zero hn
  subst hl
  exact Lib.run_convert_nil_bytes w 43 9 5 0 Tryd.underlying43 Tryd.underlying5 Tryd.underlying9
 have hb : Lib.Bytes w g 0 ⟨l.toArray⟩ := by
  intro i hi
  have hi' : i < l.length := by simpa [ByteArray.size] using hi
  rw [Nat.zero_add, buf_cell h0 rfl i hi']
  rfl
 have := Lib.run_convert_whole (P := Tryd.prog) w 43 5 9 Tryd.underlying43 Tryd.underlying5 Tryd.underlying9 g 0 ⟨l.toArray⟩ hb cap
 simpa [ByteArray.size] using this
theorem str_app (a b : List UInt8) : (⟨a.toArray⟩ : ByteArray) ++ ⟨b.toArray⟩ = ⟨(a ++ b).toArray⟩ := by
 apply ByteArray.ext
 rw [ByteArray.data_append]
 simp
theorem one_string (w : World) (n : Int) (x : UInt8) (h : n = (x.toNat : Int)) :
  (convert 43 9 (.slice (some ⟨w.heap.size, 0, none⟩) 1 1)).run Tryd.prog (w.alloc (.cells #[.int .u8 n] 5)) = .ok (.string ⟨#[x]⟩) (w.alloc (.cells #[.int .u8 n] 5)) := by
 subst h
 exact buf_string (buf_lit (base := 0) w [x] (Nat.zero_le _) (by unfold maxLen; simp))
theorem buf_alloc {w : World} {base : Nat} {v : Value} {l : List UInt8} (h : Buf w base v l) (o : Obj) : Buf (w.alloc o) base v l := World.ownsRow.alloc h o
theorem buf_drew {w : World} {base : Nat} {v : Value} {l : List UInt8} (h : Buf w base v l) : Buf w.drew base v l := World.ownsRow.drew h
theorem lit_cells (w : World) (news : List UInt8) : ∀ j, (h : j < news.length) → (w.alloc (.cells (vals news).toArray 5)).cell? ((⟨w.heap.size, 0, none⟩ : Addr).add j) = some (.int .u8 ((news[j]).toNat : Int)) := by
 intro j h
 rw [show (⟨w.heap.size, 0, none⟩ : Addr).add j = ⟨w.heap.size, j, none⟩ by simp [Addr.add]; omega, World.cell?_alloc_at _ _ _ _ rfl, List.getElem?_toArray, vals_get news j h]
theorem one_cells (w : World) (n : Int) (x : UInt8) (hn : n = (x.toNat : Int)) : ∀ j, (h : j < [x].length) → (w.alloc (.cells #[.int .u8 n] 5)).cell? ((⟨w.heap.size, 0, none⟩ : Addr).add j) = some (.int .u8 (([x][j]).toNat : Int)) := by
 subst hn
 exact lit_cells w [x]
theorem wpList_append {w : World} {ops : Array Oper} {rest : List Oper} {o : Oper} {a : Act} {Q : Exit → Act → World → Prop} (hgd : o.guard = none) (s x : Operand)
  (ho : o.op = .call { callee := .builtin .append, args := #[s, x], argTypes := #[43, 43] })
  (base : Nat) (v : Value) (l : List UInt8) (hs : a.eval s = v) (hbuf : Buf w base v l)
  (ad : Addr) (m c : Nat) (news : List UInt8) (hx : a.eval x = .slice (some ad) m c) (hl : news.length = m) (hnews : ∀ j, (h : j < news.length) → w.cell? (ad.add j) = some (.int .u8 ((news[j]).toNat : Int)))
  (hbound : l.length + m ≤ 140737488355328) (hbase : base ≤ w.heap.size)
  (h : ∀ v' w', Buf w' base v' (l ++ news) → (∀ w0, Below base w0 w → Below base w0 w') → wpList Tryd.prog ops Q rest (a.put o.dst v') w') : wpList Tryd.prog ops Q (o :: rest) a w := by
 obtain ⟨i0, hi, hz0, hz1, hz2⟩ := info_parts info5
 subst hl
 refine wpList_append_own w hgd s x 43 ho base 5 i0 (.int .u8 0) 1 1 Tryd.underlying43 hi hz0 hz1 hz2 rfl (by decide) v l.length (vals l) hs hbuf ad news.length c (vals news) hx (by rw [vals_length, Nat.mul_one]) ?_ ?_ (by unfold maxLen; omega) (by omega) hbase ?_
 ·intro j u hj
  have hlt : j < news.length := by
   have := (List.getElem?_eq_some_iff.1 hj).1
   rwa [vals_length] at this
  rw [vals_get news j hlt] at hj
  rw [hnews j hlt, ← hj]
 ·intro u hu
  unfold vals at hu
  obtain ⟨x, _, rfl⟩ := List.mem_map.1 hu
  rfl
 intro v' w' h1 h2 _
 refine h v' w' ?_ (fun w0 hb => hb.grown h2 hbase (fun k hk => (World.ownsRow.lt hbuf k hk).1))
 unfold Buf
 rw [List.length_append, vals_append]
 exact h1
theorem vals_one (news : List UInt8) : ∀ u ∈ vals news, u.oneCell' = true := by
 intro u hu
 unfold vals at hu
 obtain ⟨x, _, rfl⟩ := List.mem_map.1 hu
 rfl
theorem vals_at {w : World} {ad : Addr} {news : List UInt8} (hnews : ∀ j, (h : j < news.length) → w.cell? (ad.add j) = some (.int .u8 ((news[j]).toNat : Int))) : ∀ j u, (vals news)[j]? = some u → w.cell? (ad.add j) = some u := by
 intro j u hj
 have hlt : j < news.length := by
  have := (List.getElem?_eq_some_iff.1 hj).1
  rwa [vals_length] at this
 rw [vals_get news j hlt] at hj
 rw [hnews j hlt, ← hj]
theorem step_append {w : World} {ops : Array Oper} {o : Oper} {a : Act} {K : Act → World → Prop} {Q : Exit → Act → World → Prop} {E : Prop} (hgd : o.guard = none) (s x : Operand)
  (ho : o.op = .call { callee := .builtin .append, args := #[s, x], argTypes := #[43, 43] })
  (base : Nat) (v : Value) (l : List UInt8) (hs : a.eval s = v) (hbuf : Buf w base v l)
  (ad : Addr) (m c : Nat) (news : List UInt8) (hx : a.eval x = .slice (some ad) m c) (hl : news.length = m) (hnews : ∀ j, (h : j < news.length) → w.cell? (ad.add j) = some (.int .u8 ((news[j]).toNat : Int)))
  (hm : 0 < m) (hbound : l.length + m ≤ 140737488355328) (hbase : base ≤ w.heap.size)
  (h : ∀ g cap w', Buf w' base (.slice (some ⟨g, 0, none⟩) (l.length + m) cap) (l ++ news) → (∀ w0, Below base w0 w → Below base w0 w') → K (a.put o.dst (.slice (some ⟨g, 0, none⟩) (l.length + m) cap)) w') :
  if Region.wanted o (yielded ops a.tmps) = true then Oper.wp Tryd.prog o a w K Q else E := by
 obtain ⟨i0, hi, hz0, hz1, hz2⟩ := info_parts info5
 subst hl
 refine step_append_lies w hgd s x 43 ho base 5 i0 (.int .u8 0) 1 1 Tryd.underlying43 hi hz0 hz1 hz2 rfl (by decide) v l.length (vals l) hs hbuf ad news.length c (vals news) hx (by rw [vals_length, Nat.mul_one]) (vals_at hnews) (vals_one news) hm (by unfold maxLen; omega) (by omega) hbase w.heap.size rfl ?_
 intro g cap w' h1 h2 _ _
 refine h g cap w' ?_ (fun w0 hb => hb.grown h2 hbase (fun k hk => (World.ownsRow.lt hbuf k hk).1))
 unfold Buf
 rw [List.length_append, vals_append]
 exact h1
theorem wpList_append_at {w : World} {ops : Array Oper} {rest : List Oper} {o : Oper} {a : Act} {Q : Exit → Act → World → Prop} (hgd : o.guard = none) (s x : Operand)
  (ho : o.op = .call { callee := .builtin .append, args := #[s, x], argTypes := #[43, 43] })
  (base : Nat) (v : Value) (l : List UInt8) (hs : a.eval s = v) (hbuf : Buf w base v l)
  (ad : Addr) (m c : Nat) (news : List UInt8) (hx : a.eval x = .slice (some ad) m c) (hl : news.length = m) (hnews : ∀ j, (h : j < news.length) → w.cell? (ad.add j) = some (.int .u8 ((news[j]).toNat : Int)))
  (hm : 0 < m) (hbound : l.length + m ≤ 140737488355328) (hbase : base ≤ w.heap.size)
  (h : ∀ g cap w', Buf w' base (.slice (some ⟨g, 0, none⟩) (l.length + m) cap) (l ++ news) → (∀ w0, Below base w0 w → Below base w0 w') → wpList Tryd.prog ops Q rest (a.put o.dst (.slice (some ⟨g, 0, none⟩) (l.length + m) cap)) w') : wpList Tryd.prog ops Q (o :: rest) a w := by
 obtain ⟨i0, hi, hz0, hz1, hz2⟩ := info_parts info5
 subst hl
 refine wpList_append_lies w hgd s x 43 ho base 5 i0 (.int .u8 0) 1 1 Tryd.underlying43 hi hz0 hz1 hz2 rfl (by decide) v l.length (vals l) hs hbuf ad news.length c (vals news) hx (by rw [vals_length, Nat.mul_one]) (vals_at hnews) (vals_one news) hm (by unfold maxLen; omega) (by omega) hbase w.heap.size rfl ?_
 intro g cap w' h1 h2 _ _
 refine h g cap w' ?_ (fun w0 hb => hb.grown h2 hbase (fun k hk => (World.ownsRow.lt hbuf k hk).1))
 unfold Buf
 rw [List.length_append, vals_append]
 exact h1
end Go.Proofs.YtnmaaijeamlplaaDoor.Buf
