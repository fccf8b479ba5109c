/- A row of bytes that a call has made: what it holds, how it is turned into a string. -/
import Derived.Test.YtcadahlmihfmlaaRows
import Derived.WalkKit
import Derived.ProofKit
import Derived.Lib.Hide
import Derived.Lib.Strings
import Derived.Lib.SlBytesRow
import Derived.Lib.BufferRead
namespace Go.Proofs.Ytcadahlmihfmlaa.Buf
open Go.RowKit

/-- Bytes as values. -/
def vals (l : List UInt8) : List Value := l.map fun x => .int .u8 (x.toNat : Int)
theorem vals_length (l : List UInt8) : (vals l).length = l.length := by simp [vals]
theorem vals_append (a b : List UInt8) : vals (a ++ b) = vals a ++ vals b := by simp [vals]
theorem vals_get (l : List UInt8) (i : Nat) (h : i < l.length) : (vals l)[i]? = some (.int .u8 ((l[i]).toNat : Int)) := by
  simp [vals, h]
theorem vals_set (l : List UInt8) (i : Nat) (x : UInt8) : (vals l).set i (.int .u8 (x.toNat : Int)) = vals (l.set i x) := by
  unfold vals; rw [List.map_set]

/-- The slice v, made by the call (from block 'base' on), holds the bytes l. -/
def Buf (w : World) (base : Nat) (v : Value) (l : List UInt8) : Prop := w.ownsRow base 5 1 v l.length (vals l)

theorem info5 : (Try.prog.info? 5).map (fun i => (i.zero, i.size, i.bytes)) = some (some (.int .u8 0), 1, 1) := by kernel_rfl

theorem buf_cell {w : World} {base g n cap : Nat} {l : List UInt8} (h : Buf w base (.slice (some ⟨g, 0, none⟩) n cap) l) (hn : n = l.length) (i : Nat) (hi : i < l.length) :
    w.cell? ⟨g, i, none⟩ = some (.int .u8 ((l[i]).toNat : Int)) := by
  subst hn
  rw [World.ownsRow.cellAt h i (by omega), vals_get l i hi]
theorem buf_frozen {w : World} {base g n cap : Nat} {l : List UInt8} (h : Buf w base (.slice (some ⟨g, 0, none⟩) n cap) l) (hn : n = l.length) (i : Nat) :
    w.frozen? ⟨g, i, none⟩ = false := by
  subst hn
  exact World.ownsRow.frozenAt h i
theorem buf_store {w : World} {base g n cap : Nat} {l : List UInt8} (h : Buf w base (.slice (some ⟨g, 0, none⟩) n cap) l) (hn : n = l.length) (i : Nat) (x : UInt8) :
    Buf (w.setCell ⟨g, i, none⟩ (.int .u8 (x.toNat : Int))) base (.slice (some ⟨g, 0, none⟩) n cap) (l.set i x) := by
  subst hn
  have := (World.ownsRow.stored h i (.int .u8 (x.toNat : Int))).1
  unfold Buf
  rw [List.length_set, ← vals_set]
  exact this
theorem buf_lit {base : Nat} (w : World) (l : List UInt8) (hb : base ≤ w.heap.size) (hm : l.length ≤ maxLen) :
    Buf (w.alloc (.cells (vals l).toArray 5)) base (.slice (some ⟨w.heap.size, 0, none⟩) l.length l.length) l := by
  have := World.ownsRow_lit (base := base) (e := 5) (size := 1) w (vals l).toArray l.length hb hm (by simp [vals_length])
  simpa [Buf] using this

/-- As a string. -/
theorem buf_string {w : World} {base : Nat} {v : Value} {l : List UInt8} (h : Buf w base v l) :
    (convert 38 9 v).run Try.prog w = .ok (.string ⟨l.toArray⟩) w := by
  have h0 := h
  rcases h.2 with ⟨rfl, hn⟩ | ⟨g, cap, cur, rfl, _⟩
  · have hl : l = [] := List.eq_nil_of_length_eq_zero hn
    subst hl
    exact Lib.run_convert_nil_bytes w 38 9 5 0 Try.underlying38 Try.underlying5 Try.underlying9
  · have hb : Lib.Bytes w g 0 ⟨l.toArray⟩ := by
      intro i hi
      have hi' : i < l.length := by simpa [ByteArray.size] using hi
      rw [Nat.zero_add, buf_cell h0 rfl i hi']
      rfl
    have := Lib.run_convert_whole (P := Try.prog) w 38 5 9 Try.underlying38 Try.underlying5 Try.underlying9 g 0 ⟨l.toArray⟩ hb cap
    simpa [ByteArray.size] using this

theorem str_app (a b : List UInt8) : (⟨a.toArray⟩ : ByteArray) ++ ⟨b.toArray⟩ = ⟨(a ++ b).toArray⟩ := by
  apply ByteArray.ext
  rw [ByteArray.data_append]
  simp
theorem str_cons (x : UInt8) (b : List UInt8) : (⟨#[x]⟩ : ByteArray) ++ ⟨b.toArray⟩ = ⟨(x :: b).toArray⟩ := str_app [x] b
theorem str_snoc (b : List UInt8) (x : UInt8) : (⟨b.toArray⟩ : ByteArray) ++ ⟨#[x]⟩ = ⟨(b ++ [x]).toArray⟩ := str_app b [x]
theorem ret_two {a b c d : Value} (h1 : a = c) (h2 : b = d) : Ending.returned (.tuple #[a, b]) = .returned (.tuple #[c, d]) := by rw [h1, h2]
/-- What 'make' has laid: noughts. -/
theorem buf_made {w : World} {base n : Nat} {v : Value} (h : w.ownsRow base 5 1 v n (madeCells (Value.int .u8 0).cells (n * 1)).toList) : Buf w base v (List.replicate n 0) := by
  unfold Buf
  have e : vals (List.replicate n 0) = (madeCells (Value.int .u8 0).cells (n * 1)).toList := by
    show _ = (madeCells #[Value.int .u8 0] (n * 1)).toList
    rw [toList_madeCells_one, Nat.mul_one]
    simp [vals]
  rw [e, List.length_replicate]; exact h
/-- One byte as a string, out of the row that holds it alone. -/
theorem one_string (w : World) (n : Int) (x : UInt8) (h : n = (x.toNat : Int)) :
    (convert 38 9 (.slice (some ⟨w.heap.size, 0, none⟩) 1 1)).run Try.prog (w.alloc (.cells #[.int .u8 n] 5)) = .ok (.string ⟨#[x]⟩) (w.alloc (.cells #[.int .u8 n] 5)) := by
  subst h
  exact buf_string (buf_lit (base := 0) w [x] (Nat.zero_le _) (by unfold maxLen; simp))
end Go.Proofs.Ytcadahlmihfmlaa.Buf
