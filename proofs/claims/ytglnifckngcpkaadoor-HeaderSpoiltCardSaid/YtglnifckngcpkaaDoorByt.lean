/- Bytes that a function makes of a text and changes: a block longer than the slice. -/
import Derived.Test.YtglnifckngcpkaaDoorTxt
namespace Go.Proofs.YtglnifckngcpkaaDoor.Mem

/-- The bytes, and what is behind them. -/
def bb (l : List UInt8) (n : Nat) : Array Value := (l.map bv ++ List.replicate n (Value.int .u8 0)).toArray
theorem bb_size (l : List UInt8) (n : Nat) : (bb l n).size = l.length + n := by simp [bb]
theorem bb_start (l : List UInt8) (n : Nat) : bcells (tx l) n = bb l n := by
  unfold bcells bytesRow bb
  rw [tx_size, show l.length + n - l.length = n by omega]
  show l.toArray.map bv ++ Array.replicate n (Value.int .u8 0) = _
  simp
theorem bb_set (l : List UInt8) (n i : Nat) (b : UInt8) (h : i < l.length) : into (bb l n) i #[bv b] = bb (l.set i b) n := by
  unfold into bb
  apply congrArg
  show (l.map bv ++ List.replicate n (Value.int .u8 0)).take i ++ [bv b] ++ (l.map bv ++ List.replicate n (Value.int .u8 0)).drop (i + 1) = (l.set i b).map bv ++ List.replicate n (Value.int .u8 0)
  rw [List.map_set, List.set_eq_take_append_cons_drop, if_pos (by rw [List.length_map]; exact h), List.take_append_of_le_length (by rw [List.length_map]; omega), List.drop_append_of_le_length (by rw [List.length_map]; omega)]
  simp
theorem Rd_bb {W : World} {g : Nat} {T : TypeId} {l : List UInt8} {n c : Nat} (h : Blk W g (bb l n) T) (hc : l.length ≤ c) : Rd W (.slice (some ⟨g, 0, none⟩) l.length c) l.length 1 (l.map bv) := by
  refine ⟨by simp, .inr ⟨g, 0, c, rfl, fun j u hu => ?_, hc⟩⟩
  have hj : j < l.length := by simpa using (List.getElem?_eq_some_iff.1 hu).1
  rw [h.cell, Nat.zero_add, ← hu]
  unfold bb
  rw [List.getElem?_toArray, List.getElem?_append_left (by rw [List.length_map]; exact hj)]
end Go.Proofs.YtglnifckngcpkaaDoor.Mem
