/- Contracts of layer 8's Octal and of its reference's: the digits, or none. -/
import Derived.Test.YtcadahlmihfmlaaBuf
import Derived.Test.YtcadahlmihfmlaaOctMath
import Derived.IntWalk
namespace Go.Proofs.Ytcadahlmihfmlaa.Oct
open Go.RowKit

set_option maxHeartbeats 400000 in
theorem octal_any (n d : Nat) (w : World) (hn : n < 9223372036854775808) (hd : d ≤ 22) :
    Calls Try.prog 12 #[.int .i64 n, .int .i64 d] w fun e w' => e = .returned (.tuple #[.string ⟨(oct n d).toArray⟩, .bool ((cur n d : Int) == 0)]) ∧ Below w.heap.size w w' := by
  obtain ⟨i0, hi, hz0, hz1, hz2⟩ := info_parts Buf.info5
  have hb1 : i0.bytes * d ≤ 281474976710656 := by rw [hz2]; omega
  have hb2 : d ≤ maxLen := by unfold maxLen; omega
  have e1 : ¬ (n : Int) < 0 := by omega
  have e2 : ¬ (d : Int) < 0 := by omega
  have e3 : ¬ (22 : Int) < (d : Int) := by omega
  clear hz2
  go_enter Try.func12, Try.ntmps12
  go_wp2_with (at_make; refine wpList_make_full _ rfl _ _ 38 rfl w.heap.size 5 i0 (.int .u8 0) 1 Try.underlying38 hi hz0 hz1 .i64 .i64 _ _ d rfl rfl rfl rfl hb1 hb2 (Nat.le_refl _) ?_; intro w1 hown hgrow)
  have hl0 : (List.replicate d (0 : UInt8) ++ oct n 0).length = d := by simp [oct]
  have hbuf0 : Buf.Buf w1 w.heap.size (.slice (some ⟨w.heap.size, 0, none⟩) d d) (List.replicate d 0 ++ oct n 0) := by
    unfold Buf.Buf
    rw [hl0]
    have e : Buf.vals (List.replicate d 0 ++ oct n 0) = (madeCells (Value.int .u8 0).cells (d * 1)).toList := by
      show _ = (madeCells #[Value.int .u8 0] (d * 1)).toList
      rw [toList_madeCells_one, Nat.mul_one]
      simp [Buf.vals, oct]
    rw [e]; exact hown
  have hbel0 : Below w.heap.size w w1 := (Below.refl _ _).grown hgrow (Nat.le_refl _) (fun _ h => by cases h)
  clear hown hgrow hl0 hi hz0 hz1 hb1 hb2
  go_loopw [0, 7] (fun nv iv wr => ∃ j k : Nat, j + k = d ∧ iv = .int .i64 ((j : Int) - 1) ∧ nv = .int .i64 (cur n k : Int) ∧ Buf.Buf wr w.heap.size (.slice (some ⟨w.heap.size, 0, none⟩) d d) (List.replicate j 0 ++ oct n k) ∧ Below w.heap.size w wr) (fun _ iv _ => (intOf iv + 1).toNat)
  case atStart => exact ⟨d, 0, rfl, rfl, by rw [cur_zero], by simpa using hbuf0, hbel0⟩
  case round =>
    obtain ⟨j, k, hj, rfl, rfl, hbuf, hbel⟩ := hrel
    clear hbuf0 hbel0
    rcases j with _ | m
    · obtain rfl : k = d := by omega
      clear hj
      rw [show List.replicate 0 (0 : UInt8) ++ oct n k = oct n k from rfl] at hbuf
      have hs := Buf.buf_string hbuf
      go_wp2
      go_ret2
      exact ⟨rfl, hbel⟩
    · rw [show (((m + 1 : Nat) : Int) - 1) = (m : Int) by omega]
      have hlen : (List.replicate (m + 1) (0 : UInt8) ++ oct n k).length = d := by simp [oct_length]; omega
      obtain ⟨v0, hc⟩ : ∃ v, wr.cell? ⟨w.heap.size, m, none⟩ = some v := ⟨_, Buf.buf_cell hbuf hlen.symm m (by omega)⟩
      have hf := Buf.buf_frozen hbuf hlen.symm m
      have hmd : m < d := by omega
      have H := Lib.hid hlen
      have HB := Lib.hid hbuf
      have HJ := Lib.hid hj
      clear hlen hbuf hj
      have hq : cur n k ≤ n := cur_le _ _
      go_wp2
      go_roundw
      case rel =>
        rw [dg_int]
        refine ⟨m, k + 1, by have := HJ.out; omega, rfl, by rw [cur_succ]; go_num, ?_, hbel.setCell (Nat.le_refl _) _⟩
        have := Buf.buf_store HB.out H.out.symm m (dg (cur n k))
        rw [set_rep] at this
        exact this
      case measure => simp [intOf]

theorem octal_bad (n d : Int) (w : World) (h : n < 0 ∨ d < 0 ∨ 22 < d) :
    Calls Try.prog 12 #[.int .i64 n, .int .i64 d] w fun e w' => e = .returned (.tuple #[.string ⟨#[]⟩, .bool false]) ∧ w = w' := by
  by_cases h1 : n < 0
  · clear h
    go_enter Try.func12, Try.ntmps12
    go_wp2
    go_ret2
    exact ⟨rfl, rfl⟩
  by_cases h2 : d < 0
  · clear h
    go_enter Try.func12, Try.ntmps12
    go_wp2
    go_ret2
    exact ⟨rfl, rfl⟩
  have h3 : 22 < d := by omega
  clear h
  go_enter Try.func12, Try.ntmps12
  go_wp2
  go_ret2
  exact ⟨rfl, rfl⟩

theorem octal_ref_bad (n d : Int) (w : World) (h : n < 0 ∨ d < 0 ∨ 22 < d) :
    Calls Try.prog 13 #[.int .i64 n, .int .i64 d] w fun e w' => e = .returned (.tuple #[.string ⟨#[]⟩, .bool false]) ∧ w = w' := by
  by_cases h1 : n < 0
  · clear h
    go_enter Try.func13, Try.ntmps13
    go_wp2
    go_ret2
    exact ⟨rfl, rfl⟩
  by_cases h2 : d < 0
  · clear h
    go_enter Try.func13, Try.ntmps13
    go_wp2
    go_ret2
    exact ⟨rfl, rfl⟩
  have h3 : 22 < d := by omega
  clear h
  go_enter Try.func13, Try.ntmps13
  go_wp2
  go_ret2
  exact ⟨rfl, rfl⟩

theorem octal_ref (n d : Nat) (w : World) (hn : n < 9223372036854775808) (hd : d ≤ 22) :
    Calls Try.prog 13 #[.int .i64 n, .int .i64 d] w fun e w' => e = .returned (.tuple #[.string ⟨(oct n d).toArray⟩, .bool ((cur n d : Int) == 0)]) ∧ Below w.heap.size w w' := by
  have e1 : ¬ (n : Int) < 0 := by omega
  have e2 : ¬ (d : Int) < 0 := by omega
  have e3 : ¬ (22 : Int) < (d : Int) := by omega
  go_enter Try.func13, Try.ntmps13
  go_wp2
  go_loopw [0, 6, 7] (fun nv sv iv wr => ∃ k : Nat, k ≤ d ∧ iv = .int .i64 (k : Int) ∧ nv = .int .i64 (cur n k : Int) ∧ sv = .string ⟨(oct n k).toArray⟩ ∧ Below w.heap.size w wr) (fun _ _ iv _ => d - (intOf iv).toNat)
  case atStart => exact ⟨0, Nat.zero_le _, rfl, by rw [cur_zero], rfl, Below.refl _ _⟩
  case round =>
    obtain ⟨k, hk, rfl, rfl, rfl, hbel⟩ := hrel
    have hq : cur n k ≤ n := cur_le _ _
    by_cases hlt : k < d
    · have hl1 : (oct n k).length ≤ 22 := by have := oct_length n k; omega
      have hs := Buf.one_string wr (48 + (cur n k : Int) % 8) (dg (cur n k)) (dg_int _)
      go_wp2
      go_roundw
      case rel => exact ⟨k + 1, by omega, by go_num, by rw [cur_succ]; go_num, by rw [Buf.str_cons]; rfl, hbel.alloc hbel.size _⟩
      case measure => simp [intOf]; omega
    · obtain rfl : k = d := by omega
      go_wp2
      go_ret2
      exact ⟨rfl, hbel⟩
end Go.Proofs.Ytcadahlmihfmlaa.Oct
