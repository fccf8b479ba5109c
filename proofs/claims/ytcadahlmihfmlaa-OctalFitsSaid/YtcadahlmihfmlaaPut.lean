/- Contracts of layer 8's Put and of its reference's: the field, or an error. -/
import Derived.Test.YtcadahlmihfmlaaOct
namespace Go.Proofs.Ytcadahlmihfmlaa.Oct
open Go.RowKit

theorem octal_int (n d : Int) (w : World) (h0 : 0 ≤ n) (h1 : n < 9223372036854775808) (h2 : 0 ≤ d) (h3 : d ≤ 22) :
    Calls Try.prog 12 #[.int .i64 n, .int .i64 d] w fun e w' => e = .returned (.tuple #[.string ⟨(oct n.toNat d.toNat).toArray⟩, .bool ((cur n.toNat d.toNat : Int) == 0)]) ∧ Below w.heap.size w w' := by
  obtain ⟨n, rfl⟩ := Int.eq_ofNat_of_zero_le h0
  obtain ⟨d, rfl⟩ := Int.eq_ofNat_of_zero_le h2
  exact octal_any n d w (by omega) (by omega)

theorem octal_ref_int (n d : Int) (w : World) (h0 : 0 ≤ n) (h1 : n < 9223372036854775808) (h2 : 0 ≤ d) (h3 : d ≤ 22) :
    Calls Try.prog 13 #[.int .i64 n, .int .i64 d] w fun e w' => e = .returned (.tuple #[.string ⟨(oct n.toNat d.toNat).toArray⟩, .bool ((cur n.toNat d.toNat : Int) == 0)]) ∧ Below w.heap.size w w' := by
  obtain ⟨n, rfl⟩ := Int.eq_ofNat_of_zero_le h0
  obtain ⟨d, rfl⟩ := Int.eq_ofNat_of_zero_le h2
  exact octal_ref n d w (by omega) (by omega)

/-- The tests on the width, in the walk's own form. -/
theorem wide_tests (W : Nat) (h : W = 8 ∨ W = 12) : ((W : Int) != 8) = false ∨ (((W : Int) != 8) = true ∧ ((W : Int) != 12) = false) := by
  rcases h with rfl | rfl
  · left; decide
  · right; exact ⟨by decide, by decide⟩

set_option maxHeartbeats 400000 in
theorem put_whole (n V W : Nat) (w : World) (hn : n < 9223372036854775808) (hw : W = 8 ∨ W = 12) (hv : V + 1 = W) (hc : cur n V = 0) :
    Calls Try.prog 10 #[.int .i64 n, .int .i64 W] w fun e w' => e = .returned (.tuple #[.string ⟨(oct n V ++ [0]).toArray⟩, .int .i64 0]) ∧ Below w.heap.size w w' := by
  have hV : ((W : Int) - 1).toNat = V := by omega
  have hc' : ((cur n V : Int) == 0) = true := by simp [hc]
  have hb1 : W ≤ 12 := by omega
  have hb2 : 8 ≤ W := by omega
  have hl1 : (oct n V).length ≤ 11 := by have := oct_length n V; omega
  have ht := wide_tests W hw
  clear hc hv hw
  rcases ht with h8 | ⟨h8, h12⟩
  all_goals
    go_enter Try.func10, Try.ntmps10
    go_wp2_with (go_at_call 12; refine (octal_int _ _ _ (by omega) (by omega) (by omega) (by omega)).mono ?_; rintro e w' ⟨rfl, hb⟩; rw [hV, Int.toNat_natCast])
    go_ret2
    exact ⟨Buf.ret_two (by show Value.string (_ ++ _) = _; rw [Buf.str_snoc]) rfl, hb⟩

set_option maxHeartbeats 400000 in
theorem put_ref_whole (n V W : Nat) (w : World) (hn : n < 9223372036854775808) (hw : W = 8 ∨ W = 12) (hv : V + 1 = W) (hc : cur n V = 0) :
    Calls Try.prog 11 #[.int .i64 n, .int .i64 W] w fun e w' => e = .returned (.tuple #[.string ⟨(oct n V ++ [0]).toArray⟩, .int .i64 0]) ∧ Below w.heap.size w w' := by
  have hV : ((W : Int) - 1).toNat = V := by omega
  have hc' : ((cur n V : Int) == 0) = true := by simp [hc]
  have hb1 : W ≤ 12 := by omega
  have hb2 : 8 ≤ W := by omega
  have hl1 : (oct n V).length ≤ 11 := by have := oct_length n V; omega
  have ht := wide_tests W hw
  clear hc hv hw
  rcases ht with h8 | ⟨h8, h12⟩
  all_goals
    go_enter Try.func11, Try.ntmps11
    go_wp2_with (go_at_call 13; refine (octal_ref_int _ _ _ (by omega) (by omega) (by omega) (by omega)).mono ?_; rintro e w' ⟨rfl, hb⟩; rw [hV, Int.toNat_natCast])
    go_ret2
    exact ⟨Buf.ret_two (by show Value.string (_ ++ _) = _; rw [Buf.str_snoc]) rfl, hb⟩

theorem put_bad (n W : Int) (w : World) (h : n < 0 ∨ W ≠ 8 ∧ W ≠ 12) :
    Calls Try.prog 10 #[.int .i64 n, .int .i64 W] w fun e w' => e = .returned (.tuple #[.string ⟨#[]⟩, .int .i64 1]) ∧ w = w' := by
  by_cases h1 : n < 0
  · clear h
    go_enter Try.func10, Try.ntmps10
    go_wp2
    go_ret2
    exact ⟨rfl, rfl⟩
  have h2 : (W != 8) = true := by simp; omega
  have h3 : (W != 12) = true := by simp; omega
  clear h
  go_enter Try.func10, Try.ntmps10
  go_wp2
  go_ret2
  exact ⟨rfl, rfl⟩

theorem put_ref_bad (n W : Int) (w : World) (h : n < 0 ∨ W ≠ 8 ∧ W ≠ 12) :
    Calls Try.prog 11 #[.int .i64 n, .int .i64 W] w fun e w' => e = .returned (.tuple #[.string ⟨#[]⟩, .int .i64 1]) ∧ w = w' := by
  by_cases h1 : n < 0
  · clear h
    go_enter Try.func11, Try.ntmps11
    go_wp2
    go_ret2
    exact ⟨rfl, rfl⟩
  have h2 : (W != 8) = true := by simp; omega
  have h3 : (W != 12) = true := by simp; omega
  clear h
  go_enter Try.func11, Try.ntmps11
  go_wp2
  go_ret2
  exact ⟨rfl, rfl⟩

/-- What is known behind the row's make: its first cell, and what it holds behind the mark. -/
theorem made_mark {w w1 w2 : World} {n V W : Nat} (hv : V + 1 = W) (hb : Below w.heap.size w w1) (hown : w2.ownsRow w.heap.size 5 1 (.slice (some ⟨w1.heap.size, 0, none⟩) W W) W (madeCells (Value.int .u8 0).cells (W * 1)).toList) (hgrow : w1.grownBy w2 none) :
    (∃ v0, w2.cell? ⟨w1.heap.size, 0, none⟩ = some v0) ∧ w2.frozen? ⟨w1.heap.size, 0, none⟩ = false ∧ Below w.heap.size w w2 ∧
    Hid (Buf.Buf (w2.setCell ⟨w1.heap.size, 0, none⟩ (.int .u8 128)) w.heap.size (.slice (some ⟨w1.heap.size, 0, none⟩) W W) (128 :: (List.replicate V 0 ++ byt n 0))) := by
  subst hv
  have hbuf := Buf.buf_made hown
  have hl : V + 1 = (List.replicate (V + 1) (0 : UInt8)).length := by simp
  refine ⟨⟨_, Buf.buf_cell hbuf hl 0 (by simp)⟩, Buf.buf_frozen hbuf hl 0, hb.grown hgrow hb.size (fun _ h => by cases h), ?_⟩
  have := Buf.buf_store hbuf hl 0 128
  rw [List.replicate_succ, List.set_cons_zero] at this
  simpa [Hid, byt] using this

set_option maxHeartbeats 400000 in
theorem put_wide (n V W : Nat) (w : World) (hn : n < 9223372036854775808) (hw : W = 8 ∨ W = 12) (hv : V + 1 = W) (hc : cur n V ≠ 0) :
    Calls Try.prog 10 #[.int .i64 n, .int .i64 W] w fun e w' => e = .returned (.tuple #[.string ⟨(if curb n V = 0 then 128 :: byt n V else []).toArray⟩, .int .i64 (if curb n V = 0 then 0 else 3)]) ∧ Below w.heap.size w w' := by
  have hV : ((W : Int) - 1).toNat = V := by omega
  have hc' : ((cur n V : Int) == 0) = false := by simp [hc]
  have hb1 : W ≤ 12 := by omega
  have hb2 : 8 ≤ W := by omega
  have hl1 : (oct n V).length ≤ 11 := by have := oct_length n V; omega
  obtain ⟨i0, hi, hz0, hz1, hz2⟩ := info_parts Buf.info5
  have hm1 : i0.bytes * W ≤ 281474976710656 := by rw [hz2]; omega
  have hm2 : W ≤ maxLen := by unfold maxLen; omega
  have ht := wide_tests W hw
  have HV := Lib.hid hv
  clear hc hw hz2 hv
  rcases ht with h8 | ⟨h8, h12⟩
  all_goals
    go_enter Try.func10, Try.ntmps10
    go_wp2_with (first | (go_at_call 12; refine (octal_int _ _ _ (by omega) (by omega) (by omega) (by omega)).mono ?_; rintro e w1 ⟨rfl, hb⟩; rw [hV, Int.toNat_natCast]; have hsz := hb.size) | (at_make; refine wpList_make_full _ rfl _ _ 38 rfl w.heap.size 5 i0 (.int .u8 0) 1 Try.underlying38 hi hz0 hz1 .i64 .i64 _ _ W rfl rfl rfl rfl hm1 hm2 (by assumption) ?_; intro w2 hown hgrow; obtain ⟨⟨v0, hc0⟩, hf0, hbel, hbuf⟩ := made_mark (n := n) HV.out (by assumption) hown hgrow; clear hown hgrow))
    obtain ⟨g, hg⟩ : ∃ g, g = w1.heap.size := ⟨_, rfl⟩
    rw [← hg] at hbuf hsz ⊢
    have HG := Lib.hid hg
    clear hg hc0 hf0 hi hz0 hz1 hm1 hm2 hb
    have hbel1 := hbel.setCell (p := ⟨g, 0, none⟩) hsz (.int .u8 128)
    go_loopw [0, 9] (fun nv iv wr => ∃ j k : Nat, j + k = V ∧ iv = .int .i64 (j : Int) ∧ nv = .int .i64 (curb n k : Int) ∧ Buf.Buf wr w.heap.size (.slice (some ⟨g, 0, none⟩) W W) (128 :: (List.replicate j 0 ++ byt n k)) ∧ Below w.heap.size w wr) (fun _ iv _ => (intOf iv).toNat)
    case atStart => exact ⟨V, 0, rfl, by have := HV.out; go_num, by rw [curb_zero], hbuf.out, hbel1⟩
    case round =>
      obtain ⟨j, k, hj, rfl, rfl, hbuf2, hbel2⟩ := hrel
      clear hbuf hbel hbel1
      have hq : curb n k ≤ n := curb_le _ _
      rcases j with _ | m
      · obtain rfl : k = V := by omega
        clear hj
        rw [show (List.replicate 0 (0 : UInt8) ++ byt n k) = byt n k from rfl] at hbuf2
        have hs := Buf.buf_string hbuf2
        by_cases h0 : curb n k = 0
        · have hz : ((curb n k : Int) != 0) = false := by simp [h0]
          have H0 := Lib.hid h0
          clear h0
          go_wp2
          go_ret2
          exact ⟨rfl, hbel2⟩
        · have hz : ((curb n k : Int) != 0) = true := by simp [h0]
          have H0 := Lib.hid h0
          clear h0
          go_wp2
          go_ret2
          exact ⟨rfl, hbel2⟩
      · have hlen : ((128 : UInt8) :: (List.replicate (m + 1) 0 ++ byt n k)).length = W := by have := HV.out; simp [byt_length]; omega
        obtain ⟨v0, hc⟩ : ∃ v, wr.cell? ⟨g, m + 1, none⟩ = some v := ⟨_, Buf.buf_cell hbuf2 hlen.symm (m + 1) (by have := HV.out; omega)⟩
        have hf := Buf.buf_frozen hbuf2 hlen.symm (m + 1)
        have hmd : m + 1 < W := by have := HV.out; omega
        have H := Lib.hid hlen
        have HB := Lib.hid hbuf2
        have HJ := Lib.hid hj
        clear hlen hbuf2 hj
        go_wp2
        go_roundw
        case rel =>
          rw [byte_int]
          refine ⟨m, k + 1, by have := HJ.out; omega, rfl, by rw [curb_succ]; go_num, ?_, hbel2.setCell hsz _⟩
          have := Buf.buf_store HB.out H.out.symm (m + 1) (UInt8.ofNat (curb n k))
          rw [List.set_cons_succ, set_rep] at this
          exact this
        case measure => simp [intOf]

def strLen : Value → Nat
  | .string s => s.size
  | _ => 0

set_option maxHeartbeats 400000 in
theorem put_ref_wide (n V W : Nat) (w : World) (hn : n < 9223372036854775808) (hw : W = 8 ∨ W = 12) (hv : V + 1 = W) (hc : cur n V ≠ 0) :
    Calls Try.prog 11 #[.int .i64 n, .int .i64 W] w fun e w' => e = .returned (.tuple #[.string ⟨(if curb n V = 0 then 128 :: byt n V else []).toArray⟩, .int .i64 (if curb n V = 0 then 0 else 3)]) ∧ Below w.heap.size w w' := by
  have hV : ((W : Int) - 1).toNat = V := by omega
  have hc' : ((cur n V : Int) == 0) = false := by simp [hc]
  have hb1 : W ≤ 12 := by omega
  have hb2 : 8 ≤ W := by omega
  have hl1 : (oct n V).length ≤ 11 := by have := oct_length n V; omega
  have ht := wide_tests W hw
  have HV := Lib.hid hv
  clear hc hw hv
  rcases ht with h8 | ⟨h8, h12⟩
  all_goals
    go_enter Try.func11, Try.ntmps11
    go_wp2_with (go_at_call 13; refine (octal_ref_int _ _ _ (by omega) (by omega) (by omega) (by omega)).mono ?_; rintro e w1 ⟨rfl, hb⟩; rw [hV, Int.toNat_natCast])
    go_loopw [0, 6] (fun nv sv wr => ∃ k : Nat, k ≤ V ∧ nv = .int .i64 (curb n k : Int) ∧ sv = .string ⟨(byt n k).toArray⟩ ∧ Below w.heap.size w wr) (fun _ sv _ => V - strLen sv)
    case atStart => exact ⟨0, Nat.zero_le _, by rw [curb_zero], rfl, hb⟩
    case round =>
      obtain ⟨k, hk, rfl, rfl, hbel⟩ := hrel
      clear hb
      have hq : curb n k ≤ n := curb_le _ _
      have hlen := byt_length n k
      by_cases hlt : k < V
      · have hkW : k + 1 < W := by have := HV.out; omega
        have hs := Buf.one_string wr ((curb n k : Int) % 256) (UInt8.ofNat (curb n k)) (byte_int _)
        go_wp2
        go_roundw
        case rel => exact ⟨k + 1, by omega, by rw [curb_succ]; go_num, by rw [Buf.str_cons]; rfl, hbel.alloc hbel.size _⟩
        case measure =>
          rw [Buf.str_cons]
          show V - (UInt8.ofNat (curb n k) :: byt n k).toArray.size < V - (byt n k).toArray.size
          simp [hlen]; omega
      · obtain rfl : k = V := by omega
        have hkW : ¬ k + 1 < W := by have := HV.out; omega
        by_cases h0 : curb n k = 0
        · have hz : ((curb n k : Int) != 0) = false := by simp [h0]
          have H0 := Lib.hid h0
          clear h0
          go_wp2
          go_ret2
          exact ⟨rfl, hbel⟩
        · have hz : ((curb n k : Int) != 0) = true := by simp [h0]
          have H0 := Lib.hid h0
          clear h0
          go_wp2
          go_ret2
          exact ⟨rfl, hbel⟩

/-- What Put answers, of any number and width: the field, the error. -/
def pS (n W : Int) : List UInt8 := if n < 0 ∨ W ≠ 8 ∧ W ≠ 12 then [] else putS n.toNat (W.toNat - 1)
def pE (n W : Int) : Int := if n < 0 ∨ W ≠ 8 ∧ W ≠ 12 then 1 else putE n.toNat (W.toNat - 1)
/-- What Octal answers, of any number and any many digits. -/
def oS (n d : Int) : List UInt8 := if n < 0 ∨ d < 0 ∨ 22 < d then [] else oct n.toNat d.toNat
def oB (n d : Int) : Bool := if n < 0 ∨ d < 0 ∨ 22 < d then false else ((cur n.toNat d.toNat : Int) == 0)

theorem oct_all (n d : Int) (w : World) (h1 : n < 9223372036854775808) :
    Calls Try.prog 12 #[.int .i64 n, .int .i64 d] w fun e w' => e = .returned (.tuple #[.string ⟨(oS n d).toArray⟩, .bool (oB n d)]) ∧ Below w.heap.size w w' := by
  by_cases h : n < 0 ∨ d < 0 ∨ 22 < d
  · refine (octal_bad n d w h).mono fun e w' ⟨he, hw⟩ => ⟨?_, by rw [← hw]; exact Below.refl _ _⟩
    rw [he]; unfold oS oB; rw [if_pos h, if_pos h]
  · refine (octal_int n d w (by omega) h1 (by omega) (by omega)).mono fun e w' ⟨he, hw⟩ => ⟨?_, hw⟩
    rw [he]; unfold oS oB; rw [if_neg h, if_neg h]

theorem oct_ref_all (n d : Int) (w : World) (h1 : n < 9223372036854775808) :
    Calls Try.prog 13 #[.int .i64 n, .int .i64 d] w fun e w' => e = .returned (.tuple #[.string ⟨(oS n d).toArray⟩, .bool (oB n d)]) ∧ Below w.heap.size w w' := by
  by_cases h : n < 0 ∨ d < 0 ∨ 22 < d
  · refine (octal_ref_bad n d w h).mono fun e w' ⟨he, hw⟩ => ⟨?_, by rw [← hw]; exact Below.refl _ _⟩
    rw [he]; unfold oS oB; rw [if_pos h, if_pos h]
  · refine (octal_ref_int n d w (by omega) h1 (by omega) (by omega)).mono fun e w' ⟨he, hw⟩ => ⟨?_, hw⟩
    rw [he]; unfold oS oB; rw [if_neg h, if_neg h]

theorem put_all (n W : Int) (w : World) (h1 : n < 9223372036854775808) :
    Calls Try.prog 10 #[.int .i64 n, .int .i64 W] w fun e w' => e = .returned (.tuple #[.string ⟨(pS n W).toArray⟩, .int .i64 (pE n W)]) ∧ Below w.heap.size w w' := by
  by_cases h : n < 0 ∨ W ≠ 8 ∧ W ≠ 12
  · refine (put_bad n W w h).mono fun e w' ⟨he, hw⟩ => ⟨?_, by rw [← hw]; exact Below.refl _ _⟩
    rw [he]; unfold pS pE; rw [if_pos h, if_pos h]
  · obtain ⟨n, rfl⟩ := Int.eq_ofNat_of_zero_le (show 0 ≤ n by omega)
    obtain ⟨W, rfl⟩ := Int.eq_ofNat_of_zero_le (show 0 ≤ W by omega)
    by_cases hc : cur n (W - 1) = 0
    · refine (put_whole n (W - 1) W w (by omega) (by omega) (by omega) hc).mono fun e w' ⟨he, hw⟩ => ⟨?_, hw⟩
      rw [he]; unfold pS pE putS putE; rw [if_neg h, if_neg h, Int.toNat_natCast, Int.toNat_natCast, if_pos hc, if_pos hc]
    · refine (put_wide n (W - 1) W w (by omega) (by omega) (by omega) hc).mono fun e w' ⟨he, hw⟩ => ⟨?_, hw⟩
      rw [he]; unfold pS pE putS putE; rw [if_neg h, if_neg h, Int.toNat_natCast, Int.toNat_natCast, if_neg hc, if_neg hc]

theorem put_ref_all (n W : Int) (w : World) (h1 : n < 9223372036854775808) :
    Calls Try.prog 11 #[.int .i64 n, .int .i64 W] w fun e w' => e = .returned (.tuple #[.string ⟨(pS n W).toArray⟩, .int .i64 (pE n W)]) ∧ Below w.heap.size w w' := by
  by_cases h : n < 0 ∨ W ≠ 8 ∧ W ≠ 12
  · refine (put_ref_bad n W w h).mono fun e w' ⟨he, hw⟩ => ⟨?_, by rw [← hw]; exact Below.refl _ _⟩
    rw [he]; unfold pS pE; rw [if_pos h, if_pos h]
  · obtain ⟨n, rfl⟩ := Int.eq_ofNat_of_zero_le (show 0 ≤ n by omega)
    obtain ⟨W, rfl⟩ := Int.eq_ofNat_of_zero_le (show 0 ≤ W by omega)
    by_cases hc : cur n (W - 1) = 0
    · refine (put_ref_whole n (W - 1) W w (by omega) (by omega) (by omega) hc).mono fun e w' ⟨he, hw⟩ => ⟨?_, hw⟩
      rw [he]; unfold pS pE putS putE; rw [if_neg h, if_neg h, Int.toNat_natCast, Int.toNat_natCast, if_pos hc, if_pos hc]
    · refine (put_ref_wide n (W - 1) W w (by omega) (by omega) (by omega) hc).mono fun e w' ⟨he, hw⟩ => ⟨?_, hw⟩
      rw [he]; unfold pS pE putS putE; rw [if_neg h, if_neg h, Int.toNat_natCast, Int.toNat_natCast, if_neg hc, if_neg hc]
end Go.Proofs.Ytcadahlmihfmlaa.Oct
