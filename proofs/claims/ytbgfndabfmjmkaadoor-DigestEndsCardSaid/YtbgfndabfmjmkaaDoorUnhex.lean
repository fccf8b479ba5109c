/- Contracts of layer 1's Unhex, and of the reference's Hex and Unhex. -/
import Derived.Test.YtbgfndabfmjmkaaDoorHex
import Derived.Test.YtbgfndabfmjmkaaDoorUnhexMath
import Derived.Deep.QuietTactic
import Derived.BigQuiet
import Derived.WalkSmall
namespace Go.Proofs.YtbgfndabfmjmkaaDoor.Hex
open Go.RowKit

theorem same_of {P : Program} {f : FuncId} {args : Array Value} {w : World} {v : Value} (h : Calls P f args w fun e w' => e = .returned v ∧ w = w') : Calls P f args w fun e w' => e = .returned v ∧ w' = w :=
  h.mono fun _ _ ⟨he, hw⟩ => ⟨he, hw.symm⟩

/-- What half answers. -/
def hv (o : Option Nat) : Int := match o with
  | some n => n
  | none => -1

theorem nib_cases (x : UInt8) : (48 ≤ x.toNat ∧ x.toNat ≤ 57 ∧ nib x = some (x.toNat - 48)) ∨ (97 ≤ x.toNat ∧ x.toNat ≤ 102 ∧ nib x = some (x.toNat - 87)) ∨ (x.toNat < 48 ∧ nib x = none) ∨ (57 < x.toNat ∧ x.toNat < 97 ∧ nib x = none) ∨ (102 < x.toNat ∧ nib x = none) := by
  unfold nib
  by_cases h1 : 48 ≤ x.toNat ∧ x.toNat ≤ 57
  · exact .inl ⟨h1.1, h1.2, if_pos h1⟩
  · by_cases h2 : 97 ≤ x.toNat ∧ x.toNat ≤ 102
    · exact .inr (.inl ⟨h2.1, h2.2, by rw [if_neg h1, if_pos h2]⟩)
    · rw [if_neg h1, if_neg h2]
      have : x.toNat < 48 ∨ (57 < x.toNat ∧ x.toNat < 97) ∨ 102 < x.toNat := by omega
      rcases this with h | ⟨h, h'⟩ | h
      · exact .inr (.inr (.inl ⟨h, rfl⟩))
      · exact .inr (.inr (.inr (.inl ⟨h, h', rfl⟩)))
      · exact .inr (.inr (.inr (.inr ⟨h, rfl⟩)))

theorem half_any (x : UInt8) (w : World) :
    Calls Tryd.prog 21 #[.int .u8 x.toNat] w fun e w' => e = .returned (.int .i64 (hv (nib x))) ∧ w = w' := by
  obtain ⟨n, hn⟩ : ∃ n, x.toNat = n := ⟨_, rfl⟩
  rcases nib_cases x with ⟨h1, h2, h3⟩ | ⟨h1, h2, h3⟩ | ⟨h1, h3⟩ | ⟨h1, h2, h3⟩ | ⟨h1, h3⟩
  all_goals
    rw [h3]
    rw [hn] at *
    clear h3 hn
    go_enter Tryd.func21, Tryd.ntmps21
    go_wp2
    go_ret
  · exact ⟨by show Ending.returned (.int .i64 _) = .returned (.int .i64 (hv (some (n - 48)))); unfold hv; simp only []; congr 2; omega, rfl⟩
  · exact ⟨by show Ending.returned (.int .i64 _) = .returned (.int .i64 (hv (some (n - 87)))); unfold hv; simp only []; congr 2; omega, rfl⟩
  all_goals exact ⟨rfl, rfl⟩

/-- What the reference's digit answers. -/
def dv (o : Option Nat) : Int := match o with
  | some n => n
  | none => 0
theorem digit_any (x : UInt8) (w : World) :
    Calls Tryd.prog 22 #[.int .u8 x.toNat] w fun e w' => e = .returned (.tuple #[.int .u8 (dv (nib x)), .bool (nib x).isSome]) ∧ w = w' := by
  obtain ⟨n, hn⟩ : ∃ n, x.toNat = n := ⟨_, rfl⟩
  rcases nib_cases x with ⟨h1, h2, h3⟩ | ⟨h1, h2, h3⟩ | ⟨h1, h3⟩ | ⟨h1, h2, h3⟩ | ⟨h1, h3⟩
  all_goals
    rw [h3]
    rw [hn] at *
    clear h3 hn
    go_enter Tryd.func22, Tryd.ntmps22
    go_wp2
    go_ret2
  · exact ⟨Buf.ret_two (by show Value.int .u8 _ = .int .u8 (dv (some (n - 48))); unfold dv; simp only []; congr 1; omega) rfl, rfl⟩
  · exact ⟨Buf.ret_two (by show Value.int .u8 _ = .int .u8 (dv (some (n - 87))); unfold dv; simp only []; congr 1; omega) rfl, rfl⟩
  all_goals exact ⟨rfl, rfl⟩

theorem half_some (x : UInt8) (w : World) (n : Nat) (h : nib x = some n) : Calls Tryd.prog 21 #[.int .u8 x.toNat] w fun e w' => e = .returned (.int .i64 n) ∧ w' = w := by
  have := same_of (half_any x w); rw [h] at this; exact this
theorem half_none (x : UInt8) (w : World) (h : nib x = none) : Calls Tryd.prog 21 #[.int .u8 x.toNat] w fun e w' => e = .returned (.int .i64 (-1)) ∧ w' = w := by
  have := same_of (half_any x w); rw [h] at this; exact this
theorem half_at (x : UInt8) (w : World) (n : Int) (h : hv (nib x) = n) : Calls Tryd.prog 21 #[.int .u8 x.toNat] w fun e w' => e = .returned (.int .i64 n) ∧ w' = w := by
  have := same_of (half_any x w); rw [h] at this; exact this

theorem or_nib (x y : Nat) (h1 : x < 16) (h2 : y < 16) : bits .or .i64 ((x : Int) * 16) (y : Int) = (x : Int) * 16 + (y : Int) :=
  bits_join .i64 63 (by decide) (fun n h0 h1 => IntWalk.i64_in n (by omega)) 4 _ _ (by omega) (by omega) (by omega) (by omega) (by omega) (by omega)

/-- What is known in a round: the bytes so far, and what the rest stands for. -/
def Part (s : ByteArray) (k : Nat) (l : List UInt8) : Prop := unhex s.data.toList = (unhex (s.data.toList.drop k)).map (l ++ ·) ∧ 2 * l.length = k

theorem Part.next {s : ByteArray} {k x y : Nat} {l : List UInt8} (h : Part s k l) (hk : k + 1 < s.size) (hx : nib s[k] = some x) (hy : nib s[k + 1] = some y) : Part s (k + 2) (l ++ [UInt8.ofNat (16 * x + y)]) := by
  refine ⟨?_, by have := h.2; simp; omega⟩
  rw [h.1, unhex_step hk hx hy, Option.map_map]
  congr 1
  funext t
  simp
theorem Part.stop {s : ByteArray} {k : Nat} {l : List UInt8} (h : Part s k l) (hk : k + 1 < s.size) (hx : nib s[k] = none ∨ nib s[k + 1] = none) : un s.data.toList = ([], false) := by
  unfold un
  rw [h.1, unhex_stop hk hx]; rfl
theorem Part.done {s : ByteArray} {l : List UInt8} (h : Part s s.size l) : un s.data.toList = (l, true) := by
  unfold un
  rw [h.1, List.drop_of_length_le (by simp)]
  show (l ++ [], true) = _
  rw [List.append_nil]

set_option maxHeartbeats 800000 in
theorem unhex_at (s : ByteArray) (w : World) (hs : s.size ≤ 40000) (S : List UInt8) (b : Bool) (hu : un s.data.toList = (S, b)) :
    Calls Tryd.prog 12 #[.string s] w fun e w' => e = .returned (.tuple #[.string ⟨S.toArray⟩, .bool b]) ∧ Below w.heap.size w w' := by
  have HU := Lib.hid hu
  clear hu
  by_cases hodd : s.size % 2 = 0
  · obtain ⟨m, hm⟩ : ∃ m, s.size = 2 * m := ⟨s.size / 2, by omega⟩
    have hodd' : ((s.size : Int) % 2 != 0) = false := by rw [bne_eq_false_iff_eq]; omega
    obtain ⟨i0, hi, hz0, hz1, hz2⟩ := info_parts Buf.info5
    have hb1 : i0.bytes * m ≤ 281474976710656 := by rw [hz2]; omega
    have hb2 : m ≤ maxLen := by unfold maxLen; omega
    have E2 := Lib.hid (show (s.size : Int) / 2 = (m : Int) by omega)
    have HM := Lib.hid hm
    clear hodd hm hz2
    go_enter Tryd.func12, Tryd.ntmps12
    go_wp2_with (at_make; refine wpList_make_own _ rfl _ _ 26 rfl w.heap.size 5 i0 (.int .u8 0) 1 Tryd.underlying26 hi hz0 hz1 .i64 .i64 _ m rfl rfl E2.out hb1 hb2 (Nat.le_refl _) ?_; intro w1 hown hgrow)
    have hbel0 : Below w.heap.size w w1 := (Below.refl _ _).grown hgrow (Nat.le_refl _) (fun _ h => by cases h)
    have hbuf0 : Buf.Buf w1 w.heap.size (.slice (some ⟨w.heap.size, 0, none⟩) 0 m) [] := hown
    clear hown hgrow hb1 hb2
    go_loopw [4, 5] (fun bv iv wr => ∃ (k : Nat) (l : List UInt8), k ≤ s.size ∧ k % 2 = 0 ∧ iv = .int .i64 (k : Int) ∧ Buf.Buf wr w.heap.size bv l ∧ Part s k l ∧ Below w.heap.size w wr) (fun _ iv _ => s.size - (intOf iv).toNat)
    case atStart => exact ⟨0, [], Nat.zero_le _, rfl, rfl, hbuf0, ⟨by rw [List.drop_zero]; cases unhex s.data.toList <;> rfl, rfl⟩, hbel0⟩
    case round =>
      obtain ⟨k, l, hk, hk2, rfl, hbuf, hpart, hbel⟩ := hrel
      have HK2 := Lib.hid hk2
      have HP := Lib.hid hpart
      clear hbuf0 hbel0 hk2 hpart
      by_cases hlt : k < s.size
      · have hlt1 : k + 1 < s.size := by have := HM.out; have := HK2.out; omega
        have hlt1' : (k : Int) + 1 < (s.size : Int) := by omega
        have hwr : IntKind.i64.wrap ((k : Int) + 1) = (k : Int) + 1 := IntWalk.i64_in _ (by omega)
        have hp0 : (0 : Int) ≤ (k : Int) + 1 := by omega
        have hp1 : ((k : Int) + 1).toNat = k + 1 := by omega
        obtain ⟨x, hx⟩ : ∃ x, hv (nib s[k]) = x := ⟨_, rfl⟩
        obtain ⟨y, hy⟩ : ∃ y, hv (nib s[k + 1]) = y := ⟨_, rfl⟩
        have HX := Lib.hid hx
        have HY := Lib.hid hy
        clear hx hy
        go_wp2_with fail
        go_quiet ((go_at_call 21; first | exact Calls.quiet_of_same (half_at _ _ _ HX.out) | exact Calls.quiet_of_same (half_at _ _ _ HY.out)))
        generalize (s[k + 1]'hlt1).toNat = nb
        clear hwr hp0 hp1
        have hbuf1 := Buf.buf_drewN nq hbuf
        have hbel1 := Go.below_drewN hbel nq
        generalize wr.drewN nq = w2 at hbuf1 hbel1 ⊢
        clear hbuf hbel
        cases hx : nib s[k] with
        | none =>
          obtain rfl : x = -1 := by rw [← HX.out, hx]; rfl
          obtain ⟨rfl, rfl⟩ : S = [] ∧ b = false := by have := (HP.out.stop hlt1 (.inl hx)).symm.trans HU.out; cases this; exact ⟨rfl, rfl⟩
          clear hx
          go_wp2
          go_ret2
          exact ⟨rfl, hbel1⟩
        | some p =>
          obtain rfl : x = (p : Int) := by rw [← HX.out, hx]; rfl
          cases hy : nib s[k + 1] with
          | none =>
            obtain rfl : y = -1 := by rw [← HY.out, hy]; rfl
            obtain ⟨rfl, rfl⟩ : S = [] ∧ b = false := by have := (HP.out.stop hlt1 (.inr hy)).symm.trans HU.out; cases this; exact ⟨rfl, rfl⟩
            clear hx hy
            go_wp2
            go_ret2
            exact ⟨rfl, hbel1⟩
          | some q =>
            obtain rfl : y = (q : Int) := by rw [← HY.out, hy]; rfl
            have hp16 := nib_lt hx
            have hq16 := nib_lt hy
            have HN := Lib.hid (HP.out.next hlt1 hx hy)
            have hor := or_nib p q hp16 hq16
            have hsz := hbel1.size
            have hl : l.length ≤ 40000 := by have := HP.out.2; omega
            clear hx hy
            go_wp2_with (at_builtin; refine Buf.wpList_append rfl _ _ rfl w.heap.size _ _ rfl (Buf.buf_alloc hbuf1 _) ⟨w2.heap.size, 0, none⟩ 1 1 [UInt8.ofNat (16 * p + q)] rfl rfl (Buf.one_cells w2 _ _ (by rw [UInt8.toNat_ofNat']; omega)) (by omega) (by simp; omega) ?_; intro v' w' hbuf' hbelf)
            go_roundw
            case rel => exact ⟨k + 2, _, by omega, by have := HK2.out; omega, by go_num, hbuf', HN.out, hbelf _ (hbel1.alloc hsz _)⟩
            case measure => simp [intOf]; omega
      · obtain rfl : k = s.size := by omega
        obtain ⟨rfl, rfl⟩ : S = l ∧ b = true := by have := HP.out.done.symm.trans HU.out; cases this; exact ⟨rfl, rfl⟩
        have hs := Buf.buf_string hbuf
        go_wp2
        go_ret2
        exact ⟨rfl, hbel⟩
  · have hodd' : ((s.size : Int) % 2 != 0) = true := by rw [bne_iff_ne]; omega
    obtain ⟨rfl, rfl⟩ : S = [] ∧ b = false := by
      have h := HU.out
      unfold un at h
      rw [unhex_odd (s.size / 2) s.data.toList (by rw [← Lib.size_eq]; omega)] at h
      cases h; exact ⟨rfl, rfl⟩
    clear hodd
    go_enter Tryd.func12, Tryd.ntmps12
    go_wp2
    go_ret2
    exact ⟨rfl, Below.refl _ _⟩
end Go.Proofs.YtbgfndabfmjmkaaDoor.Hex
