/- Contracts of the reference's Hex and Unhex. -/
import Derived.Test.YtbgfndabfmjmkaaDoorUnhex
import Derived.BigQuiet
import Derived.WalkSmall
import Derived.IntWalk
import Derived.Lib.Strings
namespace Go.Proofs.YtbgfndabfmjmkaaDoor.Hex
open Go.RowKit

theorem cut_at : ∀ n : Fin 16, (⟨#[48, 49, 50, 51, 52, 53, 54, 55, 56, 57, 97, 98, 99, 100, 101, 102]⟩ : ByteArray).extract n.val (n.val + 1) = ⟨#[sg n.val]⟩ := by decide +kernel

theorem cut_run (n : Nat) (h : n < 16) (wx : World) : (Instr.slice 9 (.string ⟨#[48, 49, 50, 51, 52, 53, 54, 55, 56, 57, 97, 98, 99, 100, 101, 102]⟩) (some (.int .u8 (n : Int))) (some (.int .u8 ((n : Int) + 1))) none).run Tryd.prog wx = .ok (.string ⟨#[sg n]⟩) wx := by
  have := run_slice_string (P := Tryd.prog) wx 9 (⟨#[48, 49, 50, 51, 52, 53, 54, 55, 56, 57, 97, 98, 99, 100, 101, 102]⟩ : ByteArray) .u8 .u8 (n : Int) ((n : Int) + 1) Tryd.underlying9 (by omega) (by omega) (by show (n : Int) + 1 ≤ 16; omega)
  rw [this, Int.toNat_natCast, show ((n : Int) + 1).toNat = n + 1 by omega]
  exact congrArg (fun b => Result.ok (Value.string b) wx) (cut_at ⟨n, h⟩)

set_option maxHeartbeats 400000 in
theorem rhex_any (s : ByteArray) (w : World) (hs : s.size ≤ 20000) :
    Calls Tryd.prog 15 #[.string s] w fun e w' => e = .returned (.string ⟨(hex s.data.toList).toArray⟩) ∧ Below w.heap.size w w' := by
  go_enter Tryd.func15, Tryd.ntmps15
  go_wp2_with fail
  go_loopw [3, 4] (fun ov iv wr => ∃ (k : Nat) (l : List UInt8), k ≤ s.size ∧ l = hex (s.data.toList.take k) ∧ iv = .int .i64 (k : Int) ∧ ov = .string ⟨l.toArray⟩ ∧ Below w.heap.size w wr) (fun _ iv _ => s.size - (intOf iv).toNat)
  case atStart => exact ⟨0, [], Nat.zero_le _, rfl, rfl, rfl, Below.refl _ _⟩
  case round =>
    obtain ⟨k, l, hk, hl0, rfl, rfl, hbel⟩ := hrel
    have hl := hl0
    clear hl0
    by_cases hlt : k < s.size
    · have hx := s[k].toNat_lt
      obtain ⟨x, hx0⟩ : ∃ x, s[k].toNat = x := ⟨_, rfl⟩
      rw [hx0] at hx
      obtain ⟨p, hp⟩ : ∃ p, x / 16 = p := ⟨_, rfl⟩
      obtain ⟨q, hq⟩ : ∃ q, x % 16 = q := ⟨_, rfl⟩
      have c0 : IntKind.u8.wrap ((x : Int) / 16) = (p : Int) := by rw [IntWalk.u8_in _ (by omega)]; omega
      have d0 : (x : Int) % 16 = (q : Int) := by omega
      have c1 : IntKind.u8.wrap ((p : Int) + 1) = (p : Int) + 1 := IntWalk.u8_in _ (by omega)
      have d1 : IntKind.u8.wrap ((q : Int) + 1) = (q : Int) + 1 := IntWalk.u8_in _ (by omega)
      have hp16 : p < 16 := by omega
      have hq16 : q < 16 := by omega
      have sl1 := cut_run p hp16
      have sl2 := cut_run q hq16
      have hll : l.length ≤ 40000 := by rw [hl, hex_length, List.length_take]; omega
      have HL := Lib.hid hl
      have HP := Lib.hid hp
      have HQ := Lib.hid hq
      clear hl hp hq hx
      go_wp2_with fail
      go_quiet (skip)
      go_wp2
      go_roundw
      case rel =>
        refine ⟨k + 1, l ++ [sg p, sg q], by omega, ?_, by go_num, ?_, Go.below_drewN hbel _⟩
        · rw [take_byte s k hlt, hex_append, ← HL.out]
          show _ = _ ++ [sg (s[k].toNat / 16), sg (s[k].toNat % 16)]
          rw [hx0, HP.out, HQ.out]
        · refine congrArg Value.string (ByteArray.ext ?_)
          rw [ByteArray.data_append, ByteArray.data_append]
          simp
      case measure => simp [intOf]; omega
    · obtain rfl : k = s.size := by omega
      rw [List.take_of_length_le (by simp)] at hl
      subst hl
      go_wp2
      go_ret
      exact ⟨rfl, hbel⟩

theorem digit_at (x : UInt8) (w : World) (n : Int) (b : Bool) (h : dv (nib x) = n) (h2 : (nib x).isSome = b) :
    Calls Tryd.prog 22 #[.int .u8 x.toNat] w fun e w' => e = .returned (.tuple #[.int .u8 n, .bool b]) ∧ w' = w := by
  subst h; subst h2; exact same_of (digit_any x w)

set_option maxHeartbeats 800000 in
theorem runhex_at (s : ByteArray) (w : World) (hs : s.size ≤ 40000) (S : List UInt8) (b : Bool) (hu : un s.data.toList = (S, b)) :
    Calls Tryd.prog 13 #[.string s] w fun e w' => e = .returned (.tuple #[.string ⟨S.toArray⟩, .bool b]) ∧ Below w.heap.size w w' := by
  have HU := Lib.hid hu
  clear hu
  by_cases hodd : s.size % 2 = 0
  · obtain ⟨m, hm⟩ : ∃ m, s.size = 2 * m := ⟨s.size / 2, by omega⟩
    have hodd' : ((s.size : Int) % 2 != 0) = false := by rw [bne_eq_false_iff_eq]; omega
    have HM := Lib.hid hm
    clear hodd hm
    go_enter Tryd.func13, Tryd.ntmps13
    go_wp2_with fail
    go_loopw [4, 5] (fun ov iv wr => ∃ (k : Nat) (l : List UInt8), k ≤ s.size ∧ k % 2 = 0 ∧ iv = .int .i64 (k : Int) ∧ ov = .string ⟨l.toArray⟩ ∧ Part s k l ∧ Below w.heap.size w wr) (fun _ iv _ => s.size - (intOf iv).toNat)
    case atStart => exact ⟨0, [], Nat.zero_le _, rfl, rfl, rfl, ⟨by rw [List.drop_zero]; cases unhex s.data.toList <;> rfl, rfl⟩, Below.refl _ _⟩
    case round =>
      obtain ⟨k, l, hk, hk2, rfl, rfl, hpart, hbel⟩ := hrel
      have HK2 := Lib.hid hk2
      have HP := Lib.hid hpart
      clear hk2 hpart
      by_cases hlt : k < s.size
      · have hlt1 : k + 1 < s.size := by have := HM.out; have := HK2.out; omega
        have hlt1' : (k : Int) + 1 < (s.size : Int) := by omega
        have hwr : IntKind.i64.wrap ((k : Int) + 1) = (k : Int) + 1 := IntWalk.i64_in _ (by omega)
        have hp0 : (0 : Int) ≤ (k : Int) + 1 := by omega
        have hp1 : ((k : Int) + 1).toNat = k + 1 := by omega
        obtain ⟨x, hx⟩ : ∃ x, dv (nib s[k]) = x := ⟨_, rfl⟩
        obtain ⟨y, hy⟩ : ∃ y, dv (nib s[k + 1]) = y := ⟨_, rfl⟩
        obtain ⟨xb, hxb⟩ : ∃ x, (nib s[k]).isSome = x := ⟨_, rfl⟩
        obtain ⟨yb, hyb⟩ : ∃ y, (nib s[k + 1]).isSome = y := ⟨_, rfl⟩
        have HX := Lib.hid hx
        have HY := Lib.hid hy
        have HXB := Lib.hid hxb
        have HYB := Lib.hid hyb
        clear hx hy hxb hyb
        go_wp2_with fail
        refine (digit_at _ _ _ _ HX.out HXB.out).mono ?_
        rintro e w1 ⟨rfl, rfl⟩
        go_wp2_with fail
        refine (digit_at _ _ _ _ HY.out HYB.out).mono ?_
        rintro e w2 ⟨rfl, rfl⟩
        generalize (s[k + 1]'hlt1).toNat = nb
        generalize (s[k]'hlt).toNat = na
        clear hwr hp0 hp1
        cases hx : nib s[k] with
        | none =>
          obtain rfl : xb = false := by rw [← HXB.out, hx]; rfl
          obtain ⟨rfl, rfl⟩ : S = [] ∧ b = false := by have := (HP.out.stop hlt1 (.inl hx)).symm.trans HU.out; cases this; exact ⟨rfl, rfl⟩
          clear hx
          go_wp2
          go_ret2
          exact ⟨rfl, hbel⟩
        | some p =>
          obtain rfl : x = (p : Int) := by rw [← HX.out, hx]; rfl
          obtain rfl : xb = true := by rw [← HXB.out, hx]; rfl
          cases hy : nib s[k + 1] with
          | none =>
            obtain rfl : yb = false := by rw [← HYB.out, hy]; rfl
            obtain ⟨rfl, rfl⟩ : S = [] ∧ b = false := by have := (HP.out.stop hlt1 (.inr hy)).symm.trans HU.out; cases this; exact ⟨rfl, rfl⟩
            clear hx hy
            go_wp2
            go_ret2
            exact ⟨rfl, hbel⟩
          | some q =>
            obtain rfl : y = (q : Int) := by rw [← HY.out, hy]; rfl
            obtain rfl : yb = true := by rw [← HYB.out, hy]; rfl
            have hp16 := nib_lt hx
            have hq16 := nib_lt hy
            have HN := Lib.hid (HP.out.next hlt1 hx hy)
            have hsz := hbel.size
            have hl : l.length ≤ 40000 := by have := HP.out.2; omega
            obtain ⟨n, hn⟩ : ∃ n, 16 * p + q = n := ⟨_, rfl⟩
            rw [hn] at HN
            have a1 : IntKind.u8.wrap (16 * (p : Int)) = 16 * (p : Int) := IntWalk.u8_in _ (by omega)
            have a2 : IntKind.u8.wrap (16 * (p : Int) + (q : Int)) = (n : Int) := by rw [IntWalk.u8_in _ (by omega)]; omega
            have a3 : n < 256 := by omega
            clear hx hy
            have ho := fun W : World => Buf.one_string W (n : Int) (UInt8.ofNat n) (by rw [UInt8.toNat_ofNat']; omega)
            go_wp2
            go_roundw
            case rel => exact ⟨k + 2, _, by omega, by have := HK2.out; omega, by go_num, congrArg Value.string (Buf.str_snoc _ _), HN.out, hbel.alloc hsz _⟩
            case measure => simp [intOf]; omega
      · obtain rfl : k = s.size := by omega
        obtain ⟨rfl, rfl⟩ : S = l ∧ b = true := by have := HP.out.done.symm.trans HU.out; cases this; exact ⟨rfl, rfl⟩
        go_wp2
        go_ret2
        exact ⟨rfl, hbel⟩
  · have hodd' : ((s.size : Int) % 2 != 0) = true := by rw [bne_iff_ne]; omega
    obtain ⟨rfl, rfl⟩ : S = [] ∧ b = false := by
      have h := HU.out
      unfold un at h
      rw [unhex_odd (s.size / 2) s.data.toList (by rw [← Lib.size_eq]; omega)] at h
      cases h; exact ⟨rfl, rfl⟩
    clear hodd
    go_enter Tryd.func13, Tryd.ntmps13
    go_wp2
    go_ret2
    exact ⟨rfl, Below.refl _ _⟩
end Go.Proofs.YtbgfndabfmjmkaaDoor.Hex
