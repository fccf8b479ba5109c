/- Contracts of the reference's SHA-256: a message with what is put behind it. -/
import Derived.Test.YtbgfndabfmjmkaaDoorShaF
namespace Go.Proofs.YtbgfndabfmjmkaaDoor.Sha
open Go.RowKit

theorem lens_next (n j : Nat) (hj : j < 8) : lens n (8 - j) = lens n (7 - j) ++ [lenb n (7 - j)] := by
  rw [show 8 - j = (7 - j) + 1 by omega, lens]
theorem lenb_ref (n j : Nat) (hj : j < 8) : (n : Int) * 8 / 2 ^ (8 * j) % 256 = ((lenb n (7 - j)).toNat : Int) := by
  have := lenb_int n (7 - j)
  rw [show 56 - 8 * (7 - j) = 8 * j by omega] at this
  exact this

set_option maxHeartbeats 800000 in
theorem padded_any (s : ByteArray) (w : World) (hs : s.size ≤ 250000) :
    Calls Tryd.prog 19 #[.string s] w fun e w' => ∃ b : ByteArray, e = .returned (.string b) ∧ b.data.toList = msg s ∧ Below w.heap.size w w' := by
  have hw0 : IntKind.u64.wrap (s.size : Int) = (s.size : Int) := IntWalk.u64_in _ (by omega)
  have hw1 : IntKind.u64.wrap ((s.size : Int) * 8) = (s.size : Int) * 8 := IntWalk.u64_in _ (by omega)
  go_enter Tryd.func19, Tryd.ntmps19
  go_wp2_with fail
  go_loopw [0] (fun sv wr => ∃ (z : Nat) (b : ByteArray), z ≤ pad s.size ∧ sv = .string b ∧ b.size = s.size + (z + 1) ∧ Hid (b.data.toList = s.data.toList ++ (128 :: List.replicate z 0)) ∧ Below w.heap.size w wr) (fun sv _ => s.size + 70 - (match sv with | .string b => b.size | _ => 0))
  case atStart => exact ⟨0, _, Nat.zero_le _, rfl, by rw [ByteArray.size_append]; rfl, by show (s ++ _ : ByteArray).data.toList = _; rw [ByteArray.data_append, Array.toList_append]; rfl, Below.refl _ _⟩
  case round =>
    obtain ⟨z, b, hz, rfl, hbs, hbl, hbel⟩ := hrel
    have hp := pad_le s.size
    by_cases hlt : z < pad s.size
    · have ht := pad_go hlt
      have ht' : (((b.size : Nat) : Int) % 64 != 56) = true := by rw [bne_iff_ne]; omega
      have HBS := Lib.hid hbs
      have hbb : b.size ≤ 260000 := by omega
      clear ht hbs
      go_wp2
      go_roundw
      case rel => exact ⟨z + 1, _, by omega, rfl, by rw [ByteArray.size_append, HBS.out]; show _ + 1 = _; omega, by show (b ++ _ : ByteArray).data.toList = _; rw [ByteArray.data_append, Array.toList_append, hbl.out, List.replicate_succ', List.append_assoc]; rfl, hbel⟩
      case measure => have := HBS.out; show s.size + 70 - (b ++ _ : ByteArray).size < s.size + 70 - b.size; rw [ByteArray.size_append]; show s.size + 70 - (b.size + 1) < _; omega
    · obtain rfl : z = pad s.size := by omega
      have ht := pad_end s.size
      have ht' : (((b.size : Nat) : Int) % 64 != 56) = false := by rw [bne_eq_false_iff_eq]; omega
      have HBL := Lib.hid (show b.data.toList = s.data.toList ++ (128 :: (List.replicate (pad s.size) 0 ++ lens s.size (8 - 8))) by rw [hbl.out]; simp [lens])
      have hbb : b.size ≤ 250000 + 64 + 8 - 8 := by omega
      clear ht hbs hbl hlt hz
      go_wp2
      go_loopw [0, 4] (fun sv iv wr => ∃ (j : Nat) (b : ByteArray), j ≤ 8 ∧ sv = .string b ∧ iv = .int .i64 ((j : Int) - 1) ∧ b.size ≤ 250000 + 64 + 8 - j ∧ Hid (b.data.toList = s.data.toList ++ (128 :: (List.replicate (pad s.size) 0 ++ lens s.size (8 - j)))) ∧ Below w.heap.size w wr) (fun _ iv _ => (intOf iv + 1).toNat)
      case atStart => exact ⟨8, b, by omega, rfl, rfl, hbb, HBL, hbel⟩
      case round =>
        clear hbb HBL ht' hbel
        obtain ⟨j, b, hj, rfl, rfl, hbb, hbl, hbel⟩ := hrel
        cases j with
        | zero =>
          go_wp2
          go_ret
          exact ⟨_, rfl, by rw [hbl.out]; rfl, hbel⟩
        | succ j =>
          rw [show ((j + 1 : Nat) : Int) - 1 = (j : Int) by omega]
          have hby := lenb_ref s.size j (by omega)
          have hu0 : IntKind.u64.wrap (j : Int) = (j : Int) := IntWalk.u64_in _ (by omega)
          have hu1 : IntKind.u64.wrap (8 * (j : Int)) = 8 * (j : Int) := IntWalk.u64_in _ (by omega)
          have hsz := hbel.size
          have ho := fun W : World => Buf.one_string W ((lenb s.size (7 - j)).toNat : Int) _ rfl
          go_wp2
          go_roundw
          case rel =>
            refine ⟨j, _, by omega, rfl, rfl, ?_, ?_, hbel.alloc hsz _⟩
            · rw [ByteArray.size_append]; show b.size + 1 ≤ _; omega
            · show (b ++ _ : ByteArray).data.toList = _
              rw [ByteArray.data_append, Array.toList_append, hbl.out, show 8 - (j + 1) = 7 - j by omega, lens_next _ _ (by omega)]
              simp
          case measure => (simp [intOf]; try omega)
end Go.Proofs.YtbgfndabfmjmkaaDoor.Sha
