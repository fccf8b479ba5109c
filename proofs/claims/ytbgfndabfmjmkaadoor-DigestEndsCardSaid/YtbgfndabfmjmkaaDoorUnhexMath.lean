/- What signs stand for: plain facts, no program. -/
import Derived.Test.YtbgfndabfmjmkaaDoorHexMath
namespace Go.Proofs.YtbgfndabfmjmkaaDoor.Hex

/-- What a sign stands for. -/
def nib (x : UInt8) : Option Nat := if 48 ≤ x.toNat ∧ x.toNat ≤ 57 then some (x.toNat - 48) else if 97 ≤ x.toNat ∧ x.toNat ≤ 102 then some (x.toNat - 87) else none
/-- The bytes that signs stand for. -/
def unhex : List UInt8 → Option (List UInt8)
  | [] => some []
  | [_] => none
  | a :: b :: t => match nib a, nib b with
    | some x, some y => (unhex t).map (UInt8.ofNat (16 * x + y) :: ·)
    | _, _ => none
/-- The answer: the bytes, and whether there are any. -/
def un (l : List UInt8) : List UInt8 × Bool := match unhex l with
  | some u => (u, true)
  | none => ([], false)
theorem drop_two (s : ByteArray) (k : Nat) (h : k + 1 < s.size) : s.data.toList.drop k = s[k] :: s[k + 1] :: s.data.toList.drop (k + 2) := by
  have h1 : k < s.data.toList.length := by rw [← Lib.size_eq]; omega
  have h2 : k + 1 < s.data.toList.length := by rw [← Lib.size_eq]; omega
  rw [List.drop_eq_getElem_cons h1, List.drop_eq_getElem_cons h2]; rfl
theorem unhex_step {s : ByteArray} {k x y : Nat} (h : k + 1 < s.size) (hx : nib s[k] = some x) (hy : nib s[k + 1] = some y) :
    unhex (s.data.toList.drop k) = (unhex (s.data.toList.drop (k + 2))).map (UInt8.ofNat (16 * x + y) :: ·) := by
  rw [drop_two s k h, unhex, hx, hy]
theorem unhex_stop {s : ByteArray} {k : Nat} (h : k + 1 < s.size) (hx : nib s[k] = none ∨ nib s[k + 1] = none) : unhex (s.data.toList.drop k) = none := by
  rw [drop_two s k h, unhex]
  rcases hx with hx | hx
  · rw [hx]
  · rw [hx]; cases nib s[k] <;> rfl
theorem unhex_odd : ∀ (n : Nat) (l : List UInt8), l.length = 2 * n + 1 → unhex l = none
  | _, [], h => by simp at h
  | _, [_], _ => rfl
  | 0, _ :: _ :: _, h => by simp at h
  | n + 1, a :: b :: t, h => by
    rw [unhex, unhex_odd n t (by simp at h; omega)]
    cases nib a <;> cases nib b <;> rfl
theorem nib_lt {x : UInt8} {n : Nat} (h : nib x = some n) : n < 16 := by
  unfold nib at h
  split at h
  · cases h; omega
  · split at h
    · cases h; omega
    · cases h
theorem sg_nib {x : UInt8} {n : Nat} (h : nib x = some n) : sg n = x := by
  unfold nib at h
  unfold sg
  split at h
  · cases h
    rw [if_pos (by omega), ← UInt8.toNat_inj, UInt8.toNat_ofNat']; omega
  · split at h
    · cases h
      rw [if_neg (by omega), ← UInt8.toNat_inj, UInt8.toNat_ofNat']; omega
    · cases h
theorem nib_sg {n : Nat} (h : n < 16) : nib (sg n) = some n := by
  have : ∀ m : Fin 16, nib (sg m.val) = some m.val := by decide +kernel
  exact this ⟨n, h⟩
theorem unhex_hex : ∀ l : List UInt8, unhex (hex l) = some l
  | [] => rfl
  | x :: t => by
    have hx := x.toNat_lt
    rw [hex, unhex, nib_sg (by omega), nib_sg (by omega), unhex_hex t]
    show some (UInt8.ofNat (16 * (x.toNat / 16) + x.toNat % 16) :: t) = some (x :: t)
    rw [show 16 * (x.toNat / 16) + x.toNat % 16 = x.toNat by omega, UInt8.ofNat_toNat]
theorem hex_unhex : ∀ (l u : List UInt8), unhex l = some u → hex u = l
  | [], u, h => by cases h; rfl
  | [_], _, h => by cases h
  | a :: b :: t, u, h => by
    rw [unhex] at h
    cases hx : nib a with
    | none => rw [hx] at h; cases h
    | some x =>
      cases hy : nib b with
      | none => rw [hx, hy] at h; cases h
      | some y =>
        rw [hx, hy] at h
        cases ht : unhex t with
        | none => rw [ht] at h; cases h
        | some v =>
          rw [ht] at h
          cases h
          have h1 := nib_lt hx
          have h2 := nib_lt hy
          show sg _ :: sg _ :: hex v = _
          rw [hex_unhex t v ht, UInt8.toNat_ofNat', Nat.mod_eq_of_lt (by omega), show (16 * x + y) / 16 = x by omega, show (16 * x + y) % 16 = y by omega, sg_nib hx, sg_nib hy]
end Go.Proofs.YtbgfndabfmjmkaaDoor.Hex
