/- More plain facts on a number's field, for the reference's way: no program. -/
import Derived.Test.YtcadahlmihfmlaaGetMath
namespace Go.Proofs.Ytcadahlmihfmlaa.Oct

theorem acc_dig_step {s : ByteArray} {e m : Nat} (h : e < s.size) (h1 : 48 ≤ s[e].toNat) (h2 : s[e].toNat ≤ 55) (hm : m < 1152921504606846976) :
    acc 8 48 m (digs (s.data.toList.drop e)) = acc 8 48 (8 * m + (s[e].toNat - 48)) (digs (s.data.toList.drop (e + 1))) := by
  rw [(digs_step s e h h1 h2).1, acc, if_neg (by omega), Nat.mul_comm]
theorem acc_dig_over {s : ByteArray} {e m : Nat} (h : e < s.size) (h1 : 48 ≤ s[e].toNat) (h2 : s[e].toNat ≤ 55) (hm : ¬ m < 1152921504606846976) :
    acc 8 48 m (digs (s.data.toList.drop e)) = none := by
  rw [(digs_step s e h h1 h2).1, acc, if_pos (by omega)]
theorem acc_dig_end {s : ByteArray} {e m : Nat} (hstop : ∀ h : e < s.size, ¬ (48 ≤ s[e].toNat ∧ s[e].toNat ≤ 55)) :
    acc 8 48 m (digs (s.data.toList.drop e)) = some m := by rw [(digs_stop s e hstop).1]; rfl
theorem getO_none {l d : List UInt8} (hsk : skip l = d) (ha : acc 8 48 0 (digs d) = none) : getO l = (0, 3) := by
  unfold getO; rw [hsk, if_pos ha]
theorem getO_junk {l d : List UInt8} {m : Nat} (hsk : skip l = d) (ha : acc 8 48 0 (digs d) = some m) (hb : blank (rest d) = false) : getO l = (0, 2) := by
  unfold getO; rw [hsk, if_neg (by rw [ha]; simp), if_pos (.inr hb)]
theorem getO_bare {l d : List UInt8} {m : Nat} (hsk : skip l = d) (ha : acc 8 48 0 (digs d) = some m) (hb : digs d = []) : getO l = (0, 2) := by
  unfold getO; rw [hsk, if_neg (by rw [ha]; simp), if_pos (.inl hb)]
theorem getO_fine {l d : List UInt8} {m : Nat} (hsk : skip l = d) (ha : acc 8 48 0 (digs d) = some m) (hb : digs d ≠ []) (hc : blank (rest d) = true) : getO l = (((m : Nat) : Int), 0) := by
  unfold getO; rw [hsk, if_neg (by rw [ha]; simp), if_neg (fun o => o.elim hb (fun x => by rw [hc] at x; cases x)), ha]; rfl
theorem Found.none_iff {s : ByteArray} {k e : Nat} (F : Found s k e) (hstop : ∀ h : e < s.size, ¬ (48 ≤ s[e].toNat ∧ s[e].toNat ≤ 55)) : digs (s.data.toList.drop k) = [] ↔ e = k := by
  have h1 := F.le
  have h2 := F.lt
  rw [F.dg, (digs_stop s e hstop).1, List.append_nil]
  constructor
  · intro h
    have := congrArg List.length h
    simp at this
    omega
  · intro h; subst h; simp
end Go.Proofs.Ytcadahlmihfmlaa.Oct
