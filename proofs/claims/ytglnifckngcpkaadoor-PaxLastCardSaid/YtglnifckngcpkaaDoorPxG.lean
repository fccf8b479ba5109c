/- Layer 10: both records are one: the mathematics. -/
import Derived.Test.YtglnifckngcpkaaDoorPxF
namespace Go.Proofs.YtglnifckngcpkaaDoor.Px
open Go.Proofs.YtglnifckngcpkaaDoor.Mem
theorem rone_l (p : Par) (h1 : p.key.length ≤ 1048576) (h2 : p.value.length ≤ 1048576) : ∀ n (x : Nat), (rst p).length + 1 ≤ x → x ≤ (rst p).length + (rdig_m (x : Int)).length → x ≤ (rst p).length + 9 → (rst p).length + 10 - x < n →
    ∃ y : Nat, rone_m_l0 p n x = .inl y ∧ x ≤ y ∧ y ≤ (rst p).length + 9 ∧ y = (rst p).length + (rdig_m (y : Int)).length ∧ ∀ k : Nat, x ≤ k → k < y → k ≠ (rst p).length + (rdig_m (k : Int)).length
  | 0, _, _, _, _, h => by omega
  | n + 1, x, h3, h4, h5, h => by
    have hr := rst_len p
    have E : rone_m_l0 p (n + 1) x = rone_m_b0 p (rone_m_l0 p n) x := rfl
    rw [E]
    unfold rone_m_b0
    have ec : ((rdig_m ((x : Nat) : Int)).length) + (((((([32] ++ p.key) ++ [61]) ++ p.value) ++ [10]) : List UInt8).length) = (rst p).length + (rdig_m ((x : Nat) : Int)).length := Nat.add_comm _ _
    rw [ec]
    by_cases hx : (rst p).length + (rdig_m (x : Int)).length = x
    · rw [if_neg (fun e => e hx)]
      exact ⟨x, rfl, Nat.le_refl _, h5, hx.symm, fun k h6 h7 => by omega⟩
    · rw [if_pos hx]
      have m1 := rdig_mono (x : Int) ((x + 1 : Nat) : Int) (by omega) (by omega) (by omega)
      have l2 := rdig_len ((x + 1 : Nat) : Int) (by omega) (by omega)
      obtain ⟨y, e1, e2, e2', e3, e4⟩ := rone_l p h1 h2 n (x + 1) (by omega) (by omega) (by omega) (by omega)
      refine ⟨y, e1, by omega, e2', e3, fun k h6 h7 => ?_⟩
      by_cases hk : k = x
      · subst hk; exact fun e => hx e.symm
      · exact e4 k (by omega) h7
theorem rone_is (p : Par) (h1 : p.key.length ≤ 1048576) (h2 : p.value.length ≤ 1048576) : rone_m p = record_m p := by
  have hr := rst_len p
  have l1 := rdig_len (((rst p).length + 1 : Nat) : Int) (by omega) (by omega)
  obtain ⟨y, e1, e2, e2', e3, e4⟩ := rone_l p h1 h2 (((rst p).length + 10 - ((rst p).length + 1)) + 1) ((rst p).length + 1) (Nat.le_refl _) (by omega) (by omega) (by omega)
  have e : rone_m p = rdig_m (y : Int) ++ rst p := by
    unfold rone_m
    have e1' := e1
    unfold rst at e1'
    rw [e1']
    rfl
  have hp : plen_m ((rst p).length : Int) = (y : Int) := by
    refine plen_uniq _ (by omega) (by omega) (y : Int) (by omega) ?_ ?_
    · rw [← rdig_is _ (by omega)]; omega
    · intro k h3 h4 h5
      obtain ⟨j, rfl⟩ : ∃ j : Nat, k = (j : Int) := ⟨k.toNat, by omega⟩
      rw [← rdig_is _ (by omega)] at h5
      exact e4 j (by omega) (by omega) (by omega)
  rw [e, record_is, hp, rdig_is _ (by omega)]
theorem rone_len (p : Par) (h1 : p.key.length ≤ 1048576) (h2 : p.value.length ≤ 1048576) : (rone_m p).length ≤ 2097200 := by
  rw [rone_is p h1 h2]
  exact record_len p h1 h2
theorem rplace_max (s : List UInt8) (c : UInt8) (h : s.length ≤ 1048576) : rplace_m s c ≤ 1048576 := by
  have := rplace_rng s c
  omega
end Go.Proofs.YtglnifckngcpkaaDoor.Px
