/- Layer 15: what a fuse lets through: the mathematics. -/
import Derived.Test.YtmammofbgllceaaBkS
namespace Go.Proofs.Ytmammofbgllceaa.Bk
open Go.Proofs.Ytmammofbgllceaa.Mem
/-! ### A fuse -/
def FInv (F done : Nat) (d : Dk) : Prop := RightP d ∧ done ≤ F ∧ ((d.down = false ∧ d.fuse = (F : Int) - (done : Int)) ∨ (d.down = true ∧ done = F))
theorem fuse_loop (d : Dk) (fuse : UInt8) (l : List Wr) : ∀ n done i s lo f dn, l.length - i < n → FInv fuse.toNat done ⟨s, lo, f, dn⟩ → ∃ done' i' s' lo' f' dn', fuse_m_l0 d fuse l n (done, i, s, lo, f, dn) = .inl (done', i', s', lo', f', dn') ∧ FInv fuse.toNat done' ⟨s', lo', f', dn'⟩
  | 0, done, i, s, lo, f, dn, h, _ => by omega
  | n + 1, done, i, s, lo, f, dn, h, hI => by
    have E : fuse_m_l0 d fuse l (n + 1) (done, i, s, lo, f, dn) = fuse_m_b0 d fuse l (fuse_m_l0 d fuse l n) done i s lo f dn := rfl
    rw [E]
    unfold fuse_m_b0
    by_cases hi : i < l.length
    · rw [if_pos hi]
      obtain ⟨hR, hle, hc⟩ := hI
      have hn : l.length - (i + 1) < n := by omega
      rcases put_cases ⟨s, lo, f, dn⟩ hR (l.getD i dWr).at_ (l.getD i dWr).data with ⟨h1, hp⟩ | ⟨h1, hp⟩ | ⟨h1, h2, hp⟩ | ⟨h1, h2, h3, h4, h5, hp⟩
      · rw [hp]
        dsimp only
        rw [if_neg (by decide), if_pos rfl]
        have hF : done = fuse.toNat := by
          rcases hc with ⟨h6, _⟩ | ⟨_, h6⟩
          · rw [h1] at h6; cases h6
          · exact h6
        have hdn : dn = true := h1
        rw [if_neg (fun e => e hF), if_neg (by rw [hdn]; decide)]
        exact fuse_loop d fuse l n done (i + 1) s lo f dn hn ⟨hR, hle, hc⟩
      · rw [hp]
        dsimp only
        rw [if_neg (by decide), if_neg (by decide), if_pos rfl, if_neg (by rw [same_self]; decide)]
        exact fuse_loop d fuse l n done (i + 1) s lo f dn hn ⟨hR, hle, hc⟩
      · rw [hp]
        dsimp only
        rw [if_neg (by decide), if_pos rfl]
        have hF : done = fuse.toNat := by
          rcases hc with ⟨_, h6⟩ | ⟨h6, _⟩
          · have h2' : f = 0 := h2
            have h6' : f = (fuse.toNat : Int) - (done : Int) := h6
            omega
          · rw [h1] at h6; cases h6
        rw [if_neg (fun e => e hF), if_neg (show ¬ (!true) = true by decide)]
        exact fuse_loop d fuse l n done (i + 1) s lo f true hn ⟨hR, hle, .inr ⟨rfl, hF⟩⟩
      · rw [hp]
        dsimp only
        rw [if_pos rfl]
        have h2' : f ≠ 0 := h2
        have h6 : f = (fuse.toNat : Int) - (done : Int) := by
          rcases hc with ⟨_, h6⟩ | ⟨h6, _⟩
          · exact h6
          · rw [h1] at h6; cases h6
        refine fuse_loop d fuse l n (done + 1) (i + 1) s (lo ++ [⟨(l.getD i dWr).at_, (l.getD i dWr).data⟩]) (if 0 < f then f - 1 else f) false hn ⟨right_more hR h3 h4 h5 _ _, by omega, .inl ⟨rfl, ?_⟩⟩
        show (if 0 < f then f - 1 else f) = _
        rw [if_pos (by omega)]
        omega
    · rw [if_neg hi]
      exact ⟨done, i, s, lo, f, dn, rfl, hI⟩
theorem fuse_true (d : Dk) (fuse : UInt8) (l : List Wr) : fuse_m d fuse l = true := by
  unfold fuse_m
  by_cases h1 : right_m d = true
  · rw [if_neg (by rw [h1]; decide)]
    have hR := (right_iff d).1 h1
    cases hd : d.down with
    | true => rw [if_pos rfl]; exact awake_true
    | false =>
      rw [if_neg (by decide)]
      by_cases h2 : 300 < l.length
      · rw [if_pos h2]; exact awake_true
      rw [if_neg h2]
      obtain ⟨done', i', s', lo', f', dn', h3, _, h4, h5⟩ := fuse_loop d fuse l ((l.length - 0) + 1) 0 0 d.safe d.loose (fuse.toNat : Int) false (by omega) ⟨hR, Nat.zero_le _, .inl ⟨rfl, by show ((fuse.toNat : Nat) : Int) = _; omega⟩⟩
      rw [h3]
      dsimp only [fin]
      unfold fuse_m_k0
      rw [if_pos awake_true, if_pos h4]
      rcases h5 with ⟨h5, h6⟩ | ⟨h5, _⟩
      · have h5' : dn' = false := h5
        rw [h5', if_neg (by decide)]
        exact decide_eq_true h6
      · have h5' : dn' = true := h5
        rw [h5', if_pos rfl]
  · rw [if_pos (by rw [Bool.eq_false_iff.2 h1]; rfl)]
    exact awake_true
end Go.Proofs.Ytmammofbgllceaa.Bk
