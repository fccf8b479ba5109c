/- Layer 15: what was written last: the mathematics. -/
import Derived.Test.YtmammofbgllceaaBkU
namespace Go.Proofs.Ytmammofbgllceaa.Bk
open Go.Proofs.Ytmammofbgllceaa.Mem
/-! ### What was written last -/
def LInv (d : Dk) : Prop := RightP d ∧ d.fuse = -1 ∧ d.down = false
theorem app_last (l : List Wr) (s : List (List UInt8)) (a : Int) (x : List UInt8) (h1 : 0 ≤ a) (h2 : a < (s.length : Int)) : ((l ++ [(⟨a, x⟩ : Wr)]).foldl app s).getD a.toNat [] = x := by
  rw [List.foldl_append]
  show ((List.foldl app s l).set a.toNat x).getD a.toNat [] = x
  rw [getD_set, if_pos ⟨rfl, by rw [app_len]; omega⟩]
theorem last_loop (d : Dk) (l : List Wr) : ∀ n i s lo f dn, l.length - i < n → LInv ⟨s, lo, f, dn⟩ → ∃ i' s' lo' f' dn', last_m_l0 d l n (i, s, lo, f, dn) = .inl (i', s', lo', f', dn')
  | 0, i, s, lo, f, dn, h, _ => by omega
  | n + 1, i, s, lo, f, dn, h, hI => by
    have E : last_m_l0 d l (n + 1) (i, s, lo, f, dn) = last_m_b0 d l (last_m_l0 d l n) i s lo f dn := rfl
    rw [E]
    unfold last_m_b0
    by_cases hi : i < l.length
    · rw [if_pos hi]
      obtain ⟨hR, hf, hd⟩ := hI
      have hf' : f = -1 := hf
      have hd' : dn = false := hd
      subst hf' hd'
      have hn : l.length - (i + 1) < n := by omega
      rcases put_cases ⟨s, lo, -1, false⟩ hR (l.getD i dWr).at_ (l.getD i dWr).data with ⟨h1, hp⟩ | ⟨h1, hp⟩ | ⟨h1, h2, hp⟩ | ⟨h1, h2, h3, h4, h5, hp⟩
      · cases h1
      · rw [hp]
        dsimp only
        rw [if_pos (by decide)]
        exact last_loop d l n (i + 1) s lo (-1) false hn ⟨hR, rfl, rfl⟩
      · exact absurd (show (-1 : Int) = 0 from h2) (by decide)
      · rw [hp]
        dsimp only
        rw [if_neg (by decide)]
        generalize (l.getD i dWr).at_ = a at *
        generalize (l.getD i dWr).data = x at *
        have h4' : a < (s.length : Int) := h4
        have hR2 : RightP ⟨s, lo ++ [⟨a, x⟩], -1, false⟩ := right_more hR h3 h4 h5 _ _
        have hg := get_on ⟨s, lo ++ [⟨a, x⟩], -1, false⟩ hR2 rfl a h3 h4
        have hfl := flush_on ⟨s, lo ++ [⟨a, x⟩], -1, false⟩ hR2 rfl rfl
        have hR3 := right_flushed hR2 (-1) false
        have hg2 := get_on ⟨(lo ++ [(⟨a, x⟩ : Wr)]).foldl app s, [], -1, false⟩ hR3 rfl a h3 (by show a < ((List.foldl app s (lo ++ [(⟨a, x⟩ : Wr)])).length : Int); rw [app_len]; exact h4)
        obtain ⟨s', hc, _, _, _, hs'⟩ := crash_is ⟨s, lo ++ [⟨a, x⟩], -1, false⟩ [] (-1) hR2
        have hs2 : s' = s := hs' rfl
        subst hs2
        have e1 : (lo ++ [(⟨a, x⟩ : Wr)]).foldl (pick a) (s'.getD a.toNat []) = x := by
          rw [List.foldl_append]
          simp only [List.foldl_cons, List.foldl_nil, pick, if_true]
        have e2 := app_last lo s' a x h3 h4'
        simp only [List.foldl_nil] at hg2
        rw [e2] at hg2
        simp only at hg
        rw [e1] at hg
        simp only at hfl
        have hs3 : (if (0 : Int) < -1 then (-1 : Int) - 1 else -1) = -1 := by decide
        simp only [hs3]
        rw [hg, hfl]
        dsimp only
        rw [hg2, hc]
        dsimp only
        rw [if_neg (by decide), if_neg (by decide), if_neg (by decide), if_neg (by decide), if_neg (fun e => e rfl), if_neg (fun e => e rfl), if_neg (fun e => e rfl)]
        exact last_loop d l n (i + 1) s' (lo ++ [⟨a, x⟩]) (-1) false hn ⟨hR2, rfl, rfl⟩
    · rw [if_neg hi]
      exact ⟨i, s, lo, f, dn, rfl⟩
theorem last_true (d : Dk) (l : List Wr) : last_m d l = true := by
  unfold last_m
  by_cases h1 : right_m d = true
  · rw [if_neg (by rw [h1]; decide)]
    have hR := (right_iff d).1 h1
    cases hd : d.down with
    | true => rw [if_pos rfl]; exact awake_true
    | false =>
      rw [if_neg (by decide)]
      by_cases h2 : 100 < l.length
      · rw [if_pos h2]; exact awake_true
      rw [if_neg h2]
      obtain ⟨i', s', lo', f', dn', h3⟩ := last_loop d l ((l.length - 0) + 1) 0 d.safe d.loose (-1) false (by omega) ⟨hR, rfl, rfl⟩
      rw [h3]
      dsimp only [fin]
      unfold last_m_k0
      exact awake_true
  · rw [if_pos (by rw [Bool.eq_false_iff.2 h1]; rfl)]
    exact awake_true
end Go.Proofs.Ytmammofbgllceaa.Bk
