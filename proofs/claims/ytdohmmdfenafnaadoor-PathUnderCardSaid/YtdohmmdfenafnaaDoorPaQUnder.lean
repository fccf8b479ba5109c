/- Layer 7: PathUnder is true: the mathematics. -/
import Derived.Test.YtdohmmdfenafnaaDoorPaM
import Derived.Test.YtdohmmdfenafnaaDoorPaLUnder
namespace Go.Proofs.YtdohmmdfenafnaaDoor.Pa
open Go.Proofs.YtdohmmdfenafnaaDoor.Mem
theorem under_true (s part : List UInt8) : under_m s part = true := by
  unfold under_m
  by_cases h : (parts_m s).2 = 0
  · rw [if_neg (fun e => e h)]
    by_cases hp : part_m part = true
    · rw [if_neg (fun e => not_true'.1 e hp)]
      obtain ⟨h1, h2, h3, h4⟩ := parts_ok h
      have hc := part_not hp
      have ht : (s ++ [47]) ++ part = s ++ 47 :: part := by simp
      have hsp : sp 47 (s ++ 47 :: part) = sp 47 s ++ [part] := by rw [sp_app, sp_none 47 part hc]
      have hall : ∀ x ∈ sp 47 s ++ [part], part_m x = true := by
        intro x hx
        rcases List.mem_append.1 hx with hx | hx
        · exact h2 x hx
        · rw [List.mem_singleton.1 hx]; exact hp
      have hl : (s ++ 47 :: part).length = s.length + 1 + part.length := by simp; omega
      have hl2 : (sp 47 s ++ [part]).length = (sp 47 s).length + 1 := by simp
      have hlong : (200 < s.length + 1 + part.length ∨ (sp 47 s).length = 16) → parts_m (s ++ 47 :: part) = ([], 3) := by
        intro hh
        rw [parts_is]
        by_cases h5 : 200 < (s ++ 47 :: part).length
        · rw [if_pos h5]
        · rw [if_neg h5, hsp, if_pos hall, if_pos (by omega)]
      rw [ht, h4]
      dsimp only
      by_cases h6 : (sp 47 s).length = 16
      · rw [if_pos h6, if_pos awake_true, hlong (.inr h6)]
        rfl
      · rw [if_neg h6]
        by_cases h7 : 200 < (s.length + 1) + part.length
        · rw [if_pos h7, if_pos awake_true, hlong (.inl h7)]
          rfl
        · have hok : parts_m (s ++ 47 :: part) = (sp 47 s ++ [part], 0) := by
            rw [parts_is, if_neg (by omega), hsp, if_pos hall, if_neg (by omega)]
          rw [if_neg h7, if_pos awake_true, hok, if_pos rfl, if_pos hl2]
          dsimp only
          rw [List.getD_eq_getElem?_getD, List.getElem?_append_right (Nat.le_refl _), Nat.sub_self, if_pos (by rfl), parent_some hc]
          exact decide_eq_true rfl
    · rw [if_pos (not_true'.2 hp)]
      exact awake_true
  · rw [if_pos h]
    exact awake_true
end Go.Proofs.YtdohmmdfenafnaaDoor.Pa
