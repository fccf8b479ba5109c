/- Layer 7: PathTargets is true: the mathematics. -/
import Derived.Test.YtdohmmdfenafnaaDoorPaM
import Derived.Test.YtdohmmdfenafnaaDoorPaLTargets
namespace Go.Proofs.YtdohmmdfenafnaaDoor.Pa
open Go.Proofs.YtdohmmdfenafnaaDoor.Mem
theorem targets_true (s : List UInt8) : targets_m s = true := by
  have ht : target_m s = true → s ≠ [] ∧ s.length ≤ 200 := by
    intro h
    unfold target_m at h
    by_cases h1 : 1 ≤ s.length
    · rw [if_pos h1] at h
      by_cases h2 : s.length ≤ 200
      · exact ⟨fun e => by rw [e] at h1; simp at h1, h2⟩
      · rw [if_neg h2] at h; cases h
    · rw [if_neg h1] at h; cases h
  have hr : (if (!(target_m s)) = true then true else if ¬ s = [] then decide (s.length ≤ 200) else false) = true := by
    by_cases h : target_m s = true
    · rw [if_neg (fun e => not_true'.1 e h), if_pos (ht h).1]
      exact decide_eq_true (ht h).2
    · rw [if_pos (not_true'.2 h)]
  unfold targets_m
  rw [if_pos awake_true, hr]
  by_cases h : (parts_m s).2 = 0
  · have hq : ¬ (!(target_m s)) = true := by
      intro e
      refine not_true'.1 e ?_
      obtain ⟨h1, h2, h3, h4⟩ := parts_ok h
      have h5 := parts_facts s
      unfold target_m
      rw [if_pos (show 1 ≤ s.length by omega), if_pos h1, signs_is]
      have := good_join (sp 47 s) (fun x hx => by rw [← signs_is]; exact (part_len (h2 x hx)).2.2.2.2)
      rwa [jn_sp] at this
    rw [if_pos h, if_neg hq]
  · rw [if_neg h]
end Go.Proofs.YtdohmmdfenafnaaDoor.Pa
