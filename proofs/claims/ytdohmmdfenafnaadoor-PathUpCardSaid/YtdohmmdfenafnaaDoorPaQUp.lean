/- Layer 7: PathUp is true: the mathematics. -/
import Derived.Test.YtdohmmdfenafnaaDoorPaM
import Derived.Test.YtdohmmdfenafnaaDoorPaLUp
namespace Go.Proofs.YtdohmmdfenafnaaDoor.Pa
open Go.Proofs.YtdohmmdfenafnaaDoor.Mem
theorem up_true (s : List UInt8) : up_m s = true := by
  unfold up_m
  by_cases h : (parts_m s).2 = 0
  · rw [if_neg (fun e => e h)]
    obtain ⟨h1, h2, h3, h4⟩ := parts_ok h
    have h5 := (sp_len 47 s).2
    rw [h4]
    dsimp only
    rw [if_neg (by omega)]
    rcases cut_last s with hc | ⟨a, b, hs, hc⟩
    · rw [sp_none 47 s hc, if_pos (by rfl), if_pos awake_true, parent_none hc, if_pos rfl, reserved_is, sp_none 47 s hc]
      exact beq_self_eq_true _
    · have hsp : sp 47 s = sp 47 a ++ [b] := by rw [hs, sp_app, sp_none 47 b hc]
      have hn := (sp_len 47 a).2
      rw [hsp] at h2 h3 ⊢
      have hl : (sp 47 a ++ [b]).length = (sp 47 a).length + 1 := by simp
      have hpa : parent_m s = a := by rw [hs]; exact parent_some hc
      have hal : a.length ≤ s.length := by rw [hs]; simp
      have hpp : parts_m a = (sp 47 a, 0) := by
        rw [parts_is, if_neg (by omega), if_pos (fun x hx => h2 x (by simp [hx])), if_neg (by omega)]
      have e : ((((sp 47 a ++ [b]).length : Nat) : Int) - (1 : Int)).toNat = (sp 47 a).length := by omega
      rw [if_neg (by omega), if_pos awake_true, hpa, hpp, if_pos rfl, e]
      dsimp only
      rw [List.take_left, if_pos (same_self _), List.getD_eq_getElem?_getD, List.getElem?_append_right (Nat.le_refl _), Nat.sub_self]
      have e2 : (a ++ [47]) ++ ([b][0]?.getD []) = s := by rw [hs]; simp
      rw [if_pos e2, reserved_is, reserved_is, hsp]
      have e3 : (sp 47 a ++ [b]).headD [] = (sp 47 a).headD [] := by
        cases h6 : sp 47 a with
        | nil => exact absurd h6 (sp_ne 47 a)
        | cons y t => rfl
      rw [e3]
      exact beq_self_eq_true _
  · rw [if_pos h, if_pos awake_true, parts_no h]
    rfl
end Go.Proofs.YtdohmmdfenafnaaDoor.Pa
