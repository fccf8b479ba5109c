import Derived.Test.YtnmaaijeamlplaaDoorBkN
set_option linter.unusedVariables false
set_option linter.unusedSimpArgs false
namespace Go.Proofs.YtnmaaijeamlplaaDoor.Bk
open Go.Proofs.YtnmaaijeamlplaaDoor.Mem
def wr (l : List Wr) (k : Int) : List (List UInt8) := (l.filter fun x => decide (x.at_ = k)).map Wr.data
theorem spent_fuse (d : Dk) (h : d.fuse ≤ 9223372036854775807) : (spent_m d).1.fuse ≤ 9223372036854775807 := by
 rw [spent_eq]
 unfold spentD
 split
 ·exact h
 split
 ·show d.fuse - 1 ≤ _
  omega
 exact h
def near (d e : Dk) (n : Nat) : Prop := e.safe.length = d.safe.length ∧ e.loose.length ≤ d.loose.length + n ∧ (d.fuse ≤ 9223372036854775807 → e.fuse ≤ 9223372036854775807)
theorem rput_near (d : Dk) (at_ : Int) (data : List UInt8) : near d (rput_m d at_ data).1 1 := by
 unfold rput_m
 split
 ·exact ⟨rfl, by simp, id⟩
 split
 ·exact ⟨rfl, by simp, id⟩
 split
 ·exact ⟨rfl, by simp, id⟩
 split
 ·exact ⟨rfl, by simp, id⟩
 split
 ·exact ⟨by rw [spent_safe], by rw [spent_loose]; omega, spent_fuse d⟩
 exact ⟨by show (spent_m d).1.safe.length = _; rw [spent_safe], by show ([] ++ (spent_m d).1.loose ++ [_]).length ≤ _; rw [spent_loose]; simp, spent_fuse d⟩
theorem put_near (d : Dk) (at_ : Int) (data : List UInt8) : near d (put_m d at_ data).1 1 := by rw [put_eq]; exact rput_near d at_ data
theorem app_len : ∀ (l : List Wr) (s : List (List UInt8)), (l.foldl app s).length = s.length
 | [], _ => rfl
 | x :: l, s => by rw [List.foldl_cons, app_len l]; unfold app; rw [List.length_set]
theorem flush_near (d : Dk) : near d (flush_m d).1 0 := by
 rw [flush_is]
 split
 ·exact ⟨rfl, by simp, id⟩
 split
 ·exact ⟨app_len _ _, by simp, spent_fuse d⟩
 exact ⟨by rw [spent_safe], by rw [spent_loose]; omega, spent_fuse d⟩
theorem rflush_near (d : Dk) : near d (rflush_m d).1 0 := by rw [← flush_eq]; exact flush_near d
theorem rnew_near (n : Int) : (rnew_m n).1.safe.length ≤ 2048 ∧ (rnew_m n).1.loose.length ≤ 0 := by
 rw [rnew_is]
 split
 ·exact ⟨by decide, by decide⟩
 split
 ·exact ⟨by decide, by decide⟩
 exact ⟨by show (List.replicate _ _).length ≤ _; rw [List.length_replicate]; omega, Nat.le_refl 0⟩
end Go.Proofs.YtnmaaijeamlplaaDoor.Bk
