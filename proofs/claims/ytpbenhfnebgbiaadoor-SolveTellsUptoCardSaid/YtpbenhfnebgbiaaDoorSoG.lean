/- Layer 20: what is looked at are few packages. -/
import Derived.Test.YtpbenhfnebgbiaaDoorSoD
set_option linter.unusedVariables false
namespace Go.Proofs.YtpbenhfnebgbiaaDoor.So
open Go.RowKit Go.Proofs.YtpbenhfnebgbiaaDoor.Pa Go.Proofs.YtpbenhfnebgbiaaDoor.Mem
theorem great_l (l : List Mf) : ∀ k x i, ∃ y j, great_m_l0 l k (x, i) = .inl (y, j) ∧ x ≤ y
  | 0, x, i => ⟨x, i, rfl, Nat.le_refl _⟩
  | k + 1, x, i => by
    have E : great_m_l0 l (k + 1) (x, i) = great_m_b0 l (great_m_l0 l k) x i := rfl
    rw [E]
    unfold great_m_b0
    repeat' split
    · obtain ⟨y, j, e, h⟩ := great_l l k (x + (l.getD i dMf).needs.length % 3000 + (l.getD i dMf).clashes.length % 3000) (i + 1)
      exact ⟨y, j, e, by omega⟩
    · exact ⟨x, i, rfl, Nat.le_refl _⟩
    · exact ⟨x, i, rfl, Nat.le_refl _⟩
/-- The count. -/
def grn (l : List Mf) : Nat := match great_m_l0 l ((l.length - 0) + 1) (l.length, 0) with
  | .inl z => z.1
  | .inr _ => 0
theorem grn_len (l : List Mf) : l.length ≤ grn l := by
  obtain ⟨y, j, e, h⟩ := great_l l ((l.length - 0) + 1) l.length 0
  unfold grn
  rw [e]
  exact h
theorem great_is (l : List Mf) : great_m l = decide (500 < grn l) := by
  obtain ⟨y, j, e, h⟩ := great_l l ((l.length - 0) + 1) l.length 0
  unfold great_m grn
  rw [e]
  rfl
theorem greatd_any (l : List Mf) (lv0 : Value) (lv1 : List (Value × Value × Value)) (w : World) (hl : Rn nMf 5 MfN l lv1 lv0 w) (hp0 : l.length ≤ 268435456) (hp1 : okl l) : Calls Tryd.prog 7 #[lv0] w (fun e w' => e = .returned (.bool (decide (500 < grn l))) ∧ Below w.heap.size w w') := by
  rw [← great_is]
  exact great_any l lv0 lv1 w hl hp0 hp1
end Go.Proofs.YtpbenhfnebgbiaaDoor.So
