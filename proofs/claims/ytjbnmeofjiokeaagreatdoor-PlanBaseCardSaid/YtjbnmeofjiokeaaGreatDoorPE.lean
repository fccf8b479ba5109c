/- Databases: how the reference reads one. -/
import Derived.Test.YtjbnmeofjiokeaaGreatDoorPA
import Derived.Test.YtjbnmeofjiokeaaGreatDoorVB
import Derived.Test.YtjbnmeofjiokeaaGreatDoorPD
import Derived.Lib.ItoaMem
set_option linter.all false
namespace Go.Proofs.YtjbnmeofjiokeaaGreatDoor.Ev
open Go.RowKit
open Go.Proofs.YtjbnmeofjiokeaaGreatDoor.Mem
set_option linter.unusedVariables false
set_option linter.unusedSimpArgs false
set_option maxRecDepth 100000
end Go.Proofs.YtjbnmeofjiokeaaGreatDoor.Ev
namespace Go.Proofs.YtjbnmeofjiokeaaGreatDoor.Ev
open Go.RowKit
open Go.Proofs.YtjbnmeofjiokeaaGreatDoor.Mem
set_option linter.unusedVariables false
set_option linter.unusedSimpArgs false
set_option maxRecDepth 100000
open Classical in
theorem ocheck_ok (b : Bas) (hb : b.Big) : Spec Tryz.prog LL 18 [eBas b] (.b (decide (BasOk b))) := by
  refine spec_of (C := ⟨Tryz.prog, LL, EE, []⟩) (rl := [.b (decide (BasOk b))]) (rs := [.tmp 2]) CCx LLs Tryz.func18 rfl (by kernel_rfl) rfl (by kernel_rfl) (Nat.le_of_ble_eq_true rfl) (fun i => rfl) (fun i => by first | rfl | exact (Bool.or_false _).trans (eSd_men _ _)) rfl (by decide) ?_
  refine gb ?_
  have hbd := hb.d
  refine cl (packs_ok b.packs hb.p (fun m hm => (hb.m m hm).1)) ?_
  refine gb ?_
  refine br (fun a => ?_) (fun a => ?_)
  · try refine gb ?_
    have hp : ¬ PkOk b.packs := by simpa using a
    rw [decide_eq_false fun h : BasOk b => hp (bas_pk h)]
  · try refine gb ?_
    have hp : PkOk b.packs := by simpa using a
    have hpo := prog_ok (b := b) hp (sortE_both (entsOf b.packs)).1 (sortE_both (entsOf b.packs)).2
    refine cl (shared_ok b.packs hp.len (pk_ents hp)) ?_
    refine gb ?_
    unfold sharedM at *
    cases hD : sharedF (sortE (entsOf b.packs)) dE [] with
    | none =>
      dsimp only
      have no : ¬ BasOk b := fun h => by
        obtain ⟨D, h1, _⟩ := hpo.1 h
        rw [hD] at h1
        cases h1
      try refine gb ?_
      rw [decide_eq_false no]
    | some D =>
      dsimp only
      rw [hD] at hpo
      try refine gb ?_
      refine br (fun c => ?_) (fun c => ?_)
      · try refine gb ?_
        rw [decide_eq_false fun h : BasOk b => by
          obtain ⟨D', h1, h2, _⟩ := hpo.1 h
          rw [Option.some.injEq] at h1
          subst h1
          omega]
      · try refine gb ?_
        refine lp_hd [3, 28, 29] [] (fun i : Nat => [(30, .n .i64 (i : Int))]) (fun i : Nat => []) (fun i : Nat => i ≤ b.dirs.length ∧ ∀ j, j < i → (b.dirs.getD j dS).path = (D.getD j dS).path ∧ (b.dirs.getD j dS).refs = (D.getD j dS).refs) (fun i : Nat => b.dirs.length - i) (0) id (id) ⟨Nat.zero_le _, fun j h => absurd h (Nat.not_lt_zero _)⟩ (fits_of (gb ?_) (gb ?_) (gb ?_) (gb ?_) (gb ?_)) ?_
        · first | exact True.intro | exact ⟨rfl, rfl⟩ | exact ⟨rfl, rfl, rfl⟩ | rfl | exact rowc (List.map_id _) | trivial
        · first | exact True.intro | exact ⟨rfl, rfl⟩ | exact ⟨rfl, rfl, rfl⟩ | rfl | exact rowc (List.map_id _) | trivial
        · first | exact True.intro | exact ⟨rfl, rfl⟩ | exact ⟨rfl, rfl, rfl⟩ | rfl | exact rowc (List.map_id _) | trivial
        · first | exact True.intro | exact ⟨rfl, rfl⟩ | exact ⟨rfl, rfl, rfl⟩ | rfl | exact rowc (List.map_id _) | trivial
        · first | exact True.intro | exact ⟨rfl, rfl⟩ | exact ⟨rfl, rfl, rfl⟩ | rfl | exact rowc (List.map_id _) | trivial
        rintro i ⟨hi, hr⟩
        try refine gb ?_
        refine br (fun e => ?_) (fun e => ?_)
        · have no : ¬ ((b.dirs.getD i dS).path = (D.getD i dS).path ∧ (b.dirs.getD i dS).refs = (D.getD i dS).refs) → false = decide (BasOk b) := fun h => (decide_eq_false fun hk : BasOk b => by
            obtain ⟨D', h1, h2, h3⟩ := hpo.1 hk
            rw [Option.some.injEq] at h1
            subst h1
            exact h (h3 i (by omega))).symm
          have yes : (b.dirs.getD i dS).path = (D.getD i dS).path → (b.dirs.getD i dS).refs = (D.getD i dS).refs → ∀ j, j < i + 1 → (b.dirs.getD j dS).path = (D.getD j dS).path ∧ (b.dirs.getD j dS).refs = (D.getD j dS).refs := fun h1 h2 j hj => by
            rcases Nat.lt_or_ge j i with h | h
            · exact hr j h
            · rw [show j = i by omega]; exact ⟨h1, h2⟩
          clear hr hpo hD
          repeat' (first | exact True.intro | (exact no (fun h => by simp_all)) | (refine ⟨i + 1, ⟨by omega, yes (by first | assumption | simp_all) (by first | assumption | omega | simp_all)⟩, (by omega), fits_of (gb ?_) (gb ?_) (gb ?_) (gb ?_) (gb ?_)⟩ <;> (first | exact True.intro | exact ⟨rfl, rfl⟩ | exact ⟨rfl, rfl, rfl⟩ | rfl | exact rowc (List.map_id _) | trivial); done) | refine br (fun h => ?_) (fun h => ?_) | refine gb ?_)
        · try refine gb ?_
          rw [decide_eq_true (hpo.2 ⟨D, rfl, by omega, fun j hj => hr j (by omega)⟩)]
theorem flat_len {α : Type} {f : α → List UInt8} {n : Nat} {l : List α} (h : ∀ x ∈ l, (f x).length ≤ n) : (l.flatMap f).length ≤ l.length * n := by
  induction l with
  | nil => simp
  | cons x l ih =>
    have h1 := h x (by simp)
    have h2 := ih fun y hy => h y (by simp [hy])
    rw [List.flatMap_cons, List.length_append, List.length_cons, Nat.add_mul]
    omega
theorem flat_take {α : Type} (f : α → List UInt8) (l : List α) (d : α) (i : Nat) (hi : i < l.length) : (l.take (i + 1)).flatMap f = (l.take i).flatMap f ++ f (l.getD i d) := by
  rw [take_at l i d hi, List.flatMap_append]
  simp
end Go.Proofs.YtjbnmeofjiokeaaGreatDoor.Ev
