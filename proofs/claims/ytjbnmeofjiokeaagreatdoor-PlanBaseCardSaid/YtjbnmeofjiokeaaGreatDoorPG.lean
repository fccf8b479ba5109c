/- Databases: a package less; the first package. -/
import Derived.Test.YtjbnmeofjiokeaaGreatDoorPF
import Derived.Test.YtjbnmeofjiokeaaGreatDoorQA
set_option linter.all false
namespace Go.Proofs.YtjbnmeofjiokeaaGreatDoor.Ev
open Go.RowKit
open Go.Proofs.YtjbnmeofjiokeaaGreatDoor.Mem
set_option linter.unusedVariables false
set_option linter.unusedSimpArgs false
set_option maxRecDepth 100000
theorem all_nil  : Spec Tryz.prog LL 41 [.nl] (.nl) := by
  refine spec_of (C := ⟨Tryz.prog, LL, EE, []⟩) (rl := [.nl]) (rs := [.tmp 2]) CCx LLs Tryz.func41 rfl (by kernel_rfl) rfl (by kernel_rfl) (Nat.le_of_ble_eq_true rfl) (fun i => rfl) (fun i => by first | rfl | exact (Bool.or_false _).trans (eSd_men _ _)) rfl (by decide) ?_
  refine gb ?_
  refine lp_hd [6, 7] [] (fun i : Nat => [(3, .nl), (8, .n .i64 (i : Int))]) (fun i : Nat => []) (fun i : Nat => i = 0) (fun i : Nat => 0 - i) (0) id (id) rfl (fits_of (gb ?_) (gb ?_) (gb ?_) (gb ?_) (gb ?_)) ?_
  · first | exact True.intro | exact ⟨rfl, rfl⟩ | exact ⟨rfl, rfl, rfl⟩ | rfl | exact rowc (List.map_id _) | trivial
  · first | exact True.intro | exact ⟨rfl, rfl⟩ | exact ⟨rfl, rfl, rfl⟩ | rfl | exact rowc (List.map_id _) | trivial
  · first | exact True.intro | exact ⟨rfl, rfl⟩ | exact ⟨rfl, rfl, rfl⟩ | rfl | exact rowc (List.map_id _) | trivial
  · first | exact True.intro | exact ⟨rfl, rfl⟩ | exact ⟨rfl, rfl, rfl⟩ | rfl | exact rowc (List.map_id _) | trivial
  · first | exact True.intro | exact ⟨rfl, rfl⟩ | exact ⟨rfl, rfl, rfl⟩ | rfl | exact rowc (List.map_id _) | trivial
  rintro i rfl
  try refine gb ?_
  repeat' (first | exact True.intro | (exfalso; omega) | (trivial) | refine br (fun h => ?_) (fun h => ?_) | refine gb ?_)
theorem join_nil (w : List UInt8) (mk : Bool) : Spec Tryz.prog LL 43 [.nl, .s w, .b mk] (.sl 3 Shr dS [⟨w, 1, mk⟩] eShr) := by
  refine spec_of (C := ⟨Tryz.prog, LL, EE, []⟩) (rl := [.sl 3 Shr dS [⟨w, 1, mk⟩] eShr]) (rs := [.tmp 6]) CCx LLs Tryz.func43 rfl (by kernel_rfl) rfl (by kernel_rfl) (Nat.le_of_ble_eq_true rfl) (fun i => rfl) (fun i => by first | rfl | exact (Bool.or_false _).trans (eSd_men _ _)) rfl (by decide) ?_
  refine gb ?_
  refine lp_hd [0, 1, 2, 10] [] (fun i : Nat => [(11, .n .i64 (i : Int))]) (fun i : Nat => []) (fun i : Nat => i = 0) (fun i : Nat => 0 - i) (0) id (id) rfl (fits_of (gb ?_) (gb ?_) (gb ?_) (gb ?_) (gb ?_)) ?_
  · first | exact True.intro | exact ⟨rfl, rfl⟩ | exact ⟨rfl, rfl, rfl⟩ | rfl | exact rowc (List.map_id _) | trivial
  · first | exact True.intro | exact ⟨rfl, rfl⟩ | exact ⟨rfl, rfl, rfl⟩ | rfl | exact rowc (List.map_id _) | trivial
  · first | exact True.intro | exact ⟨rfl, rfl⟩ | exact ⟨rfl, rfl, rfl⟩ | rfl | exact rowc (List.map_id _) | trivial
  · first | exact True.intro | exact ⟨rfl, rfl⟩ | exact ⟨rfl, rfl, rfl⟩ | rfl | exact rowc (List.map_id _) | trivial
  · first | exact True.intro | exact ⟨rfl, rfl⟩ | exact ⟨rfl, rfl, rfl⟩ | rfl | exact rowc (List.map_id _) | trivial
  rintro i rfl
  try refine gb ?_
  refine br (fun a => ?_) (fun a => ?_)
  · exfalso; omega
  · try refine gb ?_
    refine lp_hd [0, 1, 2] [] (fun i : Nat => [(8, .n .i64 (i : Int))]) (fun i : Nat => []) (fun i : Nat => i = 0) (fun i : Nat => 0 - i) (0) id (id) rfl (fits_of (gb ?_) (gb ?_) (gb ?_) (gb ?_) (gb ?_)) ?_
    · first | exact True.intro | exact ⟨rfl, rfl⟩ | exact ⟨rfl, rfl, rfl⟩ | rfl | exact rowc (List.map_id _) | trivial
    · first | exact True.intro | exact ⟨rfl, rfl⟩ | exact ⟨rfl, rfl, rfl⟩ | rfl | exact rowc (List.map_id _) | trivial
    · first | exact True.intro | exact ⟨rfl, rfl⟩ | exact ⟨rfl, rfl, rfl⟩ | rfl | exact rowc (List.map_id _) | trivial
    · first | exact True.intro | exact ⟨rfl, rfl⟩ | exact ⟨rfl, rfl, rfl⟩ | rfl | exact rowc (List.map_id _) | trivial
    · first | exact True.intro | exact ⟨rfl, rfl⟩ | exact ⟨rfl, rfl, rfl⟩ | rfl | exact rowc (List.map_id _) | trivial
    rintro i rfl
    try refine gb ?_
    refine br (fun b => ?_) (fun b => ?_)
    · exfalso; omega
    · try refine gb ?_
      refine .inr ?_
      try refine gb ?_
      refine cl (insS_nil ⟨w, 1, mk⟩) ?_
      refine gb ?_
      trivial
/-- The document's first package, and its database. -/
def m0 : Man := ⟨[97], [49], [], [], [⟨2, 493, [], [120], []⟩, ⟨3, 0, [], [120, 47, 121], [122]⟩]⟩
def b0 : Bas := ⟨[m0], [⟨[120], 1, true⟩]⟩
theorem m0_ok : checkM m0 = 0 := by decide +kernel
theorem b0_ok : BasOk b0 := by
  refine ⟨by decide, ?_, ?_, ?_, ?_, ?_, ?_⟩
  · intro m hm
    have : m = m0 := by simpa [b0] using hm
    rw [this]; exact m0_ok
  · exact List.pairwise_singleton _ _
  · show List.Pairwise both2 [⟨2, 493, [], [120], []⟩, ⟨3, 0, [], [120, 47, 121], [122]⟩]
    refine List.Pairwise.cons (fun x hx => ?_) (List.pairwise_singleton _ _)
    rw [List.mem_singleton] at hx
    subst hx
    intro e
    exact absurd e (by decide)
  · exact List.pairwise_singleton _ _
  · intro d hd
    have : d = ⟨[120], 1, true⟩ := by simpa [b0] using hd
    subst this
    exact ⟨by decide, by decide⟩
  · intro x hx hk
    have hx : x ∈ [(⟨2, 493, [], [120], []⟩ : Ent), ⟨3, 0, [], [120, 47, 121], [122]⟩] := hx
    simp only [List.mem_cons, List.not_mem_nil, or_false] at hx
    rcases hx with rfl | rfl
    · exact ⟨⟨[120], 1, true⟩, by simp [b0], rfl⟩
    · cases hk
theorem m0_fb : m0.Fit ∧ m0.Big := (ManOk.of m0_ok).fb
theorem b0_big : b0.Big := ⟨by decide, by decide, fun m hm => by
  have : m = m0 := by simpa [b0] using hm
  rw [this]; exact m0_fb, fun x hx => by
  have : x = ⟨[120], 1, true⟩ := by simpa [b0] using hx
  subst this; decide⟩
end Go.Proofs.YtjbnmeofjiokeaaGreatDoor.Ev
