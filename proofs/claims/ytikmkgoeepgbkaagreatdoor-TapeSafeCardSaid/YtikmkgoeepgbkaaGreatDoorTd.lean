/- Archives: what a member may be; its blocks. -/
import Derived.Test.YtikmkgoeepgbkaaGreatDoorTc
set_option linter.all false
namespace Go.Proofs.YtikmkgoeepgbkaaGreatDoor.Ev
open Go.RowKit
open Go.Proofs.YtikmkgoeepgbkaaGreatDoor.Mem
set_option linter.unusedVariables false
set_option linter.unusedSimpArgs false
set_option maxRecDepth 100000
/-- Rows are read from here on. -/
theorem wk_fz {J : St → Prop} {σ : St} (ids : List Nat) (hJ : Wk J (σ.fz ids)) : Wk J σ := fun w0 S m a W ⟨G, F, hR⟩ => hJ w0 S m a W ⟨G, _, hR.fz ids⟩
theorem cpP {P : Program} {L : World → Prop} {f d : Nat} {av bs : List V} {r : V} {B B' : List (Nat × Bk)} {σ : St} {k : St → Prop} (ρ ρ' : Nat → Nat) (h : SpecP P L f bs B r B') (hle : leL av (rnL ρ bs)) (h1 : allP (fun p => σ.bk (ρ p.1) = some (rnB ρ p.2)) B) (h2 : allP (fun p => allP (fun q => ρ p.1 = ρ q.1 → p.1 = q.1) B) B)
    (h3 : allP (fun p => bif decide (1000000000 ≤ p.1) then ρ' p.1 = ρ p.1 else σ.al (ρ' p.1) = false ∧ ρ' p.1 < 1000000000) B') (h4 : allP (fun p => allP (fun q => ρ' p.1 = ρ' q.1 → p.1 = q.1) B') B') (hk : k (σ.giv d r B B' ρ ρ')) :
    xCall P L f d av σ k ∨ xCallP P L f d av σ k := by
  refine .inr ⟨bs, B, r, B', ρ, ρ', hle, allP_mem h1, fun p hp q hq => allP_mem (allP_mem h2 p hp) q hq, h, fun p hp => ?_, fun p hp q hq => allP_mem (allP_mem h4 p hp) q hq, hk⟩
  have := allP_mem h3 p hp
  by_cases e : 1000000000 ≤ p.1
  · rw [decide_eq_true e] at this
    rw [if_pos e]
    exact this
  · rw [decide_eq_false e] at this
    rw [if_neg e]
    exact this
def fillN (n : Nat) : Nat := (512 - n % 512) % 512
theorem tmo (a : Nat) : (a : Int).tmod 512 = ((a % 512 : Nat) : Int) := rfl
theorem tfill_ok (n : Nat) (hn : n ≤ 9007199254740992) : Spec Tryz.prog LL 70 [.n .i64 (n : Int)] (.n .i64 (fillN n : Int)) := by
  refine spec_of (C := ⟨Tryz.prog, LL, EE, []⟩) (rl := [.n .i64 (fillN n : Int)]) (rs := [.tmp 2]) CCx LLs Tryz.func70 rfl (by kernel_rfl) rfl (by kernel_rfl) (Nat.le_of_ble_eq_true rfl) (fun i => rfl) (fun i => by first | rfl | exact (Bool.or_false _).trans (eSd_men _ _)) rfl (by decide) ?_
  refine gk ?_
  rw [tmo, show (512 : Int) - ((n % 512 : Nat) : Int) = ((512 - n % 512 : Nat) : Int) by omega, wr64 (by omega) (by omega), tmo]
  rfl
def linkB (k : Int) : Bool := decide (k = 3) || decide (k = 4)
theorem tlink_ok (k : Int) : Spec Tryz.prog LL 19 [.n .i64 k] (.b (linkB k)) := by
  refine spec_of (C := ⟨Tryz.prog, LL, EE, []⟩) (rl := [.b (linkB k)]) (rs := [.tmp 2]) CCx LLs Tryz.func19 rfl (by kernel_rfl) rfl (by kernel_rfl) (Nat.le_of_ble_eq_true rfl) (fun i => rfl) (fun i => by first | rfl | exact (Bool.or_false _).trans (eSd_men _ _)) rfl (by decide) ?_
  refine gk ?_
  unfold linkB
  repeat' (first | exact True.intro | (simp_all; done) | refine br (fun h => ?_) (fun h => ?_) | refine gk ?_)
def tchkM (m : Mbr) : Int :=
  if ¬ (partsM m.path).2 = 0 then (partsM m.path).2 else
  if m.kind < 1 ∨ 4 < m.kind ∨ m.mode < 0 ∨ 4095 < m.mode then 1 else
  if m.uid < 0 ∨ 4294967295 < m.uid ∨ m.gid < 0 ∨ 4294967295 < m.gid ∨ m.time < 0 then 1 else
  if (¬ m.data = [] ∧ ¬ m.kind = 1) ∨ (¬ m.target = [] ∧ linkB m.kind = false) then 1 else
  if m.kind = 3 ∧ tarB m.target = false then 4 else
  if 1048576 < m.data.length then 3 else
  if m.kind = 4 then (partsM m.target).2 else 0
structure Mbr.Big (m : Mbr) : Prop where
  path : m.path.length ≤ 140737488355328
  target : m.target.length ≤ 140737488355328
  data : m.data.length ≤ 140737488355328
set_option maxHeartbeats 4000000 in
theorem tcheck_ok (m : Mbr) (hb : m.Big) : Spec Tryz.prog LL 11 [eMbr m] (.n .i64 (tchkM m)) := by
  refine spec_of (C := ⟨Tryz.prog, LL, EE, [18]⟩) (rl := [.n .i64 (tchkM m)]) (rs := [.tmp 2]) CCx LLs Tryz.func11 rfl (by kernel_rfl) rfl (by kernel_rfl) (Nat.le_of_ble_eq_true rfl) (fun i => rfl) (fun i => by first | rfl | exact (Bool.or_false _).trans (eSd_men _ _)) rfl (by decide) ?_
  refine gk ?_
  refine cl (parts_ok m.path hb.path) ?_
  refine gk ?_
  refine br (fun a => ?_) (fun a => ?_)
  · try refine gk ?_
    rw [tchkM, if_pos a]
  · obtain ⟨r, hr⟩ : ∃ r, r = tchkM m := ⟨_, rfl⟩
    rw [← hr]
    rw [tchkM, if_neg a] at hr
    try refine gk ?_
    refine ct_hd [1] [1] (fun u : Unit => [(4, .n .i64 (partsM m.path).2)]) (fun u : Unit => []) (fun u : Unit => r = (if m.kind = 4 then (partsM m.target).2 else 0)) (gk ?_) ?_
    · refine br (fun b1 => ?_) (fun b1 => ?_)
      · try refine gk ?_
        refine br (fun b2 => ?_) (fun b2 => ?_)
        · rw [if_pos (by omega)] at hr
          repeat' (first | exact True.intro | ((exact hr.symm)) | ((exfalso; omega)) | ((exfalso; simp_all; done)) | refine br (fun h => ?_) (fun h => ?_) | refine gk ?_)
        · try refine gk ?_
          refine br (fun b3 => ?_) (fun b3 => ?_)
          · try refine gk ?_
            refine br (fun b4 => ?_) (fun b4 => ?_)
            · rw [if_pos (by omega)] at hr
              repeat' (first | exact True.intro | ((exact hr.symm)) | ((exfalso; omega)) | ((exfalso; simp_all; done)) | refine br (fun h => ?_) (fun h => ?_) | refine gk ?_)
            · rw [if_neg (by omega)] at hr
              try refine gk ?_
              refine br (fun c1 => ?_) (fun c1 => ?_)
              · try refine gk ?_
                refine br (fun c2 => ?_) (fun c2 => ?_)
                · rw [if_pos (by omega)] at hr
                  repeat' (first | exact True.intro | ((exact hr.symm)) | ((exfalso; omega)) | ((exfalso; simp_all; done)) | refine br (fun h => ?_) (fun h => ?_) | refine gk ?_)
                · try refine gk ?_
                  refine br (fun c3 => ?_) (fun c3 => ?_)
                  · try refine gk ?_
                    refine br (fun c4 => ?_) (fun c4 => ?_)
                    · rw [if_pos (by omega)] at hr
                      repeat' (first | exact True.intro | ((exact hr.symm)) | ((exfalso; omega)) | ((exfalso; simp_all; done)) | refine br (fun h => ?_) (fun h => ?_) | refine gk ?_)
                    · try refine gk ?_
                      refine br (fun c5 => ?_) (fun c5 => ?_)
                      · rw [if_pos (by omega)] at hr
                        repeat' (first | exact True.intro | ((exact hr.symm)) | ((exfalso; omega)) | ((exfalso; simp_all; done)) | refine br (fun h => ?_) (fun h => ?_) | refine gk ?_)
                      · rw [if_neg (by omega)] at hr
                        try refine gk ?_
                        refine br (fun d1 => ?_) (fun d1 => ?_)
                        · try refine gk ?_
                          refine br (fun d2 => ?_) (fun d2 => ?_)
                          · rw [if_pos (.inl ⟨d1, d2⟩)] at hr
                            repeat' (first | exact True.intro | ((exact hr.symm)) | ((exfalso; omega)) | ((exfalso; simp_all; done)) | refine br (fun h => ?_) (fun h => ?_) | refine gk ?_)
                          · try refine gk ?_
                            refine br (fun t1 => ?_) (fun t1 => ?_)
                            · try refine gk ?_
                              refine cl (tlink_ok m.kind) ?_
                              refine gk ?_
                              refine br (fun t2 => ?_) (fun t2 => ?_)
                              · rw [if_pos (.inr ⟨t1, by simpa using t2⟩)] at hr
                                repeat' (first | exact True.intro | ((exact hr.symm)) | ((exfalso; omega)) | ((exfalso; simp_all; done)) | refine br (fun h => ?_) (fun h => ?_) | refine gk ?_)
                              · rw [if_neg (by rintro (h | ⟨_, h⟩); exact (fun h => d2 h.2) h; simp [h] at t2)] at hr
                                try refine gk ?_
                                refine br (fun k1 => ?_) (fun k1 => ?_)
                                · try refine gk ?_
                                  refine cl (tar_ok m.target hb.target) ?_
                                  refine gk ?_
                                  refine br (fun k2 => ?_) (fun k2 => ?_)
                                  · rw [if_pos ⟨k1, by simpa using k2⟩] at hr
                                    repeat' (first | exact True.intro | ((exact hr.symm)) | ((exfalso; omega)) | ((exfalso; simp_all; done)) | refine br (fun h => ?_) (fun h => ?_) | refine gk ?_)
                                  · rw [if_neg (by rintro ⟨_, h⟩; simp [h] at k2)] at hr
                                    try refine gk ?_
                                    refine br (fun k3 => ?_) (fun k3 => ?_)
                                    · rw [if_pos (by omega)] at hr
                                      repeat' (first | exact True.intro | ((exact hr.symm)) | ((exfalso; omega)) | ((exfalso; simp_all; done)) | refine br (fun h => ?_) (fun h => ?_) | refine gk ?_)
                                    · rw [if_neg (by omega)] at hr
                                      try refine gk ?_
                                      refine wk_fit (()) (id) (hr) (fits_of (gk ?_) (gk ?_) (gk ?_) (gk ?_) (gk ?_))
                                      · first | exact True.intro | exact ⟨rfl, rfl⟩ | exact ⟨rfl, rfl, rfl⟩ | rfl | exact rowc (List.map_id _) | trivial
                                      · first | exact True.intro | exact ⟨rfl, rfl⟩ | exact ⟨rfl, rfl, rfl⟩ | rfl | exact rowc (List.map_id _) | trivial
                                      · first | exact True.intro | exact ⟨rfl, rfl⟩ | exact ⟨rfl, rfl, rfl⟩ | rfl | exact rowc (List.map_id _) | trivial
                                      · first | exact True.intro | exact ⟨rfl, rfl⟩ | exact ⟨rfl, rfl, rfl⟩ | rfl | exact rowc (List.map_id _) | trivial
                                      · first | exact True.intro | exact ⟨rfl, rfl⟩ | exact ⟨rfl, rfl, rfl⟩ | rfl | exact rowc (List.map_id _) | trivial
                                · rw [if_neg (by rintro ⟨h, _⟩; exact k1 h)] at hr
                                  try refine gk ?_
                                  refine br (fun k3 => ?_) (fun k3 => ?_)
                                  · rw [if_pos (by omega)] at hr
                                    repeat' (first | exact True.intro | ((exact hr.symm)) | ((exfalso; omega)) | ((exfalso; simp_all; done)) | refine br (fun h => ?_) (fun h => ?_) | refine gk ?_)
                                  · rw [if_neg (by omega)] at hr
                                    try refine gk ?_
                                    refine wk_fit (()) (id) (hr) (fits_of (gk ?_) (gk ?_) (gk ?_) (gk ?_) (gk ?_))
                                    · first | exact True.intro | exact ⟨rfl, rfl⟩ | exact ⟨rfl, rfl, rfl⟩ | rfl | exact rowc (List.map_id _) | trivial
                                    · first | exact True.intro | exact ⟨rfl, rfl⟩ | exact ⟨rfl, rfl, rfl⟩ | rfl | exact rowc (List.map_id _) | trivial
                                    · first | exact True.intro | exact ⟨rfl, rfl⟩ | exact ⟨rfl, rfl, rfl⟩ | rfl | exact rowc (List.map_id _) | trivial
                                    · first | exact True.intro | exact ⟨rfl, rfl⟩ | exact ⟨rfl, rfl, rfl⟩ | rfl | exact rowc (List.map_id _) | trivial
                                    · first | exact True.intro | exact ⟨rfl, rfl⟩ | exact ⟨rfl, rfl, rfl⟩ | rfl | exact rowc (List.map_id _) | trivial
                            · rw [if_neg (by rintro (h | ⟨h, _⟩); exact (fun h => d2 h.2) h; exact t1 h)] at hr
                              try refine gk ?_
                              refine br (fun k1 => ?_) (fun k1 => ?_)
                              · try refine gk ?_
                                refine cl (tar_ok m.target hb.target) ?_
                                refine gk ?_
                                refine br (fun k2 => ?_) (fun k2 => ?_)
                                · rw [if_pos ⟨k1, by simpa using k2⟩] at hr
                                  repeat' (first | exact True.intro | ((exact hr.symm)) | ((exfalso; omega)) | ((exfalso; simp_all; done)) | refine br (fun h => ?_) (fun h => ?_) | refine gk ?_)
                                · rw [if_neg (by rintro ⟨_, h⟩; simp [h] at k2)] at hr
                                  try refine gk ?_
                                  refine br (fun k3 => ?_) (fun k3 => ?_)
                                  · rw [if_pos (by omega)] at hr
                                    repeat' (first | exact True.intro | ((exact hr.symm)) | ((exfalso; omega)) | ((exfalso; simp_all; done)) | refine br (fun h => ?_) (fun h => ?_) | refine gk ?_)
                                  · rw [if_neg (by omega)] at hr
                                    try refine gk ?_
                                    refine wk_fit (()) (id) (hr) (fits_of (gk ?_) (gk ?_) (gk ?_) (gk ?_) (gk ?_))
                                    · first | exact True.intro | exact ⟨rfl, rfl⟩ | exact ⟨rfl, rfl, rfl⟩ | rfl | exact rowc (List.map_id _) | trivial
                                    · first | exact True.intro | exact ⟨rfl, rfl⟩ | exact ⟨rfl, rfl, rfl⟩ | rfl | exact rowc (List.map_id _) | trivial
                                    · first | exact True.intro | exact ⟨rfl, rfl⟩ | exact ⟨rfl, rfl, rfl⟩ | rfl | exact rowc (List.map_id _) | trivial
                                    · first | exact True.intro | exact ⟨rfl, rfl⟩ | exact ⟨rfl, rfl, rfl⟩ | rfl | exact rowc (List.map_id _) | trivial
                                    · first | exact True.intro | exact ⟨rfl, rfl⟩ | exact ⟨rfl, rfl, rfl⟩ | rfl | exact rowc (List.map_id _) | trivial
                              · rw [if_neg (by rintro ⟨h, _⟩; exact k1 h)] at hr
                                try refine gk ?_
                                refine br (fun k3 => ?_) (fun k3 => ?_)
                                · rw [if_pos (by omega)] at hr
                                  repeat' (first | exact True.intro | ((exact hr.symm)) | ((exfalso; omega)) | ((exfalso; simp_all; done)) | refine br (fun h => ?_) (fun h => ?_) | refine gk ?_)
                                · rw [if_neg (by omega)] at hr
                                  try refine gk ?_
                                  refine wk_fit (()) (id) (hr) (fits_of (gk ?_) (gk ?_) (gk ?_) (gk ?_) (gk ?_))
                                  · first | exact True.intro | exact ⟨rfl, rfl⟩ | exact ⟨rfl, rfl, rfl⟩ | rfl | exact rowc (List.map_id _) | trivial
                                  · first | exact True.intro | exact ⟨rfl, rfl⟩ | exact ⟨rfl, rfl, rfl⟩ | rfl | exact rowc (List.map_id _) | trivial
                                  · first | exact True.intro | exact ⟨rfl, rfl⟩ | exact ⟨rfl, rfl, rfl⟩ | rfl | exact rowc (List.map_id _) | trivial
                                  · first | exact True.intro | exact ⟨rfl, rfl⟩ | exact ⟨rfl, rfl, rfl⟩ | rfl | exact rowc (List.map_id _) | trivial
                                  · first | exact True.intro | exact ⟨rfl, rfl⟩ | exact ⟨rfl, rfl, rfl⟩ | rfl | exact rowc (List.map_id _) | trivial
                        · try refine gk ?_
                          refine br (fun t1 => ?_) (fun t1 => ?_)
                          · try refine gk ?_
                            refine cl (tlink_ok m.kind) ?_
                            refine gk ?_
                            refine br (fun t2 => ?_) (fun t2 => ?_)
                            · rw [if_pos (.inr ⟨t1, by simpa using t2⟩)] at hr
                              repeat' (first | exact True.intro | ((exact hr.symm)) | ((exfalso; omega)) | ((exfalso; simp_all; done)) | refine br (fun h => ?_) (fun h => ?_) | refine gk ?_)
                            · rw [if_neg (by rintro (h | ⟨_, h⟩); exact (fun h => d1 h.1) h; simp [h] at t2)] at hr
                              try refine gk ?_
                              refine br (fun k1 => ?_) (fun k1 => ?_)
                              · try refine gk ?_
                                refine cl (tar_ok m.target hb.target) ?_
                                refine gk ?_
                                refine br (fun k2 => ?_) (fun k2 => ?_)
                                · rw [if_pos ⟨k1, by simpa using k2⟩] at hr
                                  repeat' (first | exact True.intro | ((exact hr.symm)) | ((exfalso; omega)) | ((exfalso; simp_all; done)) | refine br (fun h => ?_) (fun h => ?_) | refine gk ?_)
                                · rw [if_neg (by rintro ⟨_, h⟩; simp [h] at k2)] at hr
                                  try refine gk ?_
                                  refine br (fun k3 => ?_) (fun k3 => ?_)
                                  · rw [if_pos (by omega)] at hr
                                    repeat' (first | exact True.intro | ((exact hr.symm)) | ((exfalso; omega)) | ((exfalso; simp_all; done)) | refine br (fun h => ?_) (fun h => ?_) | refine gk ?_)
                                  · rw [if_neg (by omega)] at hr
                                    try refine gk ?_
                                    refine wk_fit (()) (id) (hr) (fits_of (gk ?_) (gk ?_) (gk ?_) (gk ?_) (gk ?_))
                                    · first | exact True.intro | exact ⟨rfl, rfl⟩ | exact ⟨rfl, rfl, rfl⟩ | rfl | exact rowc (List.map_id _) | trivial
                                    · first | exact True.intro | exact ⟨rfl, rfl⟩ | exact ⟨rfl, rfl, rfl⟩ | rfl | exact rowc (List.map_id _) | trivial
                                    · first | exact True.intro | exact ⟨rfl, rfl⟩ | exact ⟨rfl, rfl, rfl⟩ | rfl | exact rowc (List.map_id _) | trivial
                                    · first | exact True.intro | exact ⟨rfl, rfl⟩ | exact ⟨rfl, rfl, rfl⟩ | rfl | exact rowc (List.map_id _) | trivial
                                    · first | exact True.intro | exact ⟨rfl, rfl⟩ | exact ⟨rfl, rfl, rfl⟩ | rfl | exact rowc (List.map_id _) | trivial
                              · rw [if_neg (by rintro ⟨h, _⟩; exact k1 h)] at hr
                                try refine gk ?_
                                refine br (fun k3 => ?_) (fun k3 => ?_)
                                · rw [if_pos (by omega)] at hr
                                  repeat' (first | exact True.intro | ((exact hr.symm)) | ((exfalso; omega)) | ((exfalso; simp_all; done)) | refine br (fun h => ?_) (fun h => ?_) | refine gk ?_)
                                · rw [if_neg (by omega)] at hr
                                  try refine gk ?_
                                  refine wk_fit (()) (id) (hr) (fits_of (gk ?_) (gk ?_) (gk ?_) (gk ?_) (gk ?_))
                                  · first | exact True.intro | exact ⟨rfl, rfl⟩ | exact ⟨rfl, rfl, rfl⟩ | rfl | exact rowc (List.map_id _) | trivial
                                  · first | exact True.intro | exact ⟨rfl, rfl⟩ | exact ⟨rfl, rfl, rfl⟩ | rfl | exact rowc (List.map_id _) | trivial
                                  · first | exact True.intro | exact ⟨rfl, rfl⟩ | exact ⟨rfl, rfl, rfl⟩ | rfl | exact rowc (List.map_id _) | trivial
                                  · first | exact True.intro | exact ⟨rfl, rfl⟩ | exact ⟨rfl, rfl, rfl⟩ | rfl | exact rowc (List.map_id _) | trivial
                                  · first | exact True.intro | exact ⟨rfl, rfl⟩ | exact ⟨rfl, rfl, rfl⟩ | rfl | exact rowc (List.map_id _) | trivial
                          · rw [if_neg (by rintro (h | ⟨h, _⟩); exact (fun h => d1 h.1) h; exact t1 h)] at hr
                            try refine gk ?_
                            refine br (fun k1 => ?_) (fun k1 => ?_)
                            · try refine gk ?_
                              refine cl (tar_ok m.target hb.target) ?_
                              refine gk ?_
                              refine br (fun k2 => ?_) (fun k2 => ?_)
                              · rw [if_pos ⟨k1, by simpa using k2⟩] at hr
                                repeat' (first | exact True.intro | ((exact hr.symm)) | ((exfalso; omega)) | ((exfalso; simp_all; done)) | refine br (fun h => ?_) (fun h => ?_) | refine gk ?_)
                              · rw [if_neg (by rintro ⟨_, h⟩; simp [h] at k2)] at hr
                                try refine gk ?_
                                refine br (fun k3 => ?_) (fun k3 => ?_)
                                · rw [if_pos (by omega)] at hr
                                  repeat' (first | exact True.intro | ((exact hr.symm)) | ((exfalso; omega)) | ((exfalso; simp_all; done)) | refine br (fun h => ?_) (fun h => ?_) | refine gk ?_)
                                · rw [if_neg (by omega)] at hr
                                  try refine gk ?_
                                  refine wk_fit (()) (id) (hr) (fits_of (gk ?_) (gk ?_) (gk ?_) (gk ?_) (gk ?_))
                                  · first | exact True.intro | exact ⟨rfl, rfl⟩ | exact ⟨rfl, rfl, rfl⟩ | rfl | exact rowc (List.map_id _) | trivial
                                  · first | exact True.intro | exact ⟨rfl, rfl⟩ | exact ⟨rfl, rfl, rfl⟩ | rfl | exact rowc (List.map_id _) | trivial
                                  · first | exact True.intro | exact ⟨rfl, rfl⟩ | exact ⟨rfl, rfl, rfl⟩ | rfl | exact rowc (List.map_id _) | trivial
                                  · first | exact True.intro | exact ⟨rfl, rfl⟩ | exact ⟨rfl, rfl, rfl⟩ | rfl | exact rowc (List.map_id _) | trivial
                                  · first | exact True.intro | exact ⟨rfl, rfl⟩ | exact ⟨rfl, rfl, rfl⟩ | rfl | exact rowc (List.map_id _) | trivial
                            · rw [if_neg (by rintro ⟨h, _⟩; exact k1 h)] at hr
                              try refine gk ?_
                              refine br (fun k3 => ?_) (fun k3 => ?_)
                              · rw [if_pos (by omega)] at hr
                                repeat' (first | exact True.intro | ((exact hr.symm)) | ((exfalso; omega)) | ((exfalso; simp_all; done)) | refine br (fun h => ?_) (fun h => ?_) | refine gk ?_)
                              · rw [if_neg (by omega)] at hr
                                try refine gk ?_
                                refine wk_fit (()) (id) (hr) (fits_of (gk ?_) (gk ?_) (gk ?_) (gk ?_) (gk ?_))
                                · first | exact True.intro | exact ⟨rfl, rfl⟩ | exact ⟨rfl, rfl, rfl⟩ | rfl | exact rowc (List.map_id _) | trivial
                                · first | exact True.intro | exact ⟨rfl, rfl⟩ | exact ⟨rfl, rfl, rfl⟩ | rfl | exact rowc (List.map_id _) | trivial
                                · first | exact True.intro | exact ⟨rfl, rfl⟩ | exact ⟨rfl, rfl, rfl⟩ | rfl | exact rowc (List.map_id _) | trivial
                                · first | exact True.intro | exact ⟨rfl, rfl⟩ | exact ⟨rfl, rfl, rfl⟩ | rfl | exact rowc (List.map_id _) | trivial
                                · first | exact True.intro | exact ⟨rfl, rfl⟩ | exact ⟨rfl, rfl, rfl⟩ | rfl | exact rowc (List.map_id _) | trivial
                  · rw [if_pos (by omega)] at hr
                    repeat' (first | exact True.intro | ((exact hr.symm)) | ((exfalso; omega)) | ((exfalso; simp_all; done)) | refine br (fun h => ?_) (fun h => ?_) | refine gk ?_)
              · rw [if_pos (by omega)] at hr
                repeat' (first | exact True.intro | ((exact hr.symm)) | ((exfalso; omega)) | ((exfalso; simp_all; done)) | refine br (fun h => ?_) (fun h => ?_) | refine gk ?_)
          · rw [if_pos (by omega)] at hr
            repeat' (first | exact True.intro | ((exact hr.symm)) | ((exfalso; omega)) | ((exfalso; simp_all; done)) | refine br (fun h => ?_) (fun h => ?_) | refine gk ?_)
      · rw [if_pos (by omega)] at hr
        repeat' (first | exact True.intro | ((exact hr.symm)) | ((exfalso; omega)) | ((exfalso; simp_all; done)) | refine br (fun h => ?_) (fun h => ?_) | refine gk ?_)
    · rintro u hr
      try refine gk ?_
      refine br (fun k => ?_) (fun k => ?_)
      · rw [if_pos k] at hr
        try refine gk ?_
        refine cl (parts_ok m.target hb.target) ?_
        refine gk ?_
        trivial
      · rw [if_neg k] at hr
        try refine gk ?_
        trivial
end Go.Proofs.YtikmkgoeepgbkaaGreatDoor.Ev
