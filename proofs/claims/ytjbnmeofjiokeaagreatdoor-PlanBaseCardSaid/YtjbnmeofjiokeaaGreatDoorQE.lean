/- Plans: what comes and is no directory. -/
import Derived.Test.YtjbnmeofjiokeaaGreatDoorQD
set_option linter.all false
namespace Go.Proofs.YtjbnmeofjiokeaaGreatDoor.Ev
open Go.RowKit
open Go.Proofs.YtjbnmeofjiokeaaGreatDoor.Mem
set_option linter.unusedVariables false
set_option linter.unusedSimpArgs false
set_option maxRecDepth 100000
theorem atM_mem {l : List Stt} {w : List UInt8} (h : (atM l w).2 = true) : (atM l w).1 ∈ l ∧ (atM l w).1.path = w := by
  induction l with
  | nil => simp [atM] at h
  | cons s r ih =>
    unfold atM at h ⊢
    split at h
    · rename_i e; rw [if_pos e]; exact ⟨by simp, e⟩
    · rename_i e; rw [if_neg e]; obtain ⟨h1, h2⟩ := ih h; exact ⟨by simp [h1], h2⟩
set_option maxHeartbeats 4000000 in
theorem pthing_ok (q : Mak) (s : List Stp) (md : List (List UInt8)) (x : Ent) (m : Mbr) (hq : q.Big) (hx : x.path.length ≤ 140737488355328) (hl : s.length ≤ 900000) : SpecP Tryz.prog LL 39 [.p 1000000000 0, eEnt x, eMbr m] [(1000000000, bkQ q 0 s.length 1 md.length), (0, rP s), (1, rS md)] (.n .i64 (pthingM q x m s).1) [(1000000000, bkQ q 0 (pthingM q x m s).2.length 1 md.length), (0, rP (pthingM q x m s).2), (1, rS md)] := by
  refine spec_ofP' (C := ⟨Tryz.prog, LL, EE, []⟩) (rl := [.n .i64 (pthingM q x m s).1]) (rs := [.tmp 6]) CCx LLs Tryz.func39 rfl (by kernel_rfl) rfl (by kernel_rfl) (Nat.le_of_ble_eq_true rfl) rfl rfl rfl rfl rfl rfl rfl rfl (by decide) ?_
  refine gp ?_
  have hqb := hq.b
  have hqt := hq.t
  have hqo := hq.o
  have htd := hq.td
  obtain ⟨r, hr⟩ : ∃ r, r = pthingM q x m s := ⟨_, rfl⟩
  rw [← hr]
  unfold pthingM at hr
  refine cd (has_ok q.old x.path hqo) ?_
  refine gp ?_
  generalize hasM q.old.ents x.path = h at hr ⊢
  obtain ⟨h1, h2⟩ := h
  refine cd (owner_ok q.base x.path hqb) ?_
  refine gp ?_
  generalize ownM q.base.packs x.path = o at hr ⊢
  obtain ⟨o1, o2⟩ := o
  refine cd (at_ok q.tree x.path hqt) ?_
  refine gp ?_
  have ht0 : (atM q.tree x.path).2 = true → (atM q.tree x.path).1.data.length ≤ 140737488355328 := fun h => htd _ (atM_mem h).1
  generalize atM q.tree x.path = t at hr ht0 ⊢
  obtain ⟨t1, t2⟩ := t
  dsimp only at hr ht0 ⊢
  cases o2 with
  | true =>
    try refine gp ?_
    refine br (fun k1 => ?_) (fun k1 => ?_)
    · rw [if_pos ⟨rfl, k1⟩] at hr
      subst hr
      try refine gp ?_
      refine outP [] (id) (gp ?_) (gp ?_) (gp ?_)
      all_goals trivial
    · rw [if_neg (fun h => k1 h.2)] at hr
      try refine gp ?_
      cases h2 with
      | true =>
        try refine gp ?_
        refine br (fun k2 => ?_) (fun k2 => ?_)
        · rw [if_pos ⟨rfl, k2⟩] at hr
          subst hr
          try refine gp ?_
          refine outP [] (id) (gp ?_) (gp ?_) (gp ?_)
          all_goals trivial
        · rw [if_neg (fun h => k2 h.2)] at hr
          try refine gp ?_
          refine cd (pshared_ok q.base x.path hqb) ?_
          refine gp ?_
          generalize dirIx q.base.dirs x.path = di at hr ⊢
          cases di with
          | true =>
            rw [if_pos rfl] at hr
            subst hr
            try refine gp ?_
            refine outP [] (id) (gp ?_) (gp ?_) (gp ?_)
            all_goals trivial
          | false =>
            rw [if_neg (by simp)] at hr
            try refine gp ?_
            cases t2 with
            | false =>
              rw [if_pos (by simp)] at hr
              subst hr
              try refine gp ?_
              refine cp (fun i => i) (fun i => if i = 0 then 130 else if i = 1 then 131 else i) (pbring_ok q s md x.path x m (by omega)) (gp ?_) (gp ?_) (gp ?_) (gp ?_) (gp ?_) ?_
              · first | trivial | exact ⟨rfl, rfl⟩ | exact ⟨rfl, rfl, rfl⟩ | exact le_refl _
              · first | trivial | exact ⟨rfl, rfl⟩ | exact ⟨rfl, rfl, rfl⟩ | exact le_refl _
              · first | trivial | exact ⟨rfl, rfl⟩ | exact ⟨rfl, rfl, rfl⟩ | exact le_refl _
              · first | trivial | exact ⟨rfl, rfl⟩ | exact ⟨rfl, rfl, rfl⟩ | exact le_refl _
              · first | trivial | exact ⟨rfl, rfl⟩ | exact ⟨rfl, rfl, rfl⟩ | exact le_refl _
              refine gp ?_
              refine outP [] (fun i => if i = 0 then 130 else if i = 1 then 131 else i) (gp ?_) (gp ?_) (gp ?_)
              all_goals trivial
            | true =>
              rw [if_neg (by simp), if_neg (by simp)] at hr
              try refine gp ?_
              refine br (fun k4 => ?_) (fun k4 => ?_)
              · rw [if_pos k4] at hr
                subst hr
                try refine gp ?_
                refine outP [] (id) (gp ?_) (gp ?_) (gp ?_)
                all_goals trivial
              · rw [if_neg k4] at hr
                try refine gp ?_
                refine br (fun a5 => ?_) (fun a5 => ?_)
                · try refine gp ?_
                  refine br (fun b5 => ?_) (fun b5 => ?_)
                  · try refine gp ?_
                    refine br (fun c1 => ?_) (fun c1 => ?_)
                    · rw [if_pos ⟨a5, b5, c1⟩] at hr
                      try refine gp ?_
                      refine cp (fun i => i) (fun i => if i = 0 then 130 else if i = 1 then 131 else i) (pconf_ok q s md h1 t1 x m hq hx (ht0 rfl) hl) (gp ?_) (gp ?_) (gp ?_) (gp ?_) (gp ?_) ?_
                      · first | trivial | exact ⟨rfl, rfl⟩ | exact ⟨rfl, rfl, rfl⟩ | exact le_refl _
                      · first | trivial | exact ⟨rfl, rfl⟩ | exact ⟨rfl, rfl, rfl⟩ | exact le_refl _
                      · first | trivial | exact ⟨rfl, rfl⟩ | exact ⟨rfl, rfl, rfl⟩ | exact le_refl _
                      · first | trivial | exact ⟨rfl, rfl⟩ | exact ⟨rfl, rfl, rfl⟩ | exact le_refl _
                      · first | trivial | exact ⟨rfl, rfl⟩ | exact ⟨rfl, rfl, rfl⟩ | exact le_refl _
                      refine gp ?_
                      rw [hr]
                      refine outP [] (fun i => if i = 0 then 130 else if i = 1 then 131 else i) (gp ?_) (gp ?_) (gp ?_)
                      all_goals trivial
                    · rw [if_neg (fun h => c1 h.2.2)] at hr
                      try refine gp ?_
                      refine br (fun l1 => ?_) (fun l1 => ?_)
                      · try refine gp ?_
                        refine br (fun l2 => ?_) (fun l2 => ?_)
                        · rw [if_pos (.inr l2)] at hr
                          subst hr
                          try refine gp ?_
                          refine cp (fun i => i) (fun i => if i = 0 then 132 else if i = 1 then 133 else i) (pcut_ok q s md x.path (by omega)) (gp ?_) (gp ?_) (gp ?_) (gp ?_) (gp ?_) ?_
                          · first | trivial | exact ⟨rfl, rfl⟩ | exact ⟨rfl, rfl, rfl⟩ | exact le_refl _
                          · first | trivial | exact ⟨rfl, rfl⟩ | exact ⟨rfl, rfl, rfl⟩ | exact le_refl _
                          · first | trivial | exact ⟨rfl, rfl⟩ | exact ⟨rfl, rfl, rfl⟩ | exact le_refl _
                          · first | trivial | exact ⟨rfl, rfl⟩ | exact ⟨rfl, rfl, rfl⟩ | exact le_refl _
                          · first | trivial | exact ⟨rfl, rfl⟩ | exact ⟨rfl, rfl, rfl⟩ | exact le_refl _
                          refine gp ?_
                          refine cp (fun i => if i = 0 then 132 else if i = 1 then 133 else i) (fun i => if i = 0 then 130 else if i = 1 then 131 else i) (pbring_ok q (s ++ [cutS x.path]) md x.path x m (by simp; omega)) (gp ?_) (gp ?_) (gp ?_) (gp ?_) (gp ?_) ?_
                          · first | trivial | exact ⟨rfl, rfl⟩ | exact ⟨rfl, rfl, rfl⟩ | exact le_refl _
                          · first | trivial | exact ⟨rfl, rfl⟩ | exact ⟨rfl, rfl, rfl⟩ | exact le_refl _
                          · first | trivial | exact ⟨rfl, rfl⟩ | exact ⟨rfl, rfl, rfl⟩ | exact le_refl _
                          · first | trivial | exact ⟨rfl, rfl⟩ | exact ⟨rfl, rfl, rfl⟩ | exact le_refl _
                          · first | trivial | exact ⟨rfl, rfl⟩ | exact ⟨rfl, rfl, rfl⟩ | exact le_refl _
                          refine gp ?_
                          refine outP [] (fun i => if i = 0 then 130 else if i = 1 then 131 else i) (gp ?_) (gp ?_) (gp ?_)
                          all_goals trivial
                        · rw [if_neg (fun h => h.elim l1 l2)] at hr
                          subst hr
                          try refine gp ?_
                          refine cp (fun i => i) (fun i => if i = 0 then 130 else if i = 1 then 131 else i) (pbring_ok q s md x.path x m (by omega)) (gp ?_) (gp ?_) (gp ?_) (gp ?_) (gp ?_) ?_
                          · first | trivial | exact ⟨rfl, rfl⟩ | exact ⟨rfl, rfl, rfl⟩ | exact le_refl _
                          · first | trivial | exact ⟨rfl, rfl⟩ | exact ⟨rfl, rfl, rfl⟩ | exact le_refl _
                          · first | trivial | exact ⟨rfl, rfl⟩ | exact ⟨rfl, rfl, rfl⟩ | exact le_refl _
                          · first | trivial | exact ⟨rfl, rfl⟩ | exact ⟨rfl, rfl, rfl⟩ | exact le_refl _
                          · first | trivial | exact ⟨rfl, rfl⟩ | exact ⟨rfl, rfl, rfl⟩ | exact le_refl _
                          refine gp ?_
                          refine outP [] (fun i => if i = 0 then 130 else if i = 1 then 131 else i) (gp ?_) (gp ?_) (gp ?_)
                          all_goals trivial
                      · rw [if_pos (.inl (Decidable.not_not.1 l1))] at hr
                        subst hr
                        try refine gp ?_
                        refine cp (fun i => i) (fun i => if i = 0 then 132 else if i = 1 then 133 else i) (pcut_ok q s md x.path (by omega)) (gp ?_) (gp ?_) (gp ?_) (gp ?_) (gp ?_) ?_
                        · first | trivial | exact ⟨rfl, rfl⟩ | exact ⟨rfl, rfl, rfl⟩ | exact le_refl _
                        · first | trivial | exact ⟨rfl, rfl⟩ | exact ⟨rfl, rfl, rfl⟩ | exact le_refl _
                        · first | trivial | exact ⟨rfl, rfl⟩ | exact ⟨rfl, rfl, rfl⟩ | exact le_refl _
                        · first | trivial | exact ⟨rfl, rfl⟩ | exact ⟨rfl, rfl, rfl⟩ | exact le_refl _
                        · first | trivial | exact ⟨rfl, rfl⟩ | exact ⟨rfl, rfl, rfl⟩ | exact le_refl _
                        refine gp ?_
                        refine cp (fun i => if i = 0 then 132 else if i = 1 then 133 else i) (fun i => if i = 0 then 130 else if i = 1 then 131 else i) (pbring_ok q (s ++ [cutS x.path]) md x.path x m (by simp; omega)) (gp ?_) (gp ?_) (gp ?_) (gp ?_) (gp ?_) ?_
                        · first | trivial | exact ⟨rfl, rfl⟩ | exact ⟨rfl, rfl, rfl⟩ | exact le_refl _
                        · first | trivial | exact ⟨rfl, rfl⟩ | exact ⟨rfl, rfl, rfl⟩ | exact le_refl _
                        · first | trivial | exact ⟨rfl, rfl⟩ | exact ⟨rfl, rfl, rfl⟩ | exact le_refl _
                        · first | trivial | exact ⟨rfl, rfl⟩ | exact ⟨rfl, rfl, rfl⟩ | exact le_refl _
                        · first | trivial | exact ⟨rfl, rfl⟩ | exact ⟨rfl, rfl, rfl⟩ | exact le_refl _
                        refine gp ?_
                        refine outP [] (fun i => if i = 0 then 130 else if i = 1 then 131 else i) (gp ?_) (gp ?_) (gp ?_)
                        all_goals trivial
                  · rw [if_neg (fun h => b5 h.2.1)] at hr
                    try refine gp ?_
                    refine br (fun l1 => ?_) (fun l1 => ?_)
                    · try refine gp ?_
                      refine br (fun l2 => ?_) (fun l2 => ?_)
                      · rw [if_pos (.inr l2)] at hr
                        subst hr
                        try refine gp ?_
                        refine cp (fun i => i) (fun i => if i = 0 then 132 else if i = 1 then 133 else i) (pcut_ok q s md x.path (by omega)) (gp ?_) (gp ?_) (gp ?_) (gp ?_) (gp ?_) ?_
                        · first | trivial | exact ⟨rfl, rfl⟩ | exact ⟨rfl, rfl, rfl⟩ | exact le_refl _
                        · first | trivial | exact ⟨rfl, rfl⟩ | exact ⟨rfl, rfl, rfl⟩ | exact le_refl _
                        · first | trivial | exact ⟨rfl, rfl⟩ | exact ⟨rfl, rfl, rfl⟩ | exact le_refl _
                        · first | trivial | exact ⟨rfl, rfl⟩ | exact ⟨rfl, rfl, rfl⟩ | exact le_refl _
                        · first | trivial | exact ⟨rfl, rfl⟩ | exact ⟨rfl, rfl, rfl⟩ | exact le_refl _
                        refine gp ?_
                        refine cp (fun i => if i = 0 then 132 else if i = 1 then 133 else i) (fun i => if i = 0 then 130 else if i = 1 then 131 else i) (pbring_ok q (s ++ [cutS x.path]) md x.path x m (by simp; omega)) (gp ?_) (gp ?_) (gp ?_) (gp ?_) (gp ?_) ?_
                        · first | trivial | exact ⟨rfl, rfl⟩ | exact ⟨rfl, rfl, rfl⟩ | exact le_refl _
                        · first | trivial | exact ⟨rfl, rfl⟩ | exact ⟨rfl, rfl, rfl⟩ | exact le_refl _
                        · first | trivial | exact ⟨rfl, rfl⟩ | exact ⟨rfl, rfl, rfl⟩ | exact le_refl _
                        · first | trivial | exact ⟨rfl, rfl⟩ | exact ⟨rfl, rfl, rfl⟩ | exact le_refl _
                        · first | trivial | exact ⟨rfl, rfl⟩ | exact ⟨rfl, rfl, rfl⟩ | exact le_refl _
                        refine gp ?_
                        refine outP [] (fun i => if i = 0 then 130 else if i = 1 then 131 else i) (gp ?_) (gp ?_) (gp ?_)
                        all_goals trivial
                      · rw [if_neg (fun h => h.elim l1 l2)] at hr
                        subst hr
                        try refine gp ?_
                        refine cp (fun i => i) (fun i => if i = 0 then 130 else if i = 1 then 131 else i) (pbring_ok q s md x.path x m (by omega)) (gp ?_) (gp ?_) (gp ?_) (gp ?_) (gp ?_) ?_
                        · first | trivial | exact ⟨rfl, rfl⟩ | exact ⟨rfl, rfl, rfl⟩ | exact le_refl _
                        · first | trivial | exact ⟨rfl, rfl⟩ | exact ⟨rfl, rfl, rfl⟩ | exact le_refl _
                        · first | trivial | exact ⟨rfl, rfl⟩ | exact ⟨rfl, rfl, rfl⟩ | exact le_refl _
                        · first | trivial | exact ⟨rfl, rfl⟩ | exact ⟨rfl, rfl, rfl⟩ | exact le_refl _
                        · first | trivial | exact ⟨rfl, rfl⟩ | exact ⟨rfl, rfl, rfl⟩ | exact le_refl _
                        refine gp ?_
                        refine outP [] (fun i => if i = 0 then 130 else if i = 1 then 131 else i) (gp ?_) (gp ?_) (gp ?_)
                        all_goals trivial
                    · rw [if_pos (.inl (Decidable.not_not.1 l1))] at hr
                      subst hr
                      try refine gp ?_
                      refine cp (fun i => i) (fun i => if i = 0 then 132 else if i = 1 then 133 else i) (pcut_ok q s md x.path (by omega)) (gp ?_) (gp ?_) (gp ?_) (gp ?_) (gp ?_) ?_
                      · first | trivial | exact ⟨rfl, rfl⟩ | exact ⟨rfl, rfl, rfl⟩ | exact le_refl _
                      · first | trivial | exact ⟨rfl, rfl⟩ | exact ⟨rfl, rfl, rfl⟩ | exact le_refl _
                      · first | trivial | exact ⟨rfl, rfl⟩ | exact ⟨rfl, rfl, rfl⟩ | exact le_refl _
                      · first | trivial | exact ⟨rfl, rfl⟩ | exact ⟨rfl, rfl, rfl⟩ | exact le_refl _
                      · first | trivial | exact ⟨rfl, rfl⟩ | exact ⟨rfl, rfl, rfl⟩ | exact le_refl _
                      refine gp ?_
                      refine cp (fun i => if i = 0 then 132 else if i = 1 then 133 else i) (fun i => if i = 0 then 130 else if i = 1 then 131 else i) (pbring_ok q (s ++ [cutS x.path]) md x.path x m (by simp; omega)) (gp ?_) (gp ?_) (gp ?_) (gp ?_) (gp ?_) ?_
                      · first | trivial | exact ⟨rfl, rfl⟩ | exact ⟨rfl, rfl, rfl⟩ | exact le_refl _
                      · first | trivial | exact ⟨rfl, rfl⟩ | exact ⟨rfl, rfl, rfl⟩ | exact le_refl _
                      · first | trivial | exact ⟨rfl, rfl⟩ | exact ⟨rfl, rfl, rfl⟩ | exact le_refl _
                      · first | trivial | exact ⟨rfl, rfl⟩ | exact ⟨rfl, rfl, rfl⟩ | exact le_refl _
                      · first | trivial | exact ⟨rfl, rfl⟩ | exact ⟨rfl, rfl, rfl⟩ | exact le_refl _
                      refine gp ?_
                      refine outP [] (fun i => if i = 0 then 130 else if i = 1 then 131 else i) (gp ?_) (gp ?_) (gp ?_)
                      all_goals trivial
                · rw [if_neg (fun h => a5 h.1)] at hr
                  try refine gp ?_
                  refine br (fun l1 => ?_) (fun l1 => ?_)
                  · try refine gp ?_
                    refine br (fun l2 => ?_) (fun l2 => ?_)
                    · rw [if_pos (.inr l2)] at hr
                      subst hr
                      try refine gp ?_
                      refine cp (fun i => i) (fun i => if i = 0 then 132 else if i = 1 then 133 else i) (pcut_ok q s md x.path (by omega)) (gp ?_) (gp ?_) (gp ?_) (gp ?_) (gp ?_) ?_
                      · first | trivial | exact ⟨rfl, rfl⟩ | exact ⟨rfl, rfl, rfl⟩ | exact le_refl _
                      · first | trivial | exact ⟨rfl, rfl⟩ | exact ⟨rfl, rfl, rfl⟩ | exact le_refl _
                      · first | trivial | exact ⟨rfl, rfl⟩ | exact ⟨rfl, rfl, rfl⟩ | exact le_refl _
                      · first | trivial | exact ⟨rfl, rfl⟩ | exact ⟨rfl, rfl, rfl⟩ | exact le_refl _
                      · first | trivial | exact ⟨rfl, rfl⟩ | exact ⟨rfl, rfl, rfl⟩ | exact le_refl _
                      refine gp ?_
                      refine cp (fun i => if i = 0 then 132 else if i = 1 then 133 else i) (fun i => if i = 0 then 130 else if i = 1 then 131 else i) (pbring_ok q (s ++ [cutS x.path]) md x.path x m (by simp; omega)) (gp ?_) (gp ?_) (gp ?_) (gp ?_) (gp ?_) ?_
                      · first | trivial | exact ⟨rfl, rfl⟩ | exact ⟨rfl, rfl, rfl⟩ | exact le_refl _
                      · first | trivial | exact ⟨rfl, rfl⟩ | exact ⟨rfl, rfl, rfl⟩ | exact le_refl _
                      · first | trivial | exact ⟨rfl, rfl⟩ | exact ⟨rfl, rfl, rfl⟩ | exact le_refl _
                      · first | trivial | exact ⟨rfl, rfl⟩ | exact ⟨rfl, rfl, rfl⟩ | exact le_refl _
                      · first | trivial | exact ⟨rfl, rfl⟩ | exact ⟨rfl, rfl, rfl⟩ | exact le_refl _
                      refine gp ?_
                      refine outP [] (fun i => if i = 0 then 130 else if i = 1 then 131 else i) (gp ?_) (gp ?_) (gp ?_)
                      all_goals trivial
                    · rw [if_neg (fun h => h.elim l1 l2)] at hr
                      subst hr
                      try refine gp ?_
                      refine cp (fun i => i) (fun i => if i = 0 then 130 else if i = 1 then 131 else i) (pbring_ok q s md x.path x m (by omega)) (gp ?_) (gp ?_) (gp ?_) (gp ?_) (gp ?_) ?_
                      · first | trivial | exact ⟨rfl, rfl⟩ | exact ⟨rfl, rfl, rfl⟩ | exact le_refl _
                      · first | trivial | exact ⟨rfl, rfl⟩ | exact ⟨rfl, rfl, rfl⟩ | exact le_refl _
                      · first | trivial | exact ⟨rfl, rfl⟩ | exact ⟨rfl, rfl, rfl⟩ | exact le_refl _
                      · first | trivial | exact ⟨rfl, rfl⟩ | exact ⟨rfl, rfl, rfl⟩ | exact le_refl _
                      · first | trivial | exact ⟨rfl, rfl⟩ | exact ⟨rfl, rfl, rfl⟩ | exact le_refl _
                      refine gp ?_
                      refine outP [] (fun i => if i = 0 then 130 else if i = 1 then 131 else i) (gp ?_) (gp ?_) (gp ?_)
                      all_goals trivial
                  · rw [if_pos (.inl (Decidable.not_not.1 l1))] at hr
                    subst hr
                    try refine gp ?_
                    refine cp (fun i => i) (fun i => if i = 0 then 132 else if i = 1 then 133 else i) (pcut_ok q s md x.path (by omega)) (gp ?_) (gp ?_) (gp ?_) (gp ?_) (gp ?_) ?_
                    · first | trivial | exact ⟨rfl, rfl⟩ | exact ⟨rfl, rfl, rfl⟩ | exact le_refl _
                    · first | trivial | exact ⟨rfl, rfl⟩ | exact ⟨rfl, rfl, rfl⟩ | exact le_refl _
                    · first | trivial | exact ⟨rfl, rfl⟩ | exact ⟨rfl, rfl, rfl⟩ | exact le_refl _
                    · first | trivial | exact ⟨rfl, rfl⟩ | exact ⟨rfl, rfl, rfl⟩ | exact le_refl _
                    · first | trivial | exact ⟨rfl, rfl⟩ | exact ⟨rfl, rfl, rfl⟩ | exact le_refl _
                    refine gp ?_
                    refine cp (fun i => if i = 0 then 132 else if i = 1 then 133 else i) (fun i => if i = 0 then 130 else if i = 1 then 131 else i) (pbring_ok q (s ++ [cutS x.path]) md x.path x m (by simp; omega)) (gp ?_) (gp ?_) (gp ?_) (gp ?_) (gp ?_) ?_
                    · first | trivial | exact ⟨rfl, rfl⟩ | exact ⟨rfl, rfl, rfl⟩ | exact le_refl _
                    · first | trivial | exact ⟨rfl, rfl⟩ | exact ⟨rfl, rfl, rfl⟩ | exact le_refl _
                    · first | trivial | exact ⟨rfl, rfl⟩ | exact ⟨rfl, rfl, rfl⟩ | exact le_refl _
                    · first | trivial | exact ⟨rfl, rfl⟩ | exact ⟨rfl, rfl, rfl⟩ | exact le_refl _
                    · first | trivial | exact ⟨rfl, rfl⟩ | exact ⟨rfl, rfl, rfl⟩ | exact le_refl _
                    refine gp ?_
                    refine outP [] (fun i => if i = 0 then 130 else if i = 1 then 131 else i) (gp ?_) (gp ?_) (gp ?_)
                    all_goals trivial
      | false =>
        rw [if_neg (by simp)] at hr
        try refine gp ?_
        refine cd (pshared_ok q.base x.path hqb) ?_
        refine gp ?_
        generalize dirIx q.base.dirs x.path = di at hr ⊢
        cases di with
        | true =>
          rw [if_pos rfl] at hr
          subst hr
          try refine gp ?_
          refine outP [] (id) (gp ?_) (gp ?_) (gp ?_)
          all_goals trivial
        | false =>
          rw [if_neg (by simp)] at hr
          try refine gp ?_
          cases t2 with
          | false =>
            rw [if_pos (by simp)] at hr
            subst hr
            try refine gp ?_
            refine cp (fun i => i) (fun i => if i = 0 then 130 else if i = 1 then 131 else i) (pbring_ok q s md x.path x m (by omega)) (gp ?_) (gp ?_) (gp ?_) (gp ?_) (gp ?_) ?_
            · first | trivial | exact ⟨rfl, rfl⟩ | exact ⟨rfl, rfl, rfl⟩ | exact le_refl _
            · first | trivial | exact ⟨rfl, rfl⟩ | exact ⟨rfl, rfl, rfl⟩ | exact le_refl _
            · first | trivial | exact ⟨rfl, rfl⟩ | exact ⟨rfl, rfl, rfl⟩ | exact le_refl _
            · first | trivial | exact ⟨rfl, rfl⟩ | exact ⟨rfl, rfl, rfl⟩ | exact le_refl _
            · first | trivial | exact ⟨rfl, rfl⟩ | exact ⟨rfl, rfl, rfl⟩ | exact le_refl _
            refine gp ?_
            refine outP [] (fun i => if i = 0 then 130 else if i = 1 then 131 else i) (gp ?_) (gp ?_) (gp ?_)
            all_goals trivial
          | true =>
            rw [if_neg (by simp), if_pos (by simp)] at hr
            subst hr
            try refine gp ?_
            refine outP [] (id) (gp ?_) (gp ?_) (gp ?_)
            all_goals trivial
  | false =>
    rw [if_neg (by simp)] at hr
    try refine gp ?_
    cases h2 with
    | true =>
      try refine gp ?_
      refine br (fun k2 => ?_) (fun k2 => ?_)
      · rw [if_pos ⟨rfl, k2⟩] at hr
        subst hr
        try refine gp ?_
        refine outP [] (id) (gp ?_) (gp ?_) (gp ?_)
        all_goals trivial
      · rw [if_neg (fun h => k2 h.2)] at hr
        try refine gp ?_
        refine cd (pshared_ok q.base x.path hqb) ?_
        refine gp ?_
        generalize dirIx q.base.dirs x.path = di at hr ⊢
        cases di with
        | true =>
          rw [if_pos rfl] at hr
          subst hr
          try refine gp ?_
          refine outP [] (id) (gp ?_) (gp ?_) (gp ?_)
          all_goals trivial
        | false =>
          rw [if_neg (by simp)] at hr
          try refine gp ?_
          cases t2 with
          | false =>
            rw [if_pos (by simp)] at hr
            subst hr
            try refine gp ?_
            refine cp (fun i => i) (fun i => if i = 0 then 130 else if i = 1 then 131 else i) (pbring_ok q s md x.path x m (by omega)) (gp ?_) (gp ?_) (gp ?_) (gp ?_) (gp ?_) ?_
            · first | trivial | exact ⟨rfl, rfl⟩ | exact ⟨rfl, rfl, rfl⟩ | exact le_refl _
            · first | trivial | exact ⟨rfl, rfl⟩ | exact ⟨rfl, rfl, rfl⟩ | exact le_refl _
            · first | trivial | exact ⟨rfl, rfl⟩ | exact ⟨rfl, rfl, rfl⟩ | exact le_refl _
            · first | trivial | exact ⟨rfl, rfl⟩ | exact ⟨rfl, rfl, rfl⟩ | exact le_refl _
            · first | trivial | exact ⟨rfl, rfl⟩ | exact ⟨rfl, rfl, rfl⟩ | exact le_refl _
            refine gp ?_
            refine outP [] (fun i => if i = 0 then 130 else if i = 1 then 131 else i) (gp ?_) (gp ?_) (gp ?_)
            all_goals trivial
          | true =>
            rw [if_neg (by simp), if_neg (by simp)] at hr
            try refine gp ?_
            refine br (fun k4 => ?_) (fun k4 => ?_)
            · rw [if_pos k4] at hr
              subst hr
              try refine gp ?_
              refine outP [] (id) (gp ?_) (gp ?_) (gp ?_)
              all_goals trivial
            · rw [if_neg k4] at hr
              try refine gp ?_
              refine br (fun a5 => ?_) (fun a5 => ?_)
              · try refine gp ?_
                refine br (fun b5 => ?_) (fun b5 => ?_)
                · try refine gp ?_
                  refine br (fun c1 => ?_) (fun c1 => ?_)
                  · rw [if_pos ⟨a5, b5, c1⟩] at hr
                    try refine gp ?_
                    refine cp (fun i => i) (fun i => if i = 0 then 130 else if i = 1 then 131 else i) (pconf_ok q s md h1 t1 x m hq hx (ht0 rfl) hl) (gp ?_) (gp ?_) (gp ?_) (gp ?_) (gp ?_) ?_
                    · first | trivial | exact ⟨rfl, rfl⟩ | exact ⟨rfl, rfl, rfl⟩ | exact le_refl _
                    · first | trivial | exact ⟨rfl, rfl⟩ | exact ⟨rfl, rfl, rfl⟩ | exact le_refl _
                    · first | trivial | exact ⟨rfl, rfl⟩ | exact ⟨rfl, rfl, rfl⟩ | exact le_refl _
                    · first | trivial | exact ⟨rfl, rfl⟩ | exact ⟨rfl, rfl, rfl⟩ | exact le_refl _
                    · first | trivial | exact ⟨rfl, rfl⟩ | exact ⟨rfl, rfl, rfl⟩ | exact le_refl _
                    refine gp ?_
                    rw [hr]
                    refine outP [] (fun i => if i = 0 then 130 else if i = 1 then 131 else i) (gp ?_) (gp ?_) (gp ?_)
                    all_goals trivial
                  · rw [if_neg (fun h => c1 h.2.2)] at hr
                    try refine gp ?_
                    refine br (fun l1 => ?_) (fun l1 => ?_)
                    · try refine gp ?_
                      refine br (fun l2 => ?_) (fun l2 => ?_)
                      · rw [if_pos (.inr l2)] at hr
                        subst hr
                        try refine gp ?_
                        refine cp (fun i => i) (fun i => if i = 0 then 132 else if i = 1 then 133 else i) (pcut_ok q s md x.path (by omega)) (gp ?_) (gp ?_) (gp ?_) (gp ?_) (gp ?_) ?_
                        · first | trivial | exact ⟨rfl, rfl⟩ | exact ⟨rfl, rfl, rfl⟩ | exact le_refl _
                        · first | trivial | exact ⟨rfl, rfl⟩ | exact ⟨rfl, rfl, rfl⟩ | exact le_refl _
                        · first | trivial | exact ⟨rfl, rfl⟩ | exact ⟨rfl, rfl, rfl⟩ | exact le_refl _
                        · first | trivial | exact ⟨rfl, rfl⟩ | exact ⟨rfl, rfl, rfl⟩ | exact le_refl _
                        · first | trivial | exact ⟨rfl, rfl⟩ | exact ⟨rfl, rfl, rfl⟩ | exact le_refl _
                        refine gp ?_
                        refine cp (fun i => if i = 0 then 132 else if i = 1 then 133 else i) (fun i => if i = 0 then 130 else if i = 1 then 131 else i) (pbring_ok q (s ++ [cutS x.path]) md x.path x m (by simp; omega)) (gp ?_) (gp ?_) (gp ?_) (gp ?_) (gp ?_) ?_
                        · first | trivial | exact ⟨rfl, rfl⟩ | exact ⟨rfl, rfl, rfl⟩ | exact le_refl _
                        · first | trivial | exact ⟨rfl, rfl⟩ | exact ⟨rfl, rfl, rfl⟩ | exact le_refl _
                        · first | trivial | exact ⟨rfl, rfl⟩ | exact ⟨rfl, rfl, rfl⟩ | exact le_refl _
                        · first | trivial | exact ⟨rfl, rfl⟩ | exact ⟨rfl, rfl, rfl⟩ | exact le_refl _
                        · first | trivial | exact ⟨rfl, rfl⟩ | exact ⟨rfl, rfl, rfl⟩ | exact le_refl _
                        refine gp ?_
                        refine outP [] (fun i => if i = 0 then 130 else if i = 1 then 131 else i) (gp ?_) (gp ?_) (gp ?_)
                        all_goals trivial
                      · rw [if_neg (fun h => h.elim l1 l2)] at hr
                        subst hr
                        try refine gp ?_
                        refine cp (fun i => i) (fun i => if i = 0 then 130 else if i = 1 then 131 else i) (pbring_ok q s md x.path x m (by omega)) (gp ?_) (gp ?_) (gp ?_) (gp ?_) (gp ?_) ?_
                        · first | trivial | exact ⟨rfl, rfl⟩ | exact ⟨rfl, rfl, rfl⟩ | exact le_refl _
                        · first | trivial | exact ⟨rfl, rfl⟩ | exact ⟨rfl, rfl, rfl⟩ | exact le_refl _
                        · first | trivial | exact ⟨rfl, rfl⟩ | exact ⟨rfl, rfl, rfl⟩ | exact le_refl _
                        · first | trivial | exact ⟨rfl, rfl⟩ | exact ⟨rfl, rfl, rfl⟩ | exact le_refl _
                        · first | trivial | exact ⟨rfl, rfl⟩ | exact ⟨rfl, rfl, rfl⟩ | exact le_refl _
                        refine gp ?_
                        refine outP [] (fun i => if i = 0 then 130 else if i = 1 then 131 else i) (gp ?_) (gp ?_) (gp ?_)
                        all_goals trivial
                    · rw [if_pos (.inl (Decidable.not_not.1 l1))] at hr
                      subst hr
                      try refine gp ?_
                      refine cp (fun i => i) (fun i => if i = 0 then 132 else if i = 1 then 133 else i) (pcut_ok q s md x.path (by omega)) (gp ?_) (gp ?_) (gp ?_) (gp ?_) (gp ?_) ?_
                      · first | trivial | exact ⟨rfl, rfl⟩ | exact ⟨rfl, rfl, rfl⟩ | exact le_refl _
                      · first | trivial | exact ⟨rfl, rfl⟩ | exact ⟨rfl, rfl, rfl⟩ | exact le_refl _
                      · first | trivial | exact ⟨rfl, rfl⟩ | exact ⟨rfl, rfl, rfl⟩ | exact le_refl _
                      · first | trivial | exact ⟨rfl, rfl⟩ | exact ⟨rfl, rfl, rfl⟩ | exact le_refl _
                      · first | trivial | exact ⟨rfl, rfl⟩ | exact ⟨rfl, rfl, rfl⟩ | exact le_refl _
                      refine gp ?_
                      refine cp (fun i => if i = 0 then 132 else if i = 1 then 133 else i) (fun i => if i = 0 then 130 else if i = 1 then 131 else i) (pbring_ok q (s ++ [cutS x.path]) md x.path x m (by simp; omega)) (gp ?_) (gp ?_) (gp ?_) (gp ?_) (gp ?_) ?_
                      · first | trivial | exact ⟨rfl, rfl⟩ | exact ⟨rfl, rfl, rfl⟩ | exact le_refl _
                      · first | trivial | exact ⟨rfl, rfl⟩ | exact ⟨rfl, rfl, rfl⟩ | exact le_refl _
                      · first | trivial | exact ⟨rfl, rfl⟩ | exact ⟨rfl, rfl, rfl⟩ | exact le_refl _
                      · first | trivial | exact ⟨rfl, rfl⟩ | exact ⟨rfl, rfl, rfl⟩ | exact le_refl _
                      · first | trivial | exact ⟨rfl, rfl⟩ | exact ⟨rfl, rfl, rfl⟩ | exact le_refl _
                      refine gp ?_
                      refine outP [] (fun i => if i = 0 then 130 else if i = 1 then 131 else i) (gp ?_) (gp ?_) (gp ?_)
                      all_goals trivial
                · rw [if_neg (fun h => b5 h.2.1)] at hr
                  try refine gp ?_
                  refine br (fun l1 => ?_) (fun l1 => ?_)
                  · try refine gp ?_
                    refine br (fun l2 => ?_) (fun l2 => ?_)
                    · rw [if_pos (.inr l2)] at hr
                      subst hr
                      try refine gp ?_
                      refine cp (fun i => i) (fun i => if i = 0 then 132 else if i = 1 then 133 else i) (pcut_ok q s md x.path (by omega)) (gp ?_) (gp ?_) (gp ?_) (gp ?_) (gp ?_) ?_
                      · first | trivial | exact ⟨rfl, rfl⟩ | exact ⟨rfl, rfl, rfl⟩ | exact le_refl _
                      · first | trivial | exact ⟨rfl, rfl⟩ | exact ⟨rfl, rfl, rfl⟩ | exact le_refl _
                      · first | trivial | exact ⟨rfl, rfl⟩ | exact ⟨rfl, rfl, rfl⟩ | exact le_refl _
                      · first | trivial | exact ⟨rfl, rfl⟩ | exact ⟨rfl, rfl, rfl⟩ | exact le_refl _
                      · first | trivial | exact ⟨rfl, rfl⟩ | exact ⟨rfl, rfl, rfl⟩ | exact le_refl _
                      refine gp ?_
                      refine cp (fun i => if i = 0 then 132 else if i = 1 then 133 else i) (fun i => if i = 0 then 130 else if i = 1 then 131 else i) (pbring_ok q (s ++ [cutS x.path]) md x.path x m (by simp; omega)) (gp ?_) (gp ?_) (gp ?_) (gp ?_) (gp ?_) ?_
                      · first | trivial | exact ⟨rfl, rfl⟩ | exact ⟨rfl, rfl, rfl⟩ | exact le_refl _
                      · first | trivial | exact ⟨rfl, rfl⟩ | exact ⟨rfl, rfl, rfl⟩ | exact le_refl _
                      · first | trivial | exact ⟨rfl, rfl⟩ | exact ⟨rfl, rfl, rfl⟩ | exact le_refl _
                      · first | trivial | exact ⟨rfl, rfl⟩ | exact ⟨rfl, rfl, rfl⟩ | exact le_refl _
                      · first | trivial | exact ⟨rfl, rfl⟩ | exact ⟨rfl, rfl, rfl⟩ | exact le_refl _
                      refine gp ?_
                      refine outP [] (fun i => if i = 0 then 130 else if i = 1 then 131 else i) (gp ?_) (gp ?_) (gp ?_)
                      all_goals trivial
                    · rw [if_neg (fun h => h.elim l1 l2)] at hr
                      subst hr
                      try refine gp ?_
                      refine cp (fun i => i) (fun i => if i = 0 then 130 else if i = 1 then 131 else i) (pbring_ok q s md x.path x m (by omega)) (gp ?_) (gp ?_) (gp ?_) (gp ?_) (gp ?_) ?_
                      · first | trivial | exact ⟨rfl, rfl⟩ | exact ⟨rfl, rfl, rfl⟩ | exact le_refl _
                      · first | trivial | exact ⟨rfl, rfl⟩ | exact ⟨rfl, rfl, rfl⟩ | exact le_refl _
                      · first | trivial | exact ⟨rfl, rfl⟩ | exact ⟨rfl, rfl, rfl⟩ | exact le_refl _
                      · first | trivial | exact ⟨rfl, rfl⟩ | exact ⟨rfl, rfl, rfl⟩ | exact le_refl _
                      · first | trivial | exact ⟨rfl, rfl⟩ | exact ⟨rfl, rfl, rfl⟩ | exact le_refl _
                      refine gp ?_
                      refine outP [] (fun i => if i = 0 then 130 else if i = 1 then 131 else i) (gp ?_) (gp ?_) (gp ?_)
                      all_goals trivial
                  · rw [if_pos (.inl (Decidable.not_not.1 l1))] at hr
                    subst hr
                    try refine gp ?_
                    refine cp (fun i => i) (fun i => if i = 0 then 132 else if i = 1 then 133 else i) (pcut_ok q s md x.path (by omega)) (gp ?_) (gp ?_) (gp ?_) (gp ?_) (gp ?_) ?_
                    · first | trivial | exact ⟨rfl, rfl⟩ | exact ⟨rfl, rfl, rfl⟩ | exact le_refl _
                    · first | trivial | exact ⟨rfl, rfl⟩ | exact ⟨rfl, rfl, rfl⟩ | exact le_refl _
                    · first | trivial | exact ⟨rfl, rfl⟩ | exact ⟨rfl, rfl, rfl⟩ | exact le_refl _
                    · first | trivial | exact ⟨rfl, rfl⟩ | exact ⟨rfl, rfl, rfl⟩ | exact le_refl _
                    · first | trivial | exact ⟨rfl, rfl⟩ | exact ⟨rfl, rfl, rfl⟩ | exact le_refl _
                    refine gp ?_
                    refine cp (fun i => if i = 0 then 132 else if i = 1 then 133 else i) (fun i => if i = 0 then 130 else if i = 1 then 131 else i) (pbring_ok q (s ++ [cutS x.path]) md x.path x m (by simp; omega)) (gp ?_) (gp ?_) (gp ?_) (gp ?_) (gp ?_) ?_
                    · first | trivial | exact ⟨rfl, rfl⟩ | exact ⟨rfl, rfl, rfl⟩ | exact le_refl _
                    · first | trivial | exact ⟨rfl, rfl⟩ | exact ⟨rfl, rfl, rfl⟩ | exact le_refl _
                    · first | trivial | exact ⟨rfl, rfl⟩ | exact ⟨rfl, rfl, rfl⟩ | exact le_refl _
                    · first | trivial | exact ⟨rfl, rfl⟩ | exact ⟨rfl, rfl, rfl⟩ | exact le_refl _
                    · first | trivial | exact ⟨rfl, rfl⟩ | exact ⟨rfl, rfl, rfl⟩ | exact le_refl _
                    refine gp ?_
                    refine outP [] (fun i => if i = 0 then 130 else if i = 1 then 131 else i) (gp ?_) (gp ?_) (gp ?_)
                    all_goals trivial
              · rw [if_neg (fun h => a5 h.1)] at hr
                try refine gp ?_
                refine br (fun l1 => ?_) (fun l1 => ?_)
                · try refine gp ?_
                  refine br (fun l2 => ?_) (fun l2 => ?_)
                  · rw [if_pos (.inr l2)] at hr
                    subst hr
                    try refine gp ?_
                    refine cp (fun i => i) (fun i => if i = 0 then 132 else if i = 1 then 133 else i) (pcut_ok q s md x.path (by omega)) (gp ?_) (gp ?_) (gp ?_) (gp ?_) (gp ?_) ?_
                    · first | trivial | exact ⟨rfl, rfl⟩ | exact ⟨rfl, rfl, rfl⟩ | exact le_refl _
                    · first | trivial | exact ⟨rfl, rfl⟩ | exact ⟨rfl, rfl, rfl⟩ | exact le_refl _
                    · first | trivial | exact ⟨rfl, rfl⟩ | exact ⟨rfl, rfl, rfl⟩ | exact le_refl _
                    · first | trivial | exact ⟨rfl, rfl⟩ | exact ⟨rfl, rfl, rfl⟩ | exact le_refl _
                    · first | trivial | exact ⟨rfl, rfl⟩ | exact ⟨rfl, rfl, rfl⟩ | exact le_refl _
                    refine gp ?_
                    refine cp (fun i => if i = 0 then 132 else if i = 1 then 133 else i) (fun i => if i = 0 then 130 else if i = 1 then 131 else i) (pbring_ok q (s ++ [cutS x.path]) md x.path x m (by simp; omega)) (gp ?_) (gp ?_) (gp ?_) (gp ?_) (gp ?_) ?_
                    · first | trivial | exact ⟨rfl, rfl⟩ | exact ⟨rfl, rfl, rfl⟩ | exact le_refl _
                    · first | trivial | exact ⟨rfl, rfl⟩ | exact ⟨rfl, rfl, rfl⟩ | exact le_refl _
                    · first | trivial | exact ⟨rfl, rfl⟩ | exact ⟨rfl, rfl, rfl⟩ | exact le_refl _
                    · first | trivial | exact ⟨rfl, rfl⟩ | exact ⟨rfl, rfl, rfl⟩ | exact le_refl _
                    · first | trivial | exact ⟨rfl, rfl⟩ | exact ⟨rfl, rfl, rfl⟩ | exact le_refl _
                    refine gp ?_
                    refine outP [] (fun i => if i = 0 then 130 else if i = 1 then 131 else i) (gp ?_) (gp ?_) (gp ?_)
                    all_goals trivial
                  · rw [if_neg (fun h => h.elim l1 l2)] at hr
                    subst hr
                    try refine gp ?_
                    refine cp (fun i => i) (fun i => if i = 0 then 130 else if i = 1 then 131 else i) (pbring_ok q s md x.path x m (by omega)) (gp ?_) (gp ?_) (gp ?_) (gp ?_) (gp ?_) ?_
                    · first | trivial | exact ⟨rfl, rfl⟩ | exact ⟨rfl, rfl, rfl⟩ | exact le_refl _
                    · first | trivial | exact ⟨rfl, rfl⟩ | exact ⟨rfl, rfl, rfl⟩ | exact le_refl _
                    · first | trivial | exact ⟨rfl, rfl⟩ | exact ⟨rfl, rfl, rfl⟩ | exact le_refl _
                    · first | trivial | exact ⟨rfl, rfl⟩ | exact ⟨rfl, rfl, rfl⟩ | exact le_refl _
                    · first | trivial | exact ⟨rfl, rfl⟩ | exact ⟨rfl, rfl, rfl⟩ | exact le_refl _
                    refine gp ?_
                    refine outP [] (fun i => if i = 0 then 130 else if i = 1 then 131 else i) (gp ?_) (gp ?_) (gp ?_)
                    all_goals trivial
                · rw [if_pos (.inl (Decidable.not_not.1 l1))] at hr
                  subst hr
                  try refine gp ?_
                  refine cp (fun i => i) (fun i => if i = 0 then 132 else if i = 1 then 133 else i) (pcut_ok q s md x.path (by omega)) (gp ?_) (gp ?_) (gp ?_) (gp ?_) (gp ?_) ?_
                  · first | trivial | exact ⟨rfl, rfl⟩ | exact ⟨rfl, rfl, rfl⟩ | exact le_refl _
                  · first | trivial | exact ⟨rfl, rfl⟩ | exact ⟨rfl, rfl, rfl⟩ | exact le_refl _
                  · first | trivial | exact ⟨rfl, rfl⟩ | exact ⟨rfl, rfl, rfl⟩ | exact le_refl _
                  · first | trivial | exact ⟨rfl, rfl⟩ | exact ⟨rfl, rfl, rfl⟩ | exact le_refl _
                  · first | trivial | exact ⟨rfl, rfl⟩ | exact ⟨rfl, rfl, rfl⟩ | exact le_refl _
                  refine gp ?_
                  refine cp (fun i => if i = 0 then 132 else if i = 1 then 133 else i) (fun i => if i = 0 then 130 else if i = 1 then 131 else i) (pbring_ok q (s ++ [cutS x.path]) md x.path x m (by simp; omega)) (gp ?_) (gp ?_) (gp ?_) (gp ?_) (gp ?_) ?_
                  · first | trivial | exact ⟨rfl, rfl⟩ | exact ⟨rfl, rfl, rfl⟩ | exact le_refl _
                  · first | trivial | exact ⟨rfl, rfl⟩ | exact ⟨rfl, rfl, rfl⟩ | exact le_refl _
                  · first | trivial | exact ⟨rfl, rfl⟩ | exact ⟨rfl, rfl, rfl⟩ | exact le_refl _
                  · first | trivial | exact ⟨rfl, rfl⟩ | exact ⟨rfl, rfl, rfl⟩ | exact le_refl _
                  · first | trivial | exact ⟨rfl, rfl⟩ | exact ⟨rfl, rfl, rfl⟩ | exact le_refl _
                  refine gp ?_
                  refine outP [] (fun i => if i = 0 then 130 else if i = 1 then 131 else i) (gp ?_) (gp ?_) (gp ?_)
                  all_goals trivial
    | false =>
      rw [if_neg (by simp)] at hr
      try refine gp ?_
      refine cd (pshared_ok q.base x.path hqb) ?_
      refine gp ?_
      generalize dirIx q.base.dirs x.path = di at hr ⊢
      cases di with
      | true =>
        rw [if_pos rfl] at hr
        subst hr
        try refine gp ?_
        refine outP [] (id) (gp ?_) (gp ?_) (gp ?_)
        all_goals trivial
      | false =>
        rw [if_neg (by simp)] at hr
        try refine gp ?_
        cases t2 with
        | false =>
          rw [if_pos (by simp)] at hr
          subst hr
          try refine gp ?_
          refine cp (fun i => i) (fun i => if i = 0 then 130 else if i = 1 then 131 else i) (pbring_ok q s md x.path x m (by omega)) (gp ?_) (gp ?_) (gp ?_) (gp ?_) (gp ?_) ?_
          · first | trivial | exact ⟨rfl, rfl⟩ | exact ⟨rfl, rfl, rfl⟩ | exact le_refl _
          · first | trivial | exact ⟨rfl, rfl⟩ | exact ⟨rfl, rfl, rfl⟩ | exact le_refl _
          · first | trivial | exact ⟨rfl, rfl⟩ | exact ⟨rfl, rfl, rfl⟩ | exact le_refl _
          · first | trivial | exact ⟨rfl, rfl⟩ | exact ⟨rfl, rfl, rfl⟩ | exact le_refl _
          · first | trivial | exact ⟨rfl, rfl⟩ | exact ⟨rfl, rfl, rfl⟩ | exact le_refl _
          refine gp ?_
          refine outP [] (fun i => if i = 0 then 130 else if i = 1 then 131 else i) (gp ?_) (gp ?_) (gp ?_)
          all_goals trivial
        | true =>
          rw [if_neg (by simp), if_pos (by simp)] at hr
          subst hr
          try refine gp ?_
          refine outP [] (id) (gp ?_) (gp ?_) (gp ?_)
          all_goals trivial
end Go.Proofs.YtjbnmeofjiokeaaGreatDoor.Ev
namespace Go.Proofs.YtjbnmeofjiokeaaGreatDoor.Ev
open Go.RowKit
open Go.Proofs.YtjbnmeofjiokeaaGreatDoor.Mem
set_option linter.unusedVariables false
set_option linter.unusedSimpArgs false
set_option maxRecDepth 100000
theorem pdir_len (q : Mak) (x : Ent) (m : Mbr) (s : List Stp) (md : List (List UInt8)) : (pdirM q x m s md).2.1.length ≤ s.length + 2 ∧ (pdirM q x m s md).2.2.length ≤ md.length + 1 := by
  unfold pdirM
  repeat' split
  all_goals simp
theorem pthing_len (q : Mak) (x : Ent) (m : Mbr) (s : List Stp) : (pthingM q x m s).2.length ≤ s.length + 2 := by
  unfold pthingM pconfM
  repeat' split
  all_goals simp
set_option maxHeartbeats 4000000 in
theorem pcomes_ok (q : Mak) (s : List Stp) (md : List (List UInt8)) (ms : List Mbr) (hq : q.Big) (hl : s.length ≤ 1000) (hml : md.length ≤ 1000) (hn : q.next.ents.length ≤ 1000) (hms : ms.length ≤ 100000000000000) : SpecP Tryz.prog LL 20 [.p 1000000000 0, .sl 8 Mbr dMb ms eMbr] [(1000000000, bkQ q 0 s.length 1 md.length), (0, rP s), (1, rS md)] (.n .i64 (pcomesM q ms s md).1) [(1000000000, bkQ q 0 (pcomesM q ms s md).2.1.length 1 (pcomesM q ms s md).2.2.length), (0, rP (pcomesM q ms s md).2.1), (1, rS (pcomesM q ms s md).2.2)] := by
  refine spec_ofP' (C := ⟨Tryz.prog, LL, EE, [1000008, 1000009, 3000000+38, 3000000+39]⟩) (rl := [.n .i64 (pcomesM q ms s md).1]) (rs := [.tmp 4]) CCx LLs Tryz.func20 rfl (by kernel_rfl) rfl (by kernel_rfl) (Nat.le_of_ble_eq_true rfl) rfl rfl rfl rfl rfl rfl rfl rfl (by decide) ?_
  refine gp ?_
  have hqn := hq.np
  obtain ⟨r, hr⟩ : ∃ r, r = pcomesM q ms s md := ⟨_, rfl⟩
  rw [← hr]
  unfold pcomesM at hr
  refine br (fun c => ?_) (fun c => ?_)
  · rw [if_pos (fun h => c (by rw [h]))] at hr
    subst hr
    try refine gp ?_
    refine outP [] (id) (gp ?_) (gp ?_) (gp ?_)
    all_goals trivial
  · have c : ms.length = q.next.ents.length := by omega
    rw [if_neg (fun h => h c)] at hr
    try refine gp ?_
    refine lp_hr [1, 21, 22] [] (fun z : Nat × List Stp × List (List UInt8) => [(0, .p 1000000000 0), (23, .n .i64 (z.1 : Int))]) (fun z : Nat × List Stp × List (List UInt8) => [(1000000000, bkQ q 0 z.2.1.length 1 z.2.2.length), (0, rP z.2.1), (1, rS z.2.2)]) (fun z : Nat × List Stp × List (List UInt8) => z.1 ≤ q.next.ents.length ∧ z.2.1.length ≤ s.length + 2 * z.1 ∧ z.2.2.length ≤ md.length + z.1 ∧ r = pcomesL q ms (q.next.ents.drop z.1) z.1 z.2.1 z.2.2) (fun z : Nat × List Stp × List (List UInt8) => q.next.ents.length - z.1) ((0, s, md)) id ⟨Nat.zero_le _, Nat.le_refl _, Nat.le_refl _, hr⟩ (fits_of (gp ?_) (gp ?_) (gp ?_) (gp ?_) (gp ?_)) ?_
    · first | exact True.intro | exact ⟨rfl, rfl⟩ | exact ⟨rfl, rfl, rfl⟩ | rfl | exact rowc (List.map_id _) | trivial
    · first | exact True.intro | exact ⟨rfl, rfl⟩ | exact ⟨rfl, rfl, rfl⟩ | rfl | exact rowc (List.map_id _) | trivial
    · first | exact True.intro | exact ⟨rfl, rfl⟩ | exact ⟨rfl, rfl, rfl⟩ | rfl | exact rowc (List.map_id _) | trivial
    · first | exact True.intro | exact ⟨rfl, rfl⟩ | exact ⟨rfl, rfl, rfl⟩ | rfl | exact rowc (List.map_id _) | trivial
    · first | exact True.intro | exact ⟨rfl, rfl⟩ | exact ⟨rfl, rfl, rfl⟩ | rfl | exact rowc (List.map_id _) | trivial
    rintro ⟨i, s', md'⟩ ⟨hi, h1, h2, hr⟩
    dsimp only at hi h1 h2 hr ⊢
    try refine gp ?_
    refine br (fun e => ?_) (fun e => ?_)
    · have hx := hqn _ (getD_mem (x := dE) (show i < q.next.ents.length by omega))
      rw [drop_at q.next.ents i dE (by omega), pcomesL] at hr
      unfold pentM at hr
      try refine gp ?_
      generalize q.next.ents.getD i dE = x at hx hr
      generalize hmm : ms.getD i dMb = mm at hr
      have hmm2 : ms.getD i dMb = mm := hmm
      refine br (fun k => ?_) (fun k => ?_)
      · rw [if_pos k] at hr
        have hlen := pdir_len q x mm s' md'
        try refine gp ?_
        refine ⟨by kernel_rfl, ?_⟩
        try refine gp ?_
        rw [hmm]
        refine dqF (fun i => i) (fun i => if i = 0 then 60 else if i = 1 then 61 else i) (pdir_ok q s' md' x mm hq (by omega) (by omega)) (gp ?_) (gp ?_) (gp ?_) (gp ?_) (gp ?_) ?_
        · first | trivial | exact ⟨rfl, rfl⟩ | exact ⟨rfl, rfl, rfl⟩ | exact le_refl _
        · first | trivial | exact ⟨rfl, rfl⟩ | exact ⟨rfl, rfl, rfl⟩ | exact le_refl _
        · first | trivial | exact ⟨rfl, rfl⟩ | exact ⟨rfl, rfl, rfl⟩ | exact le_refl _
        · first | trivial | exact ⟨rfl, rfl⟩ | exact ⟨rfl, rfl, rfl⟩ | exact le_refl _
        · first | trivial | exact ⟨rfl, rfl⟩ | exact ⟨rfl, rfl, rfl⟩ | exact le_refl _
        refine gp ?_
        generalize pdirM q x mm s' md' = o at hr hlen ⊢
        obtain ⟨oe, os, om⟩ := o
        dsimp only at hr hlen ⊢
        refine br (fun er => ?_) (fun er => ?_)
        · rw [if_neg er] at hr
          subst hr
          try refine gp ?_
          refine outP [] (fun i => if i = 0 then 60 else if i = 1 then 61 else i) (gp ?_) (gp ?_) (gp ?_)
          all_goals trivial
        · rw [if_pos (Decidable.not_not.1 er)] at hr
          try refine gp ?_
          refine ⟨(i + 1, os, om), fun i => if i = 0 then 60 else if i = 1 then 61 else i, ⟨by dsimp only; omega, by dsimp only; omega, by dsimp only; omega, hr⟩, (by dsimp only; omega), fits_of (gp ?_) (gp ?_) (gp ?_) (gp ?_) (gp ?_)⟩
          · first | exact True.intro | exact ⟨rfl, rfl⟩ | exact ⟨rfl, rfl, rfl⟩ | rfl | exact rowc (List.map_id _) | trivial
          · first | exact True.intro | exact ⟨rfl, rfl⟩ | exact ⟨rfl, rfl, rfl⟩ | rfl | exact rowc (List.map_id _) | trivial
          · first | exact True.intro | exact ⟨rfl, rfl⟩ | exact ⟨rfl, rfl, rfl⟩ | rfl | exact rowc (List.map_id _) | trivial
          · (first | trivial | exact ⟨rfl, rfl⟩ | exact ⟨rfl, rfl, rfl⟩ | simp)
          · first | exact True.intro | exact ⟨rfl, rfl⟩ | exact ⟨rfl, rfl, rfl⟩ | rfl | exact rowc (List.map_id _) | trivial
      · rw [if_neg k] at hr
        have hlen := pthing_len q x mm s'
        try refine gp ?_
        refine ⟨by kernel_rfl, ?_⟩
        try refine gp ?_
        rw [hmm]
        refine dqF (fun i => i) (fun i => if i = 0 then 60 else if i = 1 then 61 else i) (pthing_ok q s' md' x mm hq hx (by omega)) (gp ?_) (gp ?_) (gp ?_) (gp ?_) (gp ?_) ?_
        · first | trivial | exact ⟨rfl, rfl⟩ | exact ⟨rfl, rfl, rfl⟩ | exact le_refl _
        · first | trivial | exact ⟨rfl, rfl⟩ | exact ⟨rfl, rfl, rfl⟩ | exact le_refl _
        · first | trivial | exact ⟨rfl, rfl⟩ | exact ⟨rfl, rfl, rfl⟩ | exact le_refl _
        · first | trivial | exact ⟨rfl, rfl⟩ | exact ⟨rfl, rfl, rfl⟩ | exact le_refl _
        · first | trivial | exact ⟨rfl, rfl⟩ | exact ⟨rfl, rfl, rfl⟩ | exact le_refl _
        refine gp ?_
        generalize pthingM q x mm s' = o at hr hlen ⊢
        obtain ⟨oe, os⟩ := o
        dsimp only at hr hlen ⊢
        refine br (fun er => ?_) (fun er => ?_)
        · rw [if_neg er] at hr
          subst hr
          try refine gp ?_
          refine outP [] (fun i => if i = 0 then 60 else if i = 1 then 61 else i) (gp ?_) (gp ?_) (gp ?_)
          all_goals trivial
        · rw [if_pos (Decidable.not_not.1 er)] at hr
          try refine gp ?_
          refine ⟨(i + 1, os, md'), fun i => if i = 0 then 60 else if i = 1 then 61 else i, ⟨by dsimp only; omega, by dsimp only; omega, by dsimp only; omega, hr⟩, (by dsimp only; omega), fits_of (gp ?_) (gp ?_) (gp ?_) (gp ?_) (gp ?_)⟩
          · first | exact True.intro | exact ⟨rfl, rfl⟩ | exact ⟨rfl, rfl, rfl⟩ | rfl | exact rowc (List.map_id _) | trivial
          · first | exact True.intro | exact ⟨rfl, rfl⟩ | exact ⟨rfl, rfl, rfl⟩ | rfl | exact rowc (List.map_id _) | trivial
          · first | exact True.intro | exact ⟨rfl, rfl⟩ | exact ⟨rfl, rfl, rfl⟩ | rfl | exact rowc (List.map_id _) | trivial
          · (first | trivial | exact ⟨rfl, rfl⟩ | exact ⟨rfl, rfl, rfl⟩ | simp)
          · first | exact True.intro | exact ⟨rfl, rfl⟩ | exact ⟨rfl, rfl, rfl⟩ | rfl | exact rowc (List.map_id _) | trivial
    · rw [List.drop_eq_nil_of_le (by omega), pcomesL] at hr
      subst hr
      try refine gp ?_
      refine outP [] (id) (gp ?_) (gp ?_) (gp ?_)
      all_goals trivial
end Go.Proofs.YtjbnmeofjiokeaaGreatDoor.Ev
