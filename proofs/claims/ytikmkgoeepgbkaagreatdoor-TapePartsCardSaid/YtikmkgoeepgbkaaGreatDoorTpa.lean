/- A law of archives: what is written in parts. -/
import Derived.Test.YtikmkgoeepgbkaaGreatDoorTt
set_option linter.all false
namespace Go.Proofs.YtikmkgoeepgbkaaGreatDoor.Ev
open Go.RowKit
open Go.Proofs.YtikmkgoeepgbkaaGreatDoor.Mem
set_option linter.unusedVariables false
set_option linter.unusedSimpArgs false
set_option maxRecDepth 100000
theorem wrM_app {a b : List Mbr} (ha : ∀ m ∈ a, m.Arg) (hb : ∀ m ∈ b, m.Arg) (h : (wrM (a ++ b)).2 = 0) : (wrM a).2 = 0 ∧ (wrM b).2 = 0 := by
  obtain ⟨f1, f2, f3, f4⟩ := wrM_fit h fun m hm => (List.mem_append.1 hm).elim (fun q => (ha m q).2) (fun q => (hb m q).2)
  rw [flat_app] at f4
  simp only [List.length_append] at f1 f4
  exact ⟨by rw [wrM_ok (by omega) (fun m hm => f2 m (by simp [hm])) (by omega)], by rw [wrM_ok (by omega) (fun m hm => f2 m (by simp [hm])) (by omega)]⟩
theorem greF_len : ∀ (l : List Mbr) (i n : Nat), greF l i n = false → l.length ≤ 201 - i
  | [], _, _, _ => Nat.zero_le _
  | m :: r, i, n, h => by
    rw [greF] at h
    split at h
    · exact absurd h (by simp)
    · have := greF_len r _ _ h
      simp only [List.length_cons]
      omega
theorem mbr_id (l : List Mbr) : l.map (fun v => (⟨v.path, v.kind, v.mode, v.uid, v.gid, v.time, v.target, v.data⟩ : Mbr)) = l := List.map_id l
theorem lparts_ok (a b : List Mbr) (n : UInt8) (hla : a.length ≤ 10000000000000) (hlb : b.length ≤ 10000000000000) (ha : ∀ m ∈ a, m.Arg) (hb : ∀ m ∈ b, m.Arg) : Spec Tryz.prog LL 8 [.sl 8 Mbr dMb a eMbr, .sl 8 Mbr dMb b eMbr, eB n] (.b true) := by
  refine spec_of (C := ⟨Tryz.prog, LL, EE, []⟩) (rl := [.b true]) (rs := [.tmp 6]) CCx LLs Tryz.func8 rfl (by kernel_rfl) rfl (by kernel_rfl) (Nat.le_of_ble_eq_true rfl) (fun i => rfl) (fun i => by first | rfl | exact (Bool.or_false _).trans (eSd_men _ _)) rfl (by decide) ?_
  refine gr ?_
  refine cl (tgreat_ok a (by omega)) ?_
  refine gr ?_
  refine br (fun g => ?_) (fun g => ?_)
  · try refine gr ?_
    refine cl (tgreat_ok b (by omega)) ?_
    refine gr ?_
    refine br (fun g2 => ?_) (fun g2 => ?_)
    · try refine gr ?_
      refine cl (tawake_ok) ?_
      refine gr ?_
      trivial
    · try refine gr ?_
      refine .inl (lto ?_)
      try refine gr ?_
      have la := greF_len a 0 0 g
      have lb := greF_len b 0 0 (Bool.eq_false_iff.2 g2)
      refine ⟨by omega, by omega, ?_⟩
      rw [mbr_id, mbr_id]
      refine cl (twrite_ok a ha) ?_
      refine gr ?_
      refine cl (twrite_ok b hb) ?_
      refine gr ?_
      have hab : ∀ m ∈ a ++ b, m.Arg := fun m hm => (List.mem_append.1 hm).elim (ha m) (hb m)
      refine cf [28] (twrite_ok (a ++ b) hab) (gr ?_) (fun i => rfl) ?_
      · trivial
      have fA := fun e => wrM_fit (l := a) e fun m hm => (ha m hm).2
      have fB := fun e => wrM_fit (l := b) e fun m hm => (hb m hm).2
      have fC := fun e => wrM_fit (l := a ++ b) e fun m hm => (hab m hm).2
      have fP := wrM_app ha hb
      generalize wrM a = A at fA fP ⊢
      generalize wrM b = B at fB fP ⊢
      generalize wrM (a ++ b) = C at fC fP ⊢
      obtain ⟨s, e⟩ := A
      obtain ⟨t, f⟩ := B
      obtain ⟨u, w⟩ := C
      dsimp only at fA fB fC fP ⊢
      try refine gr ?_
      refine br (fun a1 => ?_) (fun a1 => ?_)
      · obtain ⟨a1, a2, a3, a4⟩ := fA a1
        try refine gr ?_
        refine br (fun b1 => ?_) (fun b1 => ?_)
        · obtain ⟨b1, b2, b3, b4⟩ := fB b1
          try refine gr ?_
          refine br (fun c1 => ?_) (fun c1 => ?_)
          · obtain ⟨c1, c2, c3, c4⟩ := fC c1
            have hs : s.length = (flatM a).length + 1024 := by rw [a3]; simp
            try refine gr ?_
            refine br (fun d1 => ?_) (fun d1 => ?_)
            · exact absurd d1 (by omega)
            · try refine gr ?_
              have hn4 : IntKind.i64.wrap (512 * IntKind.i64.wrap ((n.toNat : Int).tmod 4)) = ((512 * (n.toNat % 4) : Nat) : Int) := by
                have h1 : (n.toNat : Int).tmod 4 = ((n.toNat % 4 : Nat) : Int) := by
                  rw [Int.tmod_eq_emod_of_nonneg (by omega)]; rfl
                rw [h1, wr64 (x := ((n.toNat % 4 : Nat) : Int)) (by omega) (by omega), wr64 (by omega) (by omega)]
                omega
              have hq : n.toNat % 4 < 4 := Nat.mod_lt _ (by decide)
              rw [hn4]
              have hq2 : 512 * (n.toNat % 4) ≤ 1536 := by omega
              clear hq
              generalize 512 * (n.toNat % 4) = q at *
              simp only [Int.toNat_natCast]
              refine ⟨rfl, ⟨by omega, by omega, by omega⟩, ?_⟩
              refine cvB (t := 5) (by kernel_rfl) (by kernel_rfl) (by kernel_rfl) ?_
              try refine gr ?_
              have hk : ((s.length : Int) - 1024).toNat = (flatM a).length := by omega
              have htk : s.take ((s.length : Int) - 1024).toNat = flatM a := by rw [hk, a3, List.take_left]
              have htl : t.length = (flatM b).length + 1024 := by rw [b3]; simp
              have hfl : (flatM (a ++ b)).length = (flatM a).length + (flatM b).length := by rw [flat_app, List.length_append]
              refine ⟨by omega, by omega, ?_⟩
              rw [htk]
              have hrw := read_written (l := a ++ b) (e := q) c2 c1 (by omega)
              have harr : flatM a ++ (t ++ List.replicate q 0) = flatM (a ++ b) ++ List.replicate (1024 + q) 0 := by rw [flat_app, b3, ← List.replicate_append_replicate]; simp
              have hu : u = flatM a ++ t := by rw [c3, flat_app, b3]; simp
              refine cl (tread_ok (flatM a ++ (t ++ List.replicate q 0))) ?_
              refine gr ?_
              rw [harr, hrw]
              try refine gr ?_
              refine cl (tawake_ok) ?_
              refine gr ?_
              try refine gr ?_
              refine br (fun x => ?_) (fun x => ?_)
              · try refine gr ?_
                refine cl (tsame_ok (a ++ b) (by rw [List.length_append]; omega)) ?_
                refine gr ?_
                trivial
              · exact absurd (by rw [htk]; exact hu) x
          · try refine gr ?_
            refine cl (tawake_ok) ?_
            refine gr ?_
            trivial
        · try refine gr ?_
          refine cl (tawake_ok) ?_
          refine gr ?_
          trivial
      · try refine gr ?_
        refine cl (tawake_ok) ?_
        refine gr ?_
        trivial
  · try refine gr ?_
    refine cl (tawake_ok) ?_
    refine gr ?_
    trivial
end Go.Proofs.YtikmkgoeepgbkaaGreatDoor.Ev
