/- Headers are written. -/
import Derived.Test.YtikmkgoeepgbkaaGreatDoorTv
set_option linter.all false
namespace Go.Proofs.YtikmkgoeepgbkaaGreatDoor.Ev
open Go.RowKit
open Go.Proofs.YtikmkgoeepgbkaaGreatDoor.Mem
set_option linter.unusedVariables false
set_option linter.unusedSimpArgs false
set_option maxRecDepth 100000
/-- A table's cell. -/
theorem wid_ld {T i : Nat} {bk : Nat → Option Bk} {K : V → Prop} (hi : i < 5) (hT : (Tryz.prog.underlying T).isSome = true ∧ sz Tryz.prog T = some 1 := by exact ⟨by kernel_rfl, by kernel_rfl⟩) (ha : agT Tryz.prog T = false := by kernel_rfl) (hK : K (.n .i64 ((widM.getD i 0 : Nat) : Int))) : vLoadG Tryz.prog LL T bk (.gl 0 i) K := by
  refine ⟨[(.i64, ((widM.getD i 0 : Nat) : Int))], 1, hT, ⟨Nat.le_refl _, fun _ => rfl⟩, fun w h q p hq => ?_, ?_⟩
  · rcases q with _ | q
    · simp at hq
      subst hq
      have := wid_cell w h i (.i64, ((widM.getD i 0 : Nat) : Int)) (by rcases i with _ | _ | _ | _ | _ | i <;> first | rfl | omega)
      rw [Nat.zero_add] at this
      exact this
    · simp at hq
  · rw [ha]
    exact hK
structure Hdr.Big (h : Hdr) : Prop where
  name : h.name.length ≤ 281474976710656
  link : h.link.length ≤ 281474976710656
  pre : h.pre.length ≤ 281474976710656
theorem enc_no {h : Hdr} (e : ¬ (fitsB h.name 100 = true ∧ fitsB h.link 100 = true ∧ fitsB h.pre 155 = true)) : encM h = ([], 3) := if_pos e
theorem fits_le {s : List UInt8} {w : Nat} (h : fitsB s w = true) : s.length ≤ w := by unfold fitsB at h; simp at h; exact h.1
theorem num_at {h : Hdr} (hf : h.Fit) {i : Nat} (hi : i < 5) : [V.n IntKind.i64 h.mode, V.n IntKind.i64 h.uid, V.n IntKind.i64 h.gid, V.n IntKind.i64 h.size, V.n IntKind.i64 h.time].getD i V.j = .n .i64 ((h.nums.getD i (0, 0)).1 : Int) ∧ widM.getD i 0 = (h.nums.getD i (0, 0)).2 ∧ (h.nums.getD i (0, 0)).1 < 9223372036854775808 ∧ ((h.nums.getD i (0, 0)).2 = 8 ∨ (h.nums.getD i (0, 0)).2 = 12) := by
  have h1 := hf.mode; have h2 := hf.uid; have h3 := hf.gid; have h4 := hf.size; have h5 := hf.time
  have e : ∀ x : Int, 0 ≤ x → V.n IntKind.i64 x = .n .i64 ((x.toNat : Nat) : Int) := fun x hx => by rw [Int.toNat_of_nonneg hx]
  rcases i with _ | _ | _ | _ | _ | i
  · exact ⟨e _ h1.1, rfl, by show h.mode.toNat < _; omega, .inl rfl⟩
  · exact ⟨e _ h2.1, rfl, by show h.uid.toNat < _; omega, .inl rfl⟩
  · exact ⟨e _ h3.1, rfl, by show h.gid.toNat < _; omega, .inl rfl⟩
  · exact ⟨e _ h4.1, rfl, by show h.size.toNat < _; omega, .inr rfl⟩
  · exact ⟨e _ h5.1, rfl, by show h.time.toNat < _; omega, .inr rfl⟩
  · omega
theorem henc_ok (h : Hdr) (hf : h.Fit) (hb : h.Big) : Spec Tryz.prog LL 69 [eHdr h] (.tp [.s (encM h).1, .n .i64 (encM h).2]) := by
  refine spec_of (C := ⟨Tryz.prog, LL, EE, []⟩) (rl := [.s (encM h).1, .n .i64 (encM h).2]) (rs := [.tmp 2, .tmp 3]) CCx LLs Tryz.func69 rfl (by kernel_rfl) rfl (by kernel_rfl) (Nat.le_of_ble_eq_true rfl) (fun i => rfl) (fun i => by first | rfl | exact (Bool.or_false _).trans (eSd_men _ _)) rfl (by decide) ?_
  refine gh ?_
  refine cl (hfits_ok h.name 100 (by omega) hb.name) ?_
  refine gh ?_
  refine br (fun a => ?_) (fun a => ?_)
  · try refine gh ?_
    refine cl (hfits_ok h.link 100 (by omega) hb.link) ?_
    refine gh ?_
    refine br (fun b => ?_) (fun b => ?_)
    · try refine gh ?_
      refine cl (hfits_ok h.pre 155 (by omega) hb.pre) ?_
      refine gh ?_
      refine br (fun c => ?_) (fun c => ?_)
      · try refine gh ?_
        rw [enc_no fun e => by rw [c] at e; simp at e]
        exact ⟨rfl, rfl⟩
      · have hr : encM h = _ := if_neg fun e => e ⟨a, b, by simpa using c⟩
        have c' : fitsB h.pre 155 = true := by simpa using c
        try refine gh ?_
        refine cl (hfill_ok h.name 100 (fits_le a) (by omega)) ?_
        refine gh ?_
        refine lp_hd [1, 4] [1, 4] (fun x : Nat × List UInt8 => [(5, .s x.2), (42, .n .i64 (x.1 : Int))]) (fun x : Nat × List UInt8 => []) (fun x : Nat × List UInt8 => x.1 ≤ 5 ∧ putsM h.nums (padM h.name 100) = putsM (h.nums.drop x.1) x.2 ∧ x.2.length ≤ 100 + 12 * x.1) (fun x : Nat × List UInt8 => 5 - x.1) ((0, padM h.name 100)) id (id) ⟨Nat.zero_le _, rfl, by rw [padM_len (fits_le a)]; exact Nat.le_refl _⟩ (fits_of (gh ?_) (gh ?_) (gh ?_) (gh ?_) (gh ?_)) ?_
        · first | exact True.intro | exact ⟨rfl, rfl⟩ | exact ⟨rfl, rfl, rfl⟩ | rfl | exact rowc (List.map_id _) | trivial
        · first | exact True.intro | exact ⟨rfl, rfl⟩ | exact ⟨rfl, rfl, rfl⟩ | rfl | exact rowc (List.map_id _) | trivial
        · first | exact True.intro | exact ⟨rfl, rfl⟩ | exact ⟨rfl, rfl, rfl⟩ | rfl | exact rowc (List.map_id _) | trivial
        · first | exact True.intro | exact ⟨rfl, rfl⟩ | exact ⟨rfl, rfl, rfl⟩ | rfl | exact rowc (List.map_id _) | trivial
        · first | exact True.intro | exact ⟨rfl, rfl⟩ | exact ⟨rfl, rfl, rfl⟩ | rfl | exact rowc (List.map_id _) | trivial
        rintro ⟨i, acc⟩ ⟨hi, hp, hl⟩
        dsimp only at hi hp hl ⊢
        try refine gh ?_
        refine br (fun d => ?_) (fun d => ?_)
        · try refine gh ?_
          refine wid_ld (by omega) (hK := gh ?_)
          obtain ⟨k1, k2, k3, k4⟩ := num_at hf (i := i) (by omega)
          rw [drop_at h.nums i (0, 0) (by simp [Hdr.nums]; omega)] at hp
          rw [k1, k2]
          have k5 := putM_len (n := (h.nums.getD i (0, 0)).1) (w := (h.nums.getD i (0, 0)).2) (by omega)
          generalize h.nums.getD i (0, 0) = nw at k3 k4 k5 hp
          obtain ⟨n, w⟩ := nw
          dsimp only at k3 k4 k5 hp ⊢
          rw [putsM] at hp
          refine cd (put_ok n w k4 k3) ?_
          refine gh ?_
          refine br (fun f => ?_) (fun f => ?_)
          · rw [if_neg (fun h => f h)] at hp
            try refine gh ?_
            rw [hr, if_pos (by rw [hp]; exact fun h => f h), hp]
            exact ⟨rfl, rfl⟩
          · have f' := Decidable.not_not.1 f
            rw [if_pos f'] at hp
            have k5 := k5 f'
            try refine gh ?_
            refine ⟨(i + 1, acc ++ (putM n w).1), ⟨by dsimp only; omega, hp, by simp; omega⟩, (by dsimp only; omega), fits_of (gh ?_) (gh ?_) (gh ?_) (gh ?_) (gh ?_)⟩
            · first | exact True.intro | exact ⟨rfl, rfl⟩ | exact ⟨rfl, rfl, rfl⟩ | rfl | exact rowc (List.map_id _) | trivial
            · first | exact True.intro | exact ⟨rfl, rfl⟩ | exact ⟨rfl, rfl, rfl⟩ | rfl | exact rowc (List.map_id _) | trivial
            · first | exact True.intro | exact ⟨rfl, rfl⟩ | exact ⟨rfl, rfl, rfl⟩ | rfl | exact rowc (List.map_id _) | trivial
            · first | exact True.intro | exact ⟨rfl, rfl⟩ | exact ⟨rfl, rfl, rfl⟩ | rfl | exact rowc (List.map_id _) | trivial
            · first | exact True.intro | exact ⟨rfl, rfl⟩ | exact ⟨rfl, rfl, rfl⟩ | rfl | exact rowc (List.map_id _) | trivial
        · obtain rfl : i = 5 := by omega
          rw [show h.nums.drop 5 = [] from rfl, putsM] at hp
          rw [hp, if_neg (by simp)] at hr
          dsimp only at hr
          try refine gh ?_
          refine .inr ?_
          refine cvB (t := 5) (by kernel_rfl) (by kernel_rfl) (by kernel_rfl) ?_
          try refine gh ?_
          have e1 := padM_len (fits_le b)
          have e2 := padM_len (fits_le c')
          have e3 : (padM [] 80).length = 80 := padM_len (by simp)
          have e4 : (padM [] 12).length = 12 := padM_len (by simp)
          have e5 : (padM [] 8).length = 8 := padM_len (by simp)
          refine cd (hfill_ok h.link 100 (fits_le b) (by omega)) ?_
          refine gh ?_
          refine cd (hfill_ok [] 80 (by simp) (by omega)) ?_
          refine gh ?_
          refine cd (hfill_ok h.pre 155 (fits_le c') (by omega)) ?_
          refine gh ?_
          refine cd (hfill_ok [] 12 (by simp) (by omega)) ?_
          refine gh ?_
          refine cl (hfill_ok [] 8 (by simp) (by omega)) ?_
          refine gh ?_
          rw [show padM [] 8 = List.replicate 8 0 from rfl, show padM [] 80 = List.replicate 80 0 from rfl, show padM [] 12 = List.replicate 12 0 from rfl, show h.flag :: (padM h.link 100 ++ 117 :: 115 :: 116 :: 97 :: 114 :: 0 :: 48 :: 48 :: (List.replicate 80 0 ++ (padM h.pre 155 ++ List.replicate 12 0))) = tailM h from rfl]
          have e6 : (tailM h).length = 356 := by simp [tailM, e1, e2, magM]
          refine cl (hsum_ok (acc ++ (List.replicate 8 0 ++ tailM h)) (by simp; omega)) ?_
          refine gh ?_
          have e7 : sumM (acc ++ (List.replicate 8 0 ++ tailM h)) ≤ 130560 := by
            unfold sumM
            split
            · rename_i q; have := sumL_le (acc ++ (List.replicate 8 0 ++ tailM h)) 0; omega
            · omega
          refine cl (octal_ok (sumM (acc ++ (List.replicate 8 0 ++ tailM h))) 6 (by omega) (by omega)) ?_
          refine gh ?_
          have e8 := octD_len 6 (sumM (acc ++ (List.replicate 8 0 ++ tailM h)))
          rw [hr]
          exact ⟨by omega, by omega, by omega, rfl, rfl⟩
    · try refine gh ?_
      rw [enc_no fun e => b e.2.1]
      exact ⟨rfl, rfl⟩
  · try refine gh ?_
    rw [enc_no fun e => a e.1]
    exact ⟨rfl, rfl⟩
end Go.Proofs.YtikmkgoeepgbkaaGreatDoor.Ev
