/- Records are written and read. -/
import Derived.Test.YtikmkgoeepgbkaaGreatDoorTa
set_option linter.all false
namespace Go.Proofs.YtikmkgoeepgbkaaGreatDoor.Ev
open Go.RowKit
open Go.Proofs.YtikmkgoeepgbkaaGreatDoor.Mem
set_option linter.unusedVariables false
set_option linter.unusedSimpArgs false
set_option maxRecDepth 100000
theorem fxE : sz Tryz.prog 81 = some 1 ∧ agT Tryz.prog 81 = false ∧ (Tryz.prog.underlying 81).isSome = true ∧ bys Tryz.prog 81 = some 16 ∧ zc Tryz.prog 81 = some [.inil] ∧ Tryz.prog.isIface 81 = true :=
  ⟨by kernel_rfl, by kernel_rfl, by kernel_rfl, by kernel_rfl, by kernel_rfl, by kernel_rfl⟩
theorem gk {p q : Prop} (hq : q) (h : p ↔ q := by simp (config := { maxSteps := 10000000 }) (disch := omega) only [fxE, cBd, edr, eod, false_and, and_false, fxM, cSd, wrc, eRd, eEd, eMd, eBd, eEE, rDs, eok, true_implies, eo5, ev5, Nat.mul_one, Nat.zero_mul, Nat.one_mul, Nat.add_zero, lenl, bne_self_eq_false, Int.reduceLT, Int.reduceLE, Int.reduceEq, Int.reduceNe, Int.reduceAdd, Int.reduceSub, Int.reduceMul, Int.reduceNeg, ebr, wr64, sdl, ler, true_or, or_true, rng, List.length_map, List.length_range, List.length_append, List.length_replicate, List.length_set, List.length_take, List.length_drop, List.not_mem_nil, false_implies, implies_true, ↓ec, ↓eg, ↓eo, ↓eox, ↓es, ↓et1, em, emR, efz, enl, ebx, ebt, et, ev, List.drop_nil, Option.some.injEq, Option.isSome_none, Int.reduceToNat, List.replicate_zero, Bool.or_self, ez, ef, ebd, et2, Int.toNat_natCast, Option.map_none, Option.map_some, List.all_cons, List.all_nil, Bool.and_self, List.cons_append, List.nil_append, List.append_nil, List.append_assoc, ep, ew, Option.isSome_some, id_eq, Nat.reduceLT, Nat.reduceSub, Bool.false_or, Bool.true_or, Bool.or_true, Bool.true_and, Bool.and_true, reduceCtorEq, Nat.reduceBEq, Bool.true_eq_false, Bool.false_eq_true, List.map_cons, List.map_nil, List.take_succ_cons, List.take_zero, List.drop_succ_cons, List.drop_zero, List.length_cons, List.length_nil, Nat.zero_add, Nat.reduceAdd, Nat.reduceLeDiff, Bool.not_true, Bool.not_false, List.getElem?_cons_succ, List.getElem?_cons_zero, Option.bind_some, ne_eq, not_false_eq_true, ↓eh1, eh, en, List.getD_cons_zero, List.getD_cons_succ, Nat.reduceEqDiff, ↓reduceIte, cond_true, cond_false, Bool.or_false, decide_true, decide_false, true_and, and_true, decide_eq_true_eq, decide_eq_false_iff_not, Bool.not_eq_true', Bool.not_eq_false', not_true_eq_false, Decidable.not_not]; exact Iff.rfl) : p := h.2 hq
theorem penc_ok (l : List Pr) (hl : l.length ≤ 100000000000000) (hk : ∀ p ∈ l, p.key.length ≤ 281474976710656) : Spec Tryz.prog LL 68 [.sl 2 Pr dPr l ePr] (.tp [.s (encPF l []).1, .n .i64 (encPF l []).2]) := by
  refine spec_of (C := ⟨Tryz.prog, LL, EE, []⟩) (rl := [.s (encPF l []).1, .n .i64 (encPF l []).2]) (rs := [.tmp 2, .tmp 3]) CCx LLs Tryz.func68 rfl (by kernel_rfl) rfl (by kernel_rfl) (Nat.le_of_ble_eq_true rfl) (fun i => rfl) (fun i => by first | rfl | exact (Bool.or_false _).trans (eSd_men _ _)) rfl (by decide) ?_
  refine gk ?_
  refine lp_nil 4 5 hB (gk ?_) (gk ?_) ?_
  · trivial
  · trivial
  refine lp_hr [7, 8] [] (fun x : Nat × List UInt8 => [(4, .ow 4 x.2.length), (9, .n .i64 (x.1 : Int))]) (fun x : Nat × List UInt8 => [(4, rB x.2)]) (fun x : Nat × List UInt8 => x.1 ≤ l.length ∧ encPF l [] = encPF (l.drop x.1) x.2 ∧ x.2.length ≤ 4194304) (fun x : Nat × List UInt8 => l.length - x.1) ((0, [])) id ⟨Nat.zero_le _, rfl, Nat.zero_le _⟩ (fits_of (gk ?_) (gk ?_) (gk ?_) (gk ?_) (gk ?_)) ?_
  · first | exact True.intro | exact ⟨rfl, rfl⟩ | exact ⟨rfl, rfl, rfl⟩ | rfl | exact rowc (List.map_id _) | trivial
  · first | exact True.intro | exact ⟨rfl, rfl⟩ | exact ⟨rfl, rfl, rfl⟩ | rfl | exact rowc (List.map_id _) | trivial
  · first | exact True.intro | exact ⟨rfl, rfl⟩ | exact ⟨rfl, rfl, rfl⟩ | rfl | exact rowc (List.map_id _) | trivial
  · first | exact True.intro | exact ⟨rfl, rfl⟩ | exact ⟨rfl, rfl, rfl⟩ | rfl | exact rowc (List.map_id _) | trivial
  · first | exact True.intro | exact ⟨rfl, rfl⟩ | exact ⟨rfl, rfl, rfl⟩ | rfl | exact rowc (List.map_id _) | trivial
  rintro ⟨i, b⟩ ⟨hi, hr, hb⟩
  dsimp only at hi hr hb ⊢
  try refine gk ?_
  refine br (fun e => ?_) (fun e => ?_)
  · have hm : l.getD i dPr ∈ l := getD_mem (by omega)
    have hm2 := hk _ hm
    rw [drop_at l i dPr (by omega), encPF] at hr
    try refine gk ?_
    generalize l.getD i dPr = p at hr hm2 ⊢
    refine cl (pkey_ok p.key) ?_
    refine gk ?_
    refine br (fun c => ?_) (fun c => ?_)
    · rw [if_pos (by simp [c])] at hr
      try refine gk ?_
      rw [hr]
      exact ⟨rfl, rfl⟩
    · rw [if_neg (by simpa using c)] at hr
      try refine gk ?_
      refine br (fun d => ?_) (fun d => ?_)
      · try refine gk ?_
        refine br (fun d2 => ?_) (fun d2 => ?_)
        · try refine gk ?_
          refine br (fun d3 => ?_) (fun d3 => ?_)
          · rw [if_pos (by omega)] at hr
            try refine gk ?_
            rw [hr]
            exact ⟨rfl, rfl⟩
          · rw [if_neg (by omega)] at hr
            have hrs := rstM_len p
            have hrl := recM_len (p := p) (by omega)
            have hrm := (lenM_spec (r := (rstM p).length) (by omega)).2.2
            try refine gk ?_
            refine cl (precord_ok p (by omega) (by omega)) ?_
            refine gk ?_
            refine ⟨(i + 1, b ++ recM p), fun i => if i = 4 then 35 else i, ⟨by dsimp only; omega, hr, by simp; omega⟩, (by dsimp only; omega), fits_of (gk ?_) (gk ?_) (gk ?_) (gk ?_) (gk ?_)⟩
            · first | exact True.intro | exact ⟨rfl, rfl⟩ | exact ⟨rfl, rfl, rfl⟩ | rfl | exact rowc (List.map_id _) | trivial
            · first | exact True.intro | exact ⟨rfl, rfl⟩ | exact ⟨rfl, rfl, rfl⟩ | rfl | exact rowc (List.map_id _) | trivial
            · first | exact True.intro | exact ⟨rfl, rfl⟩ | exact ⟨rfl, rfl, rfl⟩ | rfl | exact rowc (List.map_id _) | trivial
            · (first | exact rowc (by simp) | trivial)
            · first | exact True.intro | exact ⟨rfl, rfl⟩ | exact ⟨rfl, rfl, rfl⟩ | rfl | exact rowc (List.map_id _) | trivial
        · rw [if_pos (by omega)] at hr
          try refine gk ?_
          rw [hr]
          exact ⟨rfl, rfl⟩
      · rw [if_pos (by omega)] at hr
        try refine gk ?_
        rw [hr]
        exact ⟨rfl, rfl⟩
  · rw [List.drop_eq_nil_of_le (by omega), encPF] at hr
    try refine gk ?_
    refine br (fun c => ?_) (fun c => ?_)
    · rw [if_pos (by omega)] at hr
      try refine gk ?_
      rw [hr]
      exact ⟨rfl, rfl⟩
    · rw [if_neg (by omega)] at hr
      try refine gk ?_
      refine cvB (t := 5) (by kernel_rfl) (by kernel_rfl) (by kernel_rfl) ?_
      try refine gk ?_
      rw [hr]
      exact ⟨rfl, rfl⟩
theorem by_is {s : List UInt8} {i : Nat} {c : UInt8} : s.getD i 0 = c ↔ by' s i = c.toNat := ⟨fun h => by unfold by'; rw [h], fun h => UInt8.toNat_inj.1 h⟩
theorem b32 {s : List UInt8} {i : Nat} : s.getD i 0 = 32 ↔ by' s i = 32 := by_is
theorem b10 {s : List UInt8} {i : Nat} : s.getD i 0 = 10 ↔ by' s i = 10 := by_is
theorem dgN_le (s : List UInt8) : dgN s ≤ s.length := by
  have h := congrArg List.length (List.takeWhile_append_dropWhile (p := dg) (l := s))
  rw [List.length_append] at h
  unfold dgN
  omega
set_option maxHeartbeats 1000000 in
theorem pfirst_ok (s : List UInt8) (hs : s.length ≤ 1048576) : Spec Tryz.prog LL 118 [.s s] (.tp [ePr (firstM s).1, .n .i64 ((firstM s).2 : Int)]) := by
  refine spec_of (C := ⟨Tryz.prog, LL, EE, []⟩) (rl := [ePr (firstM s).1, .n .i64 ((firstM s).2 : Int)]) (rs := [.cell 2 106, .tmp 3]) CCx LLs Tryz.func118 rfl (by kernel_rfl) rfl (by kernel_rfl) (Nat.le_of_ble_eq_true rfl) (fun i => rfl) (fun i => by first | rfl | exact (Bool.or_false _).trans (eSd_men _ _)) rfl (by decide) ?_
  refine gk ?_
  refine cl (pdigits_ok s (by omega)) ?_
  refine gk ?_
  have hdl := dgN_le s
  obtain ⟨r, hr⟩ : ∃ r, r = firstM s := ⟨_, rfl⟩
  rw [← hr]
  unfold firstM at hr
  generalize dgN s = d at hdl hr ⊢
  try refine gk ?_
  refine cl (atoi_ok (s.take d) (by simp; omega)) ?_
  refine gk ?_
  generalize atoV (s.take d) = v at hr ⊢
  cases hb : atoB (s.take d) with
  | false =>
    rw [if_pos (.inl (by simp [hb]))] at hr
    try refine gk ?_
    subst hr
    exact ⟨le_refl _, rfl⟩
  | true =>
    rw [hb] at hr
    try refine gk ?_
    refine br (fun c1 => ?_) (fun c1 => ?_)
    · try refine gk ?_
      refine br (fun c2 => ?_) (fun c2 => ?_)
      · obtain ⟨n, rfl⟩ : ∃ n : Nat, v = (n : Int) := ⟨v.toNat, by omega⟩
        rw [Int.toNat_natCast] at hr
        try refine gk ?_
        refine br (fun c3 => ?_) (fun c3 => ?_)
        · try refine gk ?_
          rw [show ((n : Int) - 1).toNat = n - 1 by omega]
          refine br (fun c4 => ?_) (fun c4 => ?_)
          · rw [if_pos (.inr (.inr (.inr (.inr (by rw [b10]; omega)))))] at hr
            try refine gk ?_
            subst hr
            exact ⟨le_refl _, rfl⟩
          · have hne : n - 1 ≠ d := fun e => by rw [e] at c4; omega
            rw [if_neg (by rw [b32, b10]; rintro (h | h | h | h | h) <;> first | exact h rfl | omega)] at hr
            try refine gk ?_
            rw [show ((d : Int) + 1).toNat = d + 1 by omega, show ((n : Int) - 1).toNat = n - 1 by omega]
            refine cl (scut_ok ((s.take (n - 1)).drop (d + 1)) [61] (by simp; omega)) ?_
            refine gk ?_
            generalize Lib.cut ((s.take (n - 1)).drop (d + 1)) [61] = c at hr ⊢
            obtain ⟨k, w, ok⟩ := c
            dsimp only at hr ⊢
            cases ok with
            | false =>
              rw [if_pos (.inl (by simp))] at hr
              try refine gk ?_
              subst hr
              exact ⟨le_refl _, rfl⟩
            | true =>
              try refine gk ?_
              refine cd (pkey_ok k) ?_
              refine gk ?_
              refine br (fun c5 => ?_) (fun c5 => ?_)
              · try refine gk ?_
                rw [show (n : Int) - (d : Int) = ((n - d : Nat) : Int) by omega]
                have hlm := (lenM_spec (r := n - d) (by omega)).2.2
                refine cd (plength_ok (n - d) (by omega)) ?_
                refine gk ?_
                refine cd (itoa_ok (lenM (n - d) : Int) (by omega) (by omega)) ?_
                refine gk ?_
                rw [itoa_nat]
                refine br (fun c6 => ?_) (fun c6 => ?_)
                · rw [if_pos (.inr (.inr c6))] at hr
                  try refine gk ?_
                  subst hr
                  exact ⟨le_refl _, rfl⟩
                · rw [if_neg (by rintro (h | h | h) <;> first | exact h rfl | exact h c5 | exact c6 h)] at hr
                  try refine gk ?_
                  subst hr
                  exact ⟨le_refl _, rfl⟩
              · rw [if_pos (.inr (.inl c5))] at hr
                try refine gk ?_
                subst hr
                exact ⟨le_refl _, rfl⟩
        · rw [if_pos (.inr (.inr (.inr (.inl (by rw [b32]; omega)))))] at hr
          try refine gk ?_
          subst hr
          exact ⟨le_refl _, rfl⟩
      · rw [if_pos (.inr (.inr (.inl (by omega))))] at hr
        try refine gk ?_
        subst hr
        exact ⟨le_refl _, rfl⟩
    · rw [if_pos (.inr (.inl (by omega)))] at hr
      try refine gk ?_
      subst hr
      exact ⟨le_refl _, rfl⟩
end Go.Proofs.YtikmkgoeepgbkaaGreatDoor.Ev
