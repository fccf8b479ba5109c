/- A law of archives: no beginning is read. -/
import Derived.Test.YtikmkgoeepgbkaaGreatDoorTt
set_option linter.all false
namespace Go.Proofs.YtikmkgoeepgbkaaGreatDoor.Ev
open Go.RowKit
open Go.Proofs.YtikmkgoeepgbkaaGreatDoor.Mem
set_option linter.unusedVariables false
set_option linter.unusedSimpArgs false
set_option maxRecDepth 100000
theorem fxU : sz Tryz.prog 35 = some 1 ∧ agT Tryz.prog 35 = false ∧ (Tryz.prog.underlying 35).isSome = true ∧ bys Tryz.prog 35 = some 8 ∧ zc Tryz.prog 35 = some [.n .u64 0] ∧ ik Tryz.prog 35 = some .u64 :=
  ⟨by kernel_rfl, by kernel_rfl, by kernel_rfl, by kernel_rfl, by kernel_rfl, by kernel_rfl⟩
theorem gw {p q : Prop} (hq : q) (h : p ↔ q := by simp (config := { maxSteps := 10000000 }) (disch := omega) only [fxU, eNtd, bkTd, fxE, cBd, epw, edr, eod, false_and, and_false, fxM, cSd, wrc, eRd, eEd, eMd, eBd, eEE, rDs, eok, true_implies, eo5, ev5, Nat.mul_one, Nat.zero_mul, Nat.one_mul, Nat.add_zero, lenl, bne_self_eq_false, Int.reduceLT, Int.reduceLE, Int.reduceEq, Int.reduceNe, Int.reduceAdd, Int.reduceSub, Int.reduceMul, Int.reduceNeg, ebr, wr64, sdl, ler, true_or, or_true, rng, List.length_map, List.length_range, List.length_append, List.length_replicate, List.length_set, List.length_take, List.length_drop, List.not_mem_nil, false_implies, implies_true, ↓ec, ↓eg, ↓eo, ↓eox, ↓es, ↓et1, em, emR, efz, enl, ebx, ebt, et, ev, List.drop_nil, Option.some.injEq, Option.isSome_none, Int.reduceToNat, List.replicate_zero, Bool.or_self, ez, ef, ebd, et2, Int.toNat_natCast, Option.map_none, Option.map_some, List.all_cons, List.all_nil, Bool.and_self, List.cons_append, List.nil_append, List.append_nil, List.append_assoc, ep, ew, Option.isSome_some, id_eq, Nat.reduceLT, Nat.reduceSub, Bool.false_or, Bool.true_or, Bool.or_true, Bool.true_and, Bool.and_true, reduceCtorEq, Nat.reduceBEq, Bool.true_eq_false, Bool.false_eq_true, List.map_cons, List.map_nil, List.take_succ_cons, List.take_zero, List.drop_succ_cons, List.drop_zero, List.length_cons, List.length_nil, Nat.zero_add, Nat.reduceAdd, Nat.reduceLeDiff, Bool.not_true, Bool.not_false, List.getElem?_cons_succ, List.getElem?_cons_zero, Option.bind_some, ne_eq, not_false_eq_true, ↓eh1, eh, en, List.getD_cons_zero, List.getD_cons_succ, Nat.reduceEqDiff, ↓reduceIte, cond_true, cond_false, Bool.or_false, decide_true, decide_false, true_and, and_true, decide_eq_true_eq, decide_eq_false_iff_not, Bool.not_eq_true', Bool.not_eq_false', not_true_eq_false, Decidable.not_not]; exact Iff.rfl) : p := h.2 hq
theorem cutk (p : Int) (n : Nat) (hn : n < 4611686018427387904) : ∃ k : Nat, k ≤ n ∧ ¬ IntKind.u64.wrap ((n : Int) + 1) = 0 ∧ IntKind.i64.wrap ((IntKind.u64.wrap p).tmod (IntKind.u64.wrap ((n : Int) + 1))) = (k : Int) := by
  have h0 : IntKind.u64.wrap ((n : Int) + 1) = (((n + 1 : Nat)) : Int) := by rw [IntKind.wrap_u64]; omega
  have h1 : IntKind.u64.wrap p = (((p % 18446744073709551616).toNat : Nat) : Int) := by rw [IntKind.wrap_u64]; omega
  rw [h0, h1]
  have h2 : ((((p % 18446744073709551616).toNat : Nat) : Int)).tmod (((n + 1 : Nat)) : Int) = (((p % 18446744073709551616).toNat % (n + 1) : Nat) : Int) := by
    rw [Int.tmod_eq_emod_of_nonneg (by omega)]; rfl
  rw [h2]
  have h3 : (p % 18446744073709551616).toNat % (n + 1) < n + 1 := Nat.mod_lt _ (by omega)
  exact ⟨(p % 18446744073709551616).toNat % (n + 1), by omega, by omega, wr64 (by omega) (by omega)⟩
theorem lcut_ok (l : List Mbr) (p : Int) (hl : l.length ≤ 100000000000000) (ha : ∀ m ∈ l, m.Arg) : Spec Tryz.prog LL 7 [.sl 8 Mbr dMb l eMbr, .n .i64 p] (.b true) := by
  refine spec_of (C := ⟨Tryz.prog, LL, EE, []⟩) (rl := [.b true]) (rs := [.tmp 4]) CCx LLs Tryz.func7 rfl (by kernel_rfl) rfl (by kernel_rfl) (Nat.le_of_ble_eq_true rfl) (fun i => rfl) (fun i => by first | rfl | exact (Bool.or_false _).trans (eSd_men _ _)) rfl (by decide) ?_
  refine gw ?_
  refine cl (tgreat_ok l hl) ?_
  refine gw ?_
  refine br (fun g => ?_) (fun g => ?_)
  · try refine gw ?_
    refine cl (tawake_ok) ?_
    refine gw ?_
    trivial
  · try refine gw ?_
    refine cl (twrite_ok l ha) ?_
    refine gw ?_
    have hf := fun e => wrM_fit (l := l) e fun m hm => (ha m hm).2
    generalize wrM l = w at hf ⊢
    obtain ⟨T, e⟩ := w
    dsimp only at hf ⊢
    refine br (fun a => ?_) (fun a => ?_)
    · try refine gw ?_
      refine cl (tawake_ok) ?_
      refine gw ?_
      trivial
    · obtain ⟨f1, f2, f3, f4⟩ := hf (by omega)
      have hln : T.length = (flatM l).length + 1024 := by rw [f3]; simp
      try refine gw ?_
      obtain ⟨k, k1, k2, k3⟩ := cutk p T.length (by omega)
      rw [k3]
      refine ⟨k2, ⟨by omega, by omega⟩, ?_⟩
      simp only [Int.toNat_natCast]
      refine cl (tread_ok (T.take k)) ?_
      refine gw ?_
      refine cl (tawake_ok) ?_
      refine gw ?_
      have key : (readM (T.take k)).2 = 0 ↔ k = T.length := by
        rcases Nat.lt_or_ge k T.length with h | h
        · have := read_cut (l := l) (K := k) f2 f1 (by omega) (by rw [← f3]; exact h)
          rw [f3]
          exact ⟨fun e => absurd e this, fun e => by rw [← f3] at e; omega⟩
        · have e : k = T.length := by omega
          have hrw := read_written (l := l) (e := 0) f2 f1 (by omega)
          rw [Nat.add_zero] at hrw
          rw [e, List.take_length, f3, hrw]
          exact ⟨fun _ => rfl, fun _ => rfl⟩
      generalize readM (T.take k) = u at key ⊢
      obtain ⟨u1, u2⟩ := u
      dsimp only at key ⊢
      try refine gw ?_
      have kz : ((k : Int) = (T.length : Int)) ↔ k = T.length := by omega
      rw [beq_iff_eq, decide_eq_decide, kz]
      exact key
end Go.Proofs.YtikmkgoeepgbkaaGreatDoor.Ev
