/- What the library's functions of numbers give. -/
import Derived.Test.YtikmkgoeepgbkaaGreatDoorTp
set_option linter.all false
namespace Go.Proofs.YtikmkgoeepgbkaaGreatDoor.Ev
open Go.RowKit
open Go.Proofs.YtikmkgoeepgbkaaGreatDoor.Mem
set_option linter.unusedVariables false
set_option linter.unusedSimpArgs false
set_option maxRecDepth 100000
theorem ag1n {xs : Array Value} {av : List V} {S : Nat → Prop} {W : World} (hs : xs.size = av.length) (hx : ∀ (q : Nat) (y : V) (v : Value), av[q]? = some y → xs[q]? = some v → Rep S W G0 y v) {k : IntKind} {n : Int} (e : av = [.n k n]) : xs = #[.int k n] := by
  subst e
  obtain ⟨v, rfl⟩ := one_arg hs
  rw [(hx 0 _ v rfl rfl).n_inv]
theorem itoa_ok (n : Int) (h0 : -9223372036854775808 ≤ n) (h1 : n ≤ 9223372036854775807) : Spec Tryz.prog LL 128 [.n .i64 n] (.s (Lib.itoa n)) := by
  refine Spec.of (fn := Tryz.f128) Tryz.func128 (by kernel_rfl) (by kernel_rfl) (fun _ => rfl) fun S W xs hL hz hx _ => ?_
  rw [ag1n hz hx rfl]
  refine (Tryz.strconv_Itoa n h0 h1 W hL.2.1.1).mono ?_
  rintro e w' ⟨rfl, k, os, rfl⟩
  exact ⟨_, rfl, Lib.below_grow _ _ (Nat.le_refl _) k os, .s _ _⟩
theorem sat_eq (s : List UInt8) : Lib.atoiSat s = if s.head? = some 45 then -9223372036854775808 else 9223372036854775807 := by
  unfold Lib.atoiSat
  cases s with
  | nil => rfl
  | cons c r =>
    have e : (c.toNat = 45) = (c = 45) := propext ⟨fun h => UInt8.toNat_inj.1 h, fun h => by rw [h]; rfl⟩
    simp only [List.head?_cons, Option.map_some, Option.some.injEq, e]
theorem atoi_ok (s : List UInt8) (hs : s.length ≤ 281474976710656) : Spec Tryz.prog LL 139 [.s s] (.tp [.n .i64 (atoV s), bif atoB s then .inil else .it 176 .j]) := by
  refine Spec.of (fn := Tryz.f139) Tryz.func139 (by kernel_rfl) (by kernel_rfl) (fun i => by generalize atoB s = b; cases b <;> rfl) fun S W xs hL hz hx _ => ?_
  rw [ag1 hz hx rfl]
  unfold atoV atoB
  cases hq : Lib.atoiAll s with
  | ok v =>
    refine (Tryz.strconv_Atoi_ok (tx s) (by rw [tx_size]; omega) v (by rw [tx_dl]; exact hq) W).mono ?_
    rintro e w' ⟨rfl, h2⟩
    refine ⟨_, rfl, ?_, rep_tp2 (.n _ _ _) (.inil _)⟩
    rcases h2 with rfl | ⟨t, rfl⟩
    · exact Below.refl _ _
    · exact Lib.bytesWorld_below _ _ _
  | range =>
    obtain ⟨te, pe, he⟩ := hL.2.2.2
    refine (Tryz.strconv_Atoi_range (tx s) (by rw [tx_size]; exact hs) (by rw [tx_dl]; exact hq) _ W he (.inr ⟨te, pe, rfl⟩)).mono ?_
    rintro e w' ⟨N, rfl, _, _, hb⟩
    refine ⟨_, rfl, hb, rep_tp2 ?_ (.it _ _ _ _ (.j _ _))⟩
    rw [tx_dl, sat_eq]
    exact .n _ _ _
  | _ =>
    obtain ⟨te, pe, he⟩ := hL.2.2.1
    refine (Any.strconv_Atoi_syntax Tryz.laysC172 (tx s) (by rw [tx_size]; exact hs) (by rw [tx_dl]; exact hq) _ W he (.inr ⟨te, pe, rfl⟩)).mono ?_
    rintro e w' ⟨N, rfl, _, _, hb⟩
    exact ⟨_, rfl, hb, rep_tp2 (.n _ _ _) (.it _ _ _ _ (.j _ _))⟩
end Go.Proofs.YtikmkgoeepgbkaaGreatDoor.Ev
