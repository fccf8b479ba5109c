/- The laws of manifests. -/
import Derived.Test.YtjbnmeofjiokeaaGreatDoorNE
set_option linter.all false
namespace Go.Proofs.YtjbnmeofjiokeaaGreatDoor.Ev
open Go.RowKit
open Go.Proofs.YtjbnmeofjiokeaaGreatDoor.Mem
set_option linter.unusedVariables false
set_option linter.unusedSimpArgs false
set_option maxRecDepth 100000
theorem agR {F : Nat → Prop} {W : World} {G : Gm} {a c : List UInt8} {b : Int} {vs : Array Value} (h : Rep F W G (.ag [.s a, .n .i64 b, .s c]) (.agg vs)) : vs = #[.string (tx a), .int .i64 b, .string (tx c)] := by
  obtain ⟨us, h1, h2, h3⟩ := h.ag_inv
  obtain rfl := Value.agg.inj h1
  have h2 : vs.size = 3 := h2
  have e0 := (h3 0 (.s a) _ rfl (Array.getElem?_eq_getElem (by omega))).s_inv
  have e1 := (h3 1 (.n .i64 b) _ rfl (Array.getElem?_eq_getElem (by omega))).n_inv
  have e2 := (h3 2 (.s c) _ rfl (Array.getElem?_eq_getElem (by omega))).s_inv
  apply Array.ext
  · simpa using h2
  · intro i p q
    rcases i with _ | _ | _ | i
    · exact e0
    · exact e1
    · exact e2
    · omega
theorem agE {F : Nat → Prop} {W : World} {G : Gm} {c d e : List UInt8} {a b : Int} {vs : Array Value} (h : Rep F W G (.ag [.n .i64 a, .n .i64 b, .s c, .s d, .s e]) (.agg vs)) : vs = #[.int .i64 a, .int .i64 b, .string (tx c), .string (tx d), .string (tx e)] := by
  obtain ⟨us, h1, h2, h3⟩ := h.ag_inv
  obtain rfl := Value.agg.inj h1
  have h2 : vs.size = 5 := h2
  have e0 := (h3 0 (.n .i64 a) _ rfl (Array.getElem?_eq_getElem (by omega))).n_inv
  have e1 := (h3 1 (.n .i64 b) _ rfl (Array.getElem?_eq_getElem (by omega))).n_inv
  have e2 := (h3 2 (.s c) _ rfl (Array.getElem?_eq_getElem (by omega))).s_inv
  have e3 := (h3 3 (.s d) _ rfl (Array.getElem?_eq_getElem (by omega))).s_inv
  have e4 := (h3 4 (.s e) _ rfl (Array.getElem?_eq_getElem (by omega))).s_inv
  apply Array.ext
  · simpa using h2
  · intro i p q
    rcases i with _ | _ | _ | _ | _ | i
    · exact e0
    · exact e1
    · exact e2
    · exact e3
    · exact e4
    · omega
theorem eqaR (a c : List UInt8) (b : Int) : EqA Tryz.prog 76 [.s a, .n .i64 b, .s c] [.s a, .n .i64 b, .s c] true := by
  refine ⟨by kernel_rfl, fun F W G vs us h1 h2 => ?_⟩
  rw [agR h1, agR h2]
  have u3 := Tryz.underlying3
  have a3 := Tryz.isAgg3
  have z3 := Tryz.sizeOf3
  have u9 := Tryz.underlying9
  have a9 := Tryz.isAgg9
  have z9 := Tryz.sizeOf9
  have hS : Tryz.prog.underlying 76 = some (.struct (Tryz.prog.fieldsOf 76)) := by kernel_rfl
  have hp : Tryz.prog.stoodInHeld 76 = false := by kernel_rfl
  rw [show (10000 : Nat) = 9999 + 1 from rfl, run_equalIn_agg W 9999 76 _ _ hS hp]
  simp only [Program.fieldsOf, Tryz.underlying76]
  go_simp
theorem eqaE (a b : Int) (c d e : List UInt8) : EqA Tryz.prog 53 [.n .i64 a, .n .i64 b, .s c, .s d, .s e] [.n .i64 a, .n .i64 b, .s c, .s d, .s e] true := by
  refine ⟨by kernel_rfl, fun F W G vs us h1 h2 => ?_⟩
  rw [agE h1, agE h2]
  have u3 := Tryz.underlying3
  have a3 := Tryz.isAgg3
  have z3 := Tryz.sizeOf3
  have u9 := Tryz.underlying9
  have a9 := Tryz.isAgg9
  have z9 := Tryz.sizeOf9
  have hS : Tryz.prog.underlying 53 = some (.struct (Tryz.prog.fieldsOf 53)) := by kernel_rfl
  have hp : Tryz.prog.stoodInHeld 53 = false := by kernel_rfl
  rw [show (10000 : Nat) = 9999 + 1 from rfl, run_equalIn_agg W 9999 53 _ _ hS hp]
  simp only [Program.fieldsOf, Tryz.underlying53]
  go_simp
theorem sameR_ok (l : List Rul) (hl : l.length ≤ 100000000000000) : Spec Tryz.prog LL 32 [.sl 3 Rul dR l eRul, .sl 3 Rul dR l eRul] (.b true) := by
  refine spec_of (C := ⟨Tryz.prog, LL, EE, []⟩) (rl := [.b true]) (rs := [.tmp 4]) CCx LLs Tryz.func32 rfl (by kernel_rfl) rfl (by kernel_rfl) (Nat.le_of_ble_eq_true rfl) (fun i => rfl) (fun i => by first | rfl | exact (Bool.or_false _).trans (eSd_men _ _)) rfl (by decide) ?_
  refine gr ?_
  refine lp_hd [0, 1] [] (fun i : Nat => [(5, .n .i64 (i : Int))]) (fun i : Nat => []) (fun i : Nat => i ≤ l.length) (fun i : Nat => l.length - i) (0) id (id) (Nat.zero_le _) (fits_of (gr ?_) (gr ?_) (gr ?_) (gr ?_) (gr ?_)) ?_
  · first | exact True.intro | exact ⟨rfl, rfl⟩ | exact ⟨rfl, rfl, rfl⟩ | rfl | exact rowc (List.map_id _) | trivial
  · first | exact True.intro | exact ⟨rfl, rfl⟩ | exact ⟨rfl, rfl, rfl⟩ | rfl | exact rowc (List.map_id _) | trivial
  · first | exact True.intro | exact ⟨rfl, rfl⟩ | exact ⟨rfl, rfl, rfl⟩ | rfl | exact rowc (List.map_id _) | trivial
  · first | exact True.intro | exact ⟨rfl, rfl⟩ | exact ⟨rfl, rfl, rfl⟩ | rfl | exact rowc (List.map_id _) | trivial
  · first | exact True.intro | exact ⟨rfl, rfl⟩ | exact ⟨rfl, rfl, rfl⟩ | rfl | exact rowc (List.map_id _) | trivial
  rintro i hi
  try refine gr ?_
  refine br (fun h => ?_) (fun h => ?_)
  · try refine gr ?_
    refine ⟨true, eqaR _ _ _, gr ?_⟩
    refine ⟨i + 1, (by omega), (by omega), fits_of (gr ?_) (gr ?_) (gr ?_) (gr ?_) (gr ?_)⟩
    · first | exact True.intro | exact ⟨rfl, rfl⟩ | exact ⟨rfl, rfl, rfl⟩ | rfl | exact rowc (List.map_id _) | trivial
    · first | exact True.intro | exact ⟨rfl, rfl⟩ | exact ⟨rfl, rfl, rfl⟩ | rfl | exact rowc (List.map_id _) | trivial
    · first | exact True.intro | exact ⟨rfl, rfl⟩ | exact ⟨rfl, rfl, rfl⟩ | rfl | exact rowc (List.map_id _) | trivial
    · first | exact True.intro | exact ⟨rfl, rfl⟩ | exact ⟨rfl, rfl, rfl⟩ | rfl | exact rowc (List.map_id _) | trivial
    · first | exact True.intro | exact ⟨rfl, rfl⟩ | exact ⟨rfl, rfl, rfl⟩ | rfl | exact rowc (List.map_id _) | trivial
  · try refine gr ?_
    trivial
theorem same_ok (m : Man) (hm : m.Fit) : Spec Tryz.prog LL 15 [eMan m, eMan m] (.b true) := by
  refine spec_of (C := ⟨Tryz.prog, LL, EE, []⟩) (rl := [.b true]) (rs := [.tmp 4]) CCx LLs Tryz.func15 rfl (by kernel_rfl) rfl (by kernel_rfl) (Nat.le_of_ble_eq_true rfl) (fun i => rfl) (fun i => by first | rfl | exact (Bool.or_false _).trans (eSd_men _ _)) rfl (by decide) ?_
  refine gr ?_
  have h1 := hm.nl
  have h2 := hm.cl
  have h3 := hm.el
  refine cl (sameR_ok m.needs h1) ?_
  refine gr ?_
  refine cl (sameR_ok m.clashes h2) ?_
  refine gr ?_
  refine lp_hd [2, 3] [2, 3] (fun i : Nat => [(5, .n .i64 (i : Int))]) (fun i : Nat => []) (fun i : Nat => i ≤ m.ents.length) (fun i : Nat => m.ents.length - i) (0) id (id) (Nat.zero_le _) (fits_of (gr ?_) (gr ?_) (gr ?_) (gr ?_) (gr ?_)) ?_
  · first | exact True.intro | exact ⟨rfl, rfl⟩ | exact ⟨rfl, rfl, rfl⟩ | rfl | exact rowc (List.map_id _) | trivial
  · first | exact True.intro | exact ⟨rfl, rfl⟩ | exact ⟨rfl, rfl, rfl⟩ | rfl | exact rowc (List.map_id _) | trivial
  · first | exact True.intro | exact ⟨rfl, rfl⟩ | exact ⟨rfl, rfl, rfl⟩ | rfl | exact rowc (List.map_id _) | trivial
  · first | exact True.intro | exact ⟨rfl, rfl⟩ | exact ⟨rfl, rfl, rfl⟩ | rfl | exact rowc (List.map_id _) | trivial
  · first | exact True.intro | exact ⟨rfl, rfl⟩ | exact ⟨rfl, rfl, rfl⟩ | rfl | exact rowc (List.map_id _) | trivial
  rintro i hi
  try refine gr ?_
  refine br (fun h => ?_) (fun h => ?_)
  · try refine gr ?_
    refine ⟨true, eqaE _ _ _ _ _, gr ?_⟩
    refine ⟨i + 1, (by omega), (by omega), fits_of (gr ?_) (gr ?_) (gr ?_) (gr ?_) (gr ?_)⟩
    · first | exact True.intro | exact ⟨rfl, rfl⟩ | exact ⟨rfl, rfl, rfl⟩ | rfl | exact rowc (List.map_id _) | trivial
    · first | exact True.intro | exact ⟨rfl, rfl⟩ | exact ⟨rfl, rfl, rfl⟩ | rfl | exact rowc (List.map_id _) | trivial
    · first | exact True.intro | exact ⟨rfl, rfl⟩ | exact ⟨rfl, rfl, rfl⟩ | rfl | exact rowc (List.map_id _) | trivial
    · first | exact True.intro | exact ⟨rfl, rfl⟩ | exact ⟨rfl, rfl, rfl⟩ | rfl | exact rowc (List.map_id _) | trivial
    · first | exact True.intro | exact ⟨rfl, rfl⟩ | exact ⟨rfl, rfl, rfl⟩ | rfl | exact rowc (List.map_id _) | trivial
  · try refine gr ?_
    trivial
end Go.Proofs.YtjbnmeofjiokeaaGreatDoor.Ev
