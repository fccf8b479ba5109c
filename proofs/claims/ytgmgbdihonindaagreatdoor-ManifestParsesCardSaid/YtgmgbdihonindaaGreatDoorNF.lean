/- The laws of manifests. -/
import Derived.Test.YtgmgbdihonindaaGreatDoorNE
import Derived.Test.YtgmgbdihonindaaGreatDoorKI
import Derived.Test.YtgmgbdihonindaaGreatDoorRows
import Derived.Lib.LaidIn
import Derived.Lib.LaidU8T
import Derived.Deep.DeepHandedRow
import Derived.ProofKit
set_option linter.all false
namespace Go.Proofs.YtgmgbdihonindaaGreatDoor.Ev
open Go.RowKit
open Go.Proofs.YtgmgbdihonindaaGreatDoor.Mem
set_option linter.unusedVariables false
set_option linter.unusedSimpArgs false
set_option maxRecDepth 100000
def exM : Man := ⟨[97], [49], [⟨[98], 5, [50]⟩], [], [⟨2, 493, [], [120], []⟩, ⟨3, 0, [], [120, 47, 121], [122]⟩]⟩
theorem ex_ok : checkM exM = 0 := by decide +kernel
def exT : List UInt8 := [104, 111, 108, 100, 97, 108, 108, 32, 49, 10, 110, 97, 109, 101, 32, 97, 10, 118, 101, 114, 115, 105, 111, 110, 32, 49, 10, 110, 101, 101, 100, 115, 32, 98, 32, 62, 61, 32, 50, 10, 100, 105, 114, 32, 48, 55, 53, 53, 32, 120, 10, 108, 105, 110, 107, 32, 120, 47, 121, 32, 122, 10]
theorem print_ex : printM exM = (exT, 0) := by
  unfold printM
  rw [ex_ok, if_neg (by decide)]
  exact congrArg (·, 0) (show textM exM = exT by decide +kernel)
theorem parse_ex : parseM exT = (exM, 0) := by
  have h : textM exM = exT := by decide +kernel
  rw [← h, parseM_text ex_ok]
theorem ex_fit : exM.Fit := Man.In.fit (k := 2) (n := 3) (by unfold Man.In exM; decide) (by omega) (by omega)
theorem awake_ok  : Spec Tryz.prog LL 7 [] (.b true) := by
  refine spec_of (C := ⟨Tryz.prog, LL, EE, []⟩) (rl := [.b true]) (rs := [.tmp 0]) CCx LLs Tryz.func7 rfl (by kernel_rfl) rfl (by kernel_rfl) (Nat.le_of_ble_eq_true rfl) (fun i => rfl) (fun i => by first | rfl | exact (Bool.or_false _).trans (eSd_men _ _)) rfl (by decide) ?_
  refine gr ?_
  refine .inr ?_
  refine .inr ?_
  refine cln (print_ok exM ex_fit) (gr ?_) ?_
  · repeat' apply And.intro
    all_goals first | exact le_refl _ | exact le_nl | trivial
  rw [print_ex]
  try refine gr ?_
  refine cl (parse_ok exT (by decide)) ?_
  refine gr ?_
  rw [parse_ex]
  try refine gr ?_
  rw [exT]
  try refine gr ?_
  trivial
theorem agR {F : Nat → Prop} {W : World} {G : Gm} {a c : List UInt8} {b : Int} {vs : Array Value} (h : Rep F W G (.ag [.s a, .n .i64 b, .s c]) (.agg vs)) : vs = #[.string (tx a), .int .i64 b, .string (tx c)] := by
  obtain ⟨us, h1, h2, h3⟩ := h.ag_inv
  obtain rfl := Value.agg.inj h1
  have h2 : vs.size = 3 := h2
  have e0 := (h3 0 (.s a) _ rfl (Array.getElem?_eq_getElem (by omega))).s_inv
  have e1 := (h3 1 (.n .i64 b) _ rfl (Array.getElem?_eq_getElem (by omega))).n_inv
  have e2 := (h3 2 (.s c) _ rfl (Array.getElem?_eq_getElem (by omega))).s_inv
  apply Array.ext
  · simpa using h2
  · intro i p q
    rcases i with _ | _ | _ | i
    · exact e0
    · exact e1
    · exact e2
    · omega
theorem agE {F : Nat → Prop} {W : World} {G : Gm} {c d e : List UInt8} {a b : Int} {vs : Array Value} (h : Rep F W G (.ag [.n .i64 a, .n .i64 b, .s c, .s d, .s e]) (.agg vs)) : vs = #[.int .i64 a, .int .i64 b, .string (tx c), .string (tx d), .string (tx e)] := by
  obtain ⟨us, h1, h2, h3⟩ := h.ag_inv
  obtain rfl := Value.agg.inj h1
  have h2 : vs.size = 5 := h2
  have e0 := (h3 0 (.n .i64 a) _ rfl (Array.getElem?_eq_getElem (by omega))).n_inv
  have e1 := (h3 1 (.n .i64 b) _ rfl (Array.getElem?_eq_getElem (by omega))).n_inv
  have e2 := (h3 2 (.s c) _ rfl (Array.getElem?_eq_getElem (by omega))).s_inv
  have e3 := (h3 3 (.s d) _ rfl (Array.getElem?_eq_getElem (by omega))).s_inv
  have e4 := (h3 4 (.s e) _ rfl (Array.getElem?_eq_getElem (by omega))).s_inv
  apply Array.ext
  · simpa using h2
  · intro i p q
    rcases i with _ | _ | _ | _ | _ | i
    · exact e0
    · exact e1
    · exact e2
    · exact e3
    · exact e4
    · omega
theorem eqaR (a c : List UInt8) (b : Int) : EqA Tryz.prog 34 [.s a, .n .i64 b, .s c] [.s a, .n .i64 b, .s c] true := by
  refine ⟨by kernel_rfl, fun F W G vs us h1 h2 => ?_⟩
  rw [agR h1, agR h2]
  have u3 := Tryz.underlying3
  have a3 := Tryz.isAgg3
  have z3 := Tryz.sizeOf3
  have u9 := Tryz.underlying9
  have a9 := Tryz.isAgg9
  have z9 := Tryz.sizeOf9
  have hS : Tryz.prog.underlying 34 = some (.struct (Tryz.prog.fieldsOf 34)) := by kernel_rfl
  have hp : Tryz.prog.stoodInHeld 34 = false := by kernel_rfl
  rw [show (10000 : Nat) = 9999 + 1 from rfl, run_equalIn_agg W 9999 34 _ _ hS hp]
  simp only [Program.fieldsOf, Tryz.underlying34]
  go_simp
theorem eqaE (a b : Int) (c d e : List UInt8) : EqA Tryz.prog 37 [.n .i64 a, .n .i64 b, .s c, .s d, .s e] [.n .i64 a, .n .i64 b, .s c, .s d, .s e] true := by
  refine ⟨by kernel_rfl, fun F W G vs us h1 h2 => ?_⟩
  rw [agE h1, agE h2]
  have u3 := Tryz.underlying3
  have a3 := Tryz.isAgg3
  have z3 := Tryz.sizeOf3
  have u9 := Tryz.underlying9
  have a9 := Tryz.isAgg9
  have z9 := Tryz.sizeOf9
  have hS : Tryz.prog.underlying 37 = some (.struct (Tryz.prog.fieldsOf 37)) := by kernel_rfl
  have hp : Tryz.prog.stoodInHeld 37 = false := by kernel_rfl
  rw [show (10000 : Nat) = 9999 + 1 from rfl, run_equalIn_agg W 9999 37 _ _ hS hp]
  simp only [Program.fieldsOf, Tryz.underlying37]
  go_simp
theorem sameR_ok (l : List Rul) (hl : l.length ≤ 100000000000000) : Spec Tryz.prog LL 45 [.sl 3 Rul dR l eRul, .sl 3 Rul dR l eRul] (.b true) := by
  refine spec_of (C := ⟨Tryz.prog, LL, EE, []⟩) (rl := [.b true]) (rs := [.tmp 4]) CCx LLs Tryz.func45 rfl (by kernel_rfl) rfl (by kernel_rfl) (Nat.le_of_ble_eq_true rfl) (fun i => rfl) (fun i => by first | rfl | exact (Bool.or_false _).trans (eSd_men _ _)) rfl (by decide) ?_
  refine gr ?_
  refine lp_hd [0, 1] [] (fun i : Nat => [(5, .n .i64 (i : Int))]) (fun i : Nat => []) (fun i : Nat => i ≤ l.length) (fun i : Nat => l.length - i) (0) id (id) (Nat.zero_le _) (fits_of (gr ?_) (gr ?_) (gr ?_) (gr ?_) (gr ?_)) ?_
  · first | exact True.intro | exact ⟨rfl, rfl⟩ | exact ⟨rfl, rfl, rfl⟩ | rfl | exact rowc (List.map_id _) | trivial
  · first | exact True.intro | exact ⟨rfl, rfl⟩ | exact ⟨rfl, rfl, rfl⟩ | rfl | exact rowc (List.map_id _) | trivial
  · first | exact True.intro | exact ⟨rfl, rfl⟩ | exact ⟨rfl, rfl, rfl⟩ | rfl | exact rowc (List.map_id _) | trivial
  · first | exact True.intro | exact ⟨rfl, rfl⟩ | exact ⟨rfl, rfl, rfl⟩ | rfl | exact rowc (List.map_id _) | trivial
  · first | exact True.intro | exact ⟨rfl, rfl⟩ | exact ⟨rfl, rfl, rfl⟩ | rfl | exact rowc (List.map_id _) | trivial
  rintro i hi
  try refine gr ?_
  refine br (fun h => ?_) (fun h => ?_)
  · try refine gr ?_
    refine ⟨true, eqaR _ _ _, gr ?_⟩
    refine ⟨i + 1, (by omega), (by omega), fits_of (gr ?_) (gr ?_) (gr ?_) (gr ?_) (gr ?_)⟩
    · first | exact True.intro | exact ⟨rfl, rfl⟩ | exact ⟨rfl, rfl, rfl⟩ | rfl | exact rowc (List.map_id _) | trivial
    · first | exact True.intro | exact ⟨rfl, rfl⟩ | exact ⟨rfl, rfl, rfl⟩ | rfl | exact rowc (List.map_id _) | trivial
    · first | exact True.intro | exact ⟨rfl, rfl⟩ | exact ⟨rfl, rfl, rfl⟩ | rfl | exact rowc (List.map_id _) | trivial
    · first | exact True.intro | exact ⟨rfl, rfl⟩ | exact ⟨rfl, rfl, rfl⟩ | rfl | exact rowc (List.map_id _) | trivial
    · first | exact True.intro | exact ⟨rfl, rfl⟩ | exact ⟨rfl, rfl, rfl⟩ | rfl | exact rowc (List.map_id _) | trivial
  · try refine gr ?_
    trivial
theorem same_ok (m : Man) (hm : m.Fit) : Spec Tryz.prog LL 18 [eMan m, eMan m] (.b true) := by
  refine spec_of (C := ⟨Tryz.prog, LL, EE, []⟩) (rl := [.b true]) (rs := [.tmp 4]) CCx LLs Tryz.func18 rfl (by kernel_rfl) rfl (by kernel_rfl) (Nat.le_of_ble_eq_true rfl) (fun i => rfl) (fun i => by first | rfl | exact (Bool.or_false _).trans (eSd_men _ _)) rfl (by decide) ?_
  refine gr ?_
  have h1 := hm.nl
  have h2 := hm.cl
  have h3 := hm.el
  refine cl (sameR_ok m.needs h1) ?_
  refine gr ?_
  refine cl (sameR_ok m.clashes h2) ?_
  refine gr ?_
  refine lp_hd [2, 3] [2, 3] (fun i : Nat => [(5, .n .i64 (i : Int))]) (fun i : Nat => []) (fun i : Nat => i ≤ m.ents.length) (fun i : Nat => m.ents.length - i) (0) id (id) (Nat.zero_le _) (fits_of (gr ?_) (gr ?_) (gr ?_) (gr ?_) (gr ?_)) ?_
  · first | exact True.intro | exact ⟨rfl, rfl⟩ | exact ⟨rfl, rfl, rfl⟩ | rfl | exact rowc (List.map_id _) | trivial
  · first | exact True.intro | exact ⟨rfl, rfl⟩ | exact ⟨rfl, rfl, rfl⟩ | rfl | exact rowc (List.map_id _) | trivial
  · first | exact True.intro | exact ⟨rfl, rfl⟩ | exact ⟨rfl, rfl, rfl⟩ | rfl | exact rowc (List.map_id _) | trivial
  · first | exact True.intro | exact ⟨rfl, rfl⟩ | exact ⟨rfl, rfl, rfl⟩ | rfl | exact rowc (List.map_id _) | trivial
  · first | exact True.intro | exact ⟨rfl, rfl⟩ | exact ⟨rfl, rfl, rfl⟩ | rfl | exact rowc (List.map_id _) | trivial
  rintro i hi
  try refine gr ?_
  refine br (fun h => ?_) (fun h => ?_)
  · try refine gr ?_
    refine ⟨true, eqaE _ _ _ _ _, gr ?_⟩
    refine ⟨i + 1, (by omega), (by omega), fits_of (gr ?_) (gr ?_) (gr ?_) (gr ?_) (gr ?_)⟩
    · first | exact True.intro | exact ⟨rfl, rfl⟩ | exact ⟨rfl, rfl, rfl⟩ | rfl | exact rowc (List.map_id _) | trivial
    · first | exact True.intro | exact ⟨rfl, rfl⟩ | exact ⟨rfl, rfl, rfl⟩ | rfl | exact rowc (List.map_id _) | trivial
    · first | exact True.intro | exact ⟨rfl, rfl⟩ | exact ⟨rfl, rfl, rfl⟩ | rfl | exact rowc (List.map_id _) | trivial
    · first | exact True.intro | exact ⟨rfl, rfl⟩ | exact ⟨rfl, rfl, rfl⟩ | rfl | exact rowc (List.map_id _) | trivial
    · first | exact True.intro | exact ⟨rfl, rfl⟩ | exact ⟨rfl, rfl, rfl⟩ | rfl | exact rowc (List.map_id _) | trivial
  · try refine gr ?_
    trivial
theorem print_none {m : Man} (h : ¬ checkM m = 0) : printM m = ([], checkM m) := if_pos h
theorem print_some {m : Man} (h : checkM m = 0) : printM m = (textM m, 0) := if_neg (by simp [h])
theorem parse_nil : parseM [] = (dM, 2) := rfl
theorem dM_fit : dM.Fit := Man.In.fit (k := 0) (n := 0) (by unfold Man.In dM; decide) (by omega) (by omega)
theorem parseM_fit (s : List UInt8) (hs : s.length ≤ 1048576) : (parseM s).1.Fit := by
  have h1 := readAllM_in (sp 10 (Lib.trimSuffix s [10])) _ (sp_le 10 _)
  have h2 := sp_cnt 10 (Lib.trimSuffix s [10])
  have h3 := trim_len s [10]
  have h4 := h1.fit (by omega) (by omega)
  unfold parseM
  repeat' split
  all_goals first | exact dM_fit | exact h4
end Go.Proofs.YtgmgbdihonindaaGreatDoor.Ev
namespace Go.Proofs.YtgmgbdihonindaaGreatDoor.Ev
open Go.ChangeShapes Go.WideShapes Go.ChangeAt Go.RowKit Go.ChangeMaps
open Go.Proofs.YtgmgbdihonindaaGreatDoor.Mem
open Go.Shelf
set_option linter.unusedVariables false
set_option maxRecDepth 100000
theorem o_Rul {R : Nat} : OpV R Tryz.prog 34 3 eRul (fun x => x.name.length ≤ R ∧ x.ver.length ≤ R) := by
  intro H enc W base held m c x h hs
  obtain ⟨hl, n, hf⟩ := field_open Tryz.underlying34 h hs
  obtain ⟨y0, k0, r0⟩ := opv_field (off := 0) (opv_string Tryz.underlying9) (by kernel_rfl) (hf 0 _ rfl)
  obtain ⟨y1, k1, r1⟩ := opv_field (off := 1) (opv_int Tryz.underlying3) (by kernel_rfl) (hf 1 _ rfl)
  obtain ⟨y2, k2, r2⟩ := opv_field (off := 2) (opv_string Tryz.underlying9) (by kernel_rfl) (hf 2 _ rfl)
  exact ⟨⟨y0, y1, y2⟩, ⟨k0, k2⟩, hl.trans (by kernel_rfl), by have r := reps_cons (off := 0) r0 rfl (reps_cons (off := 1) r1 rfl (reps_cons (off := 2) r2 rfl (reps_nil W _))); rw [List.drop_zero] at r; exact r⟩
theorem o_Ent {R : Nat} : OpV R Tryz.prog 37 5 eEnt (fun x => x.path.length ≤ R ∧ x.target.length ≤ R ∧ x.sum.length ≤ R) := by
  intro H enc W base held m c x h hs
  obtain ⟨hl, n, hf⟩ := field_open Tryz.underlying37 h hs
  obtain ⟨y0, k0, r0⟩ := opv_field (off := 0) (opv_int Tryz.underlying3) (by kernel_rfl) (hf 0 _ rfl)
  obtain ⟨y1, k1, r1⟩ := opv_field (off := 1) (opv_int Tryz.underlying3) (by kernel_rfl) (hf 1 _ rfl)
  obtain ⟨y2, k2, r2⟩ := opv_field (off := 2) (opv_string Tryz.underlying9) (by kernel_rfl) (hf 2 _ rfl)
  obtain ⟨y3, k3, r3⟩ := opv_field (off := 3) (opv_string Tryz.underlying9) (by kernel_rfl) (hf 3 _ rfl)
  obtain ⟨y4, k4, r4⟩ := opv_field (off := 4) (opv_string Tryz.underlying9) (by kernel_rfl) (hf 4 _ rfl)
  exact ⟨⟨y0, y1, y2, y3, y4⟩, ⟨k3, k4, k2⟩, hl.trans (by kernel_rfl), by have r := reps_cons (off := 0) r0 rfl (reps_cons (off := 1) r1 rfl (reps_cons (off := 2) r2 rfl (reps_cons (off := 3) r3 rfl (reps_cons (off := 4) r4 rfl (reps_nil W _))))); rw [List.drop_zero] at r; exact r⟩
theorem o_Ruls {R : Nat} : OpV R Tryz.prog 22 1 (fun l : List Rul => V.sl 3 Rul dR l eRul) (fun l => (∀ x ∈ l, x.name.length ≤ R ∧ x.ver.length ≤ R) ∧ l.length * 40 ≤ R) :=
  opv_slice (ev := eRul) (k := 3) (b := 40) Tryz.underlying22 (by kernel_rfl) (by kernel_rfl) (by decide) (fun _ => rfl) (fun _ _ => rfl) dR o_Rul
theorem o_Ents {R : Nat} : OpV R Tryz.prog 23 1 (fun l : List Ent => V.sl 5 Ent dE l eEnt) (fun l => (∀ x ∈ l, x.path.length ≤ R ∧ x.target.length ≤ R ∧ x.sum.length ≤ R) ∧ l.length * 64 ≤ R) :=
  opv_slice (ev := eEnt) (k := 5) (b := 64) Tryz.underlying23 (by kernel_rfl) (by kernel_rfl) (by decide) (fun _ => rfl) (fun _ _ => rfl) dE o_Ent
theorem o_Man : OpV reachBytes Tryz.prog 25 5 eMan Man.Fit := by
  intro H enc W base held m c x h hs
  obtain ⟨hl, n, hf⟩ := field_open Tryz.underlying25 h hs
  obtain ⟨y0, k0, r0⟩ := opv_field (off := 0) (opv_string Tryz.underlying9) (by kernel_rfl) (hf 0 _ rfl)
  obtain ⟨y1, k1, r1⟩ := opv_field (off := 1) (opv_string Tryz.underlying9) (by kernel_rfl) (hf 1 _ rfl)
  obtain ⟨y2, k2, r2⟩ := opv_field (off := 2) o_Ruls (by kernel_rfl) (hf 2 _ rfl)
  obtain ⟨y3, k3, r3⟩ := opv_field (off := 3) o_Ruls (by kernel_rfl) (hf 3 _ rfl)
  obtain ⟨y4, k4, r4⟩ := opv_field (off := 4) o_Ents (by kernel_rfl) (hf 4 _ rfl)
  simp only [reachBytes] at k0 k1 k2 k3 k4
  exact ⟨⟨y0, y1, y2, y3, y4⟩, ⟨by dsimp only; omega, by dsimp only; omega, by dsimp only; omega, by dsimp only; omega, by dsimp only; omega, fun r hr => ⟨by have := (k2.1 r hr).1; omega, by have := (k2.1 r hr).2; omega⟩, fun r hr => ⟨by have := (k3.1 r hr).1; omega, by have := (k3.1 r hr).2; omega⟩, fun r hr => ⟨by have := (k4.1 r hr).1; omega, by have := (k4.1 r hr).2.1; omega, by have := (k4.1 r hr).2.2; omega⟩⟩, hl.trans (by kernel_rfl), by have r := reps_cons (off := 0) r0 rfl (reps_cons (off := 1) r1 rfl (reps_cons (off := 2) r2 rfl (reps_cons (off := 3) r3 rfl (reps_cons (off := 4) r4 rfl (reps_nil W _))))); rw [List.drop_zero] at r; exact r⟩
/-! ### The laid tables -/
def laidL : List (String × DataW Unit) := [("unicode/utf8.acceptRanges", Rows.laid_unicode_utf8_acceptRanges), ("unicode/utf8.first", Rows.laid_unicode_utf8_first)]
theorem acc_eq : (Rows.laid_unicode_utf8_acceptRanges : DataW Unit) = Lib.acceptData := by kernel_rfl
theorem fst_eq : Rows.laid_unicode_utf8_first = Lib.firstData := by kernel_rfl
theorem laid_ofM {W : World} (hL : laidMetH Tryz.prog laidL W) (hS : W.ShapedOpen Tryz.prog) : LL W := by
  refine ⟨?_, Tryz.laysM145.s1_3 W hS⟩
  have h1 := Lib.laidMet.reads hL (.tail _ (.head _))
  have h2 := Lib.laidMet.reads hL (.head _)
  rw [fst_eq] at h1
  rw [acc_eq] at h2
  exact utf8Tabs_of_readsT (U8Types.of196 Tryz.laysValid) ⟨by kernel_rfl, by kernel_rfl, by kernel_rfl, by kernel_rfl, by kernel_rfl, by kernel_rfl, by kernel_rfl⟩ h1 h2
noncomputable def laidWorld (os : Os) : World :=
  let w0 := World.holding Tryz.prog os ⟨#[], #[], []⟩
  let put (h : Array Obj) (g : Nat) (cs : Array Value) : Array Obj := h.modify g fun
    | .cells _ t frozen => .cells cs t frozen
    | o => o
  let h1 := put w0.heap 1 (Lib.firstTab.map fun z => Value.int .u8 z).toArray
  let h2 := put h1 2 ((List.range 16).flatMap fun i => [Value.int .u8 (Lib.accLo i), Value.int .u8 (Lib.accHi i)]).toArray
  { w0 with heap := h2 }
theorem laid_metM (os : Os) (args : Array Value) : laidMet Tryz.prog laidL ((laidWorld os).forCall (fun _ _ => 0) ⟨#[], args, []⟩).memory :=
by
  unfold laidL
  rw [acc_eq, fst_eq]
  exact (LaidIn.of_run (l := [("unicode/utf8.acceptRanges", Lib.acceptData), ("unicode/utf8.first", Lib.firstData)]) [2, 1] 8 (by kernel_rfl) (by kernel_rfl) (by kernel_rfl) (by kernel_rfl)).met
end Go.Proofs.YtgmgbdihonindaaGreatDoor.Ev
