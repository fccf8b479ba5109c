/- The laws of manifests. -/
import Derived.Test.YtgmgbdihonindaaDoorNE
import Derived.Test.YtgmgbdihonindaaDoorKI
import Derived.Test.YtgmgbdihonindaaDoorRows
import Derived.Lib.LaidIn
import Derived.Lib.LaidU8T
import Derived.Deep.DeepHandedRow
import Derived.ProofKit
set_option linter.all false
namespace Go.Proofs.YtgmgbdihonindaaDoor.Ev
open Go.RowKit
open Go.Proofs.YtgmgbdihonindaaDoor.Mem
set_option linter.unusedVariables false
set_option linter.unusedSimpArgs false
set_option maxRecDepth 100000
def exM : Man := ⟨[97], [49], [⟨[98], 5, [50]⟩], [], [⟨2, 493, [], [120], []⟩, ⟨3, 0, [], [120, 47, 121], [122]⟩]⟩
theorem ex_ok : checkM exM = 0 := by decide +kernel
def exT : List UInt8 := [104, 111, 108, 100, 97, 108, 108, 32, 49, 10, 110, 97, 109, 101, 32, 97, 10, 118, 101, 114, 115, 105, 111, 110, 32, 49, 10, 110, 101, 101, 100, 115, 32, 98, 32, 62, 61, 32, 50, 10, 100, 105, 114, 32, 48, 55, 53, 53, 32, 120, 10, 108, 105, 110, 107, 32, 120, 47, 121, 32, 122, 10]
theorem print_ex : printM exM = (exT, 0) := by
  unfold printM
  rw [ex_ok, if_neg (by decide)]
  exact congrArg (·, 0) (show textM exM = exT by decide +kernel)
theorem parse_ex : parseM exT = (exM, 0) := by
  have h : textM exM = exT := by decide +kernel
  rw [← h, parseM_text ex_ok]
theorem ex_fit : exM.Fit := Man.In.fit (k := 2) (n := 3) (by unfold Man.In exM; decide) (by omega) (by omega)
theorem awake_ok  : Spec Tryd.prog LL 7 [] (.b true) := by
  refine spec_of (C := ⟨Tryd.prog, LL, EE, []⟩) (rl := [.b true]) (rs := [.tmp 0]) CCx LLs Tryd.func7 rfl (by kernel_rfl) rfl (by kernel_rfl) (Nat.le_of_ble_eq_true rfl) (fun i => rfl) (fun i => by first | rfl | exact (Bool.or_false _).trans (eSd_men _ _)) rfl (by decide) ?_
  refine gr ?_
  refine .inr ?_
  refine .inr ?_
  refine cln (print_ok exM ex_fit) (gr ?_) ?_
  · repeat' apply And.intro
    all_goals first | exact le_refl _ | exact le_nl | trivial
  rw [print_ex]
  try refine gr ?_
  refine cl (parse_ok exT (by decide)) ?_
  refine gr ?_
  rw [parse_ex]
  try refine gr ?_
  rw [exT]
  try refine gr ?_
  trivial
theorem agR {F : Nat → Prop} {W : World} {G : Gm} {a c : List UInt8} {b : Int} {vs : Array Value} (h : Rep F W G (.ag [.s a, .n .i64 b, .s c]) (.agg vs)) : vs = #[.string (tx a), .int .i64 b, .string (tx c)] := by
  obtain ⟨us, h1, h2, h3⟩ := h.ag_inv
  obtain rfl := Value.agg.inj h1
  have h2 : vs.size = 3 := h2
  have e0 := (h3 0 (.s a) _ rfl (Array.getElem?_eq_getElem (by omega))).s_inv
  have e1 := (h3 1 (.n .i64 b) _ rfl (Array.getElem?_eq_getElem (by omega))).n_inv
  have e2 := (h3 2 (.s c) _ rfl (Array.getElem?_eq_getElem (by omega))).s_inv
  apply Array.ext
  · simpa using h2
  · intro i p q
    rcases i with _ | _ | _ | i
    · exact e0
    · exact e1
    · exact e2
    · omega
theorem agE {F : Nat → Prop} {W : World} {G : Gm} {c d e : List UInt8} {a b : Int} {vs : Array Value} (h : Rep F W G (.ag [.n .i64 a, .n .i64 b, .s c, .s d, .s e]) (.agg vs)) : vs = #[.int .i64 a, .int .i64 b, .string (tx c), .string (tx d), .string (tx e)] := by
  obtain ⟨us, h1, h2, h3⟩ := h.ag_inv
  obtain rfl := Value.agg.inj h1
  have h2 : vs.size = 5 := h2
  have e0 := (h3 0 (.n .i64 a) _ rfl (Array.getElem?_eq_getElem (by omega))).n_inv
  have e1 := (h3 1 (.n .i64 b) _ rfl (Array.getElem?_eq_getElem (by omega))).n_inv
  have e2 := (h3 2 (.s c) _ rfl (Array.getElem?_eq_getElem (by omega))).s_inv
  have e3 := (h3 3 (.s d) _ rfl (Array.getElem?_eq_getElem (by omega))).s_inv
  have e4 := (h3 4 (.s e) _ rfl (Array.getElem?_eq_getElem (by omega))).s_inv
  apply Array.ext
  · simpa using h2
  · intro i p q
    rcases i with _ | _ | _ | _ | _ | i
    · exact e0
    · exact e1
    · exact e2
    · exact e3
    · exact e4
    · omega
theorem eqaR (a c : List UInt8) (b : Int) : EqA Tryd.prog 43 [.s a, .n .i64 b, .s c] [.s a, .n .i64 b, .s c] true := by
  refine ⟨by kernel_rfl, fun F W G vs us h1 h2 => ?_⟩
  rw [agR h1, agR h2]
  have u3 := Tryd.underlying3
  have a3 := Tryd.isAgg3
  have z3 := Tryd.sizeOf3
  have u9 := Tryd.underlying9
  have a9 := Tryd.isAgg9
  have z9 := Tryd.sizeOf9
  have hS : Tryd.prog.underlying 43 = some (.struct (Tryd.prog.fieldsOf 43)) := by kernel_rfl
  have hp : Tryd.prog.stoodInHeld 43 = false := by kernel_rfl
  rw [show (10000 : Nat) = 9999 + 1 from rfl, run_equalIn_agg W 9999 43 _ _ hS hp]
  simp only [Program.fieldsOf, Tryd.underlying43]
  go_simp
theorem eqaE (a b : Int) (c d e : List UInt8) : EqA Tryd.prog 35 [.n .i64 a, .n .i64 b, .s c, .s d, .s e] [.n .i64 a, .n .i64 b, .s c, .s d, .s e] true := by
  refine ⟨by kernel_rfl, fun F W G vs us h1 h2 => ?_⟩
  rw [agE h1, agE h2]
  have u3 := Tryd.underlying3
  have a3 := Tryd.isAgg3
  have z3 := Tryd.sizeOf3
  have u9 := Tryd.underlying9
  have a9 := Tryd.isAgg9
  have z9 := Tryd.sizeOf9
  have hS : Tryd.prog.underlying 35 = some (.struct (Tryd.prog.fieldsOf 35)) := by kernel_rfl
  have hp : Tryd.prog.stoodInHeld 35 = false := by kernel_rfl
  rw [show (10000 : Nat) = 9999 + 1 from rfl, run_equalIn_agg W 9999 35 _ _ hS hp]
  simp only [Program.fieldsOf, Tryd.underlying35]
  go_simp
theorem sameR_ok (l : List Rul) (hl : l.length ≤ 100000000000000) : Spec Tryd.prog LL 22 [.sl 3 Rul dR l eRul, .sl 3 Rul dR l eRul] (.b true) := by
  refine spec_of (C := ⟨Tryd.prog, LL, EE, []⟩) (rl := [.b true]) (rs := [.tmp 4]) CCx LLs Tryd.func22 rfl (by kernel_rfl) rfl (by kernel_rfl) (Nat.le_of_ble_eq_true rfl) (fun i => rfl) (fun i => by first | rfl | exact (Bool.or_false _).trans (eSd_men _ _)) rfl (by decide) ?_
  refine gr ?_
  refine lp_hd [0, 1] [] (fun i : Nat => [(5, .n .i64 (i : Int))]) (fun i : Nat => []) (fun i : Nat => i ≤ l.length) (fun i : Nat => l.length - i) (0) id (id) (Nat.zero_le _) (fits_of (gr ?_) (gr ?_) (gr ?_) (gr ?_) (gr ?_)) ?_
  · first | exact True.intro | exact ⟨rfl, rfl⟩ | exact ⟨rfl, rfl, rfl⟩ | rfl | exact rowc (List.map_id _) | trivial
  · first | exact True.intro | exact ⟨rfl, rfl⟩ | exact ⟨rfl, rfl, rfl⟩ | rfl | exact rowc (List.map_id _) | trivial
  · first | exact True.intro | exact ⟨rfl, rfl⟩ | exact ⟨rfl, rfl, rfl⟩ | rfl | exact rowc (List.map_id _) | trivial
  · first | exact True.intro | exact ⟨rfl, rfl⟩ | exact ⟨rfl, rfl, rfl⟩ | rfl | exact rowc (List.map_id _) | trivial
  · first | exact True.intro | exact ⟨rfl, rfl⟩ | exact ⟨rfl, rfl, rfl⟩ | rfl | exact rowc (List.map_id _) | trivial
  rintro i hi
  try refine gr ?_
  refine br (fun h => ?_) (fun h => ?_)
  · try refine gr ?_
    refine ⟨true, eqaR _ _ _, gr ?_⟩
    refine ⟨i + 1, (by omega), (by omega), fits_of (gr ?_) (gr ?_) (gr ?_) (gr ?_) (gr ?_)⟩
    · first | exact True.intro | exact ⟨rfl, rfl⟩ | exact ⟨rfl, rfl, rfl⟩ | rfl | exact rowc (List.map_id _) | trivial
    · first | exact True.intro | exact ⟨rfl, rfl⟩ | exact ⟨rfl, rfl, rfl⟩ | rfl | exact rowc (List.map_id _) | trivial
    · first | exact True.intro | exact ⟨rfl, rfl⟩ | exact ⟨rfl, rfl, rfl⟩ | rfl | exact rowc (List.map_id _) | trivial
    · first | exact True.intro | exact ⟨rfl, rfl⟩ | exact ⟨rfl, rfl, rfl⟩ | rfl | exact rowc (List.map_id _) | trivial
    · first | exact True.intro | exact ⟨rfl, rfl⟩ | exact ⟨rfl, rfl, rfl⟩ | rfl | exact rowc (List.map_id _) | trivial
  · try refine gr ?_
    trivial
theorem same_ok (m : Man) (hm : m.Fit) : Spec Tryd.prog LL 10 [eMan m, eMan m] (.b true) := by
  refine spec_of (C := ⟨Tryd.prog, LL, EE, []⟩) (rl := [.b true]) (rs := [.tmp 4]) CCx LLs Tryd.func10 rfl (by kernel_rfl) rfl (by kernel_rfl) (Nat.le_of_ble_eq_true rfl) (fun i => rfl) (fun i => by first | rfl | exact (Bool.or_false _).trans (eSd_men _ _)) rfl (by decide) ?_
  refine gr ?_
  have h1 := hm.nl
  have h2 := hm.cl
  have h3 := hm.el
  refine cl (sameR_ok m.needs h1) ?_
  refine gr ?_
  refine cl (sameR_ok m.clashes h2) ?_
  refine gr ?_
  refine lp_hd [2, 3] [2, 3] (fun i : Nat => [(5, .n .i64 (i : Int))]) (fun i : Nat => []) (fun i : Nat => i ≤ m.ents.length) (fun i : Nat => m.ents.length - i) (0) id (id) (Nat.zero_le _) (fits_of (gr ?_) (gr ?_) (gr ?_) (gr ?_) (gr ?_)) ?_
  · first | exact True.intro | exact ⟨rfl, rfl⟩ | exact ⟨rfl, rfl, rfl⟩ | rfl | exact rowc (List.map_id _) | trivial
  · first | exact True.intro | exact ⟨rfl, rfl⟩ | exact ⟨rfl, rfl, rfl⟩ | rfl | exact rowc (List.map_id _) | trivial
  · first | exact True.intro | exact ⟨rfl, rfl⟩ | exact ⟨rfl, rfl, rfl⟩ | rfl | exact rowc (List.map_id _) | trivial
  · first | exact True.intro | exact ⟨rfl, rfl⟩ | exact ⟨rfl, rfl, rfl⟩ | rfl | exact rowc (List.map_id _) | trivial
  · first | exact True.intro | exact ⟨rfl, rfl⟩ | exact ⟨rfl, rfl, rfl⟩ | rfl | exact rowc (List.map_id _) | trivial
  rintro i hi
  try refine gr ?_
  refine br (fun h => ?_) (fun h => ?_)
  · try refine gr ?_
    refine ⟨true, eqaE _ _ _ _ _, gr ?_⟩
    refine ⟨i + 1, (by omega), (by omega), fits_of (gr ?_) (gr ?_) (gr ?_) (gr ?_) (gr ?_)⟩
    · first | exact True.intro | exact ⟨rfl, rfl⟩ | exact ⟨rfl, rfl, rfl⟩ | rfl | exact rowc (List.map_id _) | trivial
    · first | exact True.intro | exact ⟨rfl, rfl⟩ | exact ⟨rfl, rfl, rfl⟩ | rfl | exact rowc (List.map_id _) | trivial
    · first | exact True.intro | exact ⟨rfl, rfl⟩ | exact ⟨rfl, rfl, rfl⟩ | rfl | exact rowc (List.map_id _) | trivial
    · first | exact True.intro | exact ⟨rfl, rfl⟩ | exact ⟨rfl, rfl, rfl⟩ | rfl | exact rowc (List.map_id _) | trivial
    · first | exact True.intro | exact ⟨rfl, rfl⟩ | exact ⟨rfl, rfl, rfl⟩ | rfl | exact rowc (List.map_id _) | trivial
  · try refine gr ?_
    trivial
theorem cnt_take (c : UInt8) (s : List UInt8) (i : Nat) (h : i < s.length) : cnt c (s.take (i + 1)) = cnt c (s.take i) + if by' s i = c.toNat then 1 else 0 := by
  rw [take_at s i 0 h]
  unfold cnt
  rw [List.filter_append, List.length_append]
  congr 1
  by_cases e : s.getD i 0 = c
  · rw [if_pos (show by' s i = c.toNat by unfold by'; rw [e]), List.filter_cons_of_pos (by simpa using e)]
    rfl
  · rw [if_neg (show ¬ by' s i = c.toNat from fun h => e (UInt8.toNat_inj.1 h)), List.filter_cons_of_neg (by simpa using e)]
    rfl
theorem text_min (m : Man) : 10 ≤ (textM m).length := by
  unfold textM preL
  simp only [List.length_append, List.length_cons]
  have : wHead.length = 9 := rfl
  omega
set_option maxHeartbeats 4000000 in
theorem lines_ok (m : Man) (hm : m.Fit) : Spec Tryd.prog LL 6 [eMan m] (.b true) := by
  refine spec_of (C := ⟨Tryd.prog, LL, EE, []⟩) (rl := [.b true]) (rs := [.tmp 2]) CCx LLs Tryd.func6 rfl (by kernel_rfl) rfl (by kernel_rfl) (Nat.le_of_ble_eq_true rfl) (fun i => rfl) (fun i => by first | rfl | exact (Bool.or_false _).trans (eSd_men _ _)) rfl (by decide) ?_
  refine gr ?_
  have f1 := hm.nl
  have f2 := hm.cl
  have f3 := hm.el
  refine cl (print_ok m hm) ?_
  refine gr ?_
  by_cases a : checkM m = 0
  · rw [show printM m = (textM m, 0) from if_neg (by simp [a])]
    have hk := ManOk.of a
    have ht := textM_len hk
    have hne := text_ne m
    have hmin := text_min m
    have hc := text_cnt hk
    have hp1 := cut_last hk
    rw [← text_take m] at hp1
    have hp2 := cut_first hk
    generalize textM m = s at ht hne hmin hc hp1 hp2 ⊢
    try refine gr ?_
    refine br (fun b => ?_) (fun b => ?_)
    · exact absurd b hne
    · try refine gr ?_
      refine lp_hd [1, 3] [1] (fun i : Nat => [(5, .n .i64 (cnt 10 (s.take i) : Nat)), (6, .n .i64 (i : Int))]) (fun i : Nat => []) (fun i : Nat => i ≤ s.length) (fun i : Nat => s.length - i) (0) id (id) (Nat.zero_le _) (fits_of (gr ?_) (gr ?_) (gr ?_) (gr ?_) (gr ?_)) ?_
      · first | exact True.intro | exact ⟨rfl, rfl⟩ | exact ⟨rfl, rfl, rfl⟩ | rfl | exact rowc (List.map_id _) | trivial
      · first | exact True.intro | exact ⟨rfl, rfl⟩ | exact ⟨rfl, rfl, rfl⟩ | rfl | exact rowc (List.map_id _) | trivial
      · first | exact True.intro | exact ⟨rfl, rfl⟩ | exact ⟨rfl, rfl, rfl⟩ | rfl | exact rowc (List.map_id _) | trivial
      · first | exact True.intro | exact ⟨rfl, rfl⟩ | exact ⟨rfl, rfl, rfl⟩ | rfl | exact rowc (List.map_id _) | trivial
      · first | exact True.intro | exact ⟨rfl, rfl⟩ | exact ⟨rfl, rfl, rfl⟩ | rfl | exact rowc (List.map_id _) | trivial
      rintro i hi
      have hcl : cnt 10 (s.take i) ≤ s.length := Nat.le_trans (List.length_filter_le _ _) (by rw [List.length_take]; omega)
      try refine gr ?_
      refine br (fun e => ?_) (fun e => ?_)
      · have hct := cnt_take 10 s i (by omega)
        try refine gr ?_
        refine br (fun g => ?_) (fun g => ?_)
        · rw [if_pos (by have : (10 : UInt8).toNat = 10 := rfl
                         omega)] at hct
          try refine gr ?_
          refine ⟨i + 1, (by omega), (by omega), fits_of (gr ?_) (gr ?_) (gr ?_) (gr ?_) (gr ?_)⟩
          · first | exact True.intro | exact ⟨rfl, rfl⟩ | exact ⟨rfl, rfl, rfl⟩ | rfl | exact rowc (List.map_id _) | trivial
          · (rw [hct, Int.natCast_add]; exact ⟨rfl, rfl⟩)
          · first | exact True.intro | exact ⟨rfl, rfl⟩ | exact ⟨rfl, rfl, rfl⟩ | rfl | exact rowc (List.map_id _) | trivial
          · first | exact True.intro | exact ⟨rfl, rfl⟩ | exact ⟨rfl, rfl, rfl⟩ | rfl | exact rowc (List.map_id _) | trivial
          · first | exact True.intro | exact ⟨rfl, rfl⟩ | exact ⟨rfl, rfl, rfl⟩ | rfl | exact rowc (List.map_id _) | trivial
        · rw [if_neg (by have : (10 : UInt8).toNat = 10 := rfl
                         omega)] at hct
          try refine gr ?_
          refine ⟨i + 1, (by omega), (by omega), fits_of (gr ?_) (gr ?_) (gr ?_) (gr ?_) (gr ?_)⟩
          · first | exact True.intro | exact ⟨rfl, rfl⟩ | exact ⟨rfl, rfl, rfl⟩ | rfl | exact rowc (List.map_id _) | trivial
          · (rw [hct, Nat.add_zero]; exact ⟨rfl, rfl⟩)
          · first | exact True.intro | exact ⟨rfl, rfl⟩ | exact ⟨rfl, rfl, rfl⟩ | rfl | exact rowc (List.map_id _) | trivial
          · first | exact True.intro | exact ⟨rfl, rfl⟩ | exact ⟨rfl, rfl, rfl⟩ | rfl | exact rowc (List.map_id _) | trivial
          · first | exact True.intro | exact ⟨rfl, rfl⟩ | exact ⟨rfl, rfl, rfl⟩ | rfl | exact rowc (List.map_id _) | trivial
      · rw [List.take_of_length_le (by omega), hc]
        try refine gr ?_
        rw [show ((s.length : Int) - 1).toNat = s.length - 1 by omega]
        refine cl (parse_ok (s.take (s.length - 1)) (by rw [List.length_take]; omega)) ?_
        refine gr ?_
        rw [hp1]
        try refine gr ?_
        refine cl (parse_ok (s.drop 10) (by rw [List.length_drop]; omega)) ?_
        refine gr ?_
        rw [hp2]
        try refine gr ?_
        refine cl (awake_ok) ?_
        refine gr ?_
        refine br (fun q => ?_) (fun q => ?_)
        · try refine gr ?_
          trivial
        · exfalso; omega
  · rw [show printM m = ([], checkM m) from if_pos a]
    try refine gr ?_
    refine br (fun b => ?_) (fun b => ?_)
    · exact absurd b a
    · try refine gr ?_
      refine cl (awake_ok) ?_
      refine gr ?_
      trivial
theorem print_none {m : Man} (h : ¬ checkM m = 0) : printM m = ([], checkM m) := if_pos h
theorem print_some {m : Man} (h : checkM m = 0) : printM m = (textM m, 0) := if_neg (by simp [h])
theorem parse_nil : parseM [] = (dM, 2) := rfl
theorem dM_fit : dM.Fit := Man.In.fit (k := 0) (n := 0) (by unfold Man.In dM; decide) (by omega) (by omega)
theorem parseM_fit (s : List UInt8) (hs : s.length ≤ 1048576) : (parseM s).1.Fit := by
  have h1 := readAllM_in (sp 10 (Lib.trimSuffix s [10])) _ (sp_le 10 _)
  have h2 := sp_cnt 10 (Lib.trimSuffix s [10])
  have h3 := trim_len s [10]
  have h4 := h1.fit (by omega) (by omega)
  unfold parseM
  repeat' split
  all_goals first | exact dM_fit | exact h4
set_option maxHeartbeats 4000000 in
theorem back_ok (m : Man) (s : List UInt8) (hm : m.Fit) (hs : s.length ≤ 9223372036854775807) : Spec Tryd.prog LL 3 [eMan m, .s s] (.b true) := by
  refine spec_of (C := ⟨Tryd.prog, LL, EE, []⟩) (rl := [.b true]) (rs := [.tmp 4]) CCx LLs Tryd.func3 rfl (by kernel_rfl) rfl (by kernel_rfl) (Nat.le_of_ble_eq_true rfl) (fun i => rfl) (fun i => by first | rfl | exact (Bool.or_false _).trans (eSd_men _ _)) rfl (by decide) ?_
  refine gr ?_
  refine br (fun a => ?_) (fun a => ?_)
  · try refine gr ?_
    refine cl (awake_ok) ?_
    refine gr ?_
    trivial
  · try refine gr ?_
    refine cl (print_ok m hm) ?_
    refine gr ?_
    have hpl : (printM m).1.length ≤ 9223372036854775807 := by
      by_cases e : checkM m = 0
      · rw [print_some e]; have := textM_len (ManOk.of e); dsimp only; omega
      · rw [print_none e]; simp
    refine cl (parse_ok (printM m).1 hpl) ?_
    refine gr ?_
    by_cases e : checkM m = 0
    · rw [print_some e]
      dsimp only
      rw [parseM_text e]
      try refine gr ?_
      refine cl (same_ok m hm) ?_
      refine gr ?_
      try refine gr ?_
      refine cl (parse_ok s hs) ?_
      refine gr ?_
      have hfit := parseM_fit s (by omega)
      refine cl (print_ok (parseM s).1 hfit) ?_
      refine gr ?_
      refine cl (awake_ok) ?_
      refine gr ?_
      refine br (fun c => ?_) (fun c => ?_)
      · obtain ⟨c1, c2⟩ := parseM_back c
        rw [print_some c1, c2]
        try refine gr ?_
        trivial
      · try refine gr ?_
        trivial
    · rw [print_none e]
      try refine gr ?_
      refine br (fun g => ?_) (fun g => ?_)
      · exact absurd g e
      · try refine gr ?_
        refine cl (parse_ok s hs) ?_
        refine gr ?_
        have hfit := parseM_fit s (by omega)
        refine cl (print_ok (parseM s).1 hfit) ?_
        refine gr ?_
        refine cl (awake_ok) ?_
        refine gr ?_
        refine br (fun c => ?_) (fun c => ?_)
        · obtain ⟨c1, c2⟩ := parseM_back c
          rw [print_some c1, c2]
          try refine gr ?_
          trivial
        · try refine gr ?_
          trivial
end Go.Proofs.YtgmgbdihonindaaDoor.Ev
namespace Go.Proofs.YtgmgbdihonindaaDoor.Ev
open Go.ChangeShapes Go.WideShapes Go.ChangeAt Go.RowKit Go.ChangeMaps
open Go.Proofs.YtgmgbdihonindaaDoor.Mem
open Go.Shelf
set_option linter.unusedVariables false
set_option maxRecDepth 100000
theorem o_Rul {R : Nat} : OpV R Tryd.prog 43 3 eRul (fun x => x.name.length ≤ R ∧ x.ver.length ≤ R) := by
  intro H enc W base held m c x h hs
  obtain ⟨hl, n, hf⟩ := field_open Tryd.underlying43 h hs
  obtain ⟨y0, k0, r0⟩ := opv_field (off := 0) (opv_string Tryd.underlying9) (by kernel_rfl) (hf 0 _ rfl)
  obtain ⟨y1, k1, r1⟩ := opv_field (off := 1) (opv_int Tryd.underlying3) (by kernel_rfl) (hf 1 _ rfl)
  obtain ⟨y2, k2, r2⟩ := opv_field (off := 2) (opv_string Tryd.underlying9) (by kernel_rfl) (hf 2 _ rfl)
  exact ⟨⟨y0, y1, y2⟩, ⟨k0, k2⟩, hl.trans (by kernel_rfl), by have r := reps_cons (off := 0) r0 rfl (reps_cons (off := 1) r1 rfl (reps_cons (off := 2) r2 rfl (reps_nil W _))); rw [List.drop_zero] at r; exact r⟩
theorem o_Ent {R : Nat} : OpV R Tryd.prog 35 5 eEnt (fun x => x.path.length ≤ R ∧ x.target.length ≤ R ∧ x.sum.length ≤ R) := by
  intro H enc W base held m c x h hs
  obtain ⟨hl, n, hf⟩ := field_open Tryd.underlying35 h hs
  obtain ⟨y0, k0, r0⟩ := opv_field (off := 0) (opv_int Tryd.underlying3) (by kernel_rfl) (hf 0 _ rfl)
  obtain ⟨y1, k1, r1⟩ := opv_field (off := 1) (opv_int Tryd.underlying3) (by kernel_rfl) (hf 1 _ rfl)
  obtain ⟨y2, k2, r2⟩ := opv_field (off := 2) (opv_string Tryd.underlying9) (by kernel_rfl) (hf 2 _ rfl)
  obtain ⟨y3, k3, r3⟩ := opv_field (off := 3) (opv_string Tryd.underlying9) (by kernel_rfl) (hf 3 _ rfl)
  obtain ⟨y4, k4, r4⟩ := opv_field (off := 4) (opv_string Tryd.underlying9) (by kernel_rfl) (hf 4 _ rfl)
  exact ⟨⟨y0, y1, y2, y3, y4⟩, ⟨k3, k4, k2⟩, hl.trans (by kernel_rfl), by have r := reps_cons (off := 0) r0 rfl (reps_cons (off := 1) r1 rfl (reps_cons (off := 2) r2 rfl (reps_cons (off := 3) r3 rfl (reps_cons (off := 4) r4 rfl (reps_nil W _))))); rw [List.drop_zero] at r; exact r⟩
theorem o_Ruls {R : Nat} : OpV R Tryd.prog 22 1 (fun l : List Rul => V.sl 3 Rul dR l eRul) (fun l => (∀ x ∈ l, x.name.length ≤ R ∧ x.ver.length ≤ R) ∧ l.length * 40 ≤ R) :=
  opv_slice (ev := eRul) (k := 3) (b := 40) Tryd.underlying22 (by kernel_rfl) (by kernel_rfl) (by decide) (fun _ => rfl) (fun _ _ => rfl) dR o_Rul
theorem o_Ents {R : Nat} : OpV R Tryd.prog 23 1 (fun l : List Ent => V.sl 5 Ent dE l eEnt) (fun l => (∀ x ∈ l, x.path.length ≤ R ∧ x.target.length ≤ R ∧ x.sum.length ≤ R) ∧ l.length * 64 ≤ R) :=
  opv_slice (ev := eEnt) (k := 5) (b := 64) Tryd.underlying23 (by kernel_rfl) (by kernel_rfl) (by decide) (fun _ => rfl) (fun _ _ => rfl) dE o_Ent
theorem o_Man : OpV reachBytes Tryd.prog 25 5 eMan Man.Fit := by
  intro H enc W base held m c x h hs
  obtain ⟨hl, n, hf⟩ := field_open Tryd.underlying25 h hs
  obtain ⟨y0, k0, r0⟩ := opv_field (off := 0) (opv_string Tryd.underlying9) (by kernel_rfl) (hf 0 _ rfl)
  obtain ⟨y1, k1, r1⟩ := opv_field (off := 1) (opv_string Tryd.underlying9) (by kernel_rfl) (hf 1 _ rfl)
  obtain ⟨y2, k2, r2⟩ := opv_field (off := 2) o_Ruls (by kernel_rfl) (hf 2 _ rfl)
  obtain ⟨y3, k3, r3⟩ := opv_field (off := 3) o_Ruls (by kernel_rfl) (hf 3 _ rfl)
  obtain ⟨y4, k4, r4⟩ := opv_field (off := 4) o_Ents (by kernel_rfl) (hf 4 _ rfl)
  simp only [reachBytes] at k0 k1 k2 k3 k4
  exact ⟨⟨y0, y1, y2, y3, y4⟩, ⟨by dsimp only; omega, by dsimp only; omega, by dsimp only; omega, by dsimp only; omega, by dsimp only; omega, fun r hr => ⟨by have := (k2.1 r hr).1; omega, by have := (k2.1 r hr).2; omega⟩, fun r hr => ⟨by have := (k3.1 r hr).1; omega, by have := (k3.1 r hr).2; omega⟩, fun r hr => ⟨by have := (k4.1 r hr).1; omega, by have := (k4.1 r hr).2.1; omega, by have := (k4.1 r hr).2.2; omega⟩⟩, hl.trans (by kernel_rfl), by have r := reps_cons (off := 0) r0 rfl (reps_cons (off := 1) r1 rfl (reps_cons (off := 2) r2 rfl (reps_cons (off := 3) r3 rfl (reps_cons (off := 4) r4 rfl (reps_nil W _))))); rw [List.drop_zero] at r; exact r⟩
/-! ### The laid tables -/
def laidL : List (String × DataW Unit) := [("unicode/utf8.acceptRanges", Rows.laid_unicode_utf8_acceptRanges), ("unicode/utf8.first", Rows.laid_unicode_utf8_first)]
theorem acc_eq : (Rows.laid_unicode_utf8_acceptRanges : DataW Unit) = Lib.acceptData := by kernel_rfl
theorem fst_eq : Rows.laid_unicode_utf8_first = Lib.firstData := by kernel_rfl
theorem laid_ofM {W : World} (hL : laidMetH Tryd.prog laidL W) (hS : W.ShapedOpen Tryd.prog) : LL W := by
  refine ⟨?_, Tryd.laysM145.s1_3 W hS⟩
  have h1 := Lib.laidMet.reads hL (.tail _ (.head _))
  have h2 := Lib.laidMet.reads hL (.head _)
  rw [fst_eq] at h1
  rw [acc_eq] at h2
  exact utf8Tabs_of_readsT (U8Types.of196 Tryd.laysValid) ⟨by kernel_rfl, by kernel_rfl, by kernel_rfl, by kernel_rfl, by kernel_rfl, by kernel_rfl, by kernel_rfl⟩ h1 h2
noncomputable def laidWorld (os : Os) : World :=
  let w0 := World.holding Tryd.prog os ⟨#[], #[], []⟩
  let put (h : Array Obj) (g : Nat) (cs : Array Value) : Array Obj := h.modify g fun
    | .cells _ t frozen => .cells cs t frozen
    | o => o
  let h1 := put w0.heap 2 (Lib.firstTab.map fun z => Value.int .u8 z).toArray
  let h2 := put h1 3 ((List.range 16).flatMap fun i => [Value.int .u8 (Lib.accLo i), Value.int .u8 (Lib.accHi i)]).toArray
  { w0 with heap := h2 }
theorem laid_metM (os : Os) (args : Array Value) : laidMet Tryd.prog laidL ((laidWorld os).forCall (fun _ _ => 0) ⟨#[], args, []⟩).memory :=
by
  unfold laidL
  rw [acc_eq, fst_eq]
  exact (LaidIn.of_run (l := [("unicode/utf8.acceptRanges", Lib.acceptData), ("unicode/utf8.first", Lib.firstData)]) [3, 2] 8 (by kernel_rfl) (by kernel_rfl) (by kernel_rfl) (by kernel_rfl)).met
end Go.Proofs.YtgmgbdihonindaaDoor.Ev
