/- One inserted into nothing. -/
import Derived.Test.YtagjeabdcjcchaaGreatDoorPC
import Derived.Lib.AppendZeros
import Derived.Deep.AppendSrc
import Derived.WalkKit
import Derived.OwnWalk
import Derived.Laws.AppendOwn
import Derived.Test.YtagjeabdcjcchaaGreatDoorPF
set_option linter.all false
namespace Go.Proofs.YtagjeabdcjcchaaGreatDoor.Ev
open Go.RowKit
open Go.Proofs.YtagjeabdcjcchaaGreatDoor.Mem
set_option linter.unusedVariables false
set_option linter.unusedSimpArgs false
set_option maxRecDepth 100000
theorem three_arg {xs : Array Value} (h : xs.size = 3) : ∃ v u w, xs = #[v, u, w] := ⟨xs[0], xs[1], xs[2], by
  apply Array.ext
  · simpa using h
  · intro i h1 h2
    rcases i with _ | _ | _ | i
    · rfl
    · rfl
    · rfl
    · simp at h2; omega⟩
theorem one_ofR {F : Nat → Prop} {W : World} {G : Gm} {y : V} {v : Value} (h : Rep F W G y v) (ho : oneV y = true) : v.oneCell' = true := by
  cases h <;> first | rfl | cases ho
set_option maxHeartbeats 4000000 in
theorem insM_nil (m : Man) : Spec Tryz.prog LL 51 [.nl, .n .i64 0, .sl 5 Man dMn [m] eMan] (.sl 5 Man dMn [m] eMan) := by
  refine ⟨⟨Tryz.f51, Tryz.func51, by kernel_rfl, by kernel_rfl⟩, fun _ => rfl, fun S W xs hL hz hx hS => ?_⟩
  obtain ⟨v0, v1, v2, rfl⟩ := three_arg hz
  have h0 := (hx 0 _ v0 rfl rfl).nl_inv
  have h1 := (hx 1 _ v1 rfl rfl).n_inv
  subst h0
  subst h1
  rcases (hx 2 _ v2 rfl rfl).sl_inv with ⟨ao, c, hn, _⟩ | ⟨g, o, c, u, rfl, hg, hc, hn, hz', hu, hr⟩
  · cases hn
  · have hcell : ∀ (q : Nat) (y : V), (cs (eMan m))[q]? = some y → W.cell? ⟨g, o + q, none⟩ = some (u 0 q) ∧ Rep S W G0 y (u 0 q) := fun q y hq => by
      have h1 := hu 0 m q y rfl hq
      rw [Nat.zero_mul, Nat.zero_add] at h1
      exact ⟨h1, hr 0 m q y rfl hq⟩
    have hvs : ∀ (j : Nat) (v : Value), [u 0 0, u 0 1, u 0 2, u 0 3, u 0 4][j]? = some v → W.cell? ((⟨g, o, none⟩ : Addr).add j) = some v := fun j v hj => by
      rw [Addr.add_lit]
      rcases j with _ | _ | _ | _ | _ | j
      · simp at hj; subst hj; exact (hcell 0 _ rfl).1
      · simp at hj; subst hj; exact (hcell 1 _ rfl).1
      · simp at hj; subst hj; exact (hcell 2 _ rfl).1
      · simp at hj; subst hj; exact (hcell 3 _ rfl).1
      · simp at hj; subst hj; exact (hcell 4 _ rfl).1
      · simp at hj
    have h1v : ∀ v ∈ [u 0 0, u 0 1, u 0 2, u 0 3, u 0 4], v.oneCell' = true := fun v hv => by
      simp only [List.mem_cons, List.not_mem_nil, or_false] at hv
      rcases hv with rfl | rfl | rfl | rfl | rfl
      · exact one_ofR (hcell 0 _ rfl).2 rfl
      · exact one_ofR (hcell 1 _ rfl).2 rfl
      · exact one_ofR (hcell 2 _ rfl).2 rfl
      · exact one_ofR (hcell 3 _ rfl).2 rfl
      · exact one_ofR (hcell 4 _ rfl).2 rfl
    obtain ⟨i0, hi0, hz0, hzs, hzb⟩ := info_parts (P := Tryz.prog) (e := 40) (z := .agg #[.string ⟨#[]⟩, .string ⟨#[]⟩, .slice none 0 0, .slice none 0 0, .slice none 0 0]) (size := 5) (bytes := 104) (by kernel_rfl)
    have hsrc : Go.Src Tryz.prog i0.size 22 (.slice (some ⟨g, o, none⟩) 1 c) 1 [u 0 0, u 0 1, u 0 2, u 0 3, u 0 4] W := by
      rw [hzs]
      exact Go.Src.ofSlice W Tryz.underlying22 ⟨g, o, none⟩ 1 c [u 0 0, u 0 1, u 0 2, u 0 3, u 0 4] rfl hvs h1v
    have hold : (Builtin.firstCells i0.size 0 (.slice none 0 0)).run Tryz.prog W.drew = .ok ([] : List Value).toArray W.drew := by
      rw [hzs]
      exact run_firstCells_none W.drew 5 0 0 0
    have hrun : ∀ ty, (Builtin.append_ #[22, 22] ty #[.slice none 0 0, .slice (some ⟨g, o, none⟩) 1 c]).run Tryz.prog W = _ := fun ty =>
      run_append_grow_src W 22 22 ty 40 i0 _ Tryz.underlying22 hi0 hz0 none 0 0 [] hold _ 1 [u 0 0, u 0 1, u 0 2, u 0 3, u 0 4] hsrc (by decide) (by decide) (by rw [hzb]; exact growslice_fits (by decide) (by decide))
    generalize hG : grownCap W (0 + 1) 0 40 = cap at hrun
    have hcap : 1 ≤ cap := by rw [← hG]; exact Nat.le_trans (by decide) (grownCap_ge W _ _ _)
    generalize hrow : ([] ++ [u 0 0, u 0 1, u 0 2, u 0 3, u 0 4]).toArray ++ Builtin.zeroCells (.agg #[.string ⟨#[]⟩, .string ⟨#[]⟩, .slice none 0 0, .slice none 0 0, .slice none 0 0] : Value).cells (cap - (0 + 1)) = row at hrun
    have hget : ∀ q, q < 5 → row[q]? = some (u 0 q) := fun q hq => by
      rw [← hrow]
      rcases q with _ | _ | _ | _ | _ | q
      · rw [Array.getElem?_append_left (by simp)]; rfl
      · rw [Array.getElem?_append_left (by simp)]; rfl
      · rw [Array.getElem?_append_left (by simp)]; rfl
      · rw [Array.getElem?_append_left (by simp)]; rfl
      · rw [Array.getElem?_append_left (by simp)]; rfl
      · omega
    have u3 := Tryz.underlying3
    have a3 := Tryz.isAgg3
    have z3 := Tryz.sizeOf3
    have us' := Tryz.underlying22
    have as' := Tryz.isAgg22
    have zs := Tryz.sizeOf22
    have at' := Tryz.isAgg40
    have zt := Tryz.sizeOf40
    have hb : Below W.heap.size W (W.drew.alloc (.cells row 40)) := (Below.refl _ _).drew.alloc (Nat.le_refl _) _
    have key : Rep (fun g' => S g' ∨ g' = W.heap.size) (W.drew.alloc (.cells row 40)) G0 (.sl 5 Man dMn [m] eMan) (.slice (some ⟨W.heap.size, 0, none⟩) 1 cap) := by
      refine .sl G0 5 Man dMn [m] eMan W.heap.size 0 cap u (.inr rfl) hcap hn hz' (fun i x q y hi hq => ?_) (fun i x q y hi hq => ?_)
      · rcases i with _ | i
        · simp only [List.getElem?_cons_zero, Option.some.injEq] at hi
          subst hi
          have hq' : q < 5 := (List.getElem?_eq_some_iff.1 hq).1
          rw [World.cell?_alloc_at (w := W.drew) row 40 W.heap.size _ rfl, Nat.zero_mul, Nat.zero_add, Nat.zero_add]
          exact hget q hq'
        · simp at hi
      · exact ((hr i x q y hi hq).keep fun g' hg' => hb.block g' (hS g' hg')).wide fun g' => .inl
    clear hvs h1v hsrc hold hcell hu hr hx
    go_enter Tryz.func51, Tryz.ntmps51
    go_wp2_with (at_builtin; refine Lib.wpList_append_run _ rfl _ _ _ _ rfl _ _ rfl rfl _ _ (hrun _) ?_)
    go_ret
    exact ⟨_, fun g' => S g' ∨ g' = W.heap.size, rfl, hb, fun g' hg' => by
      rcases hg' with hg' | rfl
      · exact ⟨Nat.lt_of_lt_of_le (hS g' hg') hb.size, .inr hg'⟩
      · exact ⟨by simp, .inl (Nat.le_refl _)⟩, key⟩
set_option maxHeartbeats 4000000 in
theorem insS_nil (d : Shr) : Spec Tryz.prog LL 84 [.nl, .n .i64 0, .sl 3 Shr dS [d] eShr] (.sl 3 Shr dS [d] eShr) := by
  refine ⟨⟨Tryz.f84, Tryz.func84, by kernel_rfl, by kernel_rfl⟩, fun _ => rfl, fun S W xs hL hz hx hS => ?_⟩
  obtain ⟨v0, v1, v2, rfl⟩ := three_arg hz
  have h0 := (hx 0 _ v0 rfl rfl).nl_inv
  have h1 := (hx 1 _ v1 rfl rfl).n_inv
  subst h0
  subst h1
  rcases (hx 2 _ v2 rfl rfl).sl_inv with ⟨ao, c, hn, _⟩ | ⟨g, o, c, u, rfl, hg, hc, hn, hz', hu, hr⟩
  · cases hn
  · have hcell : ∀ (q : Nat) (y : V), (cs (eShr d))[q]? = some y → W.cell? ⟨g, o + q, none⟩ = some (u 0 q) ∧ Rep S W G0 y (u 0 q) := fun q y hq => by
      have h1 := hu 0 d q y rfl hq
      rw [Nat.zero_mul, Nat.zero_add] at h1
      exact ⟨h1, hr 0 d q y rfl hq⟩
    have hvs : ∀ (j : Nat) (v : Value), [u 0 0, u 0 1, u 0 2][j]? = some v → W.cell? ((⟨g, o, none⟩ : Addr).add j) = some v := fun j v hj => by
      rw [Addr.add_lit]
      rcases j with _ | _ | _ | j
      · simp at hj; subst hj; exact (hcell 0 _ rfl).1
      · simp at hj; subst hj; exact (hcell 1 _ rfl).1
      · simp at hj; subst hj; exact (hcell 2 _ rfl).1
      · simp at hj
    have h1v : ∀ v ∈ [u 0 0, u 0 1, u 0 2], v.oneCell' = true := fun v hv => by
      simp only [List.mem_cons, List.not_mem_nil, or_false] at hv
      rcases hv with rfl | rfl | rfl
      · exact one_ofR (hcell 0 _ rfl).2 rfl
      · exact one_ofR (hcell 1 _ rfl).2 rfl
      · exact one_ofR (hcell 2 _ rfl).2 rfl
    obtain ⟨i0, hi0, hz0, hzs, hzb⟩ := info_parts (P := Tryz.prog) (e := 54) (z := .agg #[.string ⟨#[]⟩, .int .i64 0, .bool false]) (size := 3) (bytes := 32) (by kernel_rfl)
    have hsrc : Go.Src Tryz.prog i0.size 23 (.slice (some ⟨g, o, none⟩) 1 c) 1 [u 0 0, u 0 1, u 0 2] W := by
      rw [hzs]
      exact Go.Src.ofSlice W Tryz.underlying23 ⟨g, o, none⟩ 1 c [u 0 0, u 0 1, u 0 2] rfl hvs h1v
    have hold : (Builtin.firstCells i0.size 0 (.slice none 0 0)).run Tryz.prog W.drew = .ok ([] : List Value).toArray W.drew := by
      rw [hzs]
      exact run_firstCells_none W.drew 3 0 0 0
    have hrun : ∀ ty, (Builtin.append_ #[23, 23] ty #[.slice none 0 0, .slice (some ⟨g, o, none⟩) 1 c]).run Tryz.prog W = _ := fun ty =>
      run_append_grow_src W 23 23 ty 54 i0 _ Tryz.underlying23 hi0 hz0 none 0 0 [] hold _ 1 [u 0 0, u 0 1, u 0 2] hsrc (by decide) (by decide) (by rw [hzb]; exact growslice_fits (by decide) (by decide))
    generalize hG : grownCap W (0 + 1) 0 54 = cap at hrun
    have hcap : 1 ≤ cap := by rw [← hG]; exact Nat.le_trans (by decide) (grownCap_ge W _ _ _)
    generalize hrow : ([] ++ [u 0 0, u 0 1, u 0 2]).toArray ++ Builtin.zeroCells (.agg #[.string ⟨#[]⟩, .int .i64 0, .bool false] : Value).cells (cap - (0 + 1)) = row at hrun
    have hget : ∀ q, q < 3 → row[q]? = some (u 0 q) := fun q hq => by
      rw [← hrow]
      rcases q with _ | _ | _ | q
      · rw [Array.getElem?_append_left (by simp)]; rfl
      · rw [Array.getElem?_append_left (by simp)]; rfl
      · rw [Array.getElem?_append_left (by simp)]; rfl
      · omega
    have u3 := Tryz.underlying3
    have a3 := Tryz.isAgg3
    have z3 := Tryz.sizeOf3
    have us' := Tryz.underlying23
    have as' := Tryz.isAgg23
    have zs := Tryz.sizeOf23
    have at' := Tryz.isAgg54
    have zt := Tryz.sizeOf54
    have hb : Below W.heap.size W (W.drew.alloc (.cells row 54)) := (Below.refl _ _).drew.alloc (Nat.le_refl _) _
    have key : Rep (fun g' => S g' ∨ g' = W.heap.size) (W.drew.alloc (.cells row 54)) G0 (.sl 3 Shr dS [d] eShr) (.slice (some ⟨W.heap.size, 0, none⟩) 1 cap) := by
      refine .sl G0 3 Shr dS [d] eShr W.heap.size 0 cap u (.inr rfl) hcap hn hz' (fun i x q y hi hq => ?_) (fun i x q y hi hq => ?_)
      · rcases i with _ | i
        · simp only [List.getElem?_cons_zero, Option.some.injEq] at hi
          subst hi
          have hq' : q < 3 := (List.getElem?_eq_some_iff.1 hq).1
          rw [World.cell?_alloc_at (w := W.drew) row 54 W.heap.size _ rfl, Nat.zero_mul, Nat.zero_add, Nat.zero_add]
          exact hget q hq'
        · simp at hi
      · exact ((hr i x q y hi hq).keep fun g' hg' => hb.block g' (hS g' hg')).wide fun g' => .inl
    clear hvs h1v hsrc hold hcell hu hr hx
    go_enter Tryz.func84, Tryz.ntmps84
    go_wp2_with (at_builtin; refine Lib.wpList_append_run _ rfl _ _ _ _ rfl _ _ rfl rfl _ _ (hrun _) ?_)
    go_ret
    exact ⟨_, fun g' => S g' ∨ g' = W.heap.size, rfl, hb, fun g' hg' => by
      rcases hg' with hg' | rfl
      · exact ⟨Nat.lt_of_lt_of_le (hS g' hg') hb.size, .inr hg'⟩
      · exact ⟨by simp, .inl (Nat.le_refl _)⟩, key⟩
end Go.Proofs.YtagjeabdcjcchaaGreatDoor.Ev
namespace Go.Proofs.YtagjeabdcjcchaaGreatDoor.Ev
open Go.RowKit
open Go.Proofs.YtagjeabdcjcchaaGreatDoor.Mem
set_option linter.unusedVariables false
set_option linter.unusedSimpArgs false
set_option maxRecDepth 100000
theorem all_nil  : Spec Tryz.prog LL 52 [.nl] (.nl) := by
  refine spec_of (C := ⟨Tryz.prog, LL, EE, []⟩) (rl := [.nl]) (rs := [.tmp 2]) CCx LLs Tryz.func52 rfl (by kernel_rfl) rfl (by kernel_rfl) (Nat.le_of_ble_eq_true rfl) (fun i => rfl) (fun i => by first | rfl | exact (Bool.or_false _).trans (eSd_men _ _)) rfl (by decide) ?_
  refine gb ?_
  refine lp_hd [6, 7] [] (fun i : Nat => [(3, .nl), (8, .n .i64 (i : Int))]) (fun i : Nat => []) (fun i : Nat => i = 0) (fun i : Nat => 0 - i) (0) id (id) rfl (fits_of (gb ?_) (gb ?_) (gb ?_) (gb ?_) (gb ?_)) ?_
  · first | exact True.intro | exact ⟨rfl, rfl⟩ | exact ⟨rfl, rfl, rfl⟩ | rfl | exact rowc (List.map_id _) | trivial
  · first | exact True.intro | exact ⟨rfl, rfl⟩ | exact ⟨rfl, rfl, rfl⟩ | rfl | exact rowc (List.map_id _) | trivial
  · first | exact True.intro | exact ⟨rfl, rfl⟩ | exact ⟨rfl, rfl, rfl⟩ | rfl | exact rowc (List.map_id _) | trivial
  · first | exact True.intro | exact ⟨rfl, rfl⟩ | exact ⟨rfl, rfl, rfl⟩ | rfl | exact rowc (List.map_id _) | trivial
  · first | exact True.intro | exact ⟨rfl, rfl⟩ | exact ⟨rfl, rfl, rfl⟩ | rfl | exact rowc (List.map_id _) | trivial
  rintro i rfl
  try refine gb ?_
  repeat' (first | exact True.intro | (exfalso; omega) | (trivial) | refine br (fun h => ?_) (fun h => ?_) | refine gb ?_)
theorem cloneS_nil  : Spec Tryz.prog LL 53 [.nl] (.nl) := by
  refine spec_of (C := ⟨Tryz.prog, LL, EE, []⟩) (rl := [.nl]) (rs := [.tmp 2]) CCx LLs Tryz.func53 rfl (by kernel_rfl) rfl (by kernel_rfl) (Nat.le_of_ble_eq_true rfl) (fun i => rfl) (fun i => by first | rfl | exact (Bool.or_false _).trans (eSd_men _ _)) rfl (by decide) ?_
  refine gb ?_
  trivial
theorem join_nil (w : List UInt8) (mk : Bool) : Spec Tryz.prog LL 54 [.nl, .s w, .b mk] (.sl 3 Shr dS [⟨w, 1, mk⟩] eShr) := by
  refine spec_of (C := ⟨Tryz.prog, LL, EE, []⟩) (rl := [.sl 3 Shr dS [⟨w, 1, mk⟩] eShr]) (rs := [.tmp 6]) CCx LLs Tryz.func54 rfl (by kernel_rfl) rfl (by kernel_rfl) (Nat.le_of_ble_eq_true rfl) (fun i => rfl) (fun i => by first | rfl | exact (Bool.or_false _).trans (eSd_men _ _)) rfl (by decide) ?_
  refine gb ?_
  refine lp_hd [0, 1, 2, 10] [] (fun i : Nat => [(11, .n .i64 (i : Int))]) (fun i : Nat => []) (fun i : Nat => i = 0) (fun i : Nat => 0 - i) (0) id (id) rfl (fits_of (gb ?_) (gb ?_) (gb ?_) (gb ?_) (gb ?_)) ?_
  · first | exact True.intro | exact ⟨rfl, rfl⟩ | exact ⟨rfl, rfl, rfl⟩ | rfl | exact rowc (List.map_id _) | trivial
  · first | exact True.intro | exact ⟨rfl, rfl⟩ | exact ⟨rfl, rfl, rfl⟩ | rfl | exact rowc (List.map_id _) | trivial
  · first | exact True.intro | exact ⟨rfl, rfl⟩ | exact ⟨rfl, rfl, rfl⟩ | rfl | exact rowc (List.map_id _) | trivial
  · first | exact True.intro | exact ⟨rfl, rfl⟩ | exact ⟨rfl, rfl, rfl⟩ | rfl | exact rowc (List.map_id _) | trivial
  · first | exact True.intro | exact ⟨rfl, rfl⟩ | exact ⟨rfl, rfl, rfl⟩ | rfl | exact rowc (List.map_id _) | trivial
  rintro i rfl
  try refine gb ?_
  refine br (fun a => ?_) (fun a => ?_)
  · exfalso; omega
  · try refine gb ?_
    refine lp_hd [0, 1, 2] [] (fun i : Nat => [(8, .n .i64 (i : Int))]) (fun i : Nat => []) (fun i : Nat => i = 0) (fun i : Nat => 0 - i) (0) id (id) rfl (fits_of (gb ?_) (gb ?_) (gb ?_) (gb ?_) (gb ?_)) ?_
    · first | exact True.intro | exact ⟨rfl, rfl⟩ | exact ⟨rfl, rfl, rfl⟩ | rfl | exact rowc (List.map_id _) | trivial
    · first | exact True.intro | exact ⟨rfl, rfl⟩ | exact ⟨rfl, rfl, rfl⟩ | rfl | exact rowc (List.map_id _) | trivial
    · first | exact True.intro | exact ⟨rfl, rfl⟩ | exact ⟨rfl, rfl, rfl⟩ | rfl | exact rowc (List.map_id _) | trivial
    · first | exact True.intro | exact ⟨rfl, rfl⟩ | exact ⟨rfl, rfl, rfl⟩ | rfl | exact rowc (List.map_id _) | trivial
    · first | exact True.intro | exact ⟨rfl, rfl⟩ | exact ⟨rfl, rfl, rfl⟩ | rfl | exact rowc (List.map_id _) | trivial
    rintro i rfl
    try refine gb ?_
    refine br (fun b => ?_) (fun b => ?_)
    · exfalso; omega
    · try refine gb ?_
      refine .inr ?_
      try refine gb ?_
      refine cl (insS_nil ⟨w, 1, mk⟩) ?_
      refine gb ?_
      trivial
/-- The document's first package, and its database. -/
def m0 : Man := ⟨[97], [49], [], [], [⟨2, 493, [], [120], []⟩, ⟨3, 0, [], [120, 47, 121], [122]⟩]⟩
def b0 : Bas := ⟨[m0], [⟨[120], 1, true⟩]⟩
theorem m0_ok : checkM m0 = 0 := by decide +kernel
theorem b0_ok : BasOk b0 := by
  refine ⟨by decide, ?_, ?_, ?_, ?_, ?_, ?_⟩
  · intro m hm
    have : m = m0 := by simpa [b0] using hm
    rw [this]; exact m0_ok
  · exact List.pairwise_singleton _ _
  · show List.Pairwise both2 [⟨2, 493, [], [120], []⟩, ⟨3, 0, [], [120, 47, 121], [122]⟩]
    refine List.Pairwise.cons (fun x hx => ?_) (List.pairwise_singleton _ _)
    rw [List.mem_singleton] at hx
    subst hx
    intro e
    exact absurd e (by decide)
  · exact List.pairwise_singleton _ _
  · intro d hd
    have : d = ⟨[120], 1, true⟩ := by simpa [b0] using hd
    subst this
    exact ⟨by decide, by decide⟩
  · intro x hx hk
    have hx : x ∈ [(⟨2, 493, [], [120], []⟩ : Ent), ⟨3, 0, [], [120, 47, 121], [122]⟩] := hx
    simp only [List.mem_cons, List.not_mem_nil, or_false] at hx
    rcases hx with rfl | rfl
    · exact ⟨⟨[120], 1, true⟩, by simp [b0], rfl⟩
    · cases hk
theorem m0_fb : m0.Fit ∧ m0.Big := (ManOk.of m0_ok).fb
theorem b0_big : b0.Big := ⟨by decide, by decide, fun m hm => by
  have : m = m0 := by simpa [b0] using hm
  rw [this]; exact m0_fb, fun x hx => by
  have : x = ⟨[120], 1, true⟩ := by simpa [b0] using hx
  subst this; decide⟩
set_option maxHeartbeats 4000000 in
theorem add0  : Spec Tryz.prog LL 26 [.ag [.nl, .nl], eMan m0, .sl 1 (List UInt8) [] [[120]] .s] (eBas b0) := by
  refine spec_of (C := ⟨Tryz.prog, LL, EE, []⟩) (rl := [eBas b0]) (rs := [.cell 6 25]) CCx LLs Tryz.func26 rfl (by kernel_rfl) rfl (by kernel_rfl) (Nat.le_of_ble_eq_true rfl) (fun i => rfl) (fun i => by first | rfl | exact (Bool.or_false _).trans (eSd_men _ _)) rfl (by decide) ?_
  refine gb ?_
  refine lp_hd [2, 3, 4, 6] [3, 4, 6] (fun i : Nat => [(7, .n .i64 (i : Int))]) (fun i : Nat => []) (fun i : Nat => i = 0) (fun i : Nat => 0 - i) (0) id (id) rfl (fits_of (gb ?_) (gb ?_) (gb ?_) (gb ?_) (gb ?_)) ?_
  · first | exact True.intro | exact ⟨rfl, rfl⟩ | exact ⟨rfl, rfl, rfl⟩ | rfl | exact rowc (List.map_id _) | trivial
  · first | exact True.intro | exact ⟨rfl, rfl⟩ | exact ⟨rfl, rfl, rfl⟩ | rfl | exact rowc (List.map_id _) | trivial
  · first | exact True.intro | exact ⟨rfl, rfl⟩ | exact ⟨rfl, rfl, rfl⟩ | rfl | exact rowc (List.map_id _) | trivial
  · first | exact True.intro | exact ⟨rfl, rfl⟩ | exact ⟨rfl, rfl, rfl⟩ | rfl | exact rowc (List.map_id _) | trivial
  · first | exact True.intro | exact ⟨rfl, rfl⟩ | exact ⟨rfl, rfl, rfl⟩ | rfl | exact rowc (List.map_id _) | trivial
  rintro i rfl
  try refine gb ?_
  refine br (fun a => ?_) (fun a => ?_)
  · exfalso; omega
  · try refine gb ?_
    refine cd (all_nil) ?_
    refine gb ?_
    refine cd (copied_ok m0 m0_fb.2) ?_
    refine gb ?_
    refine .inr ?_
    try refine gb ?_
    refine cd (insM_nil m0) ?_
    refine gb ?_
    refine cd (cloneS_nil) ?_
    refine gb ?_
    refine lp_hd [2, 6, 42, 43] [6] (fun i : Nat => [(8, .p 8 0), (44, .n .i64 (i : Int))]) (fun i : Nat => [(8, .cells 25 [.sl 5 Man dMn [m0] eMan, if i = 0 then .nl else .sl 3 Shr dS [⟨[120], 1, true⟩] eShr])]) (fun i : Nat => i ≤ 2) (fun i : Nat => 2 - i) (0) id (id) (Nat.zero_le _) (fits_of (gb ?_) (gb ?_) (gb ?_) (gb ?_) (gb ?_)) ?_
    · first | exact True.intro | exact ⟨rfl, rfl⟩ | exact ⟨rfl, rfl, rfl⟩ | rfl | exact rowc (List.map_id _) | trivial
    · first | exact True.intro | exact ⟨rfl, rfl⟩ | exact ⟨rfl, rfl, rfl⟩ | rfl | exact rowc (List.map_id _) | trivial
    · first | exact True.intro | exact ⟨rfl, rfl⟩ | exact ⟨rfl, rfl, rfl⟩ | rfl | exact rowc (List.map_id _) | trivial
    · first | exact True.intro | exact ⟨rfl, rfl⟩ | exact ⟨rfl, rfl, rfl⟩ | rfl | exact rowc (List.map_id _) | trivial
    · first | exact True.intro | exact ⟨rfl, rfl⟩ | exact ⟨rfl, rfl, rfl⟩ | rfl | exact rowc (List.map_id _) | trivial
    rintro i hi
    have hl : m0.ents.length = 2 := rfl
    have e0 : m0.ents.getD 0 dE = ⟨2, 493, [], [120], []⟩ := rfl
    have e1 : m0.ents.getD 1 dE = ⟨3, 0, [], [120, 47, 121], [122]⟩ := rfl
    obtain rfl | rfl | rfl : i = 0 ∨ i = 1 ∨ i = 2 := by omega
    · try refine gb ?_
      refine br (fun c => ?_) (fun c => ?_)
      · try refine gb ?_
        rw [e0]
        try refine gb ?_
        refine cd (contains_ok [[120]] [120] (by decide)) ?_
        refine gb ?_
        rw [show decide (([120] : List UInt8) ∈ [[120]]) = true by decide]
        try refine gb ?_
        refine cd (join_nil [120] true) ?_
        refine gb ?_
        refine ⟨1, (by omega), (by omega), fits_of (gb ?_) (gb ?_) (gb ?_) (gb ?_) (gb ?_)⟩
        · first | exact True.intro | exact ⟨rfl, rfl⟩ | exact ⟨rfl, rfl, rfl⟩ | rfl | exact rowc (List.map_id _) | trivial
        · (first | trivial | exact ⟨rfl, rfl⟩ | exact ⟨rfl, rfl, rfl⟩ | rfl | exact ⟨le_refl _, rfl⟩ | simp)
        · first | exact True.intro | exact ⟨rfl, rfl⟩ | exact ⟨rfl, rfl, rfl⟩ | rfl | exact rowc (List.map_id _) | trivial
        · (first | trivial | exact ⟨rfl, rfl⟩ | exact ⟨rfl, rfl, rfl⟩ | rfl | exact ⟨le_refl _, rfl⟩ | simp)
        · first | exact True.intro | exact ⟨rfl, rfl⟩ | exact ⟨rfl, rfl, rfl⟩ | rfl | exact rowc (List.map_id _) | trivial
      · exfalso; rw [hl] at c; omega
    · try refine gb ?_
      refine br (fun c => ?_) (fun c => ?_)
      · try refine gb ?_
        rw [e1]
        try refine gb ?_
        refine ⟨2, (by omega), (by omega), fits_of (gb ?_) (gb ?_) (gb ?_) (gb ?_) (gb ?_)⟩
        · first | exact True.intro | exact ⟨rfl, rfl⟩ | exact ⟨rfl, rfl, rfl⟩ | rfl | exact rowc (List.map_id _) | trivial
        · (first | trivial | exact ⟨rfl, rfl⟩ | exact ⟨rfl, rfl, rfl⟩ | rfl | exact ⟨le_refl _, rfl⟩ | simp)
        · first | exact True.intro | exact ⟨rfl, rfl⟩ | exact ⟨rfl, rfl, rfl⟩ | rfl | exact rowc (List.map_id _) | trivial
        · (first | trivial | exact ⟨rfl, rfl⟩ | exact ⟨rfl, rfl, rfl⟩ | rfl | exact ⟨le_refl _, rfl⟩ | simp)
        · first | exact True.intro | exact ⟨rfl, rfl⟩ | exact ⟨rfl, rfl, rfl⟩ | rfl | exact rowc (List.map_id _) | trivial
      · exfalso; rw [hl] at c; omega
    · try refine gb ?_
      refine br (fun c => ?_) (fun c => ?_)
      · exfalso; rw [hl] at c; omega
      · try refine gb ?_
        exact le_refl (eBas b0)
end Go.Proofs.YtagjeabdcjcchaaGreatDoor.Ev
