/- How many bytes a rune has, as the reference counts them. -/
import Derived.Test.YtjbnmeofjiokeaaGreatDoorKL
import Derived.Test.YtjbnmeofjiokeaaGreatDoorKA
import Derived.Test.YtjbnmeofjiokeaaGreatDoorNF
set_option linter.all false
namespace Go.Proofs.YtjbnmeofjiokeaaGreatDoor.Pz
open Go.RowKit
open Go.Proofs.YtjbnmeofjiokeaaGreatDoor.Sym Go.Proofs.YtjbnmeofjiokeaaGreatDoor.Mem
open Go.Proofs.YtjbnmeofjiokeaaGreatDoor.Sx hiding Mm m_alloc m_store m_put m_call m_callx m_make m_append r_string r_ixS
set_option linter.unusedVariables false
attribute [local irreducible] wpList Oper.wp
def rsize_m (r : Int) : Int :=
  (((rune1 r).length : Nat) : Int)

set_option maxHeartbeats 4000000 in
set_option maxRecDepth 100000 in
theorem rsize_any (r : Int) (w : World)   : Calls Tryz.prog 77 #[.int .i32 (r)] w (fun e w' => e = .returned (.int .i64 ((rsize_m r))) ∧ Below w.heap.size w w') := by
  go_enter Tryz.func77, Tryz.ntmps77
  have hm00 := Mm.nil none (fun _ => True) w
  have hm0 := hm00
  refine wp_seq_k (fun K1 hK1 => ?_)
  refine wp_region_lit ?_
  refine lvw 2 (.int .i64 0) rfl rfl (run_as rfl rfl) ?_
  simp only [nz1, nz2, nz3]
  refine wpList_nil ?_
  refine then_n (hK1 _ _ ?_)
  refine wp_seq_k (fun K2 hK2 => ?_)
  refine wp_region_lit ?_
  refine lvw 3 (.int .i32 (r)) rfl rfl (run_mv rfl rfl) ?_
  simp only [nz1, nz2, nz3]
  refine lst rfl (m_make (c := #[.int .i32 (r)]) (T := 21) (fun g => .slice (some ⟨g, 0, none⟩) 1 1) hm0 4 rfl (by unfold execOp; go_simp; try rfl) (fun g5 w3 (hm4 : Mm none (fun _ => True) w w3 [.blk g5 #[.int .i32 (r)] 21]) => ?_))
  simp only [nz1, nz2, nz3]
  refine lvw 5 (.string (tx (rune1 r))) rfl rfl (r_rune1 r (hm4.at 0 rfl) Tryz.underlying129 Tryz.underlying21 Tryz.underlying9 rfl rfl) ?_
  simp only [nz1, nz2, nz3]
  refine lvw 6 (.int .i64 (((rune1 r).length : Nat) : Int)) rfl rfl (t_len rfl Tryz.underlying9 rfl) ?_
  simp only [nz1, nz2, nz3]
  refine lvw 2 (.int .i64 (((rune1 r).length : Nat) : Int)) rfl rfl (run_as rfl rfl) ?_
  simp only [nz1, nz2, nz3]
  refine wpList_nil ?_
  refine then_n (hK2 _ _ ?_)
  refine wp_ret ?_
  have he6 : rsize_m r = (((rune1 r).length : Nat) : Int) := (show rsize_m r = (((rune1 r).length : Nat) : Int) from by unfold rsize_m; rfl)
  exact ⟨rfl, .int .i64 (((rune1 r).length : Nat) : Int), res_t rfl rfl, ⟨by rw [he6], hm4.below⟩⟩
theorem dec_ff (s : List UInt8) (p : Nat) (h1 : (dec s p).1 = 65533) : (dec s p).2 = 1 ∨ ((dec s p).2 = 3 ∧ p + 3 ≤ s.length ∧ at0 s p = 239 ∧ at0 s (p + 1) = 191 ∧ at0 s (p + 2) = 189) := by
  have b0 := at0_lt s p
  have b1 := at0_lt s (p + 1)
  have b2 := at0_lt s (p + 2)
  rcases dec_cases s p with ⟨_, e⟩ | ⟨_, e⟩ | ⟨_, _, _, e, _⟩ | ⟨hl, c0, c1, c2, e, _⟩ | ⟨_, c0, c1, c2, c3, e, _, hv⟩
  · left; rw [e]
  · left; rw [e]
  · rw [e] at h1
    simp only at h1
    omega
  · rw [e] at h1
    simp only at h1
    right
    rw [e]
    exact ⟨rfl, hl, by omega, by omega, by omega⟩
  · rw [e] at h1
    simp only at h1
    omega
theorem dec_w (s : List UInt8) (p : Nat) (h1 : ¬ (dec s p).1 = 65533) : rsize_m (((dec s p).1 : Nat) : Int) = (((dec s p).2 : Nat) : Int) := by
  have b0 := at0_lt s p
  have b1 := at0_lt s (p + 1)
  have b2 := at0_lt s (p + 2)
  have b3 := at0_lt s (p + 3)
  unfold rsize_m
  rw [rune1_len]
  have key : ∀ c w : Nat, validR c → (w = if c < 128 then 1 else if c < 2048 then 2 else if c < 65536 then 3 else 4) → (((if Utf8.valid (c : Int) = true then (if ((c : Int)).toNat < 128 then 1 else if ((c : Int)).toNat < 2048 then 2 else if ((c : Int)).toNat < 65536 then 3 else 4) else 3 : Nat)) : Int) = (w : Int) := by
    intro c w hc hw
    rw [if_pos ((valid_iff c).2 hc), Int.toNat_natCast, hw]
  rcases dec_cases s p with ⟨c0, e⟩ | ⟨_, e⟩ | ⟨_, c0, c1, e, c2⟩ | ⟨hl, c0, c1, c2, e, c3, hv⟩ | ⟨_, c0, c1, c2, c3, e, c4, hv⟩
  · rw [e]; exact key _ _ (.inl (by omega)) (by rw [if_pos c0])
  · rw [e] at h1; exact absurd rfl h1
  · rw [e]; exact key _ _ (.inl (by omega)) (by rw [if_neg (by omega), if_pos (by omega)])
  · rw [e]; exact key _ _ hv (by rw [if_neg (by omega), if_neg (by omega), if_pos (by omega)])
  · rw [e]; exact key _ _ hv (by rw [if_neg (by omega), if_neg (by omega), if_neg (by omega)])
theorem three_at (s : List UInt8) (p : Nat) (h : p + 3 ≤ s.length) : (s.take (p + 3)).drop p = [s.getD p 0, s.getD (p + 1) 0, s.getD (p + 2) 0] := by
  apply List.ext_getElem?
  intro j
  rw [List.getElem?_drop, List.getElem?_take]
  match j with
  | 0 => rw [if_pos (by omega), List.getD_eq_getElem?_getD, Nat.add_zero, List.getElem?_eq_getElem (by omega)]; rfl
  | 1 => rw [if_pos (by omega), List.getD_eq_getElem?_getD, List.getElem?_eq_getElem (by omega)]; simp [List.getD_eq_getElem?_getD, List.getElem?_eq_getElem (show p + 1 < s.length by omega)]
  | 2 => rw [if_pos (by omega), List.getElem?_eq_getElem (by omega)]; simp [List.getD_eq_getElem?_getD, List.getElem?_eq_getElem (show p + 2 < s.length by omega)]
  | j + 3 => rw [if_neg (by omega)]; rfl
theorem three_iff (s : List UInt8) (p : Nat) (h : p + 3 ≤ s.length) : (s.take (p + 3)).drop p = [239, 191, 189] ↔ at0 s p = 239 ∧ at0 s (p + 1) = 191 ∧ at0 s (p + 2) = 189 := by
  rw [three_at s p h]
  unfold at0
  constructor
  · intro e
    simp only [List.cons.injEq, and_true] at e
    rw [e.1, e.2.1, e.2.2]
    exact ⟨rfl, rfl, rfl⟩
  · rintro ⟨h0, h1, h2⟩
    have e0 : s.getD p 0 = 239 := UInt8.toNat_inj.1 h0
    have e1 : s.getD (p + 1) 0 = 191 := UInt8.toNat_inj.1 h1
    have e2 : s.getD (p + 2) 0 = 189 := UInt8.toNat_inj.1 h2
    rw [e0, e1, e2]
theorem dec_fffd (s : List UInt8) (p : Nat) (hl : p + 3 ≤ s.length) (h0 : at0 s p = 239) (h1 : at0 s (p + 1) = 191) (h2 : at0 s (p + 2) = 189) : dec s p = (65533, 3) := by
  unfold dec Utf8.decode
  simp only [tx_get!, tx_size, Nat.add_zero, h0, h1, h2]
  have d1 : decide (p + 1 < s.length) = true := decide_eq_true (by omega)
  have d2 : decide (p + 2 < s.length) = true := decide_eq_true (by omega)
  rw [d1, d2]
  rfl
end Go.Proofs.YtjbnmeofjiokeaaGreatDoor.Pz
namespace Go.Proofs.YtjbnmeofjiokeaaGreatDoor.Ev
open Go.RowKit
open Go.Proofs.YtjbnmeofjiokeaaGreatDoor.Mem
set_option linter.unusedVariables false
set_option linter.unusedSimpArgs false
set_option maxRecDepth 100000
/-- How many bytes a rune has. -/
def sizeN (r : Int) : Int := Pz.rsize_m r
theorem size_ok (r : Int) : Spec Tryz.prog LL 77 [.n .i32 r] (.n .i64 (sizeN r)) := by
  refine Spec.of (fn := Tryz.f77) Tryz.func77 (by kernel_rfl) (by kernel_rfl) (fun _ => rfl) fun S W xs hL hz hx _ => ?_
  have e : xs = #[.int .i32 r] := by
    have h2 : xs.size = 1 := hz
    have e0 := (hx 0 (.n .i32 r) _ rfl (Array.getElem?_eq_getElem (by omega))).n_inv
    apply Array.ext
    · simpa using h2
    · intro i p q
      obtain rfl : i = 0 := by simp at q; omega
      exact e0
  rw [e]
  exact (Pz.rsize_any r W).mono fun e W' h => ⟨_, h.1, h.2, .n _ _ _⟩
theorem size_ff : sizeN 65533 = 3 := by decide
def rsgn (r : Nat) (n : Int) : Bool := decide (32 < r) && decide (r ≠ 127) && decide (r ≠ 47) && !(decide (r = 65533) && decide (n ≠ 3)) && !(decide (128 ≤ r) && decide (r < 160))
theorem rsgn_iff {r : Nat} {n : Int} : rsgn r n = true ↔ (32 < r ∧ r ≠ 127 ∧ r ≠ 47 ∧ (r = 65533 → n = 3) ∧ ¬ (128 ≤ r ∧ r < 160)) := by
  simp only [rsgn, Bool.and_eq_true, Bool.not_eq_true', Bool.and_eq_false_iff, decide_eq_true_eq, decide_eq_false_iff_not]
  omega
theorem rsign_ok (r : Nat) (n : Int) : Spec Tryz.prog LL 78 [.n .i32 (r : Int), .n .i64 n] (.b (rsgn r n)) := by
  refine spec_of (C := ⟨Tryz.prog, LL, EE, []⟩) (rl := [.b (rsgn r n)]) (rs := [.tmp 4]) CCx LLs Tryz.func78 rfl (by kernel_rfl) rfl (by kernel_rfl) (Nat.le_of_ble_eq_true rfl) (fun i => rfl) (fun i => by first | rfl | exact (Bool.or_false _).trans (eSd_men _ _)) rfl (by decide) ?_
  refine gr ?_
  repeat' (first | exact True.intro | (exact (rsgn_iff.2 (by omega)).symm) | (exact (Bool.eq_false_iff.2 fun e => by have := rsgn_iff.1 e; omega).symm) | (rw [Bool.eq_iff_iff, rsgn_iff]; simp only [Bool.not_eq_true', decide_eq_false_iff_not, decide_eq_true_eq]; omega) | refine br (fun h => ?_) (fun h => ?_) | refine gr ?_)
theorem mid_at (s : List UInt8) (a i : Nat) (h : a ≤ i) (hi : i < s.length) : (s.drop a).take (i + 1 - a) = (s.drop a).take (i - a) ++ [s.getD i 0] := by
  have := take_at (s.drop a) (i - a) 0 (by rw [List.length_drop]; omega)
  rw [show i + 1 - a = i - a + 1 by omega, this]
  congr 2
  rw [List.getD_eq_getElem?_getD, List.getD_eq_getElem?_getD, List.getElem?_drop, show a + (i - a) = i by omega]
theorem drop_cut (s : List UInt8) (a i : Nat) (h : a ≤ i) (hi : i < s.length) : s.drop a = (s.drop a).take (i - a) ++ s.getD i 0 :: s.drop (i + 1) := by
  rw [← drop_at s i 0 hi]
  have : s.drop i = (s.drop a).drop (i - a) := by rw [List.drop_drop]; congr 1; omega
  rw [this, List.take_append_drop]
set_option maxHeartbeats 4000000 in
theorem rsplit_ok (s : List UInt8) (hs : s.length ≤ 1000000) : Spec Tryz.prog LL 58 [.s s] (.sl 1 (List UInt8) [] (sp 47 s) .s) := by
  refine spec_of (C := ⟨Tryz.prog, LL, EE, []⟩) (rl := [.sl 1 (List UInt8) [] (sp 47 s) .s]) (rs := [.tmp 2]) CCx LLs Tryz.func58 rfl (by kernel_rfl) rfl (by kernel_rfl) (Nat.le_of_ble_eq_true rfl) (fun i => rfl) (fun i => by first | rfl | exact (Bool.or_false _).trans (eSd_men _ _)) rfl (by decide) ?_
  refine gr ?_
  refine lp_nil 3 9 hS (gr ?_) (gr ?_) ?_
  · trivial
  · trivial
  refine lp_hr [0] [] (fun x : Nat × Nat × List (List UInt8) => [(3, .ow 3 x.2.2.length), (4, .n .i64 (x.2.1 : Int)), (5, .n .i64 (x.1 : Int))]) (fun x : Nat × Nat × List (List UInt8) => [(3, rS x.2.2)]) (fun x : Nat × Nat × List (List UInt8) => x.1 ≤ s.length + 1 ∧ x.2.2.length ≤ x.1 ∧ (x.1 ≤ s.length → x.2.1 ≤ x.1 ∧ x.2.2 ++ sp 47 (s.drop x.2.1) = sp 47 s ∧ 47 ∉ (s.drop x.2.1).take (x.1 - x.2.1)) ∧ (x.1 = s.length + 1 → x.2.2 = sp 47 s)) (fun x : Nat × Nat × List (List UInt8) => s.length + 1 - x.1) ((0, 0, [])) id ⟨Nat.zero_le _, Nat.le_refl _, fun _ => ⟨Nat.le_refl _, by simp, by simp⟩, fun h => by simp at h⟩ (fits_of (gr ?_) (gr ?_) (gr ?_) (gr ?_) (gr ?_)) ?_
  · first | exact True.intro | exact ⟨rfl, rfl⟩ | exact ⟨rfl, rfl, rfl⟩ | rfl | exact rowc (List.map_id _) | trivial
  · first | exact True.intro | exact ⟨rfl, rfl⟩ | exact ⟨rfl, rfl, rfl⟩ | rfl | exact rowc (List.map_id _) | trivial
  · first | exact True.intro | exact ⟨rfl, rfl⟩ | exact ⟨rfl, rfl, rfl⟩ | rfl | exact rowc (List.map_id _) | trivial
  · first | exact True.intro | exact ⟨rfl, rfl⟩ | exact ⟨rfl, rfl, rfl⟩ | rfl | exact rowc (List.map_id _) | trivial
  · first | exact True.intro | exact ⟨rfl, rfl⟩ | exact ⟨rfl, rfl, rfl⟩ | rfl | exact rowc (List.map_id _) | trivial
  rintro ⟨i, a, l⟩ ⟨g1, g2, g3, g4⟩
  dsimp only at g1 g2 g3 g4 ⊢
  try refine gr ?_
  refine br (fun b => ?_) (fun b => ?_)
  · obtain ⟨g5, g6, g7⟩ := g3 (by omega)
    try refine gr ?_
    refine br (fun c => ?_) (fun c => ?_)
    · try refine gr ?_
      refine br (fun d => ?_) (fun d => ?_)
      · have hd : s.getD i 0 = 47 := UInt8.toNat_inj.1 (show by' s i = 47 by omega)
        have hc := drop_cut s a i g5 (by omega)
        rw [hd] at hc
        rw [hc, sp_app g7] at g6
        try refine gr ?_
        refine .inr ?_
        refine ⟨(i + 1, i + 1, l ++ [(s.take i).drop a]), fun i => if i = 3 then 28 else i, ⟨by dsimp only; omega, by simp; omega, fun _ => ⟨Nat.le_refl _, by dsimp only; rw [List.drop_take, List.append_assoc]; exact g6, by simp⟩, fun h => by dsimp only at h; omega⟩, (by dsimp only; omega), fits_of (gr ?_) (gr ?_) (gr ?_) (gr ?_) (gr ?_)⟩
        · first | exact True.intro | exact ⟨rfl, rfl⟩ | exact ⟨rfl, rfl, rfl⟩ | rfl | exact rowc (List.map_id _) | trivial
        · first | exact True.intro | exact ⟨rfl, rfl⟩ | exact ⟨rfl, rfl, rfl⟩ | rfl | exact rowc (List.map_id _) | trivial
        · first | exact True.intro | exact ⟨rfl, rfl⟩ | exact ⟨rfl, rfl, rfl⟩ | rfl | exact rowc (List.map_id _) | trivial
        · first | exact True.intro | exact ⟨rfl, rfl⟩ | exact ⟨rfl, rfl, rfl⟩ | rfl | exact rowc (List.map_id _) | trivial
        · first | exact True.intro | exact ⟨rfl, rfl⟩ | exact ⟨rfl, rfl, rfl⟩ | rfl | exact rowc (List.map_id _) | trivial
      · have hm := mid_at s a i g5 (by omega)
        try refine gr ?_
        refine ⟨(i + 1, a, l), id, ⟨by dsimp only; omega, by dsimp only; omega, fun _ => ⟨by dsimp only; omega, g6, by dsimp only; rw [hm]; simp only [List.mem_append, List.mem_singleton, not_or]; exact ⟨g7, fun e => d (by unfold by'; rw [← e]; rfl)⟩⟩, fun h => by dsimp only at h; omega⟩, (by dsimp only; omega), fits_of (gr ?_) (gr ?_) (gr ?_) (gr ?_) (gr ?_)⟩
        · first | exact True.intro | exact ⟨rfl, rfl⟩ | exact ⟨rfl, rfl, rfl⟩ | rfl | exact rowc (List.map_id _) | trivial
        · first | exact True.intro | exact ⟨rfl, rfl⟩ | exact ⟨rfl, rfl, rfl⟩ | rfl | exact rowc (List.map_id _) | trivial
        · first | exact True.intro | exact ⟨rfl, rfl⟩ | exact ⟨rfl, rfl, rfl⟩ | rfl | exact rowc (List.map_id _) | trivial
        · first | exact True.intro | exact ⟨rfl, rfl⟩ | exact ⟨rfl, rfl, rfl⟩ | rfl | exact rowc (List.map_id _) | trivial
        · first | exact True.intro | exact ⟨rfl, rfl⟩ | exact ⟨rfl, rfl, rfl⟩ | rfl | exact rowc (List.map_id _) | trivial
    · have hi : i = s.length := by omega
      subst hi
      rw [List.take_of_length_le (by rw [List.length_drop]; exact Nat.le_refl _)] at g7
      rw [sp_no g7] at g6
      try refine gr ?_
      refine .inr ?_
      refine ⟨(s.length + 1, s.length + 1, l ++ [(s.take s.length).drop a]), fun i => if i = 3 then 28 else i, ⟨by dsimp only; omega, by simp; omega, fun h => by dsimp only at h; omega, fun _ => by dsimp only; rw [List.take_length]; exact g6⟩, (by dsimp only; omega), fits_of (gr ?_) (gr ?_) (gr ?_) (gr ?_) (gr ?_)⟩
      · first | exact True.intro | exact ⟨rfl, rfl⟩ | exact ⟨rfl, rfl, rfl⟩ | rfl | exact rowc (List.map_id _) | trivial
      · first | exact True.intro | exact ⟨rfl, rfl⟩ | exact ⟨rfl, rfl, rfl⟩ | rfl | exact rowc (List.map_id _) | trivial
      · first | exact True.intro | exact ⟨rfl, rfl⟩ | exact ⟨rfl, rfl, rfl⟩ | rfl | exact rowc (List.map_id _) | trivial
      · first | exact True.intro | exact ⟨rfl, rfl⟩ | exact ⟨rfl, rfl, rfl⟩ | rfl | exact rowc (List.map_id _) | trivial
      · first | exact True.intro | exact ⟨rfl, rfl⟩ | exact ⟨rfl, rfl, rfl⟩ | rfl | exact rowc (List.map_id _) | trivial
  · try refine gr ?_
    rw [g4 (by omega)]
    exact le_refl _
end Go.Proofs.YtjbnmeofjiokeaaGreatDoor.Ev
namespace Go.Proofs.YtjbnmeofjiokeaaGreatDoor.Ev
open Go.RowKit
open Go.Proofs.YtjbnmeofjiokeaaGreatDoor.Mem
set_option linter.unusedVariables false
set_option linter.unusedSimpArgs false
set_option maxRecDepth 100000
theorem parts_of {s : List UInt8} (h : (partsM s).2 = 0) : s.length ≤ 200 ∧ (∀ x ∈ sp 47 s, partB x = true) ∧ (sp 47 s).length ≤ 16 := by
  unfold partsM at h
  split at h
  · cases h
  · split at h
    · cases h
    · rename_i h2
      split at h
      · cases h
      · exact ⟨by omega, List.all_eq_true.1 (Decidable.not_not.1 h2), by omega⟩
theorem rown_ok  : Spec Tryz.prog LL 76 [] (.s [46, 104, 111, 108, 100, 97, 108, 108]) := by
  refine spec_of (C := ⟨Tryz.prog, LL, EE, []⟩) (rl := [.s [46, 104, 111, 108, 100, 97, 108, 108]]) (rs := [.tmp 0]) CCx LLs Tryz.func76 rfl (by kernel_rfl) rfl (by kernel_rfl) (Nat.le_of_ble_eq_true rfl) (fun i => rfl) (fun i => by first | rfl | exact (Bool.or_false _).trans (eSd_men _ _)) rfl (by decide) ?_
  refine gr ?_
  trivial
theorem rres_ok (s : List UInt8) (hs : s.length ≤ 1000000) : Spec Tryz.prog LL 56 [.s s] (.b (decide ((sp 47 s).getD 0 [] = [46, 104, 111, 108, 100, 97, 108, 108]))) := by
  refine spec_of (C := ⟨Tryz.prog, LL, EE, []⟩) (rl := [.b (decide ((sp 47 s).getD 0 [] = [46, 104, 111, 108, 100, 97, 108, 108]))]) (rs := [.tmp 2]) CCx LLs Tryz.func56 rfl (by kernel_rfl) rfl (by kernel_rfl) (Nat.le_of_ble_eq_true rfl) (fun i => rfl) (fun i => by first | rfl | exact (Bool.or_false _).trans (eSd_men _ _)) rfl (by decide) ?_
  refine gr ?_
  refine cd (rsplit_ok s hs) ?_
  refine gr ?_
  have := sp_pos 47 s
  refine ⟨by omega, ?_⟩
  refine cd (rown_ok) ?_
  refine gr ?_
  trivial
theorem rdir_ok (l : List Ent) (p : List UInt8) (hl : l.length ≤ 100000000000000) : Spec Tryz.prog LL 31 [.sl 5 Ent dE l eEnt, .s p] (.b (dirB l p)) := by
  refine spec_of (C := ⟨Tryz.prog, LL, EE, []⟩) (rl := [.b (dirB l p)]) (rs := [.tmp 4]) CCx LLs Tryz.func31 rfl (by kernel_rfl) rfl (by kernel_rfl) (Nat.le_of_ble_eq_true rfl) (fun i => rfl) (fun i => by first | rfl | exact (Bool.or_false _).trans (eSd_men _ _)) rfl (by decide) ?_
  refine gr ?_
  refine lp_hd [0, 1] [] (fun i : Nat => [(5, .n .i64 (i : Int))]) (fun i : Nat => []) (fun i : Nat => i ≤ l.length ∧ dirB l p = dirB (l.drop i) p) (fun i : Nat => l.length - i) (0) id (id) ⟨Nat.zero_le _, rfl⟩ (fits_of (gr ?_) (gr ?_) (gr ?_) (gr ?_) (gr ?_)) ?_
  · first | exact True.intro | exact ⟨rfl, rfl⟩ | exact ⟨rfl, rfl, rfl⟩ | rfl | exact rowc (List.map_id _) | trivial
  · first | exact True.intro | exact ⟨rfl, rfl⟩ | exact ⟨rfl, rfl, rfl⟩ | rfl | exact rowc (List.map_id _) | trivial
  · first | exact True.intro | exact ⟨rfl, rfl⟩ | exact ⟨rfl, rfl, rfl⟩ | rfl | exact rowc (List.map_id _) | trivial
  · first | exact True.intro | exact ⟨rfl, rfl⟩ | exact ⟨rfl, rfl, rfl⟩ | rfl | exact rowc (List.map_id _) | trivial
  · first | exact True.intro | exact ⟨rfl, rfl⟩ | exact ⟨rfl, rfl, rfl⟩ | rfl | exact rowc (List.map_id _) | trivial
  rintro i ⟨hi, hr⟩
  try refine gr ?_
  refine br (fun e => ?_) (fun e => ?_)
  · have hd := drop_at l i dE (by omega)
    have hh : dirB (l.drop i) p = (decide ((l.getD i dE).path = p) && decide ((l.getD i dE).kind = 2) || dirB (l.drop (i + 1)) p) := by rw [hd]; rfl
    rw [hh] at hr
    clear hh hd
    try refine gr ?_
    refine br (fun c => ?_) (fun c => ?_)
    · try refine gr ?_
      refine br (fun d => ?_) (fun d => ?_)
      · try refine gr ?_
        rw [hr, decide_eq_true c, decide_eq_true d]
        rfl
      · try refine gr ?_
        refine ⟨i + 1, ⟨by omega, by rw [hr, decide_eq_false d, Bool.and_false, Bool.false_or]⟩, (by omega), fits_of (gr ?_) (gr ?_) (gr ?_) (gr ?_) (gr ?_)⟩
        · first | exact True.intro | exact ⟨rfl, rfl⟩ | exact ⟨rfl, rfl, rfl⟩ | rfl | exact rowc (List.map_id _) | trivial
        · first | exact True.intro | exact ⟨rfl, rfl⟩ | exact ⟨rfl, rfl, rfl⟩ | rfl | exact rowc (List.map_id _) | trivial
        · first | exact True.intro | exact ⟨rfl, rfl⟩ | exact ⟨rfl, rfl, rfl⟩ | rfl | exact rowc (List.map_id _) | trivial
        · first | exact True.intro | exact ⟨rfl, rfl⟩ | exact ⟨rfl, rfl, rfl⟩ | rfl | exact rowc (List.map_id _) | trivial
        · first | exact True.intro | exact ⟨rfl, rfl⟩ | exact ⟨rfl, rfl, rfl⟩ | rfl | exact rowc (List.map_id _) | trivial
    · try refine gr ?_
      refine ⟨i + 1, ⟨by omega, by rw [hr, decide_eq_false c, Bool.false_and, Bool.false_or]⟩, (by omega), fits_of (gr ?_) (gr ?_) (gr ?_) (gr ?_) (gr ?_)⟩
      · first | exact True.intro | exact ⟨rfl, rfl⟩ | exact ⟨rfl, rfl, rfl⟩ | rfl | exact rowc (List.map_id _) | trivial
      · first | exact True.intro | exact ⟨rfl, rfl⟩ | exact ⟨rfl, rfl, rfl⟩ | rfl | exact rowc (List.map_id _) | trivial
      · first | exact True.intro | exact ⟨rfl, rfl⟩ | exact ⟨rfl, rfl, rfl⟩ | rfl | exact rowc (List.map_id _) | trivial
      · first | exact True.intro | exact ⟨rfl, rfl⟩ | exact ⟨rfl, rfl, rfl⟩ | rfl | exact rowc (List.map_id _) | trivial
      · first | exact True.intro | exact ⟨rfl, rfl⟩ | exact ⟨rfl, rfl, rfl⟩ | rfl | exact rowc (List.map_id _) | trivial
  · try refine gr ?_
    rw [hr, List.drop_eq_nil_of_le (by omega)]
    rfl
theorem EntOk.zero {x : Ent} (h : EntOk x) : x.kind = 2 ∨ x.kind = 3 → x.sum = [] := fun hk => List.length_eq_zero_iff.1 (by
  have h1 := h.s
  have : sizeM x.kind = 0 := if_neg (by omega)
  omega)
end Go.Proofs.YtjbnmeofjiokeaaGreatDoor.Ev
