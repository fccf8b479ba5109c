/- How many bytes a rune has, as the reference counts them. -/
import Derived.Test.YtikmkgoeepgbkaaGreatDoorUtf
import Derived.Test.YtikmkgoeepgbkaaGreatDoorCut
import Derived.Test.YtikmkgoeepgbkaaGreatDoorKA
set_option linter.all false
namespace Go.Proofs.YtikmkgoeepgbkaaGreatDoor.Pz
open Go.RowKit
open Go.Proofs.YtikmkgoeepgbkaaGreatDoor.Sym Go.Proofs.YtikmkgoeepgbkaaGreatDoor.Mem
open Go.Proofs.YtikmkgoeepgbkaaGreatDoor.Sx hiding Mm m_alloc m_store m_put m_call m_callx m_make m_append r_string r_ixS
set_option linter.unusedVariables false
attribute [local irreducible] wpList Oper.wp
def rsize_m (r : Int) : Int :=
  (((rune1 r).length : Nat) : Int)

set_option maxHeartbeats 4000000 in
set_option maxRecDepth 100000 in
theorem rsize_any (r : Int) (w : World)   : Calls Tryz.prog 36 #[.int .i32 (r)] w (fun e w' => e = .returned (.int .i64 ((rsize_m r))) ∧ Below w.heap.size w w') := by
  go_enter Tryz.func36, Tryz.ntmps36
  have hm00 := Mm.nil none (fun _ => True) w
  have hm0 := hm00
  refine wp_seq_k (fun K1 hK1 => ?_)
  refine wp_region_lit ?_
  refine lvw 2 (.int .i64 0) rfl rfl (run_as rfl rfl) ?_
  simp only [nz1, nz2, nz3]
  refine wpList_nil ?_
  refine then_n (hK1 _ _ ?_)
  refine wp_seq_k (fun K2 hK2 => ?_)
  refine wp_region_lit ?_
  refine lvw 3 (.int .i32 (r)) rfl rfl (run_mv rfl rfl) ?_
  simp only [nz1, nz2, nz3]
  refine lst rfl (m_make (c := #[.int .i32 (r)]) (T := 21) (fun g => .slice (some ⟨g, 0, none⟩) 1 1) hm0 4 rfl (by unfold execOp; go_simp; try rfl) (fun g5 w3 (hm4 : Mm none (fun _ => True) w w3 [.blk g5 #[.int .i32 (r)] 21]) => ?_))
  simp only [nz1, nz2, nz3]
  refine lvw 5 (.string (tx (rune1 r))) rfl rfl (r_rune1 r (hm4.at 0 rfl) Tryz.underlying104 Tryz.underlying21 Tryz.underlying9 rfl rfl) ?_
  simp only [nz1, nz2, nz3]
  refine lvw 6 (.int .i64 (((rune1 r).length : Nat) : Int)) rfl rfl (t_len rfl Tryz.underlying9 rfl) ?_
  simp only [nz1, nz2, nz3]
  refine lvw 2 (.int .i64 (((rune1 r).length : Nat) : Int)) rfl rfl (run_as rfl rfl) ?_
  simp only [nz1, nz2, nz3]
  refine wpList_nil ?_
  refine then_n (hK2 _ _ ?_)
  refine wp_ret ?_
  have he6 : rsize_m r = (((rune1 r).length : Nat) : Int) := (show rsize_m r = (((rune1 r).length : Nat) : Int) from by unfold rsize_m; rfl)
  exact ⟨rfl, .int .i64 (((rune1 r).length : Nat) : Int), res_t rfl rfl, ⟨by rw [he6], hm4.below⟩⟩
theorem dec_ff (s : List UInt8) (p : Nat) (h1 : (dec s p).1 = 65533) : (dec s p).2 = 1 ∨ ((dec s p).2 = 3 ∧ p + 3 ≤ s.length ∧ at0 s p = 239 ∧ at0 s (p + 1) = 191 ∧ at0 s (p + 2) = 189) := by
  have b0 := at0_lt s p
  have b1 := at0_lt s (p + 1)
  have b2 := at0_lt s (p + 2)
  rcases dec_cases s p with ⟨_, e⟩ | ⟨_, e⟩ | ⟨_, _, _, e, _⟩ | ⟨hl, c0, c1, c2, e, _⟩ | ⟨_, c0, c1, c2, c3, e, _, hv⟩
  · left; rw [e]
  · left; rw [e]
  · rw [e] at h1
    simp only at h1
    omega
  · rw [e] at h1
    simp only at h1
    right
    rw [e]
    exact ⟨rfl, hl, by omega, by omega, by omega⟩
  · rw [e] at h1
    simp only at h1
    omega
theorem dec_w (s : List UInt8) (p : Nat) (h1 : ¬ (dec s p).1 = 65533) : rsize_m (((dec s p).1 : Nat) : Int) = (((dec s p).2 : Nat) : Int) := by
  have b0 := at0_lt s p
  have b1 := at0_lt s (p + 1)
  have b2 := at0_lt s (p + 2)
  have b3 := at0_lt s (p + 3)
  unfold rsize_m
  rw [rune1_len]
  have key : ∀ c w : Nat, validR c → (w = if c < 128 then 1 else if c < 2048 then 2 else if c < 65536 then 3 else 4) → (((if Utf8.valid (c : Int) = true then (if ((c : Int)).toNat < 128 then 1 else if ((c : Int)).toNat < 2048 then 2 else if ((c : Int)).toNat < 65536 then 3 else 4) else 3 : Nat)) : Int) = (w : Int) := by
    intro c w hc hw
    rw [if_pos ((valid_iff c).2 hc), Int.toNat_natCast, hw]
  rcases dec_cases s p with ⟨c0, e⟩ | ⟨_, e⟩ | ⟨_, c0, c1, e, c2⟩ | ⟨hl, c0, c1, c2, e, c3, hv⟩ | ⟨_, c0, c1, c2, c3, e, c4, hv⟩
  · rw [e]; exact key _ _ (.inl (by omega)) (by rw [if_pos c0])
  · rw [e] at h1; exact absurd rfl h1
  · rw [e]; exact key _ _ (.inl (by omega)) (by rw [if_neg (by omega), if_pos (by omega)])
  · rw [e]; exact key _ _ hv (by rw [if_neg (by omega), if_neg (by omega), if_pos (by omega)])
  · rw [e]; exact key _ _ hv (by rw [if_neg (by omega), if_neg (by omega), if_neg (by omega)])
theorem three_at (s : List UInt8) (p : Nat) (h : p + 3 ≤ s.length) : (s.take (p + 3)).drop p = [s.getD p 0, s.getD (p + 1) 0, s.getD (p + 2) 0] := by
  apply List.ext_getElem?
  intro j
  rw [List.getElem?_drop, List.getElem?_take]
  match j with
  | 0 => rw [if_pos (by omega), List.getD_eq_getElem?_getD, Nat.add_zero, List.getElem?_eq_getElem (by omega)]; rfl
  | 1 => rw [if_pos (by omega), List.getD_eq_getElem?_getD, List.getElem?_eq_getElem (by omega)]; simp [List.getD_eq_getElem?_getD, List.getElem?_eq_getElem (show p + 1 < s.length by omega)]
  | 2 => rw [if_pos (by omega), List.getElem?_eq_getElem (by omega)]; simp [List.getD_eq_getElem?_getD, List.getElem?_eq_getElem (show p + 2 < s.length by omega)]
  | j + 3 => rw [if_neg (by omega)]; rfl
theorem three_iff (s : List UInt8) (p : Nat) (h : p + 3 ≤ s.length) : (s.take (p + 3)).drop p = [239, 191, 189] ↔ at0 s p = 239 ∧ at0 s (p + 1) = 191 ∧ at0 s (p + 2) = 189 := by
  rw [three_at s p h]
  unfold at0
  constructor
  · intro e
    simp only [List.cons.injEq, and_true] at e
    rw [e.1, e.2.1, e.2.2]
    exact ⟨rfl, rfl, rfl⟩
  · rintro ⟨h0, h1, h2⟩
    have e0 : s.getD p 0 = 239 := UInt8.toNat_inj.1 h0
    have e1 : s.getD (p + 1) 0 = 191 := UInt8.toNat_inj.1 h1
    have e2 : s.getD (p + 2) 0 = 189 := UInt8.toNat_inj.1 h2
    rw [e0, e1, e2]
theorem dec_fffd (s : List UInt8) (p : Nat) (hl : p + 3 ≤ s.length) (h0 : at0 s p = 239) (h1 : at0 s (p + 1) = 191) (h2 : at0 s (p + 2) = 189) : dec s p = (65533, 3) := by
  unfold dec Utf8.decode
  simp only [tx_get!, tx_size, Nat.add_zero, h0, h1, h2]
  have d1 : decide (p + 1 < s.length) = true := decide_eq_true (by omega)
  have d2 : decide (p + 2 < s.length) = true := decide_eq_true (by omega)
  rw [d1, d2]
  rfl
theorem good_at (s : List UInt8) (p : Nat) (h : p < s.length) (hv : Lib.validD (s.drop p) = true) : dec s p ≠ (65533, 1) ∧ Lib.validD (s.drop (nxp s p)) = true := by
  rw [valid_at s p h] at hv
  split at hv
  · cases hv
  · exact ⟨by assumption, hv⟩
end Go.Proofs.YtikmkgoeepgbkaaGreatDoor.Pz
