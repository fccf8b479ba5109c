/- Layer 15: what writing comes to: the mathematics. -/
import Derived.Test.YtmammofbgllceaaBkO
namespace Go.Proofs.Ytmammofbgllceaa.Bk
open Go.Proofs.Ytmammofbgllceaa.Mem
theorem ready_right (d : Dk) (h : RightP d) : ready_m d = if d.down = true then 11 else 0 := by
  unfold ready_m
  rw [if_neg (by rw [(right_iff d).2 h]; decide)]
/-- What writing comes to, on a disk that may be. -/
theorem put_cases (d : Dk) (hR : RightP d) (at_ : Int) (data : List UInt8) :
    (d.down = true ∧ put_m d at_ data = (d, 11)) ∨ (d.down = false ∧ put_m d at_ data = (d, 1)) ∨ (d.down = false ∧ d.fuse = 0 ∧ put_m d at_ data = (⟨d.safe, d.loose, d.fuse, true⟩, 11)) ∨
    (d.down = false ∧ d.fuse ≠ 0 ∧ 0 ≤ at_ ∧ at_ < (d.safe.length : Int) ∧ data.length = 256 ∧ put_m d at_ data = (⟨d.safe, d.loose ++ [⟨at_, data⟩], if 0 < d.fuse then d.fuse - 1 else d.fuse, false⟩, 0)) := by
  have hr := ready_right d hR
  rw [put_eq]
  unfold rput_m
  rw [rready_eq, hr, spent_eq, List.nil_append]
  cases hd : d.down with
  | true => exact .inl ⟨rfl, rfl⟩
  | false =>
    right
    rw [if_neg (by decide)]
    by_cases h1 : at_ < 0
    · rw [if_pos h1]; exact .inl ⟨rfl, rfl⟩
    rw [if_neg h1]
    by_cases h2 : (d.safe.length : Int) ≤ at_
    · rw [if_pos h2]; exact .inl ⟨rfl, rfl⟩
    rw [if_neg h2]
    by_cases h3 : data.length = 256
    · rw [if_neg (fun h => h h3)]
      right
      by_cases h4 : d.fuse = 0
      · left
        have e : spentD d = ({ d with down := true }, false) := by unfold spentD; rw [if_pos h4]
        rw [e]
        exact ⟨rfl, h4, rfl⟩
      · right
        have e : spentD d = (⟨d.safe, d.loose, if 0 < d.fuse then d.fuse - 1 else d.fuse, false⟩, true) := by
          unfold spentD
          rw [if_neg h4]
          by_cases h5 : 0 < d.fuse
          · rw [if_pos h5, if_pos h5, hd]
          · rw [if_neg h5, if_neg h5, ← hd]
        rw [e]
        exact ⟨rfl, h4, by omega, by omega, h3, rfl⟩
    · rw [if_pos h3]; exact .inl ⟨rfl, rfl⟩
theorem right_more {d : Dk} (hR : RightP d) {at_ : Int} {data : List UInt8} (h1 : 0 ≤ at_) (h2 : at_ < (d.safe.length : Int)) (h3 : data.length = 256) (f : Int) (b : Bool) : RightP ⟨d.safe, d.loose ++ [⟨at_, data⟩], f, b⟩ := by
  obtain ⟨r1, r2, r3, r4⟩ := hR
  refine ⟨r1, r2, r3, fun x hx => ?_⟩
  rcases List.mem_append.1 hx with hx | hx
  · exact r4 x hx
  · rw [List.mem_singleton.1 hx]
    exact ⟨h1, h2, h3⟩
theorem right_any_fuse {d : Dk} (hR : RightP d) (f : Int) (b : Bool) : RightP ⟨d.safe, d.loose, f, b⟩ := hR
theorem app_mem : ∀ (l : List Wr) (s : List (List UInt8)), (∀ x ∈ l, x.data.length = 256) → (∀ x ∈ s, x.length = 256) → ∀ x ∈ l.foldl app s, x.length = 256
  | [], s, _, hs => hs
  | y :: l, s, hl, hs => by
    rw [List.foldl_cons]
    refine app_mem l _ (fun x hx => hl x (by simp [hx])) (fun x hx => ?_)
    rcases List.mem_or_eq_of_mem_set hx with h | h
    · exact hs x h
    · rw [h]; exact hl y (by simp)
theorem right_flushed {d : Dk} (hR : RightP d) (f : Int) (b : Bool) : RightP ⟨d.loose.foldl app d.safe, [], f, b⟩ := by
  obtain ⟨r1, r2, r3, r4⟩ := hR
  have e := app_len d.loose d.safe
  exact ⟨by show 32 ≤ (List.foldl app d.safe d.loose).length; omega, by show (List.foldl app d.safe d.loose).length ≤ 2048; omega, app_mem _ _ (fun x hx => (r4 x hx).2.2) r3, fun x hx => by cases hx⟩
/-- Flushing a disk that may be, with the power on and no fuse. -/
theorem flush_on (d : Dk) (hR : RightP d) (hd : d.down = false) (hf : d.fuse = -1) : flush_m d = (⟨d.loose.foldl app d.safe, [], -1, false⟩, 0) := by
  have e : spentD d = (d, true) := by
    unfold spentD
    rw [if_neg (by omega), if_neg (by omega)]
  rw [flush_is, ready_right d hR, spent_eq, e, hd, if_neg (by decide), if_pos rfl, ← hf]
theorem get_on (d : Dk) (hR : RightP d) (hd : d.down = false) (at_ : Int) (h1 : 0 ≤ at_) (h2 : at_ < (d.safe.length : Int)) : get_m d at_ = (d.loose.foldl (pick at_) (d.safe.getD at_.toNat []), 0) := by
  rw [get_is, ready_right d hR, hd, if_neg (by decide), if_neg (by omega), if_neg (by omega)]
theorem put_at (d : Dk) (at_ : Int) (data : List UInt8) : (put_m d at_ data).2 ≠ 0 ∨ (0 ≤ at_ ∧ at_ < (d.safe.length : Int)) := by
  rw [put_eq]
  unfold rput_m
  split
  · rename_i h
    exact .inl h
  split
  · exact .inl (show (1 : Int) ≠ 0 by decide)
  split
  · exact .inl (show (1 : Int) ≠ 0 by decide)
  · exact .inr ⟨by omega, by omega⟩
end Go.Proofs.Ytmammofbgllceaa.Bk
