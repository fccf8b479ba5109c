/- Archives: blocks and bytes are read. -/
import Derived.Test.YtikmkgoeepgbkaaGreatDoorTf
set_option linter.all false
namespace Go.Proofs.YtikmkgoeepgbkaaGreatDoor.Ev
open Go.RowKit
open Go.Proofs.YtikmkgoeepgbkaaGreatDoor.Mem
set_option linter.unusedVariables false
set_option linter.unusedSimpArgs false
set_option maxRecDepth 100000
def blockM (r : Rdr) : List UInt8 × Int × Rdr := if r.text.length < r.pos + 512 then ([], 2, r) else ((r.text.take (r.pos + 512)).drop r.pos, 0, { r with pos := r.pos + 512 })
structure Rdr.Ok (r : Rdr) : Prop where
  text : r.text.length ≤ 2097152
  pos : r.pos ≤ r.text.length
  ap : r.all.path.text.length ≤ 2097152
  tg : r.all.target.text.length ≤ 2097152
  nx : ∀ p ∈ r.next, p.val.length ≤ 2097152
  nl : r.next.length ≤ 1048576
theorem tblock_ok (r : Rdr) (hr : r.Ok) : SpecP Tryz.prog LL 53 [.p 1000000000 0] [(1000000000, bkR r 0), (0, rE r.mem)] (.tp [.s (blockM r).1, .n .i64 (blockM r).2.1]) [(1000000000, bkR (blockM r).2.2 0), (0, rE (blockM r).2.2.mem)] := by
  refine spec_ofP' (C := ⟨Tryz.prog, LL, EE, []⟩) (rl := [.s (blockM r).1, .n .i64 (blockM r).2.1]) (rs := [.tmp 2, .tmp 3]) CCx LLs Tryz.func53 rfl (by kernel_rfl) rfl (by kernel_rfl) (Nat.le_of_ble_eq_true rfl) rfl rfl rfl rfl rfl rfl rfl rfl (by decide) ?_
  refine gr ?_
  have h1 := hr.text
  have h2 := hr.pos
  obtain ⟨q, hq⟩ : ∃ q, q = blockM r := ⟨_, rfl⟩
  rw [← hq]
  unfold blockM at hq
  try refine gr ?_
  refine br (fun a => ?_) (fun a => ?_)
  · rw [if_pos (by omega)] at hq
    subst hq
    try refine gr ?_
    refine outP [] id ?_ ?_ ?_
    all_goals first | trivial | (refine gr ?_; first | trivial | rfl)
  · rw [if_neg (by omega)] at hq
    subst hq
    try refine gr ?_
    refine outP [] id ?_ ?_ ?_
    all_goals first | trivial | (refine gr ?_; first | trivial | rfl)
def bytesM (r : Rdr) (n : Nat) : List UInt8 × Int × Rdr :=
  if r.text.length < r.pos + n + fillN n ∨ blankZ ((r.text.take (r.pos + n + fillN n)).drop (r.pos + n)) = false then ([], 2, r) else ((r.text.take (r.pos + n)).drop r.pos, 0, { r with pos := r.pos + n + fillN n })
theorem tbytes_ok (r : Rdr) (n : Nat) (hr : r.Ok) (hn : n ≤ 1048576) : SpecP Tryz.prog LL 87 [.p 1000000000 0, .n .i64 (n : Int)] [(1000000000, bkR r 0), (0, rE r.mem)] (.tp [.s (bytesM r n).1, .n .i64 (bytesM r n).2.1]) [(1000000000, bkR (bytesM r n).2.2 0), (0, rE (bytesM r n).2.2.mem)] := by
  refine spec_ofP' (C := ⟨Tryz.prog, LL, EE, []⟩) (rl := [.s (bytesM r n).1, .n .i64 (bytesM r n).2.1]) (rs := [.tmp 4, .tmp 5]) CCx LLs Tryz.func87 rfl (by kernel_rfl) rfl (by kernel_rfl) (Nat.le_of_ble_eq_true rfl) rfl rfl rfl rfl rfl rfl rfl rfl (by decide) ?_
  refine gr ?_
  have h1 := hr.text
  have h2 := hr.pos
  have h3 := fillN_lt n
  obtain ⟨q, hq⟩ : ∃ q, q = bytesM r n := ⟨_, rfl⟩
  rw [← hq]
  unfold bytesM at hq
  refine cl (tfill_ok n (by omega)) ?_
  refine gr ?_
  refine br (fun a => ?_) (fun a => ?_)
  · try refine gr ?_
    rw [show ((r.pos : Int) + (n : Int)).toNat = r.pos + n by omega, show ((r.pos : Int) + (n : Int) + (fillN n : Int)).toNat = r.pos + n + fillN n by omega]
    refine cl (tblank_ok ((r.text.take (r.pos + n + fillN n)).drop (r.pos + n)) (by simp; omega)) ?_
    refine gr ?_
    refine br (fun b => ?_) (fun b => ?_)
    · rw [if_pos (.inr b)] at hq
      subst hq
      try refine gr ?_
      refine outP [] id ?_ ?_ ?_
      all_goals first | trivial | (refine gr ?_; first | trivial | rfl)
    · rw [if_neg (by rintro (h | h); omega; exact b h)] at hq
      subst hq
      try refine gr ?_
      rw [show ((r.pos : Int) + (n : Int)).toNat = r.pos + n by omega]
      refine outP [] id ?_ ?_ ?_
      all_goals first | trivial | (refine gr ?_; first | trivial | rfl)
  · rw [if_pos (by omega)] at hq
    subst hq
    try refine gr ?_
    refine outP [] id ?_ ?_ ?_
    all_goals first | trivial | (refine gr ?_; first | trivial | rfl)
end Go.Proofs.YtikmkgoeepgbkaaGreatDoor.Ev
