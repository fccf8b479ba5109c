/- Layer 9: HeaderSpoilt is true. -/
import Derived.Test.YtglnifckngcpkaaDoorHdSL
import Derived.Test.YtglnifckngcpkaaDoorHdSQ
set_option linter.unusedVariables false
namespace Go.Proofs.YtglnifckngcpkaaDoor.Hd
open Go.Proofs.YtglnifckngcpkaaDoor.Mem
theorem lspoilt_true (h : Hdr) (pl : Int) (c : UInt8) (p0 : h.mode ≤ 9223372036854775807) (p1 : h.uid ≤ 9223372036854775807) (p2 : h.gid ≤ 9223372036854775807) (p3 : h.size ≤ 9223372036854775807) (p4 : h.time ≤ 9223372036854775807) : lspoilt_m h pl c = true := by
  unfold lspoilt_m
  by_cases e : (hencode_m h).2 = 0
  · have l := henc_lies e
    obtain ⟨k, hk, ek⟩ : ∃ k, k < 512 ∧ (pl % 18446744073709551616).toNat % 512 = k := ⟨_, Nat.mod_lt _ (by decide), rfl⟩
    have K := spoilt_is l p0 p1 p2 p3 p4 k hk c
    rw [if_neg (fun c => c e), if_neg (fun c => c (lies_len l)), if_pos hawake_true, ek]
    generalize (hdecode_m ((hencode_m h).1.set k c)).2 = r at *
    generalize by' (hencode_m h).1 k = x at *
    generalize by' (hencode_m h).1 148 = y at *
    repeat' split
    all_goals first
      | (rw [decide_eq_true (K.2 (by omega))]; rfl)
      | (rw [decide_eq_false (fun a => by have := K.1 a; omega)]; rfl)
      | (by_cases q : c.toNat = 32
         · rw [decide_eq_true (K.2 (by omega)), decide_eq_true q]; rfl
         · rw [decide_eq_false (fun a => by have := K.1 a; omega), decide_eq_false q]; rfl)
  · rw [if_pos e]; exact hawake_true
end Go.Proofs.YtglnifckngcpkaaDoor.Hd
