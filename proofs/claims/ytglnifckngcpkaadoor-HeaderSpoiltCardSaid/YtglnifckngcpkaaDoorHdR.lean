/- Layer 9: the example, and what is blank. -/
import Derived.Test.YtglnifckngcpkaaDoorHdF
import Derived.Test.YtglnifckngcpkaaDoorHdQ
set_option linter.unusedVariables false
set_option maxRecDepth 100000
namespace Go.Proofs.YtglnifckngcpkaaDoor.Hd
open Go.Proofs.YtglnifckngcpkaaDoor.Mem
theorem hawake_true : hawake_m = true := by decide +kernel
theorem blank_zero : blank_m (List.replicate 512 (0 : UInt8)) = true := by decide +kernel
theorem dec_zero : (hdecode_m (List.replicate 512 (0 : UInt8))).2 = 2 := by decide +kernel
theorem zero_magic : ((fill_m [] 512).take 265).drop 257 = [0, 0, 0, 0, 0, 0, 0, 0] := by decide +kernel
theorem henc_empty {h : Hdr} (e : ¬ (hencode_m h).2 = 0) : (hencode_m h).1 = [] := by
  rcases henc_cases h with ⟨a, _⟩ | l
  · exact a
  · exact absurd (by rw [l.is]) e
theorem henc_lies {h : Hdr} (e : (hencode_m h).2 = 0) : Lies h := by
  rcases henc_cases h with ⟨_, a⟩ | l
  · exact absurd e a
  · exact l
theorem fill_is (s : List UInt8) (n : Int) : fill_m s n = s ++ rep_m [0] (n - s.length) := rfl
theorem at_name {h : Hdr} (l : Lies h) : (hencode_m h).1.take h.name.length = h.name := by
  rw [l.is]
  show List.take h.name.length (((frontOf h ++ sumOf h) ++ [0, 32]) ++ backOf h) = h.name
  unfold frontOf
  rw [fill_is]
  simp only [List.append_assoc]
  exact List.take_left
theorem head_len {h : Hdr} (l : Lies h) : ((frontOf h ++ sumOf h) ++ [0, 32]).length = 156 := by
  have := front_len l
  have := sum_len h
  simp only [List.length_append, List.length_cons, List.length_nil]
  omega
theorem at_flag {h : Hdr} (l : Lies h) : by' (hencode_m h).1 156 = h.flag.toNat := by
  rw [l.is]
  show by' (((frontOf h ++ sumOf h) ++ [0, 32]) ++ backOf h) 156 = h.flag.toNat
  have a := head_len l
  have b : backOf h = h.flag :: (backOf h).tail := by unfold backOf; simp only [List.append_assoc]; rfl
  rw [b]
  unfold by'
  rw [List.getD, List.getElem?_append_right (by omega), a]
  rfl
theorem at_link {h : Hdr} (l : Lies h) : (((hencode_m h).1).take (157 + h.link.length)).drop 157 = h.link := by
  have a := head_len l
  have e : (hencode_m h).1 = (((frontOf h ++ sumOf h) ++ [0, 32]) ++ [h.flag]) ++ (h.link ++ (rep_m [0] (100 - h.link.length) ++ ([117, 115, 116, 97, 114, 0, 48, 48] ++ (fill_m ([]) 80 ++ (fill_m h.pfx 155 ++ fill_m ([]) 12))))) := by
    rw [l.is]
    show ((frontOf h ++ sumOf h) ++ [0, 32]) ++ backOf h = _
    unfold backOf
    rw [fill_is h.link]
    simp only [List.append_assoc]
  rw [e]
  exact piece _ _ _ (by rw [List.length_append, a]; rfl) (Nat.add_comm _ _)
theorem at_magic {h : Hdr} (l : Lies h) : (((hencode_m h).1).take 265).drop 257 = [117, 115, 116, 97, 114, 0, 48, 48] := by
  have a := head_len l
  have b := fill_len h.link 100 l.link.1
  have e : (hencode_m h).1 = ((((frontOf h ++ sumOf h) ++ [0, 32]) ++ [h.flag]) ++ fill_m h.link 100) ++ ([117, 115, 116, 97, 114, 0, 48, 48] ++ (fill_m ([]) 80 ++ (fill_m h.pfx 155 ++ fill_m ([]) 12))) := by
    rw [l.is]
    show ((frontOf h ++ sumOf h) ++ [0, 32]) ++ backOf h = _
    unfold backOf
    simp only [List.append_assoc]
  rw [e]
  exact piece _ _ _ (by rw [List.length_append, List.length_append, a, List.length_singleton]; omega) rfl
theorem at_pfx {h : Hdr} (l : Lies h) : (((hencode_m h).1).take (345 + h.pfx.length)).drop 345 = h.pfx := by
  have a := head_len l
  have b := fill_len h.link 100 l.link.1
  have c := fill_len [] 80 (by decide)
  have e : (hencode_m h).1 = ((((((frontOf h ++ sumOf h) ++ [0, 32]) ++ [h.flag]) ++ fill_m h.link 100) ++ [117, 115, 116, 97, 114, 0, 48, 48]) ++ fill_m ([]) 80) ++ (h.pfx ++ (rep_m [0] (155 - h.pfx.length) ++ fill_m ([]) 12)) := by
    rw [l.is]
    show ((frontOf h ++ sumOf h) ++ [0, 32]) ++ backOf h = _
    unfold backOf
    rw [fill_is h.pfx]
    simp only [List.append_assoc]
  rw [e]
  refine piece _ _ _ ?_ (Nat.add_comm _ _)
  rw [List.length_append, List.length_append, List.length_append, List.length_append, a]
  simp only [List.length_cons, List.length_nil]
  omega
theorem at_sum {h : Hdr} (l : Lies h) : (((hencode_m h).1).take 156).drop 154 = [0, 32] := by
  have a := front_len l
  have b := sum_len h
  have e : (hencode_m h).1 = (frontOf h ++ sumOf h) ++ ([0, 32] ++ backOf h) := by
    rw [l.is]
    show ((frontOf h ++ sumOf h) ++ [0, 32]) ++ backOf h = _
    simp only [List.append_assoc]
  rw [e]
  exact piece _ _ _ (by rw [List.length_append]; omega) rfl
theorem not_blank {h : Hdr} (l : Lies h) : blank_m (hencode_m h).1 = false := by
  unfold blank_m
  refine decide_eq_false (fun c => ?_)
  have := at_magic l
  rw [c, zero_magic] at this
  exact absurd this (by decide)
end Go.Proofs.YtglnifckngcpkaaDoor.Hd
