/- Layer 9: a header that was written is read again: the mathematics. -/
import Derived.Test.YtglnifckngcpkaaDoorHdEM
import Derived.Test.YtglnifckngcpkaaDoorHdEN
import Derived.Test.YtglnifckngcpkaaDoorHdCU
set_option linter.unusedVariables false
namespace Go.Proofs.YtglnifckngcpkaaDoor.Hd
open Go.Proofs.YtglnifckngcpkaaDoor.Mem
theorem cut_fill (s : List UInt8) (n : Int) (h : ib_m s 0 < 0) : hcut_m (fill_m s n) = s := by
  rw [cut_is, fill_is, List.takeWhile_append_of_pos]
  · have : ∀ k, (List.replicate k (0 : UInt8)).takeWhile nz = [] := by
      intro k
      cases k with
      | zero => rfl
      | succ k => rw [List.replicate_succ, List.takeWhile_cons_of_neg (by decide)]
    unfold rep_m
    rw [this, List.append_nil]
  · intro b hb
    obtain ⟨m, hm, rfl⟩ := List.getElem_of_mem hb
    have q := (ib_lt s).1 h m hm
    unfold nz
    simpa using fun e => q ((by_z s m hm).2 e)
/-- Where the fields stand. -/
theorem at_all {h : Hdr} (l : Lies h) : (((hencode_m h).1).take 100).drop 0 = fill_m h.name 100 ∧ (((hencode_m h).1).take 108).drop 100 = (put_m h.mode 8).1 ∧ (((hencode_m h).1).take 116).drop 108 = (put_m h.uid 8).1 ∧ (((hencode_m h).1).take 124).drop 116 = (put_m h.gid 8).1 ∧ (((hencode_m h).1).take 136).drop 124 = (put_m h.size 12).1 ∧ (((hencode_m h).1).take 148).drop 136 = (put_m h.time 12).1 ∧ (((hencode_m h).1).take 156).drop 148 = sumOf h ++ [0, 32] := by
  have a := fill_len h.name 100 l.name.1
  have b := l.lens
  have c := sum_len h
  have f := front_len l
  have e : (hencode_m h).1 = fill_m h.name 100 ++ ((put_m h.mode 8).1 ++ ((put_m h.uid 8).1 ++ ((put_m h.gid 8).1 ++ ((put_m h.size 12).1 ++ ((put_m h.time 12).1 ++ ((sumOf h ++ [0, 32]) ++ backOf h)))))) := by
    rw [l.is]
    show ((frontOf h ++ sumOf h) ++ [0, 32]) ++ backOf h = _
    unfold frontOf
    simp only [List.append_assoc]
  refine ⟨?_, ?_, ?_, ?_, ?_, ?_, ?_⟩
  · rw [e]; exact piece [] _ _ rfl (by omega)
  · rw [e]; exact piece _ _ _ (by omega) (by omega)
  · rw [e, ← List.append_assoc]; exact piece _ _ _ (by simp only [List.length_append]; omega) (by omega)
  · rw [e, ← List.append_assoc, ← List.append_assoc]; exact piece _ _ _ (by simp only [List.length_append]; omega) (by omega)
  · rw [e, ← List.append_assoc, ← List.append_assoc, ← List.append_assoc]; exact piece _ _ _ (by simp only [List.length_append]; omega) (by omega)
  · rw [e, ← List.append_assoc, ← List.append_assoc, ← List.append_assoc, ← List.append_assoc]; exact piece _ _ _ (by simp only [List.length_append]; omega) (by omega)
  · rw [e, ← List.append_assoc, ← List.append_assoc, ← List.append_assoc, ← List.append_assoc, ← List.append_assoc]; exact piece _ _ _ (by simp only [List.length_append]; omega) (by simp only [List.length_append, List.length_cons, List.length_nil]; omega)
end Go.Proofs.YtglnifckngcpkaaDoor.Hd
