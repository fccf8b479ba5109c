/- Layer 9: HeaderBlank and HeaderPlaces are true. -/
import Derived.Test.YtglnifckngcpkaaDoorHdG
import Derived.Test.YtglnifckngcpkaaDoorHdH
import Derived.Test.YtglnifckngcpkaaDoorHdR
set_option linter.unusedVariables false
namespace Go.Proofs.YtglnifckngcpkaaDoor.Hd
open Go.Proofs.YtglnifckngcpkaaDoor.Mem
theorem lblank_true (h : Hdr) : lblank_m h = true := by
  unfold lblank_m
  rw [if_pos hawake_true, if_pos blank_zero, if_pos dec_zero]
  by_cases e : (hencode_m h).2 = 0
  · rw [if_neg (fun c => c e), not_blank (henc_lies e)]
    rfl
  · rw [if_pos e]
theorem lplaces_true (h : Hdr) : lplaces_m h = true := by
  unfold lplaces_m
  by_cases e : (hencode_m h).2 = 0
  · have l := henc_lies e
    rw [if_neg (fun c => c e), if_neg (fun c => c (lies_len l)), if_pos hawake_true, if_pos (at_name l), if_pos (at_flag l), if_pos (at_link l), if_pos (at_pfx l), if_pos (at_magic l)]
    exact decide_eq_true (at_sum l)
  · rw [if_pos e, if_pos hawake_true]
    exact decide_eq_true (henc_empty e)
end Go.Proofs.YtglnifckngcpkaaDoor.Hd
