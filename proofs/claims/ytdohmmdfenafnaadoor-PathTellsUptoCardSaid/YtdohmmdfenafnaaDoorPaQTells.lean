/- Layer 7: PathTells is true: the mathematics. -/
import Derived.Test.YtdohmmdfenafnaaDoorPaM
import Derived.Test.YtdohmmdfenafnaaDoorPaLTells
namespace Go.Proofs.YtdohmmdfenafnaaDoor.Pa
open Go.Proofs.YtdohmmdfenafnaaDoor.Mem
theorem tells_true (s : List UInt8) : tells_m s = true := by
  unfold tells_m
  rw [if_pos awake_true, rpart_is, if_pos (beq_self_eq_true _), rtarget_is, if_pos (beq_self_eq_true _), rparts_is, if_pos (same_self _), if_pos rfl, rparent_is, if_pos rfl, rreserved_is, if_pos (beq_self_eq_true _)]
  exact decide_eq_true rfl
end Go.Proofs.YtdohmmdfenafnaaDoor.Pa
