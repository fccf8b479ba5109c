/- Layer 20: SolveMore is true. -/
import Derived.Test.YtpbenhfnebgbiaaDoorSoM
import Derived.Test.YtpbenhfnebgbiaaDoorSoLM
set_option linter.unusedVariables false
namespace Go.Proofs.YtpbenhfnebgbiaaDoor.So
open Go.RowKit Go.Proofs.YtpbenhfnebgbiaaDoor.Pa Go.Proofs.YtpbenhfnebgbiaaDoor.Mem Go.Proofs.YtpbenhfnebgbiaaDoor.Ve
theorem sawake_true : sawake_m = true := by decide +kernel
theorem lmore_true (l : List Mf) (m : Mf) : lmore_m l m = true := by
  unfold lmore_m
  have h1 := less_clashes l
  have h2 := more_lacks (([] : List Mf) ++ l) (Mf.mk m.name m.version [] [] m.entries) rfl
  have h3 := more_clashes (([] : List Mf) ++ l) (Mf.mk m.name m.version [] [] m.entries) rfl
  rw [List.nil_append] at h2 h3
  rw [sawake_true, List.nil_append]
  repeat' split
  all_goals first
    | rfl
    | omega
    | exact decide_eq_true h3
    | (rename_i h; exact absurd rfl h)
end Go.Proofs.YtpbenhfnebgbiaaDoor.So
