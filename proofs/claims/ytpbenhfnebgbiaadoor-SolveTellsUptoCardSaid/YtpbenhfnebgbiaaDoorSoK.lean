/- Layer 20: how many rules packages have. -/
import Derived.Test.YtpbenhfnebgbiaaDoorPaT
set_option linter.unusedVariables false
namespace Go.Proofs.YtpbenhfnebgbiaaDoor.So
open Go.Proofs.YtpbenhfnebgbiaaDoor.Pa
/-- None has more rules than a slice of a machine's memory. -/
def okl (l : List Mf) : Prop := ∀ x ∈ l, x.needs.length ≤ 6710887 ∧ x.clashes.length ≤ 6710887
theorem okl_at {l : List Mf} (h : okl l) (i : Nat) : (l.getD i dMf).needs.length ≤ 6710887 ∧ (l.getD i dMf).clashes.length ≤ 6710887 := by
  by_cases hi : i < l.length
  · rw [List.getD_eq_getElem?_getD, List.getElem?_eq_getElem hi]
    exact h _ (List.getElem_mem hi)
  · rw [List.getD_eq_getElem?_getD, List.getElem?_eq_none (by omega)]
    exact ⟨by decide, by decide⟩
theorem okl_nil : okl [] := fun x h => by cases h
theorem okl_app {l m : List Mf} (h : okl l) (k : okl m) : okl (l ++ m) := fun x hx => (List.mem_append.1 hx).elim (h x) (k x)
theorem okl_cons {x : Mf} {l : List Mf} (h : x.needs.length ≤ 6710887) (k : x.clashes.length ≤ 6710887) (m : okl l) : okl (x :: l) := fun y hy => (List.mem_cons.1 hy).elim (fun e => by rw [e]; exact ⟨h, k⟩) (m y)
theorem okl_one {x : Mf} (h : x.needs.length ≤ 6710887) (k : x.clashes.length ≤ 6710887) : okl [x] := fun y hy => by
  rw [List.mem_singleton.1 hy]
  exact ⟨h, k⟩
theorem okl_drop {l : List Mf} (h : okl l) (n : Nat) : okl (l.drop n) := fun x hx => h x (List.mem_of_mem_drop hx)
theorem okl_take {l : List Mf} (h : okl l) (n : Nat) : okl (l.take n) := fun x hx => h x (List.mem_of_mem_take hx)
end Go.Proofs.YtpbenhfnebgbiaaDoor.So
