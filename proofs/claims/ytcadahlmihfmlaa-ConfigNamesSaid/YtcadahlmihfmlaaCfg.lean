/- The contracts of the functions of layer 21 (config) and of its reference: each answers what it should, and leaves the world as it was. -/
import Derived.Test.YtcadahlmihfmlaaRows
import Derived.WalkKit
import Derived.ProofKit
import Derived.Lib.Hide
namespace Go.Proofs.Ytcadahlmihfmlaa.Cfg

def dec (o n x : ByteArray) : Int := if n.toList == o.toList then 1 else if x.toList == o.toList then 2 else if x.toList == n.toList then 2 else 3

theorem ret_int {a b : Int} (h : a = b) : Ending.returned (.int .i64 a) = .returned (.int .i64 b) := by rw [h]
theorem ret_bool {a b : Bool} (h : a = b) : Ending.returned (.bool a) = .returned (.bool b) := by rw [h]

theorem decide_any (o n x : ByteArray) (w : World) :
    Calls Try.prog 18 #[.string o, .string n, .string x] w fun e w' => e = .returned (.int .i64 (dec o n x)) ∧ w = w' := by
  cases h1 : (n.toList == o.toList) <;> cases h2 : (x.toList == o.toList) <;> cases h3 : (x.toList == n.toList)
  all_goals
    have hd := Lib.hid (show dec o n x = _ by unfold dec; simp only [h1, h2, h3]; rfl)
    go_enter Try.func18, Try.ntmps18
    go_wp2
    go_ret
    exact ⟨ret_int hd.out.symm, rfl⟩

theorem decide_ref (o n x : ByteArray) (w : World) :
    Calls Try.prog 19 #[.string o, .string n, .string x] w fun e w' => e = .returned (.int .i64 (dec o n x)) ∧ w = w' := by
  cases h1 : (n.toList == o.toList) <;> cases h2 : (x.toList == o.toList) <;> cases h3 : (x.toList == n.toList)
  all_goals
    have hd := Lib.hid (show dec o n x = _ by unfold dec; simp only [h1, h2, h3]; rfl)
    go_enter Try.func19, Try.ntmps19
    go_wp2
    go_ret
    exact ⟨ret_int hd.out.symm, rfl⟩

theorem leave_any (o n : ByteArray) (w : World) :
    Calls Try.prog 20 #[.string o, .string n] w fun e w' => e = .returned (.bool (!(n.toList == o.toList))) ∧ w = w' := by
  go_enter Try.func20, Try.ntmps20
  go_wp2
  go_ret
  exact ⟨rfl, rfl⟩

theorem leave_ref (o n : ByteArray) (w : World) :
    Calls Try.prog 21 #[.string o, .string n] w fun e w' => e = .returned (.bool (!(o.toList == n.toList))) ∧ w = w' := by
  go_enter Try.func21, Try.ntmps21
  go_wp2
  go_ret
  exact ⟨rfl, rfl⟩

theorem new_any (a : ByteArray) (w : World) (_hs : a.size ≤ 5000) :
    Calls Try.prog 22 #[.string a] w fun e w' => e = .returned (.string (a ++ ⟨#[46, 110, 101, 119]⟩)) ∧ w = w' := by
  go_enter Try.func22, Try.ntmps22
  go_wp2
  go_ret
  exact ⟨rfl, rfl⟩

theorem save_any (a : ByteArray) (w : World) (_hs : a.size ≤ 5000) :
    Calls Try.prog 23 #[.string a] w fun e w' => e = .returned (.string (a ++ ⟨#[46, 115, 97, 118, 101]⟩)) ∧ w = w' := by
  go_enter Try.func23, Try.ntmps23
  go_wp2
  go_ret
  exact ⟨rfl, rfl⟩

theorem new_ref (a : ByteArray) (w : World) (_hs : a.size ≤ 5000) :
    Calls Try.prog 24 #[.string a] w fun e w' => e = .returned (.string (a ++ ⟨#[46, 110, 101, 119]⟩)) ∧ w = w' := by
  go_enter Try.func24, Try.ntmps24
  go_wp2
  go_ret
  exact ⟨rfl, rfl⟩

theorem save_ref (a : ByteArray) (w : World) (_hs : a.size ≤ 5000) :
    Calls Try.prog 25 #[.string a] w fun e w' => e = .returned (.string (a ++ ⟨#[46, 115, 97, 118, 101]⟩)) ∧ w = w' := by
  go_enter Try.func25, Try.ntmps25
  go_wp2
  go_ret
  exact ⟨rfl, rfl⟩

theorem awake (w : World) :
    Calls Try.prog 17 #[] w fun e w' => e = .returned (.bool true) ∧ w = w' := by
  have k1 : (({ data := #[120] } ++ { data := #[46, 115, 97, 118, 101] } : ByteArray).toList == [120, 46, 115, 97, 118, 101]) = true := by decide +kernel
  have k2 : (({ data := #[120] } ++ { data := #[46, 110, 101, 119] } : ByteArray).toList == [120, 46, 110, 101, 119]) = true := by decide +kernel
  go_enter Try.func17, Try.ntmps17
  go_wp2
  go_ret
  exact ⟨rfl, rfl⟩
end Go.Proofs.Ytcadahlmihfmlaa.Cfg
