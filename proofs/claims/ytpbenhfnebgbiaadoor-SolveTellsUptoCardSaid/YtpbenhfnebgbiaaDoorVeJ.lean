/- Layer 12: a byte, or a rune, in the marks of a version. -/
import Derived.Test.YtpbenhfnebgbiaaDoorPaL
import Derived.Test.YtpbenhfnebgbiaaDoorVeK
import Derived.Scope
set_option linter.unusedVariables false
namespace Go.Proofs.YtpbenhfnebgbiaaDoor.Ve
theorem scope_n {Q : Exit → Act → World → Prop} {a : Act} {w : World} (h : Q .normal a w) : Exit.noGoto Q .normal a w := h
theorem scope_r {Q : Exit → Act → World → Prop} {a : Act} {w : World} (h : Q .ret a w) : Exit.noGoto Q .ret a w := h
open Go.RowKit
open Go.Proofs.YtpbenhfnebgbiaaDoor.Mem Go.Proofs.YtpbenhfnebgbiaaDoor.Pa
def marks : List UInt8 := [46, 45, 43, 126, 95]
theorem marks_len : marks.length = 5 := rfl
theorem marks_lo (i : Nat) : by' marks i < 128 := by
  unfold by'
  rw [List.getD_eq_getElem?_getD]
  by_cases h : i < 5
  · have key : ∀ m : Fin 5, ((marks[m.val]?).getD 0).toNat < 128 := by decide
    exact key ⟨i, h⟩
  · rw [List.getElem?_eq_none (by rw [marks_len]; omega)]
    decide
theorem marks_dec (i : Nat) (h : i < marks.length) : (dec marks i).1 < 128 := by
  have key : ∀ m : Fin 5, (dec marks m.val).1 < 128 := by decide +kernel
  exact key ⟨i, h⟩
theorem hi_at (r : Int) (h0 : 128 ≤ r) (k : Nat) (hk : k < (rune1 r).length) : 128 ≤ by' (rune1 r) k := by
  rw [← by_at _ k hk]
  exact (rune1_hi r h0).2.2 _ (List.getElem_mem hk)
def ib_m (s : List UInt8) (c : Nat) : Int := Lib.indexByte s c.toUInt8
theorem ib_any (s : List UInt8) (c : Nat) (w : World) : Calls Tryd.prog 74 #[.string (tx s), .int .u8 ((c : Nat) : Int)] w (fun e w' => e = .returned (.int .i64 (ib_m s c)) ∧ Below w.heap.size w w') := by
  refine (Tryd.strings_IndexByte (tx s) ((c : Nat) : Int) w).mono ?_
  rintro e w' ⟨rfl, rfl⟩
  rw [tx_dl, Int.toNat_natCast]
  exact ⟨rfl, Below.refl _ _⟩
theorem ib_not (c : UInt8) : ∀ s : List UInt8, c ∉ s → Lib.indexByte s c = -1
  | [], _ => rfl
  | b :: s, h => by
    have hb : b ≠ c := fun e => h (by rw [e]; simp)
    rw [ibn c b s hb, ib_not c s (fun e => h (by simp [e])), if_pos rfl]
theorem ib_marks (k n : Nat) (h : 128 ≤ n) (h2 : n < 256) : ib_m (marks.drop k) n < 0 := by
  have e : ib_m (marks.drop k) n = -1 := by
    refine ib_not _ _ (fun hm => ?_)
    have h3 := (List.drop_sublist k marks).subset hm
    have key : ∀ c ∈ marks, c.toNat < 128 := by decide
    have := key _ h3
    rw [show n.toUInt8 = UInt8.ofNat n from rfl, UInt8.toNat_ofNat', Nat.mod_eq_of_lt (by omega)] at this
    omega
  rw [e]
  decide
def vrune_m (r : Int) : Bool := Lib.validRune r
theorem vrune_any (r : Int) (w : World) : Calls Tryd.prog 75 #[.int .i32 r] w (fun e w' => e = .returned (.bool (vrune_m r)) ∧ Below w.heap.size w w') := by
  refine (Tryd.utf8_ValidRune r w).mono ?_
  rintro e w' ⟨rfl, rfl⟩
  exact ⟨rfl, Below.refl _ _⟩
end Go.Proofs.YtpbenhfnebgbiaaDoor.Ve
