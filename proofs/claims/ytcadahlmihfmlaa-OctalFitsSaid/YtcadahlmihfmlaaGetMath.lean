/- Plain facts on a number's field and what it tells: no program. -/
import Derived.Lib.Strings
namespace Go.Proofs.Ytcadahlmihfmlaa.Oct

/-- The number of digits by a base, on from n; none: it has no room. -/
def acc (base z0 : Nat) : Nat → List UInt8 → Option Nat
  | n, [] => some n
  | n, x :: t => if (9223372036854775807 - (x.toNat - z0)) / base < n then none else acc base z0 (n * base + (x.toNat - z0)) t
def nN (o : Option Nat) : Int := (o.getD 0 : Nat)
def nE (o : Option Nat) : Int := match o with | none => 3 | some _ => 0
theorem drop_byte (s : ByteArray) (k : Nat) (h : k < s.size) : s.data.toList.drop k = s[k] :: s.data.toList.drop (k + 1) := by
  have h' : k < s.data.toList.length := by simpa using h
  rw [List.drop_eq_getElem_cons h']; rfl
theorem acc_step (base z0 n : Nat) (s : ByteArray) (k : Nat) (h : k < s.size) (hn : n ≤ (9223372036854775807 - (s[k].toNat - z0)) / base) :
    acc base z0 n (s.data.toList.drop k) = acc base z0 (n * base + (s[k].toNat - z0)) (s.data.toList.drop (k + 1)) := by
  rw [drop_byte s k h]; rw [acc, if_neg (by omega)]
theorem acc_over (base z0 n : Nat) (s : ByteArray) (k : Nat) (h : k < s.size) (hn : (9223372036854775807 - (s[k].toNat - z0)) / base < n) :
    acc base z0 n (s.data.toList.drop k) = none := by
  rw [drop_byte s k h]; rw [acc, if_pos hn]
theorem acc_end (base z0 n : Nat) (s : ByteArray) : acc base z0 n (s.data.toList.drop s.size) = some n := by
  rw [List.drop_of_length_le (by simp)]; rfl
theorem acc_step_i (base z0 n : Nat) (s : ByteArray) (k : Nat) (h : k < s.size) (hz : z0 ≤ s[k].toNat) (hn : (n : Int) ≤ (9223372036854775807 - ((s[k].toNat : Int) - z0)) / base) :
    acc base z0 n (s.data.toList.drop k) = acc base z0 (n * base + (s[k].toNat - z0)) (s.data.toList.drop (k + 1)) := by
  have := s[k].toNat_lt
  refine acc_step base z0 n s k h ?_
  have e : (9223372036854775807 - ((s[k].toNat : Int) - z0)) / base = (((9223372036854775807 - (s[k].toNat - z0)) / base : Nat) : Int) := by
    rw [Int.natCast_ediv, Int.ofNat_sub (by omega), Int.ofNat_sub (by omega)]; rfl
  rw [e] at hn; omega
theorem acc_over_i (base z0 n : Nat) (s : ByteArray) (k : Nat) (h : k < s.size) (hz : z0 ≤ s[k].toNat) (hn : (9223372036854775807 - ((s[k].toNat : Int) - z0)) / base < (n : Int)) :
    acc base z0 n (s.data.toList.drop k) = none := by
  have := s[k].toNat_lt
  refine acc_over base z0 n s k h ?_
  have e : (9223372036854775807 - ((s[k].toNat : Int) - z0)) / base = (((9223372036854775807 - (s[k].toNat - z0)) / base : Nat) : Int) := by
    rw [Int.natCast_ediv, Int.ofNat_sub (by omega), Int.ofNat_sub (by omega)]; rfl
  rw [e] at hn; omega
/-- Nothing but blanks and noughts. -/
def blank (l : List UInt8) : Bool := l.all fun x => x == 32 || x == 0
theorem byte_eq (x : UInt8) (n : Nat) (hn : n < 256) : (x == UInt8.ofNat n) = decide (x.toNat = n) := by
  rw [Bool.eq_iff_iff, beq_iff_eq, decide_eq_true_iff, ← UInt8.toNat_inj, UInt8.toNat_ofNat', Nat.mod_eq_of_lt (by omega)]
theorem blank_step (s : ByteArray) (k : Nat) (h : k < s.size) (hb : s[k].toNat = 32 ∨ s[k].toNat = 0) : blank (s.data.toList.drop k) = blank (s.data.toList.drop (k + 1)) := by
  rw [drop_byte s k h]
  have e : (s[k] == 32 || s[k] == 0) = true := by
    rw [show (32 : UInt8) = UInt8.ofNat 32 from rfl, show (0 : UInt8) = UInt8.ofNat 0 from rfl, byte_eq _ 32 (by omega), byte_eq _ 0 (by omega)]
    simpa using hb
  unfold blank
  rw [List.all_cons, e, Bool.true_and]
theorem blank_stop (s : ByteArray) (k : Nat) (h : k < s.size) (h1 : ¬ s[k].toNat = 32) (h2 : ¬ s[k].toNat = 0) : blank (s.data.toList.drop k) = false := by
  rw [drop_byte s k h]
  have e : (s[k] == 32 || s[k] == 0) = false := by
    rw [show (32 : UInt8) = UInt8.ofNat 32 from rfl, show (0 : UInt8) = UInt8.ofNat 0 from rfl, byte_eq _ 32 (by omega), byte_eq _ 0 (by omega)]
    simp [h1, h2]
  unfold blank
  rw [List.all_cons, e, Bool.false_and]

def isDig (x : UInt8) : Bool := decide (48 ≤ x.toNat) && decide (x.toNat ≤ 55)
def skip (l : List UInt8) : List UInt8 := l.dropWhile fun x => x == 32
def digs (l : List UInt8) : List UInt8 := l.takeWhile isDig
def rest (l : List UInt8) : List UInt8 := l.dropWhile isDig
/-- What a field that is no row of bytes tells: the number, the error. -/
def getO (l : List UInt8) : Int × Int :=
  if acc 8 48 0 (digs (skip l)) = none then (0, 3) else if digs (skip l) = [] ∨ blank (rest (skip l)) = false then (0, 2) else (nN (acc 8 48 0 (digs (skip l))), 0)
def getR (l : List UInt8) : Int × Int :=
  if l.head? = some 128 then (nN (acc 256 0 0 l.tail), nE (acc 256 0 0 l.tail)) else getO l
theorem skip_step (s : ByteArray) (k : Nat) (h : k < s.size) (hb : s[k].toNat = 32) : skip (s.data.toList.drop k) = skip (s.data.toList.drop (k + 1)) := by
  rw [drop_byte s k h]
  have e : (s[k] == 32) = true := by rw [show (32 : UInt8) = UInt8.ofNat 32 from rfl, byte_eq _ 32 (by omega)]; simpa using hb
  unfold skip
  rw [List.dropWhile_cons, if_pos e]
theorem skip_stop (s : ByteArray) (k : Nat) (hb : ∀ h : k < s.size, ¬ s[k].toNat = 32) : skip (s.data.toList.drop k) = s.data.toList.drop k := by
  by_cases h : k < s.size
  · rw [drop_byte s k h]
    have e : ¬ (s[k] == 32) = true := by rw [show (32 : UInt8) = UInt8.ofNat 32 from rfl, byte_eq _ 32 (by omega)]; simpa using hb h
    unfold skip
    rw [List.dropWhile_cons, if_neg e]
  · rw [List.drop_of_length_le (by simp; omega)]; rfl
theorem digs_step (s : ByteArray) (k : Nat) (h : k < s.size) (h1 : 48 ≤ s[k].toNat) (h2 : s[k].toNat ≤ 55) :
    digs (s.data.toList.drop k) = s[k] :: digs (s.data.toList.drop (k + 1)) ∧ rest (s.data.toList.drop k) = rest (s.data.toList.drop (k + 1)) := by
  rw [drop_byte s k h]
  have e : isDig s[k] = true := by simp [isDig, h1, h2]
  unfold digs rest
  rw [List.takeWhile_cons, if_pos e, List.dropWhile_cons, if_pos e]
  exact ⟨rfl, rfl⟩
theorem digs_stop (s : ByteArray) (k : Nat) (hb : ∀ h : k < s.size, ¬ (48 ≤ s[k].toNat ∧ s[k].toNat ≤ 55)) :
    digs (s.data.toList.drop k) = [] ∧ rest (s.data.toList.drop k) = s.data.toList.drop k := by
  by_cases h : k < s.size
  · rw [drop_byte s k h]
    have e : ¬ isDig s[k] = true := by simpa [isDig] using hb h
    unfold digs rest
    rw [List.takeWhile_cons, if_neg e, List.dropWhile_cons, if_neg e]
    exact ⟨rfl, rfl⟩
  · rw [List.drop_of_length_le (by simp; omega)]; exact ⟨rfl, rfl⟩
/-- The bytes from k to e, and on from e. -/
theorem piece_step (s : ByteArray) (k e : Nat) (hk : k ≤ e) (h : e < s.size) : (s.data.toList.drop k).take (e + 1 - k) = (s.data.toList.drop k).take (e - k) ++ [s[e]] := by
  have h' : e < s.data.toList.length := by simpa using h
  rw [show e + 1 - k = (e - k) + 1 by omega, List.take_succ_eq_append_getElem (by simp at *; omega)]
  congr 1
  rw [List.getElem_drop]
  have : k + (e - k) = e := by omega
  simp only [this]
  rfl
/-- What the two loops of Get have found: the digits lie from k to e. -/
theorem get_found {s : ByteArray} {k e : Nat} (hk : k ≤ e) (he : e ≤ s.size) (hsk : skip s.data.toList = s.data.toList.drop k) (hd : digs (s.data.toList.drop k) = (s.data.toList.drop k).take (e - k) ++ digs (s.data.toList.drop e))
    (hr : rest (s.data.toList.drop k) = rest (s.data.toList.drop e)) (hstop : ∀ h : e < s.size, ¬ (48 ≤ s[e].toNat ∧ s[e].toNat ≤ 55)) :
    digs (skip s.data.toList) = (s.extract k e).data.toList ∧ rest (skip s.data.toList) = (s.extract e s.size).data.toList ∧ (digs (skip s.data.toList) = [] ↔ e = k) := by
  obtain ⟨h1, h2⟩ := digs_stop s e hstop
  have e1 : digs (skip s.data.toList) = (s.extract k e).data.toList := by rw [hsk, hd, h1, List.append_nil, Lib.extract_data]
  refine ⟨e1, ?_, ?_⟩
  · rw [hsk, hr, h2, Lib.extract_data]
    rw [List.take_of_length_le (by simp)]
  · rw [e1, Lib.extract_data]
    constructor
    · intro h
      have := congrArg List.length h
      simp at this
      omega
    · intro h; subst h; simp
/-- From k to e stand digits, and all that is looked for behind k lies behind e. -/
structure Found (s : ByteArray) (k e : Nat) : Prop where
  le : k ≤ e
  lt : e ≤ s.size
  dg : digs (s.data.toList.drop k) = (s.data.toList.drop k).take (e - k) ++ digs (s.data.toList.drop e)
  rs : rest (s.data.toList.drop k) = rest (s.data.toList.drop e)
  all : ∀ i, k ≤ i → i < e → ∀ h : i < s.size, 48 ≤ s[i].toNat ∧ s[i].toNat ≤ 55
theorem Found.start (s : ByteArray) (k : Nat) (h : k ≤ s.size) : Found s k k := ⟨Nat.le_refl _, h, by simp, rfl, fun i h1 h2 => by omega⟩
theorem Found.next {s : ByteArray} {k e : Nat} (F : Found s k e) (h : e < s.size) (h1 : 48 ≤ s[e].toNat) (h2 : s[e].toNat ≤ 55) : Found s k (e + 1) := by
  obtain ⟨a, b⟩ := digs_step s e h h1 h2
  have := F.le
  refine ⟨by omega, h, ?_, F.rs.trans b, ?_⟩
  · rw [F.dg, a, piece_step s k e F.le h, List.append_assoc]; rfl
  · intro i hi1 hi2 hi3
    by_cases hie : i = e
    · subst hie; exact ⟨h1, h2⟩
    · exact F.all i hi1 (by omega) hi3
theorem Found.digits {s : ByteArray} {k e : Nat} (F : Found s k e) : ∀ i, (h : i < (s.extract k e).size) → 48 ≤ (s.extract k e)[i].toNat ∧ (s.extract k e)[i].toNat ≤ 55 := by
  intro i h
  have hlt := F.lt
  rw [ByteArray.size_extract] at h
  rw [ByteArray.getElem_extract]
  exact F.all (k + i) (by omega) (by omega) (by omega)
theorem get_cases {s : ByteArray} {k e : Nat} {N E : Int} (F : Found s k e) (hsk : skip s.data.toList = s.data.toList.drop k) (hstop : ∀ h : e < s.size, ¬ (48 ≤ s[e].toNat ∧ s[e].toNat ≤ 55)) (h : getO s.data.toList = (N, E)) :
    (acc 8 48 0 (s.extract k e).data.toList = none ∧ N = 0 ∧ E = 3) ∨
    (∃ m, acc 8 48 0 (s.extract k e).data.toList = some m ∧ e = k ∧ N = 0 ∧ E = 2) ∨
    (∃ m, acc 8 48 0 (s.extract k e).data.toList = some m ∧ e ≠ k ∧ blank (s.extract e s.size).data.toList = false ∧ N = 0 ∧ E = 2) ∨
    (∃ m, acc 8 48 0 (s.extract k e).data.toList = some m ∧ e ≠ k ∧ blank (s.extract e s.size).data.toList = true ∧ N = (m : Nat) ∧ E = 0) := by
  obtain ⟨f1, f2, f3⟩ := get_found F.le F.lt hsk F.dg F.rs hstop
  unfold getO at h
  rw [f1] at f3
  rw [f1, f2] at h
  cases ha : acc 8 48 0 (s.extract k e).data.toList with
  | none => rw [ha, if_pos rfl] at h; cases h; exact .inl ⟨rfl, rfl, rfl⟩
  | some m =>
    rw [ha, if_neg (by simp)] at h
    refine .inr ?_
    by_cases hek : e = k
    · rw [if_pos (.inl (f3.2 hek))] at h; cases h; exact .inl ⟨m, rfl, hek, rfl, rfl⟩
    · cases hb : blank (s.extract e s.size).data.toList with
      | false => rw [if_pos (.inr hb)] at h; cases h; exact .inr (.inl ⟨m, rfl, hek, rfl, rfl, rfl⟩)
      | true => rw [if_neg (fun o => o.elim (fun x => hek (f3.1 x)) (fun x => by rw [hb] at x; cases x))] at h; cases h; exact .inr (.inr ⟨m, rfl, hek, rfl, rfl, rfl⟩)
theorem stop_cases {s : ByteArray} {e : Nat} (h : ∀ h : e < s.size, ¬ (48 ≤ s[e].toNat ∧ s[e].toNat ≤ 55)) :
    ¬ e < s.size ∨ (∃ h : e < s.size, ¬ (48 : Int) ≤ (s[e].toNat : Int)) ∨ (∃ h : e < s.size, (48 : Int) ≤ (s[e].toNat : Int) ∧ ¬ (s[e].toNat : Int) ≤ 55) := by
  by_cases h1 : e < s.size
  · have := h h1
    by_cases h2 : 48 ≤ s[e].toNat
    · exact .inr (.inr ⟨h1, by omega, by omega⟩)
    · exact .inr (.inl ⟨h1, by omega⟩)
  · exact .inl h1
end Go.Proofs.Ytcadahlmihfmlaa.Oct
