/- Layer 9: how a header that is written lies: the mathematics. -/
import Derived.Test.YtglnifckngcpkaaDoorHdD
set_option linter.unusedVariables false
namespace Go.Proofs.YtglnifckngcpkaaDoor.Hd
open Go.Proofs.YtglnifckngcpkaaDoor.Mem
theorem enc_step (h : Hdr) (rec : (List UInt8) × Nat → Sum ((List UInt8) × Nat) ((List UInt8) × Int)) (a : List UInt8) (i : Nat) (n w : Int)
    (e : hencode_m_b0 h rec a i = if ¬ (put_m n w).2 = 0 then .inr ([], (put_m n w).2) else rec (a ++ (put_m n w).1, i + 1)) :
    ((put_m n w).2 = 0 ∧ (((put_m n w).1.length : Nat) : Int) = w ∧ 0 ≤ n ∧ hencode_m_b0 h rec a i = rec (a ++ (put_m n w).1, i + 1)) ∨ (∃ x, ¬ x = 0 ∧ hencode_m_b0 h rec a i = .inr ([], x)) := by
  rcases put_all n w with ⟨p, q, _, r⟩ | ⟨p, q⟩
  · exact .inl ⟨p, q, r, by rw [e, if_neg (fun c => c p)]⟩
  · exact .inr ⟨_, p, by rw [e, if_pos p]⟩
theorem enc_l (h : Hdr) (a : List UInt8) :
    (∃ x, ¬ x = 0 ∧ hencode_m_l0 h 6 (a, 0) = .inr ([], x)) ∨
    (((put_m h.mode 8).2 = 0 ∧ (put_m h.uid 8).2 = 0 ∧ (put_m h.gid 8).2 = 0 ∧ (put_m h.size 12).2 = 0 ∧ (put_m h.time 12).2 = 0) ∧
     (((put_m h.mode 8).1.length : Int) = 8 ∧ ((put_m h.uid 8).1.length : Int) = 8 ∧ ((put_m h.gid 8).1.length : Int) = 8 ∧ ((put_m h.size 12).1.length : Int) = 12 ∧ ((put_m h.time 12).1.length : Int) = 12) ∧
     hencode_m_l0 h 6 (a, 0) = .inl (((((a ++ (put_m h.mode 8).1) ++ (put_m h.uid 8).1) ++ (put_m h.gid 8).1) ++ (put_m h.size 12).1) ++ (put_m h.time 12).1, 5)) := by
  have E : ∀ n a i, hencode_m_l0 h (n + 1) (a, i) = hencode_m_b0 h (hencode_m_l0 h n) a i := fun _ _ _ => rfl
  rw [E]
  rcases enc_step h (hencode_m_l0 h 5) a 0 h.mode 8 (by unfold hencode_m_b0; rw [if_pos (by decide), if_pos rfl]) with ⟨p1, q1, r1, e1⟩ | ⟨x, p, e1⟩
  rotate_left
  · exact .inl ⟨x, p, e1⟩
  rw [e1, E]
  rcases enc_step h (hencode_m_l0 h 4) (a ++ (put_m h.mode 8).1) (0 + 1) h.uid 8 (by unfold hencode_m_b0; rw [if_pos (by decide), if_neg (by decide), if_pos rfl]) with ⟨p2, q2, r2, e2⟩ | ⟨x, p, e2⟩
  rotate_left
  · exact .inl ⟨x, p, e2⟩
  rw [e2, E]
  rcases enc_step h (hencode_m_l0 h 3) ((a ++ (put_m h.mode 8).1) ++ (put_m h.uid 8).1) (0 + 1 + 1) h.gid 8 (by unfold hencode_m_b0; rw [if_pos (by decide), if_neg (by decide), if_neg (by decide), if_pos rfl]) with ⟨p3, q3, r3, e3⟩ | ⟨x, p, e3⟩
  rotate_left
  · exact .inl ⟨x, p, e3⟩
  rw [e3, E]
  rcases enc_step h (hencode_m_l0 h 2) (((a ++ (put_m h.mode 8).1) ++ (put_m h.uid 8).1) ++ (put_m h.gid 8).1) (0 + 1 + 1 + 1) h.size 12 (by unfold hencode_m_b0; rw [if_pos (by decide), if_neg (by decide), if_neg (by decide), if_neg (by decide), if_pos rfl]) with ⟨p4, q4, r4, e4⟩ | ⟨x, p, e4⟩
  rotate_left
  · exact .inl ⟨x, p, e4⟩
  rw [e4, E]
  rcases enc_step h (hencode_m_l0 h 1) ((((a ++ (put_m h.mode 8).1) ++ (put_m h.uid 8).1) ++ (put_m h.gid 8).1) ++ (put_m h.size 12).1) (0 + 1 + 1 + 1 + 1) h.time 12 (by unfold hencode_m_b0; rw [if_pos (by decide), if_neg (by decide), if_neg (by decide), if_neg (by decide), if_neg (by decide)]) with ⟨p5, q5, r5, e5⟩ | ⟨x, p, e5⟩
  rotate_left
  · exact .inl ⟨x, p, e5⟩
  rw [e5, E]
  refine .inr ⟨⟨p1, p2, p3, p4, p5⟩, ⟨q1, q2, q3, q4, q5⟩, ?_⟩
  unfold hencode_m_b0
  rw [if_neg (by decide)]
/-- What stands in front of the sum. -/
def frontOf (h : Hdr) : List UInt8 := ((((fill_m h.name 100 ++ (put_m h.mode 8).1) ++ (put_m h.uid 8).1) ++ (put_m h.gid 8).1) ++ (put_m h.size 12).1) ++ (put_m h.time 12).1
/-- What stands behind it. -/
def backOf (h : Hdr) : List UInt8 := (((((([h.flag] : List UInt8) ++ (fill_m h.link 100)) ++ [117, 115, 116, 97, 114, 0, 48, 48]) ++ (fill_m ([]) 80)) ++ (fill_m h.pfx 155)) ++ (fill_m ([]) 12))
def sumOf (h : Hdr) : List UInt8 := (octal_m (hsum_m ((frontOf h ++ (fill_m ([]) 8)) ++ backOf h)) 6).1
structure Lies (h : Hdr) : Prop where
  name : ((h.name.length : Nat) : Int) ≤ 100 ∧ ib_m h.name 0 < 0
  link : ((h.link.length : Nat) : Int) ≤ 100 ∧ ib_m h.link 0 < 0
  pfx : ((h.pfx.length : Nat) : Int) ≤ 155 ∧ ib_m h.pfx 0 < 0
  ok : (put_m h.mode 8).2 = 0 ∧ (put_m h.uid 8).2 = 0 ∧ (put_m h.gid 8).2 = 0 ∧ (put_m h.size 12).2 = 0 ∧ (put_m h.time 12).2 = 0
  lens : ((put_m h.mode 8).1.length : Int) = 8 ∧ ((put_m h.uid 8).1.length : Int) = 8 ∧ ((put_m h.gid 8).1.length : Int) = 8 ∧ ((put_m h.size 12).1.length : Int) = 12 ∧ ((put_m h.time 12).1.length : Int) = 12
  is : hencode_m h = (((frontOf h ++ sumOf h) ++ [0, 32]) ++ backOf h, 0)
theorem henc_cases (h : Hdr) : ((hencode_m h).1 = [] ∧ ¬ (hencode_m h).2 = 0) ∨ Lies h := by
  by_cases h1 : ((h.name.length : Nat) : Int) ≤ 100 ∧ ib_m h.name 0 < 0
  rotate_left
  · left; unfold hencode_m; rw [if_pos h1]; exact ⟨rfl, by decide⟩
  by_cases h2 : ((h.link.length : Nat) : Int) ≤ 100 ∧ ib_m h.link 0 < 0
  rotate_left
  · left; unfold hencode_m; rw [if_neg (fun c => c h1), if_pos h2]; exact ⟨rfl, by decide⟩
  by_cases h3 : ((h.pfx.length : Nat) : Int) ≤ 155 ∧ ib_m h.pfx 0 < 0
  rotate_left
  · left; unfold hencode_m; rw [if_neg (fun c => c h1), if_neg (fun c => c h2), if_pos h3]; exact ⟨rfl, by decide⟩
  have E : hencode_m h = fin (hencode_m_l0 h 6 (fill_m h.name 100, 0)) (fun r => r) (fun zz => hencode_m_k0 h zz.1 zz.2) := by
    unfold hencode_m; rw [if_neg (fun c => c h1), if_neg (fun c => c h2), if_neg (fun c => c h3)]
  rcases enc_l h (fill_m h.name 100) with ⟨x, p, e⟩ | ⟨ok, lens, e⟩
  · rw [e] at E
    have E' : hencode_m h = ([], x) := E
    left; rw [E']; exact ⟨rfl, p⟩
  · rw [e] at E
    exact .inr ⟨h1, h2, h3, ok, lens, E⟩
theorem front_len {h : Hdr} (l : Lies h) : (frontOf h).length = 148 := by
  have := fill_len h.name 100 l.name.1
  have := l.lens
  unfold frontOf
  simp only [List.length_append]
  omega
theorem sum_len (h : Hdr) : (sumOf h).length = 6 := by
  have := octal_len (hsum_m ((frontOf h ++ (fill_m ([]) 8)) ++ backOf h)) 6 (hsum_rng _).1 (by decide) (by decide)
  unfold sumOf
  omega
theorem back_len {h : Hdr} (l : Lies h) : (backOf h).length = 356 := by
  have a := fill_len h.link 100 l.link.1
  have b := fill_len h.pfx 155 l.pfx.1
  have c := fill_len [] 80 (by decide)
  have d := fill_len [] 12 (by decide)
  unfold backOf
  simp only [List.length_append, List.length_cons, List.length_nil]
  omega
theorem lies_len {h : Hdr} (l : Lies h) : (hencode_m h).1.length = 512 := by
  have a := front_len l
  have b := sum_len h
  have c := back_len l
  rw [l.is]
  simp only [List.length_append, List.length_cons, List.length_nil]
  omega
theorem hencode_len (h : Hdr) : (hencode_m h).1.length ≤ 512 := by
  rcases henc_cases h with ⟨e, _⟩ | l
  · rw [e]; decide
  · exact Nat.le_of_eq (lies_len l)
theorem hencode_fit (h : Hdr) : ¬ (hencode_m h).2 = 0 ∨ (h.name.length ≤ 100 ∧ h.link.length ≤ 100 ∧ h.pfx.length ≤ 155) := by
  rcases henc_cases h with ⟨_, e⟩ | l
  · exact .inl e
  · have := l.name
    have := l.link
    have := l.pfx
    exact .inr (by omega)
/-- A piece of a list where it lies. -/
theorem piece (p m r : List UInt8) {a b : Nat} (hp : p.length = a) (hm : m.length + a = b) : ((p ++ (m ++ r)).take b).drop a = m := by
  subst hp
  subst hm
  have e : m.length + p.length = (p ++ m).length := by rw [List.length_append]; omega
  rw [← List.append_assoc, e, List.take_left, List.drop_left]
end Go.Proofs.YtglnifckngcpkaaDoor.Hd
