/- Layer 17: a node's sector is read as the node. -/
import Derived.Test.YtmammofbgllceaaNodN
namespace Go.Proofs.Ytmammofbgllceaa.Nod
open Go.Proofs.Ytmammofbgllceaa.Mem

theorem be_put (n : Nat) : ∀ k : Nat, be (putL (n : Int) k) = n % 256 ^ k
  | 0 => by simp [putL, be, Nat.mod_one]
  | k + 1 => by
    rw [put_nat, be_cons, be_put n k, putL_length, Nat.mod_pow_succ]
    have h1 : (UInt8.ofNat (n / 256 ^ k % 256)).toNat = n / 256 ^ k % 256 := by simp
    rw [h1, Nat.mul_comm, Nat.add_comm]
theorem get_put {n : Int} {k : Nat} (h0 : 0 ≤ n) (h : n < ((256 ^ k : Nat) : Int)) (hk : k ≤ 7) : getZ (putL n k) = n := by
  obtain ⟨m, rfl⟩ := Int.eq_ofNat_of_zero_le h0
  rw [getZ_at _ (by rw [putL_length]; exact hk), be_put, Nat.mod_eq_of_lt (by omega)]
theorem get_put8 {n : Int} (h0 : 0 ≤ n) (h : n ≤ 9223372036854775807) : getZ (putL n 8) = n := by
  obtain ⟨m, rfl⟩ := Int.eq_ofNat_of_zero_le h0
  unfold getZ
  rw [be_put, Nat.mod_eq_of_lt (by omega), IntKind.wrap_i64]
  omega
theorem cut_skip {A R : List UInt8} {k : Nat} (h : A.length = k) (a b : Nat) : ((A ++ R).take (k + b)).drop (k + a) = (R.take b).drop a := by
  subst h
  rw [List.take_length_add_append, ← List.drop_drop, List.drop_left]
theorem cut_here {B R : List UInt8} {k : Nat} (h : B.length = k) : ((B ++ R).take k).drop 0 = B := by
  subst h
  rw [List.take_left, List.drop_zero]
def tailZ (x : Nd) : List UInt8 := List.replicate (256 - (28 + 4 * x.blocks.length)) 0
theorem bytes_flat (x : Nd) : bytesN x = putL x.kind 1 ++ (putL x.mode 2 ++ (putL x.links 4 ++ (putL x.uid 4 ++ (putL x.gid 4 ++ (putL x.time 8 ++ (putL x.size 4 ++ ([0] ++ (x.blocks.flatMap p4 ++ tailZ x)))))))) := by
  unfold bytesN headN tailZ
  simp only [List.append_assoc]
theorem cut4 (Z : List UInt8) : ∀ (l : List Int) (i : Nat), i < l.length → ((l.flatMap p4 ++ Z).take (4 * i + 4)).drop (4 * i) = p4 (l.getD i 0)
  | [], i, h => absurd h (Nat.not_lt_zero _)
  | b :: l, 0, _ => by
    rw [List.flatMap_cons, List.append_assoc]
    exact cut_here (putL_length b 4)
  | b :: l, i + 1, h => by
    rw [List.flatMap_cons, List.append_assoc, List.getD_cons_succ, ← cut4 Z l i (by simpa using h), show 4 * (i + 1) + 4 = 4 + (4 * i + 4) by omega, show 4 * (i + 1) = 4 + 4 * i by omega]
    exact cut_skip (putL_length b 4) _ _
theorem raw_bytes {x : Nd} (hc : CheckP x) (ht : x.time ≤ 9223372036854775807) : rawN (bytesN x) = x := by
  have hr : (0 ≤ x.kind ∧ x.kind < 256) ∧ (0 ≤ x.mode ∧ x.mode < 65536) ∧ (0 ≤ x.links ∧ x.links < 4294967296) ∧ (0 ≤ x.uid ∧ x.uid < 4294967296) ∧ (0 ≤ x.gid ∧ x.gid < 4294967296) ∧ 0 ≤ x.time ∧ (0 ≤ x.size ∧ x.size < 4294967296) ∧ x.blocks.length = secs x.size.toNat ∧ ∀ b ∈ x.blocks, 0 ≤ b ∧ b < 2048 := by
    rcases hc with ⟨h0, h⟩ | ⟨h0, h, hb⟩
    · obtain ⟨h1, h2, h3, h4, h5, h6, h7⟩ := h
      have h8 : x.blocks = [] := List.eq_nil_of_length_eq_zero h7
      refine ⟨by omega, by omega, by omega, by omega, by omega, by omega, by omega, by rw [h6, h7]; rfl, ?_⟩
      rw [h8]
      exact fun b hb => by cases hb
    · unfold RangeP at h
      exact ⟨by omega, by omega, by omega, by omega, by omega, by omega, by omega, h.2.2.2.2.2.2.2.2.2.2.2.2.2, hb⟩
  obtain ⟨⟨k0, k1⟩, ⟨m0, m1⟩, ⟨l0, l1⟩, ⟨u0, u1⟩, ⟨g0, g1⟩, t0, ⟨s0, s1⟩, hn, hb⟩ := hr
  have f0 : (bytesN x).take 1 = putL x.kind 1 := by
    rw [bytes_flat]
    exact cut_here (putL_length _ 1)
  have f1 : ((bytesN x).take 3).drop 1 = putL x.mode 2 := by
    rw [bytes_flat]
    exact (cut_skip (putL_length _ 1) 0 2).trans (cut_here (putL_length _ 2))
  have f2 : ((bytesN x).take 7).drop 3 = putL x.links 4 := by
    rw [bytes_flat]
    exact (cut_skip (putL_length _ 1) 2 6).trans ((cut_skip (putL_length _ 2) 0 4).trans (cut_here (putL_length _ 4)))
  have f3 : ((bytesN x).take 11).drop 7 = putL x.uid 4 := by
    rw [bytes_flat]
    exact (cut_skip (putL_length _ 1) 6 10).trans ((cut_skip (putL_length _ 2) 4 8).trans ((cut_skip (putL_length _ 4) 0 4).trans (cut_here (putL_length _ 4))))
  have f4 : ((bytesN x).take 15).drop 11 = putL x.gid 4 := by
    rw [bytes_flat]
    exact (cut_skip (putL_length _ 1) 10 14).trans ((cut_skip (putL_length _ 2) 8 12).trans ((cut_skip (putL_length _ 4) 4 8).trans ((cut_skip (putL_length _ 4) 0 4).trans (cut_here (putL_length _ 4)))))
  have f5 : ((bytesN x).take 23).drop 15 = putL x.time 8 := by
    rw [bytes_flat]
    exact (cut_skip (putL_length _ 1) 14 22).trans ((cut_skip (putL_length _ 2) 12 20).trans ((cut_skip (putL_length _ 4) 8 16).trans ((cut_skip (putL_length _ 4) 4 12).trans ((cut_skip (putL_length _ 4) 0 8).trans (cut_here (putL_length _ 8))))))
  have f6 : ((bytesN x).take 27).drop 23 = putL x.size 4 := by
    rw [bytes_flat]
    exact (cut_skip (putL_length _ 1) 22 26).trans ((cut_skip (putL_length _ 2) 20 24).trans ((cut_skip (putL_length _ 4) 16 20).trans ((cut_skip (putL_length _ 4) 12 16).trans ((cut_skip (putL_length _ 4) 8 12).trans ((cut_skip (putL_length _ 8) 0 4).trans (cut_here (putL_length _ 4)))))))
  have hsz : sizeN (bytesN x) = x.size := by unfold sizeN; rw [f6, get_put s0 (by omega) (by decide)]
  have fb : blkN (bytesN x) (secs x.size.toNat) = x.blocks := by
    apply List.ext_getElem
    · rw [blkN_len, hn]
    · intro i h1 h2
      have hq := hb _ (List.getElem_mem h2)
      simp only [blkN, List.getElem_map, List.getElem_range]
      have e : ((bytesN x).take (28 + 4 * i + 4)).drop (28 + 4 * i) = p4 (x.blocks.getD i 0) := by
        rw [bytesN, List.append_assoc, Nat.add_assoc]
        exact (cut_skip (headN_len x) _ _).trans (cut4 _ _ _ h2)
      rw [e, List.getD_eq_getElem?_getD, List.getElem?_eq_getElem h2]
      exact get_put hq.1 (Int.lt_trans hq.2 (by decide)) (by decide)
  cases x with
  | mk kind mode uid gid time links size blocks =>
    simp only [rawN, hsz, f0, f1, f2, f3, f4, f5, f6, fb]
    rw [get_put k0 (by omega) (by decide), get_put m0 (by omega) (by decide), get_put l0 (by omega) (by decide), get_put u0 (by omega) (by decide), get_put g0 (by omega) (by decide), get_put8 t0 ht, get_put s0 (by omega) (by decide)]
theorem good_mk {x : Nd} {s : List UInt8} (hl : s.length = 256) (hz : sizeN s = x.size) (h : rawN s = x) (hb : bytesN x = s) (hc : CheckP x) (hx : x.size ≤ 14592) : goodR s :=
  ⟨hl, hz.symm ▸ hx, h.symm ▸ hc, (congrArg bytesN h).trans hb⟩
theorem raw_size (s : List UInt8) : sizeN s = (rawN s).size := rfl
theorem bytes_256 {x : Nd} (hl : x.blocks.length ≤ 57) : (bytesN x).length = 256 := by
  unfold bytesN
  rw [List.length_append, body_len, List.length_replicate]
  omega
theorem check_size {x : Nd} (hc : CheckP x) : x.size ≤ 14592 := by
  rcases hc with ⟨_, h⟩ | ⟨_, h, _⟩
  · have := h.2.2.2.2.2.1
    omega
  · have := h.2.2.2.2.2.2.2.2.2.2.2.2.1
    omega
theorem good_bytes {x : Nd} (hc : CheckP x) (ht : x.time ≤ 9223372036854775807) : goodR (bytesN x) :=
  good_mk (bytes_256 (check_len hc)) ((raw_size _).trans (by rw [raw_bytes hc ht])) (raw_bytes hc ht) rfl hc (check_size hc)
theorem read_back {x : Nd} (hc : CheckP x) (ht : x.time ≤ 9223372036854775807) : readN (bytesR x) = x ∧ errRd (bytesR x) = 0 := by
  have hg := good_bytes hc ht
  rw [bytesR, if_pos hc]
  exact ⟨by rw [readN, if_pos hg, raw_bytes hc ht], if_pos hg⟩
end Go.Proofs.Ytmammofbgllceaa.Nod
