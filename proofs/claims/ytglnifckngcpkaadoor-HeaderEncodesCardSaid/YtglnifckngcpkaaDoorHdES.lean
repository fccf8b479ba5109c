/- Layer 9: HeaderEncodes is true. -/
import Derived.Test.YtglnifckngcpkaaDoorHdEP
set_option linter.unusedVariables false
namespace Go.Proofs.YtglnifckngcpkaaDoor.Hd
open Go.Proofs.YtglnifckngcpkaaDoor.Mem
set_option maxHeartbeats 2000000 in
theorem dec_of (s : List UInt8) (h : Hdr) (hl : s.length = 512) (hm : (s.take 265).drop 257 = [117, 115, 116, 97, 114, 0, 48, 48]) (hs : get_m ((s.take 156).drop 148) = (hsum_m s, 0))
    (g0 : get_m ((s.take 108).drop 100) = (h.mode, 0))
    (g1 : get_m ((s.take 116).drop 108) = (h.uid, 0))
    (g2 : get_m ((s.take 124).drop 116) = (h.gid, 0))
    (g3 : get_m ((s.take 136).drop 124) = (h.size, 0))
    (g4 : get_m ((s.take 148).drop 136) = (h.time, 0))
    : hdecode_m s = (Hdr.mk (hcut_m (s.take 100)) h.mode h.uid h.gid h.size h.time (s.getD 156 0) (hcut_m ((s.take 257).drop 157)) (hcut_m ((s.take 500).drop 345)), 0) := by
  unfold hdecode_m
  rw [if_neg (show ¬ ¬ s.length = 512 from fun c => c hl), if_neg (show ¬ ¬ (s.take 265).drop 257 = [117, 115, 116, 97, 114, 0, 48, 48] from fun c => c hm), hs, if_neg (show ¬ ¬ ((hsum_m s, (0 : Int)) : Int × Int).2 = 0 from fun c => c rfl), if_neg (show ¬ ¬ ((hsum_m s, (0 : Int)) : Int × Int).1 = hsum_m s from fun c => c rfl)]
  have a0 : hdecode_m_l0 s (5 - 0 + 1) (100, 0, [], 0, 0, 0, 0, 0, UInt8.ofNat 0, [], [], 0, 0, 0, 0, 0) = hdecode_m_l0 s 5 (108, 1, [], 0, 0, 0, 0, 0, UInt8.ofNat 0, [], [], h.mode, 0, 0, 0, 0) := by
    show hdecode_m_b0 s (hdecode_m_l0 s 5) 100 0 [] 0 0 0 0 0 (UInt8.ofNat 0) [] [] 0 0 0 0 0 = _
    unfold hdecode_m_b0
    rw [if_pos (by decide), if_pos rfl, (show get_m ((s.take (100 + 8)).drop 100) = (h.mode, 0) from g0), if_neg (show ¬ ¬ ((h.mode, (0 : Int)) : Int × Int).2 = 0 from fun c => c rfl)] <;> rfl
  rw [a0]
  have a1 : hdecode_m_l0 s 5 (108, 1, [], 0, 0, 0, 0, 0, UInt8.ofNat 0, [], [], h.mode, 0, 0, 0, 0) = hdecode_m_l0 s 4 (116, 2, [], 0, 0, 0, 0, 0, UInt8.ofNat 0, [], [], h.mode, h.uid, 0, 0, 0) := by
    show hdecode_m_b0 s (hdecode_m_l0 s 4) 108 1 [] 0 0 0 0 0 (UInt8.ofNat 0) [] [] h.mode 0 0 0 0 = _
    unfold hdecode_m_b0
    rw [if_pos (by decide), if_neg (by decide), if_pos rfl, (show get_m ((s.take (108 + 8)).drop 108) = (h.uid, 0) from g1), if_neg (show ¬ ¬ ((h.uid, (0 : Int)) : Int × Int).2 = 0 from fun c => c rfl)] <;> rfl
  rw [a1]
  have a2 : hdecode_m_l0 s 4 (116, 2, [], 0, 0, 0, 0, 0, UInt8.ofNat 0, [], [], h.mode, h.uid, 0, 0, 0) = hdecode_m_l0 s 3 (124, 3, [], 0, 0, 0, 0, 0, UInt8.ofNat 0, [], [], h.mode, h.uid, h.gid, 0, 0) := by
    show hdecode_m_b0 s (hdecode_m_l0 s 3) 116 2 [] 0 0 0 0 0 (UInt8.ofNat 0) [] [] h.mode h.uid 0 0 0 = _
    unfold hdecode_m_b0
    rw [if_pos (by decide), if_neg (by decide), if_neg (by decide), if_pos rfl, (show get_m ((s.take (116 + 8)).drop 116) = (h.gid, 0) from g2), if_neg (show ¬ ¬ ((h.gid, (0 : Int)) : Int × Int).2 = 0 from fun c => c rfl)] <;> rfl
  rw [a2]
  have a3 : hdecode_m_l0 s 3 (124, 3, [], 0, 0, 0, 0, 0, UInt8.ofNat 0, [], [], h.mode, h.uid, h.gid, 0, 0) = hdecode_m_l0 s 2 (136, 4, [], 0, 0, 0, 0, 0, UInt8.ofNat 0, [], [], h.mode, h.uid, h.gid, h.size, 0) := by
    show hdecode_m_b0 s (hdecode_m_l0 s 2) 124 3 [] 0 0 0 0 0 (UInt8.ofNat 0) [] [] h.mode h.uid h.gid 0 0 = _
    unfold hdecode_m_b0
    rw [if_pos (by decide), if_neg (by decide), if_neg (by decide), if_neg (by decide), if_pos rfl, (show get_m ((s.take (124 + 12)).drop 124) = (h.size, 0) from g3), if_neg (show ¬ ¬ ((h.size, (0 : Int)) : Int × Int).2 = 0 from fun c => c rfl)] <;> rfl
  rw [a3]
  have a4 : hdecode_m_l0 s 2 (136, 4, [], 0, 0, 0, 0, 0, UInt8.ofNat 0, [], [], h.mode, h.uid, h.gid, h.size, 0) = hdecode_m_l0 s 1 (148, 5, [], 0, 0, 0, 0, 0, UInt8.ofNat 0, [], [], h.mode, h.uid, h.gid, h.size, h.time) := by
    show hdecode_m_b0 s (hdecode_m_l0 s 1) 136 4 [] 0 0 0 0 0 (UInt8.ofNat 0) [] [] h.mode h.uid h.gid h.size 0 = _
    unfold hdecode_m_b0
    rw [if_pos (by decide), if_neg (by decide), if_neg (by decide), if_neg (by decide), if_neg (by decide), (show get_m ((s.take (136 + 12)).drop 136) = (h.time, 0) from g4), if_neg (show ¬ ¬ ((h.time, (0 : Int)) : Int × Int).2 = 0 from fun c => c rfl)] <;> rfl
  rw [a4]
  have a5 : hdecode_m_l0 s 1 (148, 5, [], 0, 0, 0, 0, 0, UInt8.ofNat 0, [], [], h.mode, h.uid, h.gid, h.size, h.time) = .inl (148, 5, [], 0, 0, 0, 0, 0, UInt8.ofNat 0, [], [], h.mode, h.uid, h.gid, h.size, h.time) := by
    show hdecode_m_b0 s (hdecode_m_l0 s 0) 148 5 [] 0 0 0 0 0 (UInt8.ofNat 0) [] [] h.mode h.uid h.gid h.size h.time = _
    unfold hdecode_m_b0
    rw [if_neg (by decide)]
  rw [a5]
  rfl
theorem sum_get {h : Hdr} (l : Lies h) : get_m ((((hencode_m h).1).take 156).drop 148) = (hsum_m (hencode_m h).1, 0) := by
  have X := hsum_rng ((frontOf h ++ (fill_m ([]) 8)) ++ backOf h)
  have e : hsum_m (hencode_m h).1 = hsum_m ((frontOf h ++ (fill_m ([]) 8)) ++ backOf h) := by
    rw [l.is]
    show hsum_m (((frontOf h ++ sumOf h) ++ [0, 32]) ++ backOf h) = _
    rw [List.append_assoc (frontOf h) (sumOf h) [0, 32]]
    exact hsum_mid _ _ _ _ (front_len l) (by rw [List.length_append, sum_len]; rfl) rfl
  rw [(at_all l).2.2.2.2.2.2, e]
  unfold sumOf
  rw [octal_is, roct_is _ 6 X.1 (by decide) (by decide)]
  generalize hsum_m ((frontOf h ++ (fill_m ([]) 8)) ++ backOf h) = x at X
  refine get_dig 6 x [0, 32] (by decide) X.1 (by omega) ?_ (by decide) (fun m hm => ?_)
  · show x / 8 / 8 / 8 / 8 / 8 / 8 = 0
    omega
  · match m, hm with
    | 0, _ => exact .inr rfl
    | 1, _ => exact .inl rfl
theorem at_fills {h : Hdr} (l : Lies h) : (((hencode_m h).1).take 257).drop 157 = fill_m h.link 100 ∧ (((hencode_m h).1).take 500).drop 345 = fill_m h.pfx 155 := by
  have a := head_len l
  have b := fill_len h.link 100 l.link.1
  have c := fill_len [] 80 (by decide)
  have d := fill_len h.pfx 155 l.pfx.1
  have e : (hencode_m h).1 = (((frontOf h ++ sumOf h) ++ [0, 32]) ++ [h.flag]) ++ (fill_m h.link 100 ++ ([117, 115, 116, 97, 114, 0, 48, 48] ++ (fill_m ([]) 80 ++ (fill_m h.pfx 155 ++ fill_m ([]) 12)))) := by
    rw [l.is]
    show ((frontOf h ++ sumOf h) ++ [0, 32]) ++ backOf h = _
    unfold backOf
    simp only [List.append_assoc]
  have e2 : (hencode_m h).1 = ((((((frontOf h ++ sumOf h) ++ [0, 32]) ++ [h.flag]) ++ fill_m h.link 100) ++ [117, 115, 116, 97, 114, 0, 48, 48]) ++ fill_m ([]) 80) ++ (fill_m h.pfx 155 ++ fill_m ([]) 12) := by
    rw [e]
    simp only [List.append_assoc]
  constructor
  · rw [e]; exact piece _ _ _ (by rw [List.length_append, a]; rfl) (by omega)
  · rw [e2]
    refine piece _ _ _ ?_ (by omega)
    rw [List.length_append, List.length_append, List.length_append, List.length_append, a]
    simp only [List.length_cons, List.length_nil]
    omega
theorem dec_enc {h : Hdr} (l : Lies h) (p0 : h.mode ≤ 9223372036854775807) (p1 : h.uid ≤ 9223372036854775807) (p2 : h.gid ≤ 9223372036854775807) (p3 : h.size ≤ 9223372036854775807) (p4 : h.time ≤ 9223372036854775807) : hdecode_m (hencode_m h).1 = (h, 0) := by
  obtain ⟨q, q0, q1, q2, q3, q4, _⟩ := at_all l
  obtain ⟨o0, o1, o2, o3, o4⟩ := l.ok
  have w := dec_of (hencode_m h).1 h (lies_len l) (at_magic l) (sum_get l) (by rw [q0]; exact get_put _ _ p0 o0) (by rw [q1]; exact get_put _ _ p1 o1) (by rw [q2]; exact get_put _ _ p2 o2) (by rw [q3]; exact get_put _ _ p3 o3) (by rw [q4]; exact get_put _ _ p4 o4)
  rw [w, (at_fills l).1, (at_fills l).2, show ((hencode_m h).1).take 100 = fill_m h.name 100 from q, cut_fill _ _ l.name.2, cut_fill _ _ l.link.2, cut_fill _ _ l.pfx.2]
  have f : (hencode_m h).1.getD 156 0 = h.flag := UInt8.toNat_inj.1 (at_flag l)
  rw [f]
theorem lencodes_true (h : Hdr) (p0 : h.mode ≤ 9223372036854775807) (p1 : h.uid ≤ 9223372036854775807) (p2 : h.gid ≤ 9223372036854775807) (p3 : h.size ≤ 9223372036854775807) (p4 : h.time ≤ 9223372036854775807) : lencodes_m h = true := by
  unfold lencodes_m
  rw [if_pos hawake_true, ← enc_is, if_pos rfl, if_pos rfl]
  by_cases e : (hencode_m h).2 = 0
  · have l := henc_lies e
    rw [if_neg (fun c => c e), dec_enc l p0 p1 p2 p3 p4, if_pos rfl, if_pos rfl]
    exact decide_eq_true (lies_len l)
  · rw [if_pos e]
end Go.Proofs.YtglnifckngcpkaaDoor.Hd
