/- Layer 12: how versions stand, in plain mathematics: keys, noughts behind, decimal digits. -/
import Derived.Test.YtpbenhfnebgbiaaDoorNum
namespace Go.Proofs.YtpbenhfnebgbiaaDoor.VeS
/-- -1, 0 or 1: how two numbers stand. -/
def c3 (x y : Int) : Int := if x < y then -1 else if y < x then 1 else 0
/-- How two rows of numbers stand, noughts behind each: by the first place that differs. -/
def lz : List Int → List Int → Int
  | [], [] => 0
  | x :: xs, [] => if c3 x 0 ≠ 0 then c3 x 0 else lz xs []
  | [], y :: ys => if c3 0 y ≠ 0 then c3 0 y else lz [] ys
  | x :: xs, y :: ys => if c3 x y ≠ 0 then c3 x y else lz xs ys
termination_by x y => x.length + y.length
theorem c3_self (x : Int) : c3 x x = 0 := by unfold c3; rw [if_neg (by omega), if_neg (by omega)]
theorem c3_ne {x y : Int} (h : x ≠ y) : c3 x y ≠ 0 := by
  unfold c3
  split
  · decide
  · split
    · decide
    · omega
theorem c3_eq {x y : Int} (h : c3 x y = 0) : x = y := Classical.byContradiction fun e => c3_ne e h
theorem lz_nil : lz [] [] = 0 := by rw [lz]
theorem lz_cc (x y : Int) (xs ys : List Int) : lz (x :: xs) (y :: ys) = if c3 x y ≠ 0 then c3 x y else lz xs ys := by rw [lz]
theorem lz_cn (x : Int) (xs : List Int) : lz (x :: xs) [] = if c3 x 0 ≠ 0 then c3 x 0 else lz xs [] := by rw [lz]
theorem lz_nc (y : Int) (ys : List Int) : lz [] (y :: ys) = if c3 0 y ≠ 0 then c3 0 y else lz [] ys := by rw [lz]
theorem lz_app : ∀ (A B X Y : List Int), (∀ v ∈ A, v ≠ 0) → (∀ v ∈ B, v ≠ 0) → lz (A ++ 0 :: X) (B ++ 0 :: Y) = if lz A B ≠ 0 then lz A B else lz X Y
  | [], [], X, Y, _, _ => by rw [List.nil_append, List.nil_append, lz_cc, c3_self, lz_nil]
  | [], b :: B, X, Y, _, hB => by
    have h : c3 0 b ≠ 0 := c3_ne (fun e => hB b (by simp) e.symm)
    rw [List.nil_append, List.cons_append, lz_cc, lz_nc, if_pos h, if_pos h, if_pos h]
  | a :: A, [], X, Y, hA, _ => by
    have h : c3 a 0 ≠ 0 := c3_ne (fun e => hA a (by simp) e)
    rw [List.nil_append, List.cons_append, lz_cc, lz_cn, if_pos h, if_pos h, if_pos h]
  | a :: A, b :: B, X, Y, hA, hB => by
    rw [List.cons_append, List.cons_append, lz_cc, lz_cc, lz_app A B X Y (fun v h => hA v (by simp [h])) (fun v h => hB v (by simp [h]))]
    by_cases h : c3 a b ≠ 0
    · rw [if_pos h, if_pos h, if_pos h]
    · rw [if_neg h, if_neg h]
theorem lz_len : ∀ (D E X Y : List Int), D.length = E.length → lz (D ++ X) (E ++ Y) = if lz D E ≠ 0 then lz D E else lz X Y
  | [], [], X, Y, _ => by rw [lz_nil]; simp
  | [], _ :: _, _, _, h => by cases h
  | _ :: _, [], _, _, h => by cases h
  | a :: A, b :: B, X, Y, h => by
    rw [List.cons_append, List.cons_append, lz_cc, lz_cc, lz_len A B X Y (by simpa using h)]
    by_cases h : c3 a b ≠ 0
    · rw [if_pos h, if_pos h, if_pos h]
    · rw [if_neg h, if_neg h]
/-! Orders: by places. -/
def lexz : Nat → List Int → List Int → Int
  | 0, _, _ => 0
  | n + 1, x, y => if c3 (x.headD 0) (y.headD 0) ≠ 0 then c3 (x.headD 0) (y.headD 0) else lexz n x.tail y.tail
theorem lz_lexz : ∀ (n : Nat) (x y : List Int), x.length ≤ n → y.length ≤ n → lz x y = lexz n x y
  | 0, [], [], _, _ => lz_nil
  | n + 1, [], [], _, _ => by
    show lz [] [] = if c3 0 0 ≠ 0 then c3 0 0 else lexz n [] []
    rw [c3_self, ← lz_lexz n [] [] (by simp) (by simp)]
    simp
  | n + 1, x :: xs, [], h, _ => by
    show _ = if c3 x 0 ≠ 0 then c3 x 0 else lexz n xs []
    rw [lz_cn, lz_lexz n xs [] (by simpa using h) (by simp)]
  | n + 1, [], y :: ys, _, h => by
    show _ = if c3 0 y ≠ 0 then c3 0 y else lexz n [] ys
    rw [lz_nc, lz_lexz n [] ys (by simp) (by simpa using h)]
  | n + 1, x :: xs, y :: ys, h, h' => by
    show _ = if c3 x y ≠ 0 then c3 x y else lexz n xs ys
    rw [lz_cc, lz_lexz n xs ys (by simpa using h) (by simpa using h')]
theorem c3_anti (x y : Int) : c3 y x = - c3 x y := by unfold c3; split <;> split <;> (try split) <;> omega
theorem c3_three (x y : Int) : c3 x y = -1 ∨ c3 x y = 0 ∨ c3 x y = 1 := by unfold c3; split <;> (try split) <;> omega
theorem lexz_anti : ∀ n x y, lexz n y x = - lexz n x y
  | 0, _, _ => rfl
  | n + 1, x, y => by
    unfold lexz
    rw [c3_anti (x.headD 0) (y.headD 0), lexz_anti n x.tail y.tail]
    by_cases h : c3 (x.headD 0) (y.headD 0) = 0
    · rw [if_neg (by omega), if_neg (by omega)]
    · rw [if_pos (by omega), if_pos (by omega)]
theorem lexz_three : ∀ n x y, lexz n x y = -1 ∨ lexz n x y = 0 ∨ lexz n x y = 1
  | 0, _, _ => .inr (.inl rfl)
  | n + 1, x, y => by
    unfold lexz
    split
    · exact c3_three _ _
    · exact lexz_three n _ _
theorem lexz_self : ∀ n x, lexz n x x = 0
  | 0, _ => rfl
  | n + 1, x => by
    unfold lexz
    rw [c3_self, if_neg (by omega), lexz_self n]
theorem lexz_eq : ∀ n x y z, lexz n x y = 0 → lexz n x z = lexz n y z
  | 0, _, _, _, _ => rfl
  | n + 1, x, y, z, h => by
    unfold lexz at h ⊢
    by_cases h1 : c3 (x.headD 0) (y.headD 0) = 0
    · rw [if_neg (by omega)] at h
      rw [c3_eq h1, lexz_eq n _ _ z.tail h]
    · rw [if_pos (by omega)] at h
      exact absurd h h1
theorem lexz_lt : ∀ n x y z, lexz n x y = -1 → lexz n y z = -1 → lexz n x z = -1
  | 0, _, _, _, h, _ => by cases h
  | n + 1, x, y, z, h, k => by
    unfold lexz at h k ⊢
    have h3 : ∀ a b : Int, c3 a b ≠ 0 → c3 a b = -1 → a < b := by
      intro a b _ e; unfold c3 at e; split at e
      · assumption
      · split at e <;> omega
    have h4 : ∀ a b : Int, a < b → c3 a b = -1 := by intro a b e; unfold c3; rw [if_pos e]
    by_cases h1 : c3 (x.headD 0) (y.headD 0) = 0
    · rw [if_neg (by omega)] at h
      rw [c3_eq h1]
      by_cases h2 : c3 (y.headD 0) (z.headD 0) = 0
      · rw [if_neg (by omega)] at k ⊢
        exact lexz_lt n _ _ _ h k
      · rw [if_pos (by omega)] at k ⊢
        exact k
    · rw [if_pos (by omega)] at h
      have e1 := h3 _ _ h1 h
      by_cases h2 : c3 (y.headD 0) (z.headD 0) = 0
      · rw [← c3_eq h2, if_pos (by omega), h]
      · rw [if_pos (by omega)] at k
        have e2 := h3 _ _ h2 k
        have e3 := h4 _ _ (show x.headD 0 < z.headD 0 by omega)
        rw [if_pos (by omega), e3]
/-! Versions' keys. -/
def dg (c : UInt8) : Bool := decide (48 ≤ c.toNat ∧ c.toNat ≤ 57)
def ndg (c : UInt8) : Bool := !dg c
def nd (s : List UInt8) : List UInt8 := s.takeWhile ndg
def rd (s : List UInt8) : List UInt8 := s.dropWhile ndg
def num (s : List UInt8) : List UInt8 := s.takeWhile dg
def rst (s : List UInt8) : List UInt8 := (rd s).dropWhile dg
def q48 (c : UInt8) : Bool := c == 48
def strip (s : List UInt8) : List UInt8 := s.dropWhile q48
def bi (s : List UInt8) : List Int := s.map (fun c => (c.toNat : Int))
def nkey (t : List UInt8) : List Int := ((strip t).length : Int) :: bi (strip t)
def ncmp (s t : List UInt8) : Int := if c3 ((strip s).length : Int) ((strip t).length : Int) ≠ 0 then c3 ((strip s).length : Int) ((strip t).length : Int) else lz (bi (strip s)) (bi (strip t))
theorem lz_nkey (s t : List UInt8) (X Y : List Int) : lz (nkey s ++ X) (nkey t ++ Y) = if ncmp s t ≠ 0 then ncmp s t else lz X Y := by
  unfold nkey ncmp
  rw [List.cons_append, List.cons_append, lz_cc]
  by_cases h : c3 ((strip s).length : Int) ((strip t).length : Int) = 0
  · simp only [h, ne_eq, not_true_eq_false, ite_false]
    rw [lz_len _ _ _ _ (by unfold bi; rw [List.length_map, List.length_map]; have := c3_eq h; omega)]
  · simp only [ne_eq, h, not_false_eq_true, ite_true]
/-- A version's key: what its signs weigh, and a nought; how many digits its number has, and these; and so on. -/
def key (f : UInt8 → Int) : Nat → List UInt8 → List Int
  | 0, _ => []
  | n + 1, s => (nd s).map f ++ 0 :: (nkey (num (rd s)) ++ key f n (rst s))
/-- How two versions stand, by their signs, their numbers, and what is behind. -/
def scmp (f : UInt8 → Int) : Nat → List UInt8 → List UInt8 → Int
  | 0, _, _ => 0
  | n + 1, a, b => if lz ((nd a).map f) ((nd b).map f) ≠ 0 then lz ((nd a).map f) ((nd b).map f) else
      if ncmp (num (rd a)) (num (rd b)) ≠ 0 then ncmp (num (rd a)) (num (rd b)) else scmp f n (rst a) (rst b)
theorem mem_tw (p : UInt8 → Bool) : ∀ (s : List UInt8) (c : UInt8), c ∈ s.takeWhile p → c ∈ s ∧ p c = true
  | [], _, h => by cases h
  | x :: s, c, h => by
    by_cases hp : p x = true
    · rw [List.takeWhile_cons_of_pos hp] at h
      rcases List.mem_cons.1 h with rfl | h
      · exact ⟨by simp, hp⟩
      · exact ⟨List.mem_cons_of_mem _ (mem_tw p s c h).1, (mem_tw p s c h).2⟩
    · rw [List.takeWhile_cons_of_neg hp] at h; cases h
theorem mem_dw (p : UInt8 → Bool) (s : List UInt8) (c : UInt8) (h : c ∈ s.dropWhile p) : c ∈ s := (List.dropWhile_sublist p).subset h
theorem scmp_key (f : UInt8 → Int) (hf : ∀ c, dg c = false → f c ≠ 0) : ∀ n a b, scmp f n a b = lz (key f n a) (key f n b)
  | 0, _, _ => lz_nil.symm
  | n + 1, a, b => by
    have nz : ∀ s, ∀ v ∈ (nd s).map f, v ≠ 0 := by
      intro s v hv
      obtain ⟨c, hc, rfl⟩ := List.mem_map.1 hv
      exact hf c (by have := (mem_tw _ _ _ hc).2; unfold ndg at this; simpa using this)
    unfold scmp key
    rw [lz_app _ _ _ _ (nz a) (nz b), lz_nkey, scmp_key f hf n]
/-! Weights that stand alike. -/
theorem lz_congr (P : UInt8 → Prop) (f g : UInt8 → Int) (hc : ∀ c d, P c → P d → c3 (f c) (f d) = c3 (g c) (g d)) (h0 : ∀ c, P c → c3 (f c) 0 = c3 (g c) 0 ∧ c3 0 (f c) = c3 0 (g c)) :
    ∀ a b : List UInt8, (∀ c ∈ a, P c) → (∀ c ∈ b, P c) → lz (a.map f) (b.map f) = lz (a.map g) (b.map g)
  | [], [], _, _ => rfl
  | x :: a, [], ha, hb => by
    rw [List.map_cons, List.map_cons, List.map_nil, List.map_nil, lz_cn, lz_cn, (h0 x (ha x (by simp))).1]
    have := lz_congr P f g hc h0 a [] (fun c h => ha c (by simp [h])) hb
    rw [List.map_nil, List.map_nil] at this
    rw [this]
  | [], y :: b, ha, hb => by
    rw [List.map_cons, List.map_cons, List.map_nil, List.map_nil, lz_nc, lz_nc, (h0 y (hb y (by simp))).2]
    have := lz_congr P f g hc h0 [] b ha (fun c h => hb c (by simp [h]))
    rw [List.map_nil, List.map_nil] at this
    rw [this]
  | x :: a, y :: b, ha, hb => by
    rw [List.map_cons, List.map_cons, List.map_cons, List.map_cons, lz_cc, lz_cc, hc x y (ha x (by simp)) (hb y (by simp)), lz_congr P f g hc h0 a b (fun c h => ha c (by simp [h])) (fun c h => hb c (by simp [h]))]
theorem scmp_congr (Q : UInt8 → Prop) (f g : UInt8 → Int) (hc : ∀ c d, Q c ∧ dg c = false → Q d ∧ dg d = false → c3 (f c) (f d) = c3 (g c) (g d)) (h0 : ∀ c, Q c ∧ dg c = false → c3 (f c) 0 = c3 (g c) 0 ∧ c3 0 (f c) = c3 0 (g c)) :
    ∀ n a b, (∀ c ∈ a, Q c) → (∀ c ∈ b, Q c) → scmp f n a b = scmp g n a b
  | 0, _, _, _, _ => rfl
  | n + 1, a, b, ha, hb => by
    have q : ∀ s : List UInt8, (∀ c ∈ s, Q c) → ∀ c ∈ nd s, Q c ∧ dg c = false := by
      intro s hs c h
      have h1 := mem_tw _ _ _ h
      exact ⟨hs c h1.1, by have h2 := h1.2; unfold ndg at h2; simpa using h2⟩
    unfold scmp
    rw [lz_congr _ f g hc h0 (nd a) (nd b) (q a ha) (q b hb),
      scmp_congr Q f g hc h0 n (rst a) (rst b) (fun c h => ha c (mem_dw _ _ _ (mem_dw _ _ _ h))) (fun c h => hb c (mem_dw _ _ _ (mem_dw _ _ _ h)))]
theorem rst_nil : rst [] = [] := rfl
/-! What grows. -/
theorem rd_len (s : List UInt8) : (nd s).length + (rd s).length = s.length := by
  have := congrArg List.length (List.takeWhile_append_dropWhile (p := fun c => !dg c) (l := s))
  rw [List.length_append] at this
  exact this
theorem rst_len (s : List UInt8) : (nd s).length + (num (rd s)).length + (rst s).length = s.length := by
  have h1 := congrArg List.length (List.takeWhile_append_dropWhile (p := dg) (l := rd s))
  rw [List.length_append] at h1
  have h2 := rd_len s
  unfold num rst
  omega
theorem rst_lt (s : List UInt8) (h : s ≠ []) : (rst s).length < s.length := by
  have h1 := rst_len s
  match s, h with
  | c :: r, _ =>
    by_cases hc : dg c = true
    · have e1 : rd (c :: r) = c :: r := List.dropWhile_cons_of_neg (by unfold ndg; rw [hc]; decide)
      have e2 : 1 ≤ (num (rd (c :: r))).length := by rw [e1]; unfold num; rw [List.takeWhile_cons_of_pos hc]; simp
      omega
    · have e2 : 1 ≤ (nd (c :: r)).length := by unfold nd; rw [List.takeWhile_cons_of_pos (by rw [Bool.not_eq_true] at hc; unfold ndg; rw [hc]; rfl)]; simp
      omega
theorem key_nil (f : UInt8 → Int) : ∀ n, lz (key f n []) [] = 0 ∧ lz [] (key f n []) = 0
  | 0 => ⟨lz_nil, lz_nil⟩
  | n + 1 => by
    have e : key f (n + 1) [] = 0 :: 0 :: key f n [] := rfl
    rw [e, lz_cn, lz_cn, lz_nc, lz_nc, (key_nil f n).1, (key_nil f n).2]
    decide
theorem lz_self : ∀ x, lz x x = 0
  | [] => lz_nil
  | x :: xs => by rw [lz_cc, c3_self, if_neg (by omega), lz_self xs]
theorem ncmp_self (s : List UInt8) : ncmp s s = 0 := by
  unfold ncmp
  rw [c3_self, if_neg (by omega), lz_self]
theorem scmp_self (f : UInt8 → Int) : ∀ n a, scmp f n a a = 0
  | 0, _ => rfl
  | n + 1, a => by
    unfold scmp
    rw [lz_self, if_neg (by omega), ncmp_self, if_neg (by omega), scmp_self f n]
theorem rd_app : ∀ (a x : List UInt8), rd a ≠ [] → nd (a ++ x) = nd a ∧ rd (a ++ x) = rd a ++ x
  | [], _, h => absurd rfl h
  | c :: r, x, h => by
    unfold rd nd at *
    rw [List.cons_append]
    by_cases hc : ndg c = true
    · rw [List.dropWhile_cons_of_pos hc] at h ⊢
      rw [List.takeWhile_cons_of_pos hc, List.takeWhile_cons_of_pos hc, List.dropWhile_cons_of_pos hc]
      have := rd_app r x h
      unfold rd nd at this
      exact ⟨by rw [this.1], this.2⟩
    · rw [List.takeWhile_cons_of_neg hc, List.takeWhile_cons_of_neg hc, List.dropWhile_cons_of_neg hc, List.dropWhile_cons_of_neg hc]
      exact ⟨rfl, rfl⟩
theorem nd_all : ∀ (a x : List UInt8), rd a = [] → nd a = a ∧ nd (a ++ x) = a ++ nd x ∧ rd (a ++ x) = rd x
  | [], _, _ => ⟨rfl, rfl, rfl⟩
  | c :: r, x, h => by
    unfold rd nd at *
    rw [List.cons_append]
    by_cases hc : ndg c = true
    · rw [List.dropWhile_cons_of_pos hc] at h
      have := nd_all r x h
      unfold rd nd at this
      rw [List.takeWhile_cons_of_pos hc, List.takeWhile_cons_of_pos hc, List.dropWhile_cons_of_pos hc]
      exact ⟨by rw [this.1], by rw [this.2.1]; rfl, this.2.2⟩
    · rw [List.dropWhile_cons_of_neg hc] at h; cases h
theorem num_app (c : UInt8) (hc : dg c = false) (r : List UInt8) : ∀ t : List UInt8, num (t ++ c :: r) = num t ∧ (t ++ c :: r).dropWhile dg = t.dropWhile dg ++ c :: r
  | [] => by
    unfold num
    rw [List.nil_append, List.takeWhile_cons_of_neg (by rw [hc]; decide), List.dropWhile_cons_of_neg (by rw [hc]; decide)]
    exact ⟨rfl, rfl⟩
  | d :: t => by
    have ih := num_app c hc r t
    unfold num at *
    rw [List.cons_append]
    by_cases hd : dg d = true
    · rw [List.takeWhile_cons_of_pos hd, List.takeWhile_cons_of_pos hd, List.dropWhile_cons_of_pos hd, List.dropWhile_cons_of_pos hd]
      exact ⟨by rw [ih.1], ih.2⟩
    · rw [List.takeWhile_cons_of_neg hd, List.takeWhile_cons_of_neg hd, List.dropWhile_cons_of_neg hd, List.dropWhile_cons_of_neg hd]
      exact ⟨rfl, rfl⟩
theorem lz_more (c : Int) (hc : c ≠ 0) (X : List Int) : ∀ A : List Int, lz (A ++ c :: X) A = c3 c 0
  | [] => by rw [List.nil_append, lz_cn, if_pos (c3_ne hc)]
  | a :: A => by rw [List.cons_append, lz_cc, c3_self, if_neg (by omega), lz_more c hc X A]
/-- What has a sign and more behind stands as the sign stands to the end. -/
theorem scmp_more (f : UInt8 → Int) (c : UInt8) (hc : dg c = false) (hf : f c ≠ 0) (r : List UInt8) : ∀ n (a : List UInt8), a.length < n → scmp f n (a ++ c :: r) a = c3 (f c) 0
  | 0, _, h => by omega
  | n + 1, a, h => by
    unfold scmp
    by_cases hr : rd a = []
    · obtain ⟨h1, h2, _⟩ := nd_all a (c :: r) hr
      have h3 : nd (c :: r) = c :: nd r := List.takeWhile_cons_of_pos (by unfold ndg; rw [hc]; rfl)
      rw [h1, h2, h3, List.map_append, List.map_cons, lz_more _ hf, if_pos (c3_ne hf)]
    · obtain ⟨h1, h2⟩ := rd_app a (c :: r) hr
      obtain ⟨h3, h4⟩ := num_app c hc r (rd a)
      rw [h1, h2, h3, lz_self, if_neg (by omega), ncmp_self, if_neg (by omega)]
      have h5 : rst (a ++ c :: r) = rst a ++ c :: r := by
        show (rd (a ++ c :: r)).dropWhile dg = _
        rw [h2]
        exact h4
      rw [h5]
      exact scmp_more f c hc hf r n (rst a) (by
        have := rst_lt a (fun e => hr (by rw [e]; rfl))
        omega)
theorem ncmp_nought (s t : List UInt8) : ncmp (48 :: s) t = ncmp s t := by
  have e : strip (48 :: s) = strip s := List.dropWhile_cons_of_pos (by decide)
  unfold ncmp
  rw [e]
theorem scmp_nought (f : UInt8 → Int) (n : Nat) (c : UInt8) (r : List UInt8) (hc : dg c = true) : scmp f (n + 1) (48 :: c :: r) (c :: r) = 0 := by
  have h48 : dg 48 = true := by decide
  have e1 : ∀ (x : UInt8) s, dg x = true → nd (x :: s) = [] ∧ rd (x :: s) = x :: s ∧ num (x :: s) = x :: num s ∧ rst (x :: s) = s.dropWhile dg := by
    intro x s hx
    have a1 : rd (x :: s) = x :: s := List.dropWhile_cons_of_neg (by unfold ndg; rw [hx]; decide)
    refine ⟨List.takeWhile_cons_of_neg (by unfold ndg; rw [hx]; decide), a1, List.takeWhile_cons_of_pos hx, ?_⟩
    unfold rst
    rw [a1, List.dropWhile_cons_of_pos hx]
  obtain ⟨a1, a2, a3, a4⟩ := e1 48 (c :: r) h48
  obtain ⟨b1, b2, b3, b4⟩ := e1 c r hc
  unfold scmp
  rw [a1, a2, a3, a4, b1, b2, List.map_nil, lz_nil, if_neg (by omega), ncmp_nought, ncmp_self, if_neg (by omega), List.dropWhile_cons_of_pos hc, b4, scmp_self]
/-! Numbers in decimal digits. -/
def dt : Nat → List UInt8
  | 0 => []
  | n + 1 => dt ((n + 1) / 10) ++ [UInt8.ofNat (48 + (n + 1) % 10)]
theorem dt_pos {n : Nat} (h : 0 < n) : dt n = dt (n / 10) ++ [UInt8.ofNat (48 + n % 10)] := by
  obtain ⟨m, rfl⟩ : ∃ m, n = m + 1 := ⟨n - 1, by omega⟩
  rw [dt]
theorem dig_nat (k : Nat) (h : k < 10) : (UInt8.ofNat (48 + k)).toNat = 48 + k := by
  rw [UInt8.toNat_ofNat']
  exact Nat.mod_eq_of_lt (by omega)
theorem dt_dg : ∀ n, ∀ c ∈ dt n, dg c = true := by
  intro n
  induction n using Nat.strongRecOn with
  | _ n ih =>
    intro c hc
    by_cases h : 0 < n
    · rw [dt_pos h] at hc
      rcases List.mem_append.1 hc with hc | hc
      · exact ih (n / 10) (by omega) c hc
      · rw [List.mem_singleton] at hc
        subst hc
        unfold dg
        rw [dig_nat _ (by omega)]
        exact decide_eq_true (by omega)
    · obtain rfl : n = 0 := by omega
      rw [dt] at hc
      cases hc
theorem strip_app {x : List UInt8} (h : x ≠ []) (hs : strip x = x) (y : List UInt8) : strip (x ++ y) = x ++ y := by
  match x, h with
  | c :: r, _ =>
    have hc : ¬ (c == 48) = true := by
      intro e
      have : strip (c :: r) = strip r := List.dropWhile_cons_of_pos (by exact e)
      rw [this] at hs
      have h1 : (strip r).length ≤ r.length := (List.dropWhile_sublist _).length_le
      rw [hs, List.length_cons] at h1
      omega
    exact List.dropWhile_cons_of_neg (by exact hc)
theorem dt_ne {n : Nat} (h : 0 < n) : dt n ≠ [] := by
  rw [dt_pos h]
  simp
theorem strip_dt : ∀ n, strip (dt n) = dt n := by
  intro n
  induction n using Nat.strongRecOn with
  | _ n ih =>
    by_cases h : 0 < n
    · rw [dt_pos h]
      by_cases h1 : 0 < n / 10
      · exact strip_app (dt_ne h1) (ih (n / 10) (by omega)) _
      · have e : n / 10 = 0 := by omega
        rw [e, show dt 0 = [] from by rw [dt], List.nil_append]
        refine List.dropWhile_cons_of_neg ?_
        intro hq
        have := congrArg UInt8.toNat (eq_of_beq hq)
        rw [dig_nat _ (by omega)] at this
        have e2 : (48 : UInt8).toNat = 48 := rfl
        omega
    · obtain rfl : n = 0 := by omega
      rw [dt]
      rfl
def dcmp (x y : List UInt8) : Int := if c3 (x.length : Int) (y.length : Int) ≠ 0 then c3 (x.length : Int) (y.length : Int) else lz (bi x) (bi y)
theorem dcmp_snoc (x y : List UInt8) (d e : UInt8) : dcmp (x ++ [d]) (y ++ [e]) = if dcmp x y ≠ 0 then dcmp x y else c3 (d.toNat : Int) (e.toNat : Int) := by
  unfold dcmp
  have h0 : c3 ((x ++ [d]).length : Int) ((y ++ [e]).length : Int) = c3 (x.length : Int) (y.length : Int) := by
    rw [List.length_append, List.length_append, List.length_singleton, List.length_singleton]
    unfold c3
    split <;> split <;> (try split) <;> omega
  rw [h0]
  by_cases h : c3 (x.length : Int) (y.length : Int) = 0
  · simp only [h, ne_eq, not_true_eq_false, ite_false]
    have hb : bi (x ++ [d]) = bi x ++ [(d.toNat : Int)] := by unfold bi; simp
    have hb' : bi (y ++ [e]) = bi y ++ [(e.toNat : Int)] := by unfold bi; simp
    rw [hb, hb', lz_len _ _ _ _ (by unfold bi; rw [List.length_map, List.length_map]; have := c3_eq h; omega), lz_cc, lz_nil]
    by_cases h2 : c3 (d.toNat : Int) (e.toNat : Int) = 0
    · simp [h2]
    · simp [h2]
  · simp only [ne_eq, h, not_false_eq_true, ite_true]
theorem dcmp_dt : ∀ n m : Nat, dcmp (dt n) (dt m) = c3 (n : Int) (m : Int) := by
  intro n
  induction n using Nat.strongRecOn with
  | _ n ih =>
    intro m
    by_cases h : 0 < n
    · by_cases k : 0 < m
      · rw [dt_pos h, dt_pos k, dcmp_snoc, ih (n / 10) (by omega), dig_nat _ (by omega), dig_nat _ (by omega)]
        unfold c3
        split <;> split <;> split <;> (try split) <;> (try split) <;> omega
      · obtain rfl : m = 0 := by omega
        have h1 : 0 < (dt n).length := List.length_pos_iff.2 (dt_ne h)
        rw [show dt 0 = [] from by rw [dt]]
        unfold dcmp
        have e1 : c3 ((dt n).length : Int) (([] : List UInt8).length : Int) = 1 := by
          unfold c3
          rw [List.length_nil, if_neg (by omega), if_pos (by omega)]
        rw [e1, if_pos (by omega)]
        unfold c3
        rw [if_neg (by omega), if_pos (by omega)]
    · obtain rfl : n = 0 := by omega
      rw [show dt 0 = [] from by rw [dt]]
      by_cases k : 0 < m
      · have h1 : 0 < (dt m).length := List.length_pos_iff.2 (dt_ne k)
        unfold dcmp
        have e1 : c3 (([] : List UInt8).length : Int) ((dt m).length : Int) = -1 := by
          unfold c3
          rw [List.length_nil, if_pos (by omega)]
        rw [e1, if_pos (by omega)]
        unfold c3
        rw [if_pos (by omega)]
      · obtain rfl : m = 0 := by omega
        rw [show dt 0 = [] from by rw [dt]]
        unfold dcmp
        rw [c3_self, if_neg (by omega), c3_self]
        exact lz_nil
/-- A number's digits, one at least. -/
def dtx (n : Nat) : List UInt8 := if n = 0 then [48] else dt n
theorem strip_dtx (n : Nat) : strip (dtx n) = dt n := by
  unfold dtx
  split
  · rename_i h
    subst h
    rw [dt]
    rfl
  · exact strip_dt n
theorem dtx_dg (n : Nat) : ∀ c ∈ dtx n, dg c = true := by
  unfold dtx
  split
  · intro c hc
    rw [List.mem_singleton] at hc
    subst hc
    decide
  · exact dt_dg n
theorem dtx_ne (n : Nat) : dtx n ≠ [] := by
  unfold dtx
  split
  · simp
  · exact dt_ne (by omega)
theorem ncmp_dtx (n m : Nat) : ncmp (dtx n) (dtx m) = c3 (n : Int) (m : Int) := by
  unfold ncmp
  rw [strip_dtx, strip_dtx]
  exact dcmp_dt n m
theorem all_num : ∀ t : List UInt8, (∀ c ∈ t, dg c = true) → num t = t ∧ t.dropWhile dg = []
  | [], _ => ⟨rfl, rfl⟩
  | c :: t, h => by
    have hc := h c (by simp)
    have ih := all_num t (fun d hd => h d (by simp [hd]))
    unfold num at *
    rw [List.takeWhile_cons_of_pos hc, List.dropWhile_cons_of_pos hc]
    exact ⟨by rw [ih.1], ih.2⟩
theorem open_num (t r : List UInt8) (c : UInt8) (ht : t ≠ []) (h : ∀ c ∈ t, dg c = true) (hc : dg c = false) : nd (t ++ c :: r) = [] ∧ num (rd (t ++ c :: r)) = t ∧ rst (t ++ c :: r) = c :: r := by
  have e : nd (t ++ c :: r) = [] ∧ rd (t ++ c :: r) = t ++ c :: r := by
    match t, ht with
    | x :: t, _ =>
      have hx := h x (by simp)
      exact ⟨List.takeWhile_cons_of_neg (by unfold ndg; rw [hx]; decide), List.dropWhile_cons_of_neg (by unfold ndg; rw [hx]; decide)⟩
  obtain ⟨h1, h2⟩ := num_app c hc r t
  obtain ⟨h3, h4⟩ := all_num t h
  refine ⟨e.1, by rw [e.2, h1, h3], ?_⟩
  unfold rst
  rw [e.2, h2, h4, List.nil_append]
theorem scmp_pair (f : UInt8 → Int) (a b c d : List UInt8) (n : Nat) (ha : a ≠ []) (hb : b ≠ []) (hc : c ≠ []) (hd : d ≠ []) (da : ∀ x ∈ a, dg x = true) (db : ∀ x ∈ b, dg x = true) (dc : ∀ x ∈ c, dg x = true) (dd : ∀ x ∈ d, dg x = true) :
    scmp f (n + 2) (a ++ 46 :: c) (b ++ 46 :: d) = if ncmp a b ≠ 0 then ncmp a b else ncmp c d := by
  obtain ⟨a1, a2, a3⟩ := open_num a c 46 ha da (by decide)
  obtain ⟨b1, b2, b3⟩ := open_num b d 46 hb db (by decide)
  have q : ∀ t : List UInt8, t ≠ [] → (∀ x ∈ t, dg x = true) → nd (46 :: t) = [46] ∧ num (rd (46 :: t)) = t ∧ rst (46 :: t) = [] := by
    intro t ht h
    have e : nd t = [] ∧ rd t = t := by
      match t, ht with
      | x :: t, _ =>
        have hx := h x (by simp)
        exact ⟨List.takeWhile_cons_of_neg (by unfold ndg; rw [hx]; decide), List.dropWhile_cons_of_neg (by unfold ndg; rw [hx]; decide)⟩
    have e2 : rd (46 :: t) = t := (List.dropWhile_cons_of_pos (by decide)).trans e.2
    obtain ⟨h3, h4⟩ := all_num t h
    refine ⟨(List.takeWhile_cons_of_pos (by decide)).trans ?_, by rw [e2, h3], ?_⟩
    · have := e.1
      unfold nd at this
      rw [this]
    · unfold rst
      rw [e2, h4]
  obtain ⟨c1, c2, c3'⟩ := q c hc dc
  obtain ⟨d1, d2, d3⟩ := q d hd dd
  rw [scmp, a1, a2, a3, b1, b2, b3, List.map_nil, lz_nil, if_neg (by omega)]
  by_cases h : ncmp a b ≠ 0
  · rw [if_pos h, if_pos h]
  · rw [if_neg h, if_neg h]
    rw [scmp, c1, c2, c3', d1, d2, d3, lz_self, if_neg (by omega), scmp_self]
    split
    · rfl
    · omega
theorem scmp_stay (f : UInt8 → Int) (k : Nat) : ∀ n a b, a.length ≤ n → b.length ≤ n → scmp f (n + k) a b = scmp f n a b
  | 0, a, b, ha, hb => by
    obtain rfl : a = [] := List.eq_nil_of_length_eq_zero (by omega)
    obtain rfl : b = [] := List.eq_nil_of_length_eq_zero (by omega)
    rw [scmp_self, scmp_self]
  | n + 1, a, b, ha, hb => by
    have q : ∀ s : List UInt8, s.length ≤ n + 1 → (rst s).length ≤ n := by
      intro s h
      by_cases e : s = []
      · subst e; rw [rst_nil]; exact Nat.zero_le _
      · have := rst_lt s e
        omega
    rw [show n + 1 + k = (n + k) + 1 from by omega]
    unfold scmp
    rw [scmp_stay f k n (rst a) (rst b) (q a ha) (q b hb)]
theorem scmp_any (f : UInt8 → Int) (n m : Nat) (a b : List UInt8) (h1 : a.length ≤ n) (h2 : b.length ≤ n) (h3 : a.length ≤ m) (h4 : b.length ≤ m) : scmp f n a b = scmp f m a b := by
  rcases Nat.le_total n m with h | h
  · obtain ⟨k, rfl⟩ := Nat.exists_eq_add_of_le h
    exact (scmp_stay f k n a b h1 h2).symm
  · obtain ⟨k, rfl⟩ := Nat.exists_eq_add_of_le h
    exact scmp_stay f k m a b h3 h4
theorem c3_of_lt {x y : Int} (h : x < y) : c3 x y = -1 := by unfold c3; rw [if_pos h]
theorem c3_of_gt {x y : Int} (h : y < x) : c3 x y = 1 := by unfold c3; rw [if_neg (by omega), if_pos h]
end Go.Proofs.YtpbenhfnebgbiaaDoor.VeS
