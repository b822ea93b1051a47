/-
  Plain lemmas on the order of pitches: joining both with a third one keeps it; the octave of a pitch by two searches.
-/
import Derived.Test.YtbagmfnedgjndaaDoorEnr
namespace Go.Proofs.YtbagmfnedgjndaaDoor

/-- the order of two pitches -/
def ordV (a b c d e f g h : Int) : Int := sgn (a * h - e * d) (b * h - f * d) (c * h - g * d)
theorem ordV_swap (a b c d e f g h : Int) : ordV e f g h a b c d = -ordV a b c d e f g h := by
  unfold ordV
  rw [← sgn_neg]
  congr 1 <;> grind
theorem cross {G1 G2 xa xd ya yd a d e h i l : Int} (h1 : G1 * xa = a * l + i * d) (h2 : G1 * xd = d * l) (h3 : G2 * ya = e * l + i * h) (h4 : G2 * yd = h * l) :
    (G1 * G2) * (xa * yd - ya * xd) = (l * l) * (a * h - e * d) := by
  have e1 : (G1 * G2) * (xa * yd - ya * xd) = (G1 * xa) * (G2 * yd) - (G2 * ya) * (G1 * xd) := by grind
  rw [e1, h1, h2, h3, h4]; grind
theorem mul_ge1 {x y : Int} (hx : 1 ≤ x) (hy : 1 ≤ y) : 1 ≤ x * y := by
  have := Int.mul_le_mul_of_nonneg_left hy (show 0 ≤ x by omega)
  omega
theorem ordV_join {G1 G2 xa xb xc xd ya yb yc yd a b c d e f g h i j k l : Int} (p1 : 1 ≤ G1) (p2 : 1 ≤ G2) (hl : 1 ≤ l)
    (a1 : G1 * xa = a * l + i * d) (a2 : G1 * xb = b * l + j * d) (a3 : G1 * xc = c * l + k * d) (a4 : G1 * xd = d * l)
    (b1 : G2 * ya = e * l + i * h) (b2 : G2 * yb = f * l + j * h) (b3 : G2 * yc = g * l + k * h) (b4 : G2 * yd = h * l) :
    ordV xa xb xc xd ya yb yc yd = ordV a b c d e f g h := by
  unfold ordV
  rw [← sgn_mulI (G1 * G2) (mul_ge1 p1 p2), ← sgn_mulI (l * l) (mul_ge1 hl hl) (a * h - e * d), cross a1 a4 b1 b4, cross a2 a4 b2 b4, cross a3 a4 b3 b4]

theorem sgn_nonneg {a b c : Int} : 0 ≤ sgn a b c ↔ under a b c ≤ over a b c := by
  unfold sgn cmpI; split <;> (try split) <;> omega
theorem pw_le {p : Nat} (hp : 1 ≤ p) {x y : Int} (h : x ≤ y) : pw p x ≤ pw p y := Nat.pow_le_pow_right hp (by omega)
theorem sgn_mono {x y b c : Int} (h : x ≤ y) (hs : 0 ≤ sgn x b c) : 0 ≤ sgn y b c := by
  rw [sgn_nonneg] at *
  have h1 : over x b c ≤ over y b c := Nat.mul_le_mul_right _ (Nat.mul_le_mul_right _ (pw_le (by omega) h))
  have h2 : under y b c ≤ under x b c := Nat.mul_le_mul_right _ (Nat.mul_le_mul_right _ (pw_le (by omega) (by omega)))
  omega
theorem pw35 (b c : Int) : pw 3 b * pw 5 c ≤ 2 ^ (2 * sz b + 3 * sz c).toNat := by
  unfold pw sz
  have h1 : (3 : Nat) ^ b.toNat ≤ 4 ^ b.natAbs := Nat.le_trans (Nat.pow_le_pow_left (by omega) _) (Nat.pow_le_pow_right (by omega) (by omega))
  have h2 : (5 : Nat) ^ c.toNat ≤ 8 ^ c.natAbs := Nat.le_trans (Nat.pow_le_pow_left (by omega) _) (Nat.pow_le_pow_right (by omega) (by omega))
  refine Nat.le_trans (Nat.mul_le_mul h1 h2) ?_
  rw [show (4 : Nat) = 2 ^ 2 from rfl, show (8 : Nat) = 2 ^ 3 from rfl, ← Nat.pow_mul, ← Nat.pow_mul, ← Nat.pow_add]
  exact Nat.pow_le_pow_right (by omega) (by omega)
theorem pw15N {b c : Int} {n : Nat} (hb : b ≤ n) (hc : c ≤ n) : pw 3 b * pw 5 c ≤ 2 ^ (4 * n) := by
  unfold pw
  have h1 : (3 : Nat) ^ b.toNat ≤ 3 ^ n := Nat.pow_le_pow_right (by omega) (by omega)
  have h2 : (5 : Nat) ^ c.toNat ≤ 5 ^ n := Nat.pow_le_pow_right (by omega) (by omega)
  refine Nat.le_trans (Nat.mul_le_mul h1 h2) ?_
  rw [← Nat.mul_pow, Nat.pow_mul]; exact Nat.pow_le_pow_left (by omega) _
theorem sz_neg (x : Int) : sz (-x) = sz x := by unfold sz; rw [Int.natAbs_neg]
theorem one_le_pw (p : Nat) (hp : 1 ≤ p) (x : Int) : 1 ≤ pw p x := Nat.pow_pos hp
/-- far above 1 in 2 -/
theorem sgn_far {x b c : Int} {k : Nat} (hk : pw 3 (-b) * pw 5 (-c) ≤ 2 ^ k) (hx : (k : Int) ≤ x) : 0 ≤ sgn x b c := by
  rw [sgn_nonneg]
  have e : pw 2 (-x) = 1 := pw_neg (by omega)
  have h1 : under x b c = pw 3 (-b) * pw 5 (-c) := by unfold under over; rw [e, Nat.one_mul]
  have h2 : 2 ^ k ≤ pw 2 x := Nat.pow_le_pow_right (by omega) (by omega)
  have h3 : pw 2 x ≤ over x b c := by
    unfold over
    have h4 := one_le_pw 3 (by omega) b
    have h5 := one_le_pw 5 (by omega) c
    have h6 : pw 2 x * 1 ≤ pw 2 x * pw 3 b := Nat.mul_le_mul_left _ h4
    have h7 : pw 2 x * pw 3 b * 1 ≤ pw 2 x * pw 3 b * pw 5 c := Nat.mul_le_mul_left _ h5
    omega
  omega
/-- not far below -/
theorem sgn_near {x b c : Int} {k : Nat} (hk : pw 3 b * pw 5 c ≤ 2 ^ k) (h : 0 ≤ sgn x b c) : -(k : Int) ≤ x := by
  rw [sgn_nonneg] at h
  rcases Int.lt_or_le x (-(k : Int)) with hx | hx
  · exfalso
    have e : pw 2 x = 1 := pw_neg (by omega)
    have h1 : over x b c = pw 3 b * pw 5 c := by unfold over; rw [e, Nat.one_mul]
    have h2 : 2 ^ (k + 1) ≤ pw 2 (-x) := Nat.pow_le_pow_right (by omega) (by omega)
    have h3 : pw 2 (-x) ≤ under x b c := by
      unfold under over
      have h4 := one_le_pw 3 (by omega) (-b)
      have h5 := one_le_pw 5 (by omega) (-c)
      have h6 : pw 2 (-x) * 1 ≤ pw 2 (-x) * pw 3 (-b) := Nat.mul_le_mul_left _ h4
      have h7 : pw 2 (-x) * pw 3 (-b) * 1 ≤ pw 2 (-x) * pw 3 (-b) * pw 5 (-c) := Nat.mul_le_mul_left _ h5
      omega
    have h8 : 0 < 2 ^ k := Nat.pow_pos (by omega)
    rw [Nat.pow_succ] at h2
    omega
  · exact hx

/-- the test of the octaves -/
def octP (a b c d n : Int) : Bool := decide (0 ≤ sgn (a - n * d) b c)
theorem octP_mono {a b c d m n : Int} (hd : 1 ≤ d) (h : m ≤ n) (hn : octP a b c d n = true) : octP a b c d m = true := by
  unfold octP at *
  have h1 := of_decide_eq_true hn
  have h2 : m * d ≤ n * d := Int.mul_le_mul_of_nonneg_right h (by omega)
  exact decide_eq_true (sgn_mono (by omega) h1)
/-- the reference's octaves and the program's are the same -/
theorem oct_same {g a b c d A B C D lo hi lo' hi' : Int} (hg : 1 ≤ g) (ea : g * A = a) (eb : g * B = b) (ec : g * C = c) (ed : g * D = d)
    (hP : octP A B C D lo' = true) (hN : ∀ n, octP A B C D n = true → n ≤ hi') (hP' : octP a b c d lo = true) (hN' : ∀ n, octP a b c d n = true → n ≤ hi) (hD : 1 ≤ D)
    (h1 : lo ≤ hi) (h2 : lo' ≤ hi') :
    half (octP A B C D) lo' hi' = half (octP a b c d) lo hi ∧ octP A B C D (half (octP A B C D) lo' hi') = true ∧ octP A B C D (half (octP A B C D) lo' hi' + 1) = false := by
  have hE : octP a b c d = octP A B C D := by
    funext n
    unfold octP
    rw [← sgn_mulI g hg (A - n * D)]
    have : a - n * d = g * (A - n * D) := by rw [← ea, ← ed]; grind
    rw [this, eb, ec]
  rw [hE] at hP' hN' ⊢
  have hm : ∀ (l h : Int) (x y : Int), l < x → x ≤ y → y ≤ h → octP A B C D y = true → octP A B C D x = true := fun _ _ x y _ h _ h' => octP_mono hD h h'
  have s1 := half_spec (octP A B C D) lo' hi' h2 (hm _ _)
  have b1 := half_bd (octP A B C D) lo' hi' h2
  have t1 : octP A B C D (half (octP A B C D) lo' hi') = true := by
    rcases s1.1 with h | h
    · rw [h]; exact hP
    · exact h
  have t2 : octP A B C D (half (octP A B C D) lo' hi' + 1) = false := by
    cases hx : octP A B C D (half (octP A B C D) lo' hi' + 1)
    · rfl
    · have := hN _ hx
      have := s1.2 _ (Int.lt_succ _) this
      rw [hx] at this; cases this
  have s2 := half_spec (octP A B C D) lo hi h1 (hm _ _)
  have b2 := half_bd (octP A B C D) lo hi h1
  have u1 : octP A B C D (half (octP A B C D) lo hi) = true := by
    rcases s2.1 with h | h
    · rw [h]; exact hP'
    · exact h
  refine ⟨?_, t1, t2⟩
  rcases Int.lt_trichotomy (half (octP A B C D) lo' hi') (half (octP A B C D) lo hi) with h | h | h
  · have := octP_mono hD (show half (octP A B C D) lo' hi' + 1 ≤ half (octP A B C D) lo hi by omega) u1
    rw [t2] at this; cases this
  · exact h
  · have h3 := hN' _ t1
    have := s2.2 _ h h3
    rw [t1] at this; cases this
theorem gcdI_mul (g x y : Int) (hg : 1 ≤ g) : gcdI (g * x) (g * y) = g * gcdI x y := by
  unfold gcdI
  rw [Int.gcd_mul_left]
  rw [Int.natCast_mul]; congr 1; omega
theorem gcd4_mul (g a b c d : Int) (hg : 1 ≤ g) : gcd4 (g * a) (g * b) (g * c) (g * d) = g * gcd4 a b c d := by
  rw [← gcd4_eq, ← gcd4_eq, gcdI_mul g a b hg, gcdI_mul g c d hg, gcdI_mul g _ _ hg]
theorem nrm_scale (g a b c d x : Int) (hg : 1 ≤ g) : nrm (g * a) (g * b) (g * c) (g * d) (g * x) = nrm a b c d x := by
  unfold nrm
  rw [gcd4_mul g a b c d hg, Int.mul_tdiv_mul_of_pos _ _ (by omega)]
theorem okN_scale (g a b c d : Int) (hg : 1 ≤ g) : okN (g * a) (g * b) (g * c) (g * d) = okN a b c d := by
  unfold okN
  rw [nrm_scale g a b c d a hg, nrm_scale g a b c d b hg, nrm_scale g a b c d c hg, nrm_scale g a b c d d hg]
theorem pX_scale (g a b c d x : Int) (hg : 1 ≤ g) : pX (g * a) (g * b) (g * c) (g * d) (g * x) = pX a b c d x := by
  unfold pX
  rw [okN_scale g a b c d hg, nrm_scale g a b c d x hg]
theorem pE_scale (g a b c d : Int) (hg : 1 ≤ g) : pE (g * a) (g * b) (g * c) (g * d) = pE a b c d := by
  unfold pE
  rw [okN_scale g a b c d hg]
end Go.Proofs.YtbagmfnedgjndaaDoor
