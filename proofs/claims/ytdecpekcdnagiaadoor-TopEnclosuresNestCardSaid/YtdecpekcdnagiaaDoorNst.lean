/-
  Plain lemmas on enclosures: those of a product lie within those of a factor, those of a sum within the sum. No condition but the ranges.
-/
import Derived.Test.YtdecpekcdnagiaaDoorEnr
namespace Go.Proofs.YtdecpekcdnagiaaDoor

theorem rLo_spec (a b c d t : Int) (hd : 1 ≤ d) :
    (0 ≤ rLo a b c d t ∧ rLo a b c d t ≤ 1000000000000001) ∧ under a b c * (rLo a b c d t).toNat ^ d.toNat ≤ over a b c * t.toNat ^ d.toNat ∧
      ∀ n, rLo a b c d t < n → n ≤ 1000000000000001 → over a b c * t.toNat ^ d.toNat < under a b c * n.toNat ^ d.toNat := by
  have hb := half_bd (leE (under a b c) (over a b c * t.toNat ^ d.toNat) d) 0 1000000000000001 (by omega)
  have hs := half_spec (leE (under a b c) (over a b c * t.toNat ^ d.toNat) d) 0 1000000000000001 (by omega) (fun _ _ _ h _ h' => leE_mono h h')
  have hr : rLo a b c d t = half (leE (under a b c) (over a b c * t.toNat ^ d.toNat) d) 0 1000000000000001 := rfl
  rw [← hr] at hb hs
  refine ⟨hb, ?_, fun n h1 h2 => ?_⟩
  · rcases hs.1 with h | h
    · rw [h]
      have : (0 : Int).toNat ^ d.toNat = 0 := Nat.zero_pow (by omega)
      rw [this]; omega
    · exact leE_iff.1 h
  · have h3 := hs.2 n h1 h2
    rcases Nat.lt_or_ge (over a b c * t.toNat ^ d.toNat) (under a b c * n.toNat ^ d.toNat) with h | h
    · exact h
    · rw [leE_iff.2 h] at h3; cases h3
theorem pow_lt {U x y k : Nat} (hU : 0 < U) (h : U * x ^ k < U * y ^ k) : x < y := by
  have h1 : x ^ k < y ^ k := Nat.lt_of_mul_lt_mul_left h
  rcases Nat.lt_or_ge x y with h2 | h2
  · exact h2
  · have := Nat.pow_le_pow_left h2 k; omega
theorem pow_le {U x y k : Nat} (hU : 0 < U) (hk : 1 ≤ k) (h : U * x ^ k ≤ U * y ^ k) : x ≤ y := by
  have h1 : x ^ k ≤ y ^ k := Nat.le_of_mul_le_mul_left h hU
  rcases Nat.lt_or_ge y x with h2 | h2
  · have := Nat.pow_lt_pow_left h2 (n := k) (by omega); omega
  · exact h2
/-- the upper bound is the least number that is not below -/
theorem hi_le {a b c d t x : Int} (hd : 1 ≤ d) (hx : 0 ≤ x) (h : over a b c * t.toNat ^ d.toNat ≤ under a b c * x.toNat ^ d.toNat) : rHi a b c d t ≤ x := by
  obtain ⟨⟨r0, r1⟩, h1, h2⟩ := rLo_spec a b c d t hd
  unfold rHi
  have hU := under_pos a b c
  by_cases he : cmpE (under a b c) (over a b c * t.toNat ^ d.toNat) d (rLo a b c d t) ≠ 0
  · rw [if_pos he]
    have h3 : under a b c * (rLo a b c d t).toNat ^ d.toNat ≠ over a b c * t.toNat ^ d.toNat := by
      intro hq; apply he; unfold cmpE cmpI; rw [hq, if_neg (by omega), if_neg (by omega)]
    have := pow_lt hU (show under a b c * (rLo a b c d t).toNat ^ d.toNat < under a b c * x.toNat ^ d.toNat by omega)
    omega
  · rw [if_neg he]
    have h3 : under a b c * (rLo a b c d t).toNat ^ d.toNat = over a b c * t.toNat ^ d.toNat := by
      unfold cmpE cmpI at he; split at he
      · omega
      · split at he
        · omega
        · omega
    have := pow_le hU (show 1 ≤ d.toNat by omega) (show under a b c * (rLo a b c d t).toNat ^ d.toNat ≤ under a b c * x.toNat ^ d.toNat by omega)
    omega
theorem lo_ge {a b c d t x : Int} (hd : 1 ≤ d) (hx : x ≤ 1000000000000001) (h : under a b c * x.toNat ^ d.toNat ≤ over a b c * t.toNat ^ d.toNat) : x ≤ rLo a b c d t := by
  obtain ⟨⟨r0, r1⟩, h1, h2⟩ := rLo_spec a b c d t hd
  rcases Int.lt_or_le (rLo a b c d t) x with h3 | h3
  · have := h2 x h3 hx; omega
  · exact h3
theorem hi_spec {a b c d t : Int} (hd : 1 ≤ d) (hh : rHi a b c d t ≤ 1000000000000000) : over a b c * t.toNat ^ d.toNat ≤ under a b c * (rHi a b c d t).toNat ^ d.toNat := by
  obtain ⟨⟨r0, r1⟩, h1, h2⟩ := rLo_spec a b c d t hd
  unfold rHi at *
  by_cases he : cmpE (under a b c) (over a b c * t.toNat ^ d.toNat) d (rLo a b c d t) ≠ 0
  · rw [if_pos he] at *
    have := h2 (rLo a b c d t + 1) (by omega) (by omega)
    omega
  · rw [if_neg he] at *
    unfold cmpE cmpI at he; split at he
    · omega
    · split at he
      · omega
      · omega
theorem lohi (a b c d t : Int) : rLo a b c d t ≤ rHi a b c d t ∧ rHi a b c d t ≤ rLo a b c d t + 1 := by
  unfold rHi; split <;> omega
theorem frac_add_le {U O x y m n k : Nat} (hm : 1 ≤ m) (hn : 1 ≤ n) (h1 : U * x ^ k ≤ O * m ^ k) (h2 : U * y ^ k ≤ O * n ^ k) : U * (x + y) ^ k ≤ O * (m + n) ^ k := by
  have key : ∀ {p q : Nat}, 1 ≤ q → U * p ^ k ≤ O * q ^ k → (x + y) * q ≤ p * (m + n) → U * (x + y) ^ k ≤ O * (m + n) ^ k := by
    intro p q hq h h3
    have h4 : U * ((x + y) * q) ^ k ≤ U * (p * (m + n)) ^ k := Nat.mul_le_mul_left _ (Nat.pow_le_pow_left h3 k)
    rw [Nat.mul_pow, Nat.mul_pow, ← Nat.mul_assoc, ← Nat.mul_assoc] at h4
    have h5 : U * p ^ k * (m + n) ^ k ≤ O * q ^ k * (m + n) ^ k := Nat.mul_le_mul_right _ h
    have h6 : U * (x + y) ^ k * q ^ k ≤ O * (m + n) ^ k * q ^ k := by
      rw [Nat.mul_right_comm O] at h5; omega
    exact Nat.le_of_mul_le_mul_right h6 (Nat.pow_pos (by omega))
  rcases Nat.le_total (x * n) (y * m) with h | h
  · exact key hn h2 (by rw [Nat.add_mul, Nat.mul_add]; omega)
  · exact key hm h1 (by rw [Nat.add_mul, Nat.mul_add]; omega)
theorem frac_add_ge {U O x y m n k : Nat} (hm : 1 ≤ m) (hn : 1 ≤ n) (h1 : O * m ^ k ≤ U * x ^ k) (h2 : O * n ^ k ≤ U * y ^ k) : O * (m + n) ^ k ≤ U * (x + y) ^ k := by
  have key : ∀ {p q : Nat}, 1 ≤ q → O * q ^ k ≤ U * p ^ k → p * (m + n) ≤ (x + y) * q → O * (m + n) ^ k ≤ U * (x + y) ^ k := by
    intro p q hq h h3
    have h4 : U * (p * (m + n)) ^ k ≤ U * ((x + y) * q) ^ k := Nat.mul_le_mul_left _ (Nat.pow_le_pow_left h3 k)
    rw [Nat.mul_pow, Nat.mul_pow, ← Nat.mul_assoc, ← Nat.mul_assoc] at h4
    have h5 : O * q ^ k * (m + n) ^ k ≤ U * p ^ k * (m + n) ^ k := Nat.mul_le_mul_right _ h
    have h6 : O * (m + n) ^ k * q ^ k ≤ U * (x + y) ^ k * q ^ k := by
      rw [Nat.mul_right_comm O] at h5; omega
    exact Nat.le_of_mul_le_mul_right h6 (Nat.pow_pos (by omega))
  rcases Nat.le_total (x * n) (y * m) with h | h
  · exact key hm h1 (by rw [Nat.add_mul, Nat.mul_add]; omega)
  · exact key hn h2 (by rw [Nat.add_mul, Nat.mul_add]; omega)
theorem toNat_add {m n : Int} (hm : 0 ≤ m) (hn : 0 ≤ n) : (m + n).toNat = m.toNat + n.toNat := by omega
theorem toNat_mul {m n : Int} (hm : 0 ≤ m) (hn : 0 ≤ n) : (m * n).toNat = m.toNat * n.toNat := Int.toNat_mul hm hn

/-- the statement's four comparisons, and that the coarser enclosures are found where the finer ones are -/
theorem nests {a b c d m n : Int} (hk : okP a b c d = true) (m0 : 1 ≤ m) (m1 : m ≤ 30000) (n0 : 1 ≤ n) (n1 : n ≤ 30000)
    (hc : encE a b c d (m * n) = 0) (hs : encE a b c d (m + n) = 0) :
    encE a b c d m = 0 ∧ encE a b c d n = 0 ∧ (0 ≤ encL a b c d m ∧ encL a b c d m ≤ encH a b c d m ∧ encH a b c d m ≤ 1000000000000000) ∧ (0 ≤ encL a b c d n ∧ encL a b c d n ≤ encH a b c d n ∧ encH a b c d n ≤ 1000000000000000) ∧
      (0 ≤ encL a b c d (m * n) ∧ encL a b c d (m * n) ≤ 1000000000000000) ∧
      encL a b c d m * n ≤ encL a b c d (m * n) ∧ (encH a b c d (m * n) ≤ encH a b c d m * n ∧ encH a b c d m * n ≤ 2000000000000000) ∧ encL a b c d m + encL a b c d n ≤ encL a b c d (m + n) ∧ encH a b c d (m + n) ≤ encH a b c d m + encH a b c d n := by
  have hd : 1 ≤ d := (okP_bd hk).1.1
  have mn0 : 1 ≤ m * n := by have := Int.mul_le_mul_of_nonneg_left n0 (show 0 ≤ m by omega); omega
  have mn1 : m * n ≤ 900000000 := by
    have h1 := Int.mul_le_mul_of_nonneg_left n1 (show 0 ≤ m by omega)
    omega
  have fc := enc_ref hk mn0 (show m * n ≤ 1000000000 by omega)
  have fs := enc_ref hk (show 1 ≤ m + n by omega) (show m + n ≤ 1000000000 by omega)
  have fm := enc_ref hk m0 (show m ≤ 1000000000 by omega)
  have fn := enc_ref hk n0 (show n ≤ 1000000000 by omega)
  have gc : rHi a b c d (m * n) ≤ 1000000000000000 := by
    rcases Int.lt_or_le 1000000000000000 (rHi a b c d (m * n)) with h | h
    · have := (fc.2 h).1; omega
    · exact h
  have gs : rHi a b c d (m + n) ≤ 1000000000000000 := by
    rcases Int.lt_or_le 1000000000000000 (rHi a b c d (m + n)) with h | h
    · have := (fs.2 h).1; omega
    · exact h
  obtain ⟨_, c2, c3⟩ := fc.1 gc
  obtain ⟨_, s2, s3⟩ := fs.1 gs
  have lc := lohi a b c d (m * n); have ls := lohi a b c d (m + n); have lm := lohi a b c d m; have ln := lohi a b c d n
  have Rc := rLo_spec a b c d (m * n) hd
  have Rm := rLo_spec a b c d m hd
  have Rn := rLo_spec a b c d n hd
  have Rs := rLo_spec a b c d (m + n) hd
  have Hc := hi_spec hd gc
  have hle : ∀ {x : Int}, 0 ≤ x → x ≤ m * n → rHi a b c d x ≤ rHi a b c d (m * n) := by
    intro x h0 h1
    refine hi_le hd (by omega) (Nat.le_trans ?_ Hc)
    exact Nat.mul_le_mul_left _ (Nat.pow_le_pow_left (by omega) _)
  have hm : m ≤ m * n := by have := Int.mul_le_mul_of_nonneg_left n0 (show 0 ≤ m by omega); omega
  have hn : n ≤ m * n := by have := Int.mul_le_mul_of_nonneg_right m0 (show 0 ≤ n by omega); omega
  have gm := Int.le_trans (hle (by omega) hm) gc
  have gn := Int.le_trans (hle (by omega) hn) gc
  obtain ⟨e1, m2, m3⟩ := fm.1 gm
  obtain ⟨e2, n2, n3⟩ := fn.1 gn
  have Hm := hi_spec hd gm
  have Hn := hi_spec hd gn
  refine ⟨e1, e2, ?_⟩
  rw [m2, m3, n2, n3, c2, c3, s2, s3]
  have q1 : rHi a b c d (m * n) ≤ rHi a b c d m * n := by
    refine hi_le hd (Int.mul_nonneg (by omega) (by omega)) ?_
    rw [toNat_mul (by omega) (by omega), toNat_mul (by omega) (by omega), Nat.mul_pow, Nat.mul_pow, ← Nat.mul_assoc, ← Nat.mul_assoc]
    exact Nat.mul_le_mul_right _ Hm
  have q2 : rLo a b c d m * n ≤ rLo a b c d (m * n) := by
    rcases Int.lt_or_le 1000000000000001 (rLo a b c d m * n) with h | h
    · exfalso
      have h1 : under a b c * (rLo a b c d m * n).toNat ^ d.toNat ≤ over a b c * (m * n).toNat ^ d.toNat := by
        rw [toNat_mul (by omega) (by omega), toNat_mul (by omega) (by omega), Nat.mul_pow, Nat.mul_pow, ← Nat.mul_assoc, ← Nat.mul_assoc]
        exact Nat.mul_le_mul_right _ Rm.2.1
      have h2 := Nat.le_trans h1 Hc
      have h3 := pow_le (under_pos a b c) (show 1 ≤ d.toNat by omega) h2
      omega
    · refine lo_ge hd h ?_
      rw [toNat_mul (by omega) (by omega), toNat_mul (by omega) (by omega), Nat.mul_pow, Nat.mul_pow, ← Nat.mul_assoc, ← Nat.mul_assoc]
      exact Nat.mul_le_mul_right _ Rm.2.1
  have q3 : rLo a b c d m + rLo a b c d n ≤ rLo a b c d (m + n) := by
    have h1 : under a b c * (rLo a b c d m + rLo a b c d n).toNat ^ d.toNat ≤ over a b c * (m + n).toNat ^ d.toNat := by
      rw [toNat_add (by omega) (by omega), toNat_add (by omega) (by omega)]
      exact frac_add_le (by omega) (by omega) Rm.2.1 Rn.2.1
    have h2 := Nat.le_trans h1 (hi_spec hd gs)
    have h3 := pow_le (under_pos a b c) (show 1 ≤ d.toNat by omega) h2
    exact lo_ge hd (by omega) h1
  have q4 : rHi a b c d (m + n) ≤ rHi a b c d m + rHi a b c d n := by
    refine hi_le hd (by omega) ?_
    rw [toNat_add (by omega) (by omega), toNat_add (by omega) (by omega)]
    exact frac_add_ge (by omega) (by omega) Hm Hn
  have q5 : rHi a b c d m * n ≤ 2000000000000000 := by
    have h1 : rHi a b c d m * n ≤ (rLo a b c d m + 1) * n := Int.mul_le_mul_of_nonneg_right lm.2 (by omega)
    rw [Int.add_mul] at h1
    omega
  exact ⟨⟨by omega, by omega, gm⟩, ⟨by omega, by omega, gn⟩, ⟨by omega, by omega⟩, q2, ⟨q1, q5⟩, q3, q4⟩
end Go.Proofs.YtdecpekcdnagiaaDoor
