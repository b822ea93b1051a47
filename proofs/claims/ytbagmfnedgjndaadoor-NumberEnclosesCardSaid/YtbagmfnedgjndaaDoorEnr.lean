/-
  Plain lemmas: the enclosure by the exponents as they are (the reference's way) is that by the normal form (the program's way).
-/
import Derived.Test.YtbagmfnedgjndaaDoorHalf
import Derived.Test.YtbagmfnedgjndaaDoorSgn
import Derived.Test.YtbagmfnedgjndaaDoorPir2
namespace Go.Proofs.YtbagmfnedgjndaaDoor

theorem gcd4_dvd (a b c d : Int) : gcd4 a b c d ∣ a ∧ gcd4 a b c d ∣ b ∧ gcd4 a b c d ∣ c ∧ gcd4 a b c d ∣ d := by
  rw [← gcd4_eq]
  have l : ∀ x y : Int, gcdI x y ∣ x := fun x y => Int.gcd_dvd_left ..
  have r : ∀ x y : Int, gcdI x y ∣ y := fun x y => Int.gcd_dvd_right ..
  exact ⟨Int.dvd_trans (l _ _) (l _ _), Int.dvd_trans (l _ _) (r _ _), Int.dvd_trans (r _ _) (l _ _), Int.dvd_trans (r _ _) (r _ _)⟩
theorem nrm_mul (a b c d : Int) : gcd4 a b c d * nrm a b c d a = a ∧ gcd4 a b c d * nrm a b c d b = b ∧ gcd4 a b c d * nrm a b c d c = c ∧ gcd4 a b c d * nrm a b c d d = d := by
  obtain ⟨h1, h2, h3, h4⟩ := gcd4_dvd a b c d
  exact ⟨Int.mul_tdiv_cancel' h1, Int.mul_tdiv_cancel' h2, Int.mul_tdiv_cancel' h3, Int.mul_tdiv_cancel' h4⟩
theorem sgn_nrm (a b c d : Int) (hd : 1 ≤ d) : sgn (nrm a b c d a) (nrm a b c d b) (nrm a b c d c) = sgn a b c := by
  obtain ⟨h1, h2, h3, _⟩ := nrm_mul a b c d
  have := sgn_mulI (gcd4 a b c d) (gcd4_pos hd) (nrm a b c d a) (nrm a b c d b) (nrm a b c d c)
  rw [h1, h2, h3] at this
  exact this.symm
theorem okN_of {a b c d : Int} (h : okP a b c d = true) : okN a b c d = true := by
  obtain ⟨⟨d0, d1⟩, ⟨a0, a1⟩, ⟨b0, b1⟩, c0, c1⟩ := okP_bd h
  obtain ⟨_, _, _, h4⟩ := nrm_mul a b c d
  have g := gcd4_pos (a := a) (b := b) (c := c) d0
  have na := tdiv_bd (g := gcd4 a b c d) a0 a1
  have nb := tdiv_bd (g := gcd4 a b c d) b0 b1
  have nc := tdiv_bd (g := gcd4 a b c d) c0 c1
  have nd := tdiv_bd (g := gcd4 a b c d) (show -12 ≤ d by omega) d1
  have e : nrm a b c d d = d.tdiv (gcd4 a b c d) := rfl
  have nd1 : 1 ≤ nrm a b c d d := by
    rcases Int.lt_or_le (nrm a b c d d) 1 with h' | h'
    · have := Int.mul_le_mul_of_nonneg_left (show nrm a b c d d ≤ 0 by omega) (show 0 ≤ gcd4 a b c d by omega)
      omega
    · exact h'
  unfold okN okP inB
  rw [e] at *
  unfold nrm
  simp; omega
theorem half_succ (P : Int → Bool) (N : Int) (hN : 0 ≤ N) (hm : ∀ a b, 0 < a → a ≤ b → b ≤ N + 1 → P b = true → P a = true) :
    (half P 0 (N + 1) ≤ N → half P 0 N = half P 0 (N + 1)) ∧ (N < half P 0 (N + 1) → half P 0 (N + 1) = N + 1 ∧ half P 0 N = N ∧ P (N + 1) = true) := by
  have hs := half_spec P 0 (N + 1) (by omega) hm
  have hb := half_bd P 0 (N + 1) (by omega)
  constructor
  · intro h
    exact half_unique P 0 N _ hb.1 h (fun a b h1 h2 h3 => hm a b h1 h2 (by omega)) hs.1 (fun n h1 h2 => hs.2 n h1 (by omega))
  · intro h
    have e : half P 0 (N + 1) = N + 1 := by omega
    have hp : P (N + 1) = true := by
      rcases hs.1 with h' | h'
      · omega
      · rwa [e] at h'
    refine ⟨e, half_unique P 0 N N hN (Int.le_refl _) (fun a b h1 h2 h3 => hm a b h1 h2 (by omega)) ?_ (fun n h1 h2 => by omega), hp⟩
    rcases (show N = 0 ∨ 0 < N by omega) with h0 | h0
    · exact .inl h0
    · exact .inr (hm N (N + 1) h0 (by omega) (by omega) hp)
theorem under_pos (a b c : Int) : 0 < under a b c := by
  unfold under over pw
  exact Nat.mul_pos (Nat.mul_pos (Nat.pow_pos (by omega)) (Nat.pow_pos (by omega))) (Nat.pow_pos (by omega))
theorem over_pos (a b c : Int) : 0 < over a b c := by
  have := under_pos (-a) (-b) (-c); rwa [under_neg] at this

/-- the reference's enclosure -/
def rLo (a b c d t : Int) : Int := half (leE (under a b c) (over a b c * t.toNat ^ d.toNat) d) 0 1000000000000001
def rHi (a b c d t : Int) : Int := if cmpE (under a b c) (over a b c * t.toNat ^ d.toNat) d (rLo a b c d t) ≠ 0 then rLo a b c d t + 1 else rLo a b c d t
theorem leE_pow {u z u' z' : Nat} {d D g : Int} (hg : 1 ≤ g) (hD : 0 ≤ D) (hu : u = u' ^ g.toNat) (hz : z = z' ^ g.toNat) (hd : d = g * D) (n : Int) : cmpE u z d n = cmpE u' z' D n := by
  unfold cmpE
  have e : u * n.toNat ^ d.toNat = (u' * n.toNat ^ D.toNat) ^ g.toNat := by
    rw [Nat.mul_pow, hu, ← Nat.pow_mul]
    congr 2
    obtain ⟨g, rfl⟩ := Int.eq_ofNat_of_zero_le (show 0 ≤ g by omega)
    obtain ⟨D, rfl⟩ := Int.eq_ofNat_of_zero_le hD
    subst hd
    rw [toNat_mulN]; simp [Nat.mul_comm]
  rw [e, hz]
  exact cmpI_pow _ _ _ (by omega)
theorem enc_ref {a b c d t : Int} (hk : okP a b c d = true) (t0 : 1 ≤ t) (t1 : t ≤ 1000000000) :
    (rHi a b c d t ≤ 1000000000000000 → encE a b c d t = 0 ∧ encL a b c d t = rLo a b c d t ∧ encH a b c d t = rHi a b c d t) ∧
    (1000000000000000 < rHi a b c d t → encE a b c d t = 8 ∧ encL a b c d t = 0 ∧ encH a b c d t = 0) := by
  obtain ⟨⟨d0, d1⟩, _⟩ := okP_bd hk
  have hN := okN_of hk
  have hg := gcd4_pos (a := a) (b := b) (c := c) d0
  obtain ⟨e1, e2, e3, e4⟩ := nrm_mul a b c d
  have hX : ∀ x, nX a b c d x = nrm a b c d x := fun x => by unfold nX pX; rw [if_pos hk, if_pos hN]
  have hE : nE a b c d = 0 := by unfold nE pE; rw [if_pos hk, if_pos hN]
  have f := enc_fin (a := a) (b := b) (c := c) (d := d) hE (hX a) (hX b) (hX c) (hX d) t0 t1 rfl rfl
  have hD : 1 ≤ nrm a b c d d := by
    have := hN; unfold okN okP at this; simp at this; omega
  generalize nrm a b c d a = A at *
  generalize nrm a b c d b = B at *
  generalize nrm a b c d c = C at *
  generalize nrm a b c d d = D at *
  generalize gcd4 a b c d = g at *
  have hu : under a b c = under A B C ^ g.toNat := by
    have := under_mul g.toNat A B C
    rw [Int.toNat_of_nonneg (by omega), e1, e2, e3] at this; exact this
  have ho : over a b c = over A B C ^ g.toNat := by
    have := over_mul g.toNat A B C
    rw [Int.toNat_of_nonneg (by omega), e1, e2, e3] at this; exact this
  have hz : over a b c * t.toNat ^ d.toNat = (over A B C * t.toNat ^ D.toNat) ^ g.toNat := by
    rw [Nat.mul_pow, ho, ← Nat.pow_mul]
    congr 2
    obtain ⟨g, rfl⟩ := Int.eq_ofNat_of_zero_le (show 0 ≤ g by omega)
    obtain ⟨D, rfl⟩ := Int.eq_ofNat_of_zero_le (show 0 ≤ D by omega)
    rw [← e4, toNat_mulN]; simp [Nat.mul_comm]
  have hc := leE_pow (u' := under A B C) (z' := over A B C * t.toNat ^ D.toNat) hg (show 0 ≤ D by omega) hu hz e4.symm
  have hU := under_pos A B C
  have hP : leE (under a b c) (over a b c * t.toNat ^ d.toNat) d = leE (under A B C) (over A B C * t.toNat ^ D.toNat) D := by
    funext n; unfold leE; rw [hc]
  unfold rHi rLo
  rw [hP]
  simp only [hc]
  have hL : encLo (under A B C) (over A B C * t.toNat ^ D.toNat) D = half (leE (under A B C) (over A B C * t.toNat ^ D.toNat) D) 0 1000000000000000 := rfl
  have hZ : 0 < over A B C * t.toNat ^ D.toNat := Nat.mul_pos (over_pos _ _ _) (Nat.pow_pos (by omega))
  generalize over A B C * t.toNat ^ D.toNat = Z at *
  generalize under A B C = U at *
  clear hu ho hz hc hP
  have hm : ∀ x y, 0 < x → x ≤ y → y ≤ (1000000000000000 : Int) + 1 → leE U Z D y = true → leE U Z D x = true := fun x y _ h _ h' => leE_mono h h'
  have hs := half_succ (leE U Z D) 1000000000000000 (by omega) hm
  have hp := half_spec (leE U Z D) 0 (1000000000000000 + 1) (by omega) hm
  have hb := half_bd (leE U Z D) 0 (1000000000000000 + 1) (by omega)
  rw [show (1000000000000000 : Int) + 1 = 1000000000000001 from rfl] at hs hp hb
  generalize half (leE U Z D) 0 1000000000000001 = R at *
  rcases Int.lt_or_le 1000000000000000 R with hR | hR
  · obtain ⟨h1, h2, h3⟩ := hs.2 hR
    rw [h2] at hL
    have hlt : cmpE U Z D 1000000000000000 < 0 := by
      rw [ltE_iff]
      have h4 := leE_iff.1 h3
      have h5 : (1000000000000000 : Int).toNat ^ D.toNat < (1000000000000001 : Int).toNat ^ D.toNat := Nat.pow_lt_pow_left (by decide) (by omega)
      exact Nat.lt_of_lt_of_le (Nat.mul_lt_mul_of_pos_left h5 hU) h4
    have hH := encHi_up hL hlt
    have := f.2 (by rw [hH]; omega)
    refine ⟨fun h => ?_, fun _ => this⟩
    exfalso
    split at h <;> omega
  · have h1 := hs.1 hR
    rw [h1] at hL
    rcases (show R = 0 ∨ R ≠ 0 by omega) with h0 | h0
    · subst h0
      have hne : cmpE U Z D 0 ≠ 0 := by
        have : cmpE U Z D 0 < 0 := by
          rw [ltE_iff]
          rw [show (0 : Int).toNat = 0 from rfl, Nat.zero_pow (by omega)]; simpa using hZ
        omega
      have hH := encHi_zero hL
      rw [if_pos hne]
      rw [hH, hL] at f
      exact ⟨fun _ => f.1 (by omega), fun h => by omega⟩
    · have hle : leE U Z D R = true := by
        rcases hp.1 with h' | h'
        · exact absurd h' h0
        · exact h'
      by_cases hlt : cmpE U Z D R < 0
      · have hH := encHi_up hL hlt
        rw [if_pos (by omega)]
        rw [hH, hL] at f
        exact f
      · have hH := encHi_same hL h0 hlt
        have : cmpE U Z D R = 0 := by
          unfold leE at hle
          have := of_decide_eq_true hle
          omega
        rw [if_neg (by omega)]
        rw [hH, hL] at f
        exact f
end Go.Proofs.YtbagmfnedgjndaaDoor
