/-
  Plain lemmas on products of powers of 2, 3 and 5: on which side of 1 they lie, and that neither a common factor of the exponents nor a denominator changes this.
-/
import Derived.Test.YtbagmfnedgjndaaDoorPit3
namespace Go.Proofs.YtbagmfnedgjndaaDoor
open Go.RowKit

theorem toNat_mulN (g D : Nat) : ((g : Int) * (D : Int)).toNat = g * D := by
  rw [← Int.natCast_mul]; exact Int.toNat_natCast _
theorem pw_mul (p : Nat) (k : Nat) (e : Int) : pw p (k * e) = pw p e ^ k := by
  unfold pw
  rw [← Nat.pow_mul]
  congr 1
  rcases Int.lt_or_le e 0 with h | h
  · have : (k : Int) * e ≤ 0 := Int.mul_nonpos_of_nonneg_of_nonpos (by omega) (by omega)
    rw [show e.toNat = 0 by omega]; omega
  · obtain ⟨n, rfl⟩ := Int.eq_ofNat_of_zero_le h
    rw [toNat_mulN, Int.toNat_natCast, Nat.mul_comm]
theorem over_mul (k : Nat) (a b c : Int) : over (k * a) (k * b) (k * c) = over a b c ^ k := by
  unfold over
  rw [pw_mul, pw_mul, pw_mul, Nat.mul_pow, Nat.mul_pow]
theorem under_mul (k : Nat) (a b c : Int) : under (k * a) (k * b) (k * c) = under a b c ^ k := by
  unfold under
  rw [← Int.mul_neg, ← Int.mul_neg, ← Int.mul_neg, over_mul]
/-- on which side of 1 -/
def sgn (a b c : Int) : Int := cmpI (over a b c) (under a b c)
theorem cmpI_pow (x y k : Nat) (hk : 1 ≤ k) : cmpI ((x ^ k : Nat) : Int) ((y ^ k : Nat) : Int) = cmpI x y := by
  have h1 : ∀ u v : Nat, u < v → u ^ k < v ^ k := fun u v h => Nat.pow_lt_pow_left h (by omega)
  unfold cmpI
  rcases Nat.lt_trichotomy x y with h | h | h
  · have := h1 _ _ h
    rw [if_pos (by omega), if_pos (by omega)]
  · subst h; rw [if_neg (by omega), if_neg (by omega), if_neg (by omega), if_neg (by omega)]
  · have := h1 _ _ h
    rw [if_neg (by omega), if_pos (by omega), if_neg (by omega), if_pos (by omega)]
theorem sgn_mul (k : Nat) (hk : 1 ≤ k) (a b c : Int) : sgn (k * a) (k * b) (k * c) = sgn a b c := by
  unfold sgn
  rw [over_mul, under_mul, cmpI_pow _ _ _ hk]
theorem sgn_mulI (k : Int) (hk : 1 ≤ k) (a b c : Int) : sgn (k * a) (k * b) (k * c) = sgn a b c := by
  obtain ⟨n, rfl⟩ := Int.eq_ofNat_of_zero_le (show 0 ≤ k by omega)
  exact sgn_mul n (by omega) a b c
theorem under_neg (a b c : Int) : under (-a) (-b) (-c) = over a b c := by
  unfold under; rw [Int.neg_neg, Int.neg_neg, Int.neg_neg]
theorem sgn_neg (a b c : Int) : sgn (-a) (-b) (-c) = -sgn a b c := by
  unfold sgn
  rw [under_neg, show over (-a) (-b) (-c) = under a b c from rfl]
  unfold cmpI
  rcases Int.lt_trichotomy (over a b c : Int) (under a b c) with h | h | h
  · rw [if_neg (by omega), if_pos (by omega), if_pos (by omega)]; rfl
  · rw [if_neg (by omega), if_neg (by omega), if_neg (by omega), if_neg (by omega)]; rfl
  · rw [if_pos (by omega), if_neg (by omega), if_pos (by omega)]
theorem sgn_bd (a b c : Int) : -1 ≤ sgn a b c ∧ sgn a b c ≤ 1 := by
  unfold sgn cmpI; split <;> (try split) <;> omega
end Go.Proofs.YtbagmfnedgjndaaDoor
