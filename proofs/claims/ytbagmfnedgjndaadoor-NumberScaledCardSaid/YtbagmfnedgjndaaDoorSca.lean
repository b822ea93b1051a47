/-
  Scaled: one product of a number and a fraction, rounded down, by two ways (the program's and the reference's). Plain lemmas and the walks of productDown and down.
-/
import Derived.Test.YtbagmfnedgjndaaDoorFra
import Derived.Deep.RegionHeld3
namespace Go.Proofs.YtbagmfnedgjndaaDoor
open Go.RowKit

/-- the product rounded down -/
def pdF (x n d : Int) : Int := dn (x * n) d
def pdB (x n d : Int) : Bool := decide (-1000000000000000 ≤ pdF x n d ∧ pdF x n d ≤ 1000000000000000)
theorem pdF_eq (x n d : Int) (hd : 1 ≤ d) : pdF x n d = dn x d * n + dn ((x - dn x d * d) * n) d := by
  unfold pdF dn
  have e : x * n = (x - x / d * d) * n + d * (x / d * n) := by
    rw [Int.sub_mul, Int.mul_assoc (x / d), Int.mul_left_comm (x / d) d n]; omega
  conv => lhs; rw [e]
  rw [Int.add_mul_ediv_left _ _ (by omega)]; omega
theorem rem_bd (x d : Int) (hd : 1 ≤ d) : 0 ≤ x - dn x d * d ∧ x - dn x d * d < d := by
  have h1 := Int.mul_ediv_add_emod x d
  have h2 := Int.emod_nonneg x (show d ≠ 0 by omega)
  have h3 := Int.emod_lt_of_pos x (show 0 < d by omega)
  unfold dn
  rw [Int.mul_comm (x / d) d]
  omega
theorem dnr_bd {r n d : Int} (hd : 1 ≤ d) (h0 : 0 ≤ r) (h1 : r < d) : -(sz n) ≤ dn (r * n) d ∧ dn (r * n) d ≤ sz n := by
  have a0 : -(sz n) ≤ n := by unfold sz; omega
  have a1 : n ≤ sz n := by unfold sz; omega
  have b0 := sz_nonneg n
  have c1 : r * n ≤ d * sz n := Int.le_trans (Int.mul_le_mul_of_nonneg_left a1 h0) (Int.mul_le_mul_of_nonneg_right (by omega) b0)
  have c0 : d * -(sz n) ≤ r * n := by
    have := Int.mul_le_mul_of_nonneg_left a0 h0
    have h3 : r * sz n ≤ d * sz n := Int.mul_le_mul_of_nonneg_right (by omega) b0
    rw [Int.mul_neg] at this ⊢; omega
  unfold dn
  constructor
  · exact (Int.le_ediv_iff_mul_le (by omega)).2 (by rw [Int.mul_comm]; exact c0)
  · have := Int.ediv_le_ediv (show 0 < d by omega) c1
    rw [Int.mul_ediv_cancel_left _ (by omega)] at this; exact this
/-- where the first factor is too great, the product does not fit -/
theorem pd_far {x n d : Int} (hd : 1 ≤ d) (hn0 : -1000000000 ≤ n) (hn1 : n ≤ 1000000000) (hz : n ≠ 0) (h : sz (dn x d) > 2000000000000000 / sz n) : pdB x n d = false := by
  have h1 := rem_bd x d hd
  have h2 := dnr_bd (n := n) hd h1.1 h1.2
  have e := pdF_eq x n d hd
  have hs : 1 ≤ sz n := by unfold sz; omega
  have hs1 : sz n ≤ 1000000000 := by unfold sz; omega
  have h3 : 2000000000000000 / sz n + 1 ≤ sz (dn x d) := by omega
  have h4 : (2000000000000000 / sz n + 1) * sz n ≤ sz (dn x d) * sz n := Int.mul_le_mul_of_nonneg_right h3 (by omega)
  have h5 : 2000000000000000 < (2000000000000000 / sz n + 1) * sz n := by
    have := Int.mul_ediv_add_emod 2000000000000000 (sz n)
    have := Int.emod_lt_of_pos 2000000000000000 (show 0 < sz n by omega)
    rw [Int.add_mul, Int.mul_comm]; omega
  have h6 : sz (dn x d) * sz n = sz (dn x d * n) := by unfold sz; rw [Int.natAbs_mul]; simp
  unfold pdB
  apply decide_eq_false
  rw [e]
  generalize dn ((x - dn x d * d) * n) d = t at *
  generalize dn x d * n = p at *
  unfold sz at *
  omega
theorem pd_near {x n d : Int} (hz : n ≠ 0) (h : sz (dn x d) ≤ 2000000000000000 / sz n) :
    -2000000000000000 ≤ dn x d * n ∧ dn x d * n ≤ 2000000000000000 := by
  have hs : 1 ≤ sz n := by unfold sz; omega
  have h4 : sz (dn x d) * sz n ≤ 2000000000000000 / sz n * sz n := Int.mul_le_mul_of_nonneg_right h (by omega)
  have h5 : 2000000000000000 / sz n * sz n ≤ 2000000000000000 := Int.ediv_mul_le _ (by omega)
  have h6 : sz (dn x d) * sz n = sz (dn x d * n) := by unfold sz; rw [Int.natAbs_mul]; simp
  rw [h6] at h4
  generalize dn x d * n = p at *
  have h7 : sz p ≤ 2000000000000000 := Int.le_trans h4 h5
  unfold sz at h7
  omega
theorem pd_zero (x d : Int) : pdF x 0 d = 0 := by unfold pdF dn; simp
end Go.Proofs.YtbagmfnedgjndaaDoor
