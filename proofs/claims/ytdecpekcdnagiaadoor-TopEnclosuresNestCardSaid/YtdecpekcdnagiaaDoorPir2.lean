/-
  The walk of the reference of Normal.
-/
import Derived.Test.YtdecpekcdnagiaaDoorPir
import Derived.Deep.RegionHeld3
namespace Go.Proofs.YtdecpekcdnagiaaDoor
open Go.RowKit
theorem gcdI_sw (n d : Int) : gcdI n d = gcdI d n := by unfold gcdI; rw [Int.gcd_comm]

theorem gcd4_eq (a b c d : Int) : gcdI (gcdI a b) (gcdI c d) = gcd4 a b c d := by
  unfold gcd4 gcdI sz
  simp only [Int.gcd, Int.natAbs_natCast]
  congr 1
  generalize a.natAbs = p; generalize b.natAbs = q; generalize c.natAbs = r; generalize d.natAbs = s
  ac_rfl
theorem gcdI_bd {x y m : Int} (h0 : -m ≤ x) (h1 : x ≤ m) (h2 : -m ≤ y) (h3 : y ≤ m) : gcdI x y ≤ m := by
  unfold gcdI Int.gcd
  rcases Nat.eq_zero_or_pos x.natAbs with h | h
  · rw [h, Nat.gcd_zero_left]; omega
  · have := Nat.gcd_le_left y.natAbs h; omega
theorem gcd4_pos {a b c d : Int} (hd : 1 ≤ d) : 1 ≤ gcd4 a b c d := by
  rw [← gcd4_eq]
  have h1 := (gcdI_le (x := d) (y := c) hd).1
  rw [gcdI_sw] at h1
  have h2 := (gcdI_le (x := gcdI c d) (y := gcdI a b) h1).1
  rw [gcdI_sw] at h2
  exact h2

end Go.Proofs.YtdecpekcdnagiaaDoor
