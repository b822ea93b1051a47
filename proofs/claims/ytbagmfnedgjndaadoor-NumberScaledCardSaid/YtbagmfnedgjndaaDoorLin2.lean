/-
  The walks of reduced, lineOfThree, worse.
-/
import Derived.Test.YtbagmfnedgjndaaDoorLin
namespace Go.Proofs.YtbagmfnedgjndaaDoor
open Go.RowKit

def redN (n d : Int) : Int := n.tdiv (gcdI n d)
def redD (n d : Int) : Int := d.tdiv (gcdI n d)
set_option maxHeartbeats 800000 in
theorem reduced_any (n d : Int) (w : World) (h0 : -4000000000000000000 ≤ n) (h1 : n ≤ 4000000000000000000) (hd : 1 ≤ d) (hd' : d ≤ 4000000000000000000) :
    Calls Tryd.prog 110 #[.int .i64 n, .int .i64 d] w fun e w' => e = .returned (.agg #[.int .i64 (redN n d), .int .i64 (redD n d)]) ∧ Below w.heap.size w w' := by
  have a0 := sz_nonneg n
  have a1 := sz_le h0 h1
  have d0 := sz_nonneg d
  have d1 := sz_le (show -4000000000000000000 ≤ d by omega) hd'
  have g := gcdI_le (x := d) (y := n) hd
  have gc : gcdI d n = gcdI (sz n) (sz d) := by rw [gcdI_sz]; unfold gcdI; rw [Int.gcd_comm]
  rw [gc] at g
  have g0 := g.1
  have g1 := g.2
  have hN : redN n d = n.tdiv (gcdI (sz n) (sz d)) := by unfold redN; rw [gcdI_sz]
  have hD : redD n d = d.tdiv (gcdI (sz n) (sz d)) := by unfold redD; rw [gcdI_sz]
  have n1 := tdiv_bd (g := gcdI (sz n) (sz d)) h0 h1
  have n0 := n1.1
  have n2 := n1.2
  have e1 := tdiv_bd (g := gcdI (sz n) (sz d)) (show -4000000000000000000 ≤ d by omega) hd'
  have e0 := e1.1
  have e2 := e1.2
  have HN := Lib.hid hN; have HD := Lib.hid hD
  clear hN hD n1 e1 g gc
  go_enter Tryd.func110, Tryd.ntmps110
  go_wp2_with (first | (go_at_call 71; refine (size_any _ _ (by omega) (by omega)).mono ?_; rintro e w' ⟨rfl, rfl⟩) | (go_at_call 70; refine (gcd_any _ _ _ (by omega) (by omega) (by omega) (by omega)).mono ?_; rintro e w' ⟨rfl, _, rfl⟩))
  generalize gcdI (sz n) (sz d) = g at *
  go_region
  all_goals go_wp2
  all_goals refine bodyPost_ret (v := .agg #[.int .i64 (redN n d), .int .i64 (redD n d)]) (by simp [results, Tryd.results110, go_sem, HN.out, HD.out]) rfl ⟨rfl, ?_⟩
  all_goals repeat' (first | (with_reducible exact Below.refl _ _) | (with_reducible assumption) | (with_reducible refine below_drewN ?_ _) | (with_reducible refine Below.drew ?_) | (with_reducible refine Below.setCell ?_ ?_ _) | (with_reducible refine Below.alloc ?_ ?_ _) | go_size)
end Go.Proofs.YtbagmfnedgjndaaDoor
