/-
  Fractions: the walks of Reduced, Error, CheckFrac and of the references IsLowest, CheckFrac.
-/
import Derived.Test.YtahfliboanphkaaBase
import Derived.Deep.RegionHeld3
import Derived.StillTailTactics
namespace Go.Proofs.Ytahfliboanphkaa
open Go.RowKit
theorem still_tail {P : Program} {id : Nat} {Q : Exit → Act → World → Prop} {a : Act} {w : World} {l : List Oper} (n : Nat) (hm : P.follows .mixedOrders = true) (hB : Region.lexTailB .any l.toArray n = true)
    (h : wpStill P l.toArray w.drew (fun a' => wpList P l.toArray Q (l.drop n) a' w.drew) (l.take n) a) : (Code.region id l.toArray true).wp P Q a w := wp_region_still_tail n hm hB h
theorem mul_bd {a b A B : Int} (h0 : -A ≤ a) (h1 : a ≤ A) (h2 : -B ≤ b) (h3 : b ≤ B) : -(A * B) ≤ a * b ∧ a * b ≤ A * B := by
  have hA : 0 ≤ A := by omega
  have hB : 0 ≤ B := by omega
  have e : (a * b).natAbs ≤ (A * B).natAbs := by
    rw [Int.natAbs_mul, Int.natAbs_mul]
    exact Nat.mul_le_mul (by omega) (by omega)
  have : 0 ≤ A * B := Int.mul_nonneg hA hB
  omega

theorem gcdI_le {x y : Int} (hx : 1 ≤ x) : 1 ≤ gcdI x y ∧ gcdI x y ≤ x := by
  unfold gcdI
  have h1 : (Int.gcd x y : Int) ∣ x := Int.gcd_dvd_left ..
  have h2 := Int.le_of_dvd (by omega) h1
  have h3 : 0 < Int.gcd x y := Int.gcd_pos_of_ne_zero_left _ (by omega)
  omega
theorem tdiv_bd {a g M : Int} (h0 : -M ≤ a) (h1 : a ≤ M) : -M ≤ a.tdiv g ∧ a.tdiv g ≤ M := by
  have h2 : (a.tdiv g).natAbs ≤ a.natAbs := by rw [Int.natAbs_tdiv]; exact Nat.div_le_self _ _
  omega
def redN (n d : Int) : Int := n.tdiv (gcdI n d)
def redD (n d : Int) : Int := d.tdiv (gcdI n d)
set_option maxHeartbeats 800000 in
theorem reduced_any (n d : Int) (w : World) (h0 : -4000000000000000000 ≤ n) (h1 : n ≤ 4000000000000000000) (hd : 1 ≤ d) (hd' : d ≤ 4000000000000000000) :
    Calls Try.prog 79 #[.int .i64 n, .int .i64 d] w fun e w' => e = .returned (.agg #[.int .i64 (redN n d), .int .i64 (redD n d)]) ∧ Below w.heap.size w w' := by
  have a0 := sz_nonneg n
  have a1 := sz_le h0 h1
  have d0 := sz_nonneg d
  have d1 := sz_le (show -4000000000000000000 ≤ d by omega) hd'
  have g := gcdI_le (x := d) (y := n) hd
  have gc : gcdI d n = gcdI (sz n) (sz d) := by rw [gcdI_sz]; unfold gcdI; rw [Int.gcd_comm]
  rw [gc] at g
  have g0 := g.1
  have g1 := g.2
  have hN : redN n d = n.tdiv (gcdI (sz n) (sz d)) := by unfold redN; rw [gcdI_sz]
  have hD : redD n d = d.tdiv (gcdI (sz n) (sz d)) := by unfold redD; rw [gcdI_sz]
  have n1 := tdiv_bd (g := gcdI (sz n) (sz d)) h0 h1
  have n0 := n1.1
  have n2 := n1.2
  have e1 := tdiv_bd (g := gcdI (sz n) (sz d)) (show -4000000000000000000 ≤ d by omega) hd'
  have e0 := e1.1
  have e2 := e1.2
  have HN := Lib.hid hN; have HD := Lib.hid hD
  clear hN hD n1 e1 g gc
  go_enter Try.func79, Try.ntmps79
  go_wp2_with (first | (go_at_call 90; refine (size_any _ _ (by omega) (by omega)).mono ?_; rintro e w' ⟨rfl, rfl⟩) | (go_at_call 97; refine (gcd_any _ _ _ (by omega) (by omega) (by omega) (by omega)).mono ?_; rintro e w' ⟨rfl, _, rfl⟩))
  generalize gcdI (sz n) (sz d) = g at *
  go_region
  all_goals go_wp2
  all_goals refine bodyPost_ret (v := .agg #[.int .i64 (redN n d), .int .i64 (redD n d)]) (by simp [results, Try.results79, go_sem, HN.out, HD.out]) rfl ⟨rfl, ?_⟩
  all_goals repeat' (first | (with_reducible exact Below.refl _ _) | (with_reducible assumption) | (with_reducible refine below_drewN ?_ _) | (with_reducible refine Below.drew ?_) | (with_reducible refine Below.setCell ?_ ?_ _) | (with_reducible refine Below.alloc ?_ ?_ _) | go_size)
def chkF (n d : Int) : Int := if d < 1 then 3 else if gcdI n d ≠ 1 then 3 else if inB n 1000000000 && decide (d ≤ 1000000000) then 0 else 2
theorem gcdI_sw (n d : Int) : gcdI n d = gcdI d n := by unfold gcdI; rw [Int.gcd_comm]
theorem chkF_ok {n d : Int} (h : chkF n d = 0) : 1 ≤ d ∧ d ≤ 1000000000 ∧ -1000000000 ≤ n ∧ n ≤ 1000000000 ∧ gcdI n d = 1 := by
  unfold chkF at h
  split at h
  · omega
  · split at h
    · omega
    · split at h
      · rename_i h1 h2 h3
        unfold inB at h3; simp at h3; omega
      · omega
def smallF (n d : Int) : Bool := inB n 1000000000 && decide (d ≤ 1000000000)
def isL (n d : Int) : Bool := decide (0 < d) && decide (gcdI n d = 1)
end Go.Proofs.Ytahfliboanphkaa
