/-
  The references of bearings: size, Lowest, steep, CheckBearing, DownBearing.
-/
import Derived.Test.YtahfliboanphkaaBea
import Derived.Test.YtahfliboanphkaaVec
namespace Go.Proofs.Ytahfliboanphkaa
open Go.RowKit
def szB (m a b c : Int) : Bool := inR a (-m) m && (inR b (-m) m && inR c (-m) m)
set_option maxRecDepth 100000 in
set_option maxHeartbeats 1600000 in
theorem size3_any (a b c m : Int) (w : World) (m0 : 0 ≤ m) (m1 : m ≤ 9223372036854775807) :
    Calls Try.prog 48 #[vec a b c, .int .i64 m] w fun e w' => e = .returned (.bool (szB m a b c)) ∧ Below w.heap.size w w' := by
  cases h0 : inR a (-m) m
  · have F := Lib.hid (show szB m a b c = false by unfold szB; rw [h0]; rfl)
    go_enter Try.func48, Try.ntmps48
    go_wp2_with fail
    refine wp_loop_rounds 4 ?_
    iterate 1 (rw [rounds_succ]; go_wp2_with (go_at_call 32; refine (Within_any _ _ _ _).mono ?_; rintro e w' ⟨rfl, rfl⟩))
    go_ret
    exact ⟨ret_bool (by rw [F.out]), by (repeat' (first | (with_reducible exact Below.refl _ _) | (with_reducible assumption) | (with_reducible refine Below.drew ?_) | (with_reducible refine below_drewN ?_ _) | (with_reducible refine Below.setCell ?_ ?_ _) | (with_reducible refine Below.alloc ?_ ?_ _) | go_size | omega))⟩
  cases h1 : inR b (-m) m
  · have F := Lib.hid (show szB m a b c = false by unfold szB; rw [h0, h1]; rfl)
    go_enter Try.func48, Try.ntmps48
    go_wp2_with fail
    refine wp_loop_rounds 4 ?_
    iterate 2 (rw [rounds_succ]; go_wp2_with (go_at_call 32; refine (Within_any _ _ _ _).mono ?_; rintro e w' ⟨rfl, rfl⟩))
    go_ret
    exact ⟨ret_bool (by rw [F.out]), by (repeat' (first | (with_reducible exact Below.refl _ _) | (with_reducible assumption) | (with_reducible refine Below.drew ?_) | (with_reducible refine below_drewN ?_ _) | (with_reducible refine Below.setCell ?_ ?_ _) | (with_reducible refine Below.alloc ?_ ?_ _) | go_size | omega))⟩
  cases h2 : inR c (-m) m
  · have F := Lib.hid (show szB m a b c = false by unfold szB; rw [h0, h1, h2]; rfl)
    go_enter Try.func48, Try.ntmps48
    go_wp2_with fail
    refine wp_loop_rounds 4 ?_
    iterate 3 (rw [rounds_succ]; go_wp2_with (go_at_call 32; refine (Within_any _ _ _ _).mono ?_; rintro e w' ⟨rfl, rfl⟩))
    go_ret
    exact ⟨ret_bool (by rw [F.out]), by (repeat' (first | (with_reducible exact Below.refl _ _) | (with_reducible assumption) | (with_reducible refine Below.drew ?_) | (with_reducible refine below_drewN ?_ _) | (with_reducible refine Below.setCell ?_ ?_ _) | (with_reducible refine Below.alloc ?_ ?_ _) | go_size | omega))⟩
  · have F := Lib.hid (show szB m a b c = true by unfold szB; rw [h0, h1, h2]; rfl)
    go_enter Try.func48, Try.ntmps48
    go_wp2_with fail
    refine wp_loop_rounds 4 ?_
    iterate 4 (rw [rounds_succ]; go_wp2_with (go_at_call 32; refine (Within_any _ _ _ _).mono ?_; rintro e w' ⟨rfl, rfl⟩))
    go_ret
    exact ⟨ret_bool (by rw [F.out]), by (repeat' (first | (with_reducible exact Below.refl _ _) | (with_reducible assumption) | (with_reducible refine Below.drew ?_) | (with_reducible refine below_drewN ?_ _) | (with_reducible refine Below.setCell ?_ ?_ _) | (with_reducible refine Below.alloc ?_ ?_ _) | go_size | omega))⟩
theorem szB_bey (m a b c : Int) : szB m a b c = !beyV m a b c := by unfold szB beyV inR inB; simp [Bool.and_assoc]
set_option maxRecDepth 100000 in
set_option maxHeartbeats 1600000 in
theorem lowest_any (n d : Int) (w : World) (h0 : -4000000000000000000 ≤ n) (h1 : n ≤ 4000000000000000000) (hd : 1 ≤ d) (hd' : d ≤ 4000000000000000000) :
    Calls Try.prog 61 #[.int .i64 n, .int .i64 d] w fun e w' => e = .returned (.agg #[.int .i64 (redN n d), .int .i64 (redD n d)]) ∧ Below w.heap.size w w' := by
  have g := gcdI_le (x := d) (y := n) hd
  have gc : gcdI d n = gcdI n d := by unfold gcdI; rw [Int.gcd_comm]
  rw [gc] at g
  obtain ⟨g0, g1⟩ := g
  have CG := Lib.hid (fun u => Gcd_any n d u (by omega) (by omega) (by omega) (by omega) (by omega))
  have HN := Lib.hid (show redN n d = n.tdiv (gcdI n d) from rfl)
  have HD := Lib.hid (show redD n d = d.tdiv (gcdI n d) from rfl)
  obtain ⟨n0, n2⟩ := tdiv_bd (g := gcdI n d) h0 h1
  obtain ⟨e0, e2⟩ := tdiv_bd (g := gcdI n d) (show -4000000000000000000 ≤ d by omega) hd'
  clear gc
  go_enter Try.func61, Try.ntmps61
  go_wp2_with fail
  refine (CG.out _).mono ?_
  rintro e w1 ⟨rfl, m1, rfl⟩
  generalize gcdI n d = g at *
  go_wp2_with fail
  go_region
  all_goals go_wp2_with fail
  all_goals refine bodyPost_ret (v := .agg #[.int .i64 (redN n d), .int .i64 (redD n d)]) (by simp [results, Try.results61, go_sem, HN.out, HD.out]) rfl ⟨rfl, by (repeat' (first | (with_reducible exact Below.refl _ _) | (with_reducible assumption) | (with_reducible refine Below.drew ?_) | (with_reducible refine below_drewN ?_ _) | (with_reducible refine Below.setCell ?_ ?_ _) | (with_reducible refine Below.alloc ?_ ?_ _) | go_size | omega))⟩
end Go.Proofs.Ytahfliboanphkaa
