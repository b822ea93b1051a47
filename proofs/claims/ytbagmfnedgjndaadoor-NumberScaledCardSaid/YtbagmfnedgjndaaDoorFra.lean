/-
  The walks of CheckFrac and of its reference.
-/
import Derived.Test.YtbagmfnedgjndaaDoorLin2
import Derived.Test.YtbagmfnedgjndaaDoorRng3
namespace Go.Proofs.YtbagmfnedgjndaaDoor
open Go.RowKit

def chkF (n d : Int) : Int := if d < 1 then 3 else if gcdI n d ≠ 1 then 3 else if inB n 1000000000 && decide (d ≤ 1000000000) then 0 else 2
theorem gcdI_sw (n d : Int) : gcdI n d = gcdI d n := by unfold gcdI; rw [Int.gcd_comm]
theorem chkF_ok {n d : Int} (h : chkF n d = 0) : 1 ≤ d ∧ d ≤ 1000000000 ∧ -1000000000 ≤ n ∧ n ≤ 1000000000 ∧ gcdI n d = 1 := by
  unfold chkF at h
  split at h
  · omega
  · split at h
    · omega
    · split at h
      · rename_i h1 h2 h3
        unfold inB at h3; simp at h3; omega
      · omega
set_option maxHeartbeats 1600000 in
theorem chkF_any (n d : Int) (w : World) (hn0 : -9223372036854775808 ≤ n) (hn1 : n ≤ 9223372036854775807) (hd0 : -9223372036854775808 ≤ d) (hd1 : d ≤ 9223372036854775807) :
    Calls Tryd.prog 20 #[.agg #[.int .i64 n, .int .i64 d]] w fun e w' => e = .returned (.int .i64 (chkF n d)) ∧ Below w.heap.size w w' := by
  by_cases h1 : d < 1
  · have HF := Lib.hid (show chkF n d = 3 by unfold chkF; rw [if_pos h1])
    go_enter Tryd.func20, Tryd.ntmps20
    go_wp2_with fail
    go_quiet (fail)
    go_wp2_with fail
    go_ret
    exact ⟨ret_int (by rw [HF.out]), below_drewN (by go_grown) _⟩
  · have a0 := sz_nonneg n
    have a1 : sz n ≤ 9223372036854775808 := by unfold sz; omega
    have d0 := sz_nonneg d
    have d1 : sz d ≤ 9223372036854775807 := by unfold sz; omega
    have hg : gcdI (sz n) (sz d) = gcdI n d := gcdI_sz n d
    by_cases h2 : gcdI n d = 1
    · rw [h2] at hg
      by_cases h3 : inB n 1000000000 = true <;> by_cases h4 : d ≤ 1000000000
      all_goals
        have HF := Lib.hid (show chkF n d = if inB n 1000000000 && decide (d ≤ 1000000000) then 0 else 2 by unfold chkF; rw [if_neg h1, if_neg (by omega)])
        try simp only [Bool.not_eq_true] at h3
        simp only [h3, h4] at HF
        go_enter Tryd.func20, Tryd.ntmps20
        go_wp2_with fail
        go_quiet (first | (go_at_call 71; refine (size_any _ _ (by omega) (by omega)).mono ?_; rintro e w9 ⟨rfl, rfl⟩; exact ⟨rfl, _, rfl⟩) | (go_at_call 70; refine (gcd_any _ _ _ (by omega) (by omega) (by omega) (by omega)).mono ?_; rintro e w9 ⟨rfl, m9, rfl⟩; exact ⟨rfl, _, by rw [World.drewN_drewN]⟩))
        go_wp2_with (go_at_call 72; refine (within_any _ _ _ (by omega) (by omega)).mono ?_; rintro e w' ⟨rfl, rfl⟩)
        go_ret
        exact ⟨ret_int (by rw [HF.out]; simp), below_drewN (by go_grown) _⟩
    · have h2' : (gcdI n d != 1) = true := by simpa using h2
      have HF := Lib.hid (show chkF n d = 3 by unfold chkF; rw [if_neg h1, if_pos h2])
      have HG := Lib.hid h2; clear h2
      go_enter Tryd.func20, Tryd.ntmps20
      go_wp2_with fail
      go_quiet (first | (go_at_call 71; refine (size_any _ _ (by omega) (by omega)).mono ?_; rintro e w9 ⟨rfl, rfl⟩; exact ⟨rfl, _, rfl⟩) | (go_at_call 70; refine (gcd_any _ _ _ (by omega) (by omega) (by omega) (by omega)).mono ?_; rw [hg]; rintro e w9 ⟨rfl, m9, rfl⟩; exact ⟨rfl, _, by rw [World.drewN_drewN]⟩))
      go_wp2_with fail
      go_ret
      exact ⟨ret_int (by rw [HF.out]), below_drewN (by go_grown) _⟩

def isL (n d : Int) : Bool := decide (0 < d) && decide (gcdI n d = 1)
set_option maxHeartbeats 1600000 in
theorem isLowest_any (n d : Int) (w : World) (hn0 : -9223372036854775808 ≤ n) (hn1 : n ≤ 9223372036854775807) (hd0 : -9223372036854775808 ≤ d) (hd1 : d ≤ 9223372036854775807) :
    Calls Tryd.prog 73 #[.agg #[.int .i64 n, .int .i64 d]] w fun e w' => e = .returned (.bool (isL n d)) ∧ Below w.heap.size w w' := by
  by_cases h1 : 0 < d
  · have g := gcdI_le (x := d) (y := n) (by omega)
    rw [gcdI_sw] at g
    obtain ⟨g0, g1⟩ := g
    have g2 : gcdI n d ≤ 9223372036854775807 := by omega
    by_cases h2 : gcdI n d = 1
    all_goals
      have HF := Lib.hid (show isL n d = (decide (0 < d) && decide (gcdI n d = 1)) from rfl)
      simp only [h1, h2] at HF
      first | (have h3 : (gcdI n d == 1) = true := by simpa using h2) | (have h3 : (gcdI n d == 1) = false := by simpa using h2)
      have HH := Lib.hid h2
      clear h2
      go_enter Tryd.func73, Tryd.ntmps73
      go_wp2_with fail
      refine (Gcd_any _ _ _ (by omega) (by omega) (by omega) (by omega) (by omega)).mono ?_
      rintro e w9 ⟨rfl, m9, rfl⟩
      go_wp2_with fail
      go_ret
      exact ⟨ret_bool (by rw [HF.out]; simp [HH.out]), below_drewN (by go_grown) _⟩
  · have HF := Lib.hid (show isL n d = false by unfold isL; simp [h1])
    go_enter Tryd.func73, Tryd.ntmps73
    go_wp2_with fail
    first
    | (go_quiet (fail)
       go_wp2_with fail
       go_ret
       exact ⟨ret_bool (by rw [HF.out]), below_drewN (by go_grown) _⟩)
    | (go_ret
       exact ⟨ret_bool (by rw [HF.out]), by go_grown⟩)

set_option maxHeartbeats 1600000 in
theorem rchkF_any (n d : Int) (w : World) (hn0 : -9223372036854775808 ≤ n) (hn1 : n ≤ 9223372036854775807) (hd0 : -9223372036854775808 ≤ d) (hd1 : d ≤ 9223372036854775807) :
    Calls Tryd.prog 21 #[.agg #[.int .i64 n, .int .i64 d]] w fun e w' => e = .returned (.int .i64 (chkF n d)) ∧ Below w.heap.size w w' := by
  cases hl : isL n d
  · have HF := Lib.hid (show chkF n d = 3 by
      unfold isL at hl; unfold chkF; simp at hl
      split
      · rfl
      · rw [if_pos (hl (by omega))])
    go_enter Tryd.func21, Tryd.ntmps21
    go_wp2_with fail
    refine (isLowest_any _ _ _ (by omega) (by omega) (by omega) (by omega)).mono ?_
    rintro e w1 ⟨rfl, h1⟩
    rw [hl]
    have B1 : Below w.heap.size w w1 := below_via (by go_grown) h1
    clear h1
    go_wp2_with fail
    go_ret
    exact ⟨ret_int (by rw [HF.out]), by go_grown⟩
  · cases h3 : inR n (-1000000000) 1000000000 <;> by_cases h4 : d ≤ 1000000000
    all_goals
      have HF := Lib.hid (show chkF n d = if inR n (-1000000000) 1000000000 && decide (d ≤ 1000000000) then 0 else 2 by
        unfold isL at hl; unfold chkF; simp at hl
        rw [if_neg (by omega), if_neg (by omega)]; rfl)
      simp only [h3, h4] at HF
      go_enter Tryd.func21, Tryd.ntmps21
      go_wp2_with fail
      refine (isLowest_any _ _ _ (by omega) (by omega) (by omega) (by omega)).mono ?_
      rintro e w1 ⟨rfl, h1⟩
      rw [hl]
      have B1 : Below w.heap.size w w1 := below_via (by go_grown) h1
      have z1 := B1.size
      obtain ⟨p0, p1, _, _⟩ := ((Box.new w #[.int .i64 n, .int .i64 d] 23 rfl).keep h1).two
      clear h1
      go_wp2_with (go_at_call 28; refine (Within_any _ _ _ _).mono ?_; rintro e w' ⟨rfl, rfl⟩)
      go_ret
      exact ⟨ret_int (by rw [HF.out]; simp), by go_grown⟩
end Go.Proofs.YtbagmfnedgjndaaDoor
