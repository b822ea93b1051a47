/-
  The walks of ranges: CheckRange, firstError, Plus, Meet, and their references.
-/
import Derived.Test.YtdecpekcdnagiaaDoorBase
import Derived.Deep.RegionHeld3
namespace Go.Proofs.YtdecpekcdnagiaaDoor
open Go.RowKit

def chkR (a b : Int) : Int := if inB a 1000000000000000 && inB b 1000000000000000 then (if b < a then 9 else 0) else 2
theorem inR_inB (n m : Int) : inR n (-m) m = inB n m := rfl
set_option maxHeartbeats 800000 in
theorem chkR_any (a b : Int) (w : World) :
    Calls Tryd.prog 23 #[.agg #[.int .i64 a, .int .i64 b]] w fun e w' => e = .returned (.int .i64 (chkR a b)) ∧ Below w.heap.size w w' := by
  cases h1 : inB a 1000000000000000 <;> cases h2 : inB b 1000000000000000 <;> by_cases h3 : b < a
  all_goals
    have hf : Hid (chkR a b = if inB a 1000000000000000 && inB b 1000000000000000 then (if b < a then 9 else 0) else 2) := rfl
    go_enter Tryd.func23, Tryd.ntmps23
    go_wp2_with (go_at_call 33; refine (within_any _ _ _ (by omega) (by omega)).mono ?_; rintro e w' ⟨rfl, rfl⟩)
    go_ret
    refine ⟨ret_int ?_, by go_grown⟩
    rw [hf.out, h1, h2]
    first | rfl | (simp; omega)
def err2 (c d : Int) : Int := if c ≠ 0 then c else d
set_option maxHeartbeats 800000 in
theorem ferr2_any (b : Nat) (c d : Int) (w : World) (h0 : w.cell? ⟨b, 0, none⟩ = some (.int .i64 c)) (h1 : w.cell? ⟨b, 1, none⟩ = some (.int .i64 d)) :
    Calls Tryd.prog 22 #[.slice (some ⟨b, 0, none⟩) 2 2] w fun e w' => e = .returned (.int .i64 (err2 c d)) ∧ w' = w := by
  by_cases hc : c = 0
  · subst hc
    by_cases hd : d = 0
    · subst hd
      go_enter Tryd.func22, Tryd.ntmps22
      go_wp2_with fail
      refine wp_loop_rounds 3 ?_
      repeat (rw [rounds_succ]; go_wp2_with fail)
      go_ret
      exact ⟨rfl, rfl⟩
    · have hd' : (d != 0) = true := by simpa using hd
      go_enter Tryd.func22, Tryd.ntmps22
      go_wp2_with fail
      refine wp_loop_rounds 3 ?_
      repeat (rw [rounds_succ]; go_wp2_with fail)
      go_ret
      exact ⟨rfl, rfl⟩
  · have hc' : (c != 0) = true := by simpa using hc
    have HC := Lib.hid hc; clear hc
    go_enter Tryd.func22, Tryd.ntmps22
    go_wp2_with fail
    refine wp_loop_rounds 3 ?_
    repeat (rw [rounds_succ]; go_wp2_with fail)
    go_ret
    exact ⟨ret_int (by unfold err2; rw [if_pos HC.out]), rfl⟩
end Go.Proofs.YtdecpekcdnagiaaDoor
