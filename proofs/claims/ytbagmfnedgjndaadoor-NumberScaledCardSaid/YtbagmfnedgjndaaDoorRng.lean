/-
  The walks of ranges: CheckRange, firstError, Plus, Meet, and their references.
-/
import Derived.Test.YtbagmfnedgjndaaDoorBase
import Derived.Deep.RegionHeld3
namespace Go.Proofs.YtbagmfnedgjndaaDoor
open Go.RowKit

def chkR (a b : Int) : Int := if inB a 1000000000000000 && inB b 1000000000000000 then (if b < a then 9 else 0) else 2
theorem inR_inB (n m : Int) : inR n (-m) m = inB n m := rfl
set_option maxHeartbeats 800000 in
theorem chkR_any (a b : Int) (w : World) :
    Calls Tryd.prog 49 #[.agg #[.int .i64 a, .int .i64 b]] w fun e w' => e = .returned (.int .i64 (chkR a b)) ∧ Below w.heap.size w w' := by
  cases h1 : inB a 1000000000000000 <;> cases h2 : inB b 1000000000000000 <;> by_cases h3 : b < a
  all_goals
    have hf : Hid (chkR a b = if inB a 1000000000000000 && inB b 1000000000000000 then (if b < a then 9 else 0) else 2) := rfl
    go_enter Tryd.func49, Tryd.ntmps49
    go_wp2_with (go_at_call 72; refine (within_any _ _ _ (by omega) (by omega)).mono ?_; rintro e w' ⟨rfl, rfl⟩)
    go_ret
    refine ⟨ret_int ?_, by go_grown⟩
    rw [hf.out, h1, h2]
    first | rfl | (simp; omega)
set_option maxHeartbeats 800000 in
theorem rchkR_any (a b : Int) (w : World) :
    Calls Tryd.prog 50 #[.agg #[.int .i64 a, .int .i64 b]] w fun e w' => e = .returned (.int .i64 (chkR a b)) ∧ Below w.heap.size w w' := by
  cases h1 : inR a (-1000000000000000) 1000000000000000 <;> cases h2 : inR b (-1000000000000000) 1000000000000000 <;> by_cases h3 : b < a
  all_goals
    have hf : Hid (chkR a b = if inR a (-1000000000000000) 1000000000000000 && inR b (-1000000000000000) 1000000000000000 then (if b < a then 9 else 0) else 2) := rfl
    go_enter Tryd.func50, Tryd.ntmps50
    go_wp2_with (go_at_call 28; refine (Within_any _ _ _ _).mono ?_; rintro e w' ⟨rfl, rfl⟩)
    go_ret
    refine ⟨ret_int ?_, by go_grown⟩
    rw [hf.out, h1, h2]
    first | rfl | (simp; omega)

def err2 (c d : Int) : Int := if c ≠ 0 then c else d
set_option maxHeartbeats 800000 in
theorem ferr2_any (b : Nat) (c d : Int) (w : World) (h0 : w.cell? ⟨b, 0, none⟩ = some (.int .i64 c)) (h1 : w.cell? ⟨b, 1, none⟩ = some (.int .i64 d)) :
    Calls Tryd.prog 67 #[.slice (some ⟨b, 0, none⟩) 2 2] w fun e w' => e = .returned (.int .i64 (err2 c d)) ∧ w' = w := by
  by_cases hc : c = 0
  · subst hc
    by_cases hd : d = 0
    · subst hd
      go_enter Tryd.func67, Tryd.ntmps67
      go_wp2_with fail
      refine wp_loop_rounds 3 ?_
      repeat (rw [rounds_succ]; go_wp2_with fail)
      go_ret
      exact ⟨rfl, rfl⟩
    · have hd' : (d != 0) = true := by simpa using hd
      go_enter Tryd.func67, Tryd.ntmps67
      go_wp2_with fail
      refine wp_loop_rounds 3 ?_
      repeat (rw [rounds_succ]; go_wp2_with fail)
      go_ret
      exact ⟨rfl, rfl⟩
  · have hc' : (c != 0) = true := by simpa using hc
    have HC := Lib.hid hc; clear hc
    go_enter Tryd.func67, Tryd.ntmps67
    go_wp2_with fail
    refine wp_loop_rounds 3 ?_
    repeat (rw [rounds_succ]; go_wp2_with fail)
    go_ret
    exact ⟨ret_int (by unfold err2; rw [if_pos HC.out]), rfl⟩
end Go.Proofs.YtbagmfnedgjndaaDoor
