/-
  The walk of the law's near: it returns a truth value and leaves older memory as it was.
-/
import Derived.Test.YtbagmfnedgjndaaDoorPir
namespace Go.Proofs.YtbagmfnedgjndaaDoor
open Go.RowKit
set_option maxRecDepth 100000 in
set_option maxHeartbeats 1600000 in
theorem near_any (a b c d : Int) (w : World) :
    Calls Tryd.prog 40 #[.agg #[.int .i64 a, .int .i64 b, .int .i64 c, .int .i64 d]] w fun e w' => ∃ v : Bool, e = .returned (.bool v) ∧ Below w.heap.size w w' := by
  have i0 := fun w => ridx0 (.int .i64 a) (.int .i64 b) (.int .i64 c) w
  have i1 := fun w => ridx1 (.int .i64 a) (.int .i64 b) (.int .i64 c) w
  have i2 := fun w => ridx2 (.int .i64 a) (.int .i64 b) (.int .i64 c) w
  go_enter Tryd.func40, Tryd.ntmps40
  go_wp2_with fail
  refine wp_loop_rounds 4 ?_
  repeat any_goals (rw [rounds_succ]; go_wp2_with (go_at_call 28; refine (Within_any _ _ _ _).mono ?_; rintro e w3 ⟨rfl, rfl⟩))
  all_goals go_returns
  all_goals exact ⟨_, rfl, by go_grown⟩
end Go.Proofs.YtbagmfnedgjndaaDoor
