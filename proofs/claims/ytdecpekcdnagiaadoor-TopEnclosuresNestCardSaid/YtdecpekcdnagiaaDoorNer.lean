/-
  The walk of near of the statements over the chapters: where it returns true the pitch is valid.
-/
import Derived.Test.YtdecpekcdnagiaaDoorPir
namespace Go.Proofs.YtdecpekcdnagiaaDoor
open Go.RowKit
set_option maxRecDepth 100000 in
set_option maxHeartbeats 1600000 in
theorem near60_any (a b c d : Int) (w : World) :
    Calls Tryd.prog 5 #[.agg #[.int .i64 a, .int .i64 b, .int .i64 c, .int .i64 d]] w fun e w' => ∃ v : Bool, e = .returned (.bool v) ∧ (v = true → okP a b c d = true) ∧ Below w.heap.size w w' := by
  have i0 := fun w => ridx0 (.int .i64 a) (.int .i64 b) (.int .i64 c) w
  have i1 := fun w => ridx1 (.int .i64 a) (.int .i64 b) (.int .i64 c) w
  have i2 := fun w => ridx2 (.int .i64 a) (.int .i64 b) (.int .i64 c) w
  go_enter Tryd.func5, Tryd.ntmps5
  go_wp2_with fail
  refine wp_loop_rounds 4 ?_
  repeat any_goals (rw [rounds_succ]; go_wp2_with (first | (go_at_call 6; refine (Within_any _ _ _ _).mono ?_; rintro e w3 ⟨rfl, rfl⟩) | (go_at_call 13; refine (isPitch_any _ _ _ _ _).mono ?_; rintro e w3 ⟨rfl, h3⟩)))
  all_goals go_returns
  all_goals first | (exact ⟨false, rfl, (fun h => by cases h), by go_grown⟩) | (exact ⟨_, rfl, id, below_via (by go_grown) h3⟩) | (exact ⟨_, rfl, id, by go_grown⟩)
end Go.Proofs.YtdecpekcdnagiaaDoor
