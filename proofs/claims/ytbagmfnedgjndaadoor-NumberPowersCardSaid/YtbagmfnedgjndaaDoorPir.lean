/-
  The walks of the references of pitches: IsPitch.
-/
import Derived.Test.YtbagmfnedgjndaaDoorPit2
namespace Go.Proofs.YtbagmfnedgjndaaDoor
open Go.RowKit

theorem ridx0 (x y z : Value) (w : World) : (Instr.index 101 (.agg #[x, y, z]) (.int .i64 0)).run Tryd.prog w = .ok x w := by kernel_rfl
theorem ridx1 (x y z : Value) (w : World) : (Instr.index 101 (.agg #[x, y, z]) (.int .i64 1)).run Tryd.prog w = .ok y w := by kernel_rfl
theorem ridx2 (x y z : Value) (w : World) : (Instr.index 101 (.agg #[x, y, z]) (.int .i64 2)).run Tryd.prog w = .ok z w := by kernel_rfl
set_option maxHeartbeats 800000 in
theorem isPitch_any (a b c d : Int) (w : World) :
    Calls Tryd.prog 84 #[.agg #[.int .i64 a, .int .i64 b, .int .i64 c, .int .i64 d]] w fun e w' => e = .returned (.bool (okP a b c d)) ∧ Below w.heap.size w w' := by
  have i0 := fun w => ridx0 (.int .i64 a) (.int .i64 b) (.int .i64 c) w
  have i1 := fun w => ridx1 (.int .i64 a) (.int .i64 b) (.int .i64 c) w
  have i2 := fun w => ridx2 (.int .i64 a) (.int .i64 b) (.int .i64 c) w
  have HO := Lib.hid (show okP a b c d = (inR d 1 12 && (inR a (-400) 400 && (inR b (-400) 400 && inR c (-400) 400))) from rfl)
  cases ha : inR a (-400) 400
  · go_enter Tryd.func84, Tryd.ntmps84
    go_wp2_with fail
    refine wp_loop_rounds 4 ?_
    repeat any_goals (rw [rounds_succ]; go_wp2_with (go_at_call 28; refine (Within_any _ _ _ _).mono ?_; rintro e w3 ⟨rfl, rfl⟩))
    go_returns
    exact ⟨ret_bool (by rw [HO.out, ha]; simp), by go_grown⟩
  cases hb : inR b (-400) 400
  · go_enter Tryd.func84, Tryd.ntmps84
    go_wp2_with fail
    refine wp_loop_rounds 4 ?_
    repeat any_goals (rw [rounds_succ]; go_wp2_with (go_at_call 28; refine (Within_any _ _ _ _).mono ?_; rintro e w3 ⟨rfl, rfl⟩))
    go_returns
    exact ⟨ret_bool (by rw [HO.out, ha, hb]; simp), by go_grown⟩
  cases hc : inR c (-400) 400
  · go_enter Tryd.func84, Tryd.ntmps84
    go_wp2_with fail
    refine wp_loop_rounds 4 ?_
    repeat any_goals (rw [rounds_succ]; go_wp2_with (go_at_call 28; refine (Within_any _ _ _ _).mono ?_; rintro e w3 ⟨rfl, rfl⟩))
    go_returns
    exact ⟨ret_bool (by rw [HO.out, ha, hb, hc]; simp), by go_grown⟩
  · go_enter Tryd.func84, Tryd.ntmps84
    go_wp2_with fail
    refine wp_loop_rounds 4 ?_
    repeat any_goals (rw [rounds_succ]; go_wp2_with (go_at_call 28; refine (Within_any _ _ _ _).mono ?_; rintro e w3 ⟨rfl, rfl⟩))
    go_returns
    exact ⟨ret_bool (by rw [HO.out, ha, hb, hc]; simp), by go_grown⟩
end Go.Proofs.YtbagmfnedgjndaaDoor
