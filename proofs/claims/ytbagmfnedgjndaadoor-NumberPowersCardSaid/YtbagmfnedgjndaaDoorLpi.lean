/-
  The walk of the law's pitches for one pitch: the error of the pitch.
-/
import Derived.Test.YtbagmfnedgjndaaDoorPir
import Derived.Test.YtbagmfnedgjndaaDoorFra
namespace Go.Proofs.YtbagmfnedgjndaaDoor
open Go.RowKit
set_option maxRecDepth 100000 in
set_option maxHeartbeats 800000 in
theorem pitches1_any (g cap : Nat) (a b c d : Int) (w : World) (h0 : w.cell? ⟨g, 0, none⟩ = some (.int .i64 a)) (h1 : w.cell? ⟨g, 1, none⟩ = some (.int .i64 b)) (h2 : w.cell? ⟨g, 2, none⟩ = some (.int .i64 c)) (h3 : w.cell? ⟨g, 3, none⟩ = some (.int .i64 d)) :
    Calls Tryd.prog 34 #[.slice (some ⟨g, 0, none⟩) 1 cap] w fun e w' => e = .returned (.int .i64 (chkP a b c d)) ∧ Below w.heap.size w w' := by
  cases hk : okP a b c d
  all_goals
    have HE := Lib.hid (show chkP a b c d = _ by unfold chkP; rw [hk])
    have IP0 := fun u : World => isPitch_any a b c d u
    rw [hk] at IP0
    have IP := Lib.hid IP0
    clear IP0 hk
    go_enter Tryd.func34, Tryd.ntmps34
    go_wp2_with fail
    refine wp_loop_rounds 2 ?_
    repeat any_goals (rw [rounds_succ]; go_wp2_with (go_at_call 84; refine (IP.out _).mono ?_; rintro e w3 ⟨rfl, hb⟩; have hB := hb))
    go_returns
    exact ⟨ret_int (by rw [HE.out]; rfl), by go_grown⟩
end Go.Proofs.YtbagmfnedgjndaaDoor
