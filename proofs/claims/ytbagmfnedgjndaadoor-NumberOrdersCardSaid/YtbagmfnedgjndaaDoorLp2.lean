/-
  The walk of the law's pitches for two pitches: the first error.
-/
import Derived.Test.YtbagmfnedgjndaaDoorLpi
namespace Go.Proofs.YtbagmfnedgjndaaDoor
open Go.RowKit
set_option maxRecDepth 100000 in
set_option maxHeartbeats 1600000 in
theorem pitches2_any (g cap : Nat) (a b c d x y z t : Int) (w : World) (h0 : w.cell? ⟨g, 0, none⟩ = some (.int .i64 a)) (h1 : w.cell? ⟨g, 1, none⟩ = some (.int .i64 b)) (h2 : w.cell? ⟨g, 2, none⟩ = some (.int .i64 c)) (h3 : w.cell? ⟨g, 3, none⟩ = some (.int .i64 d))
    (h4 : w.cell? ⟨g, 4, none⟩ = some (.int .i64 x)) (h5 : w.cell? ⟨g, 5, none⟩ = some (.int .i64 y)) (h6 : w.cell? ⟨g, 6, none⟩ = some (.int .i64 z)) (h7 : w.cell? ⟨g, 7, none⟩ = some (.int .i64 t)) (hg : g < w.heap.size) :
    Calls Tryd.prog 34 #[.slice (some ⟨g, 0, none⟩) 2 cap] w fun e w' => e = .returned (.int .i64 (err2 (chkP a b c d) (chkP x y z t))) ∧ Below w.heap.size w w' := by
  have HX := Lib.hid (fun (w' : World) (hb : Below w.heap.size w w') => show w'.cell? ⟨g, 4, none⟩ = some (.int .i64 x) ∧ w'.cell? ⟨g, 5, none⟩ = some (.int .i64 y) ∧ w'.cell? ⟨g, 6, none⟩ = some (.int .i64 z) ∧ w'.cell? ⟨g, 7, none⟩ = some (.int .i64 t) from
    ⟨((bcell hb).1 g 4 hg).trans h4, ((bcell hb).1 g 5 hg).trans h5, ((bcell hb).1 g 6 hg).trans h6, ((bcell hb).1 g 7 hg).trans h7⟩)
  clear h4 h5 h6 h7
  cases hk : okP a b c d
  · have HE := Lib.hid (show err2 (chkP a b c d) (chkP x y z t) = 2 by unfold chkP; rw [hk]; rfl)
    have IP0 := fun u : World => isPitch_any a b c d u
    rw [hk] at IP0
    have IP := Lib.hid IP0
    clear IP0 hk
    go_enter Tryd.func34, Tryd.ntmps34
    go_wp2_with fail
    refine wp_loop_rounds 3 ?_
    rw [rounds_succ]
    go_wp2_with (go_at_call 84; refine (IP.out _).mono ?_; rintro e w3 ⟨rfl, hb⟩; have hB := hb)
    go_returns
    exact ⟨ret_int (by rw [HE.out]), by go_grown⟩
  · cases hk2 : okP x y z t
    all_goals
      have HE := Lib.hid (show err2 (chkP a b c d) (chkP x y z t) = _ by unfold chkP; rw [hk, hk2])
      have IP0 := fun u : World => isPitch_any a b c d u
      have IQ0 := fun u : World => isPitch_any x y z t u
      rw [hk] at IP0
      rw [hk2] at IQ0
      have IP := Lib.hid IP0
      have IQ := Lib.hid IQ0
      clear IP0 hk IQ0 hk2
      go_enter Tryd.func34, Tryd.ntmps34
      go_wp2_with fail
      refine wp_loop_rounds 3 ?_
      rw [rounds_succ]
      go_wp2_with (go_at_call 84; refine (IP.out _).mono ?_; rintro e w3 ⟨rfl, hb⟩; have hB := hb)
      obtain ⟨h4, h5, h6, h7⟩ := HX.out w3 hB
      rw [rounds_succ]
      go_wp2_with (go_at_call 84; refine (IQ.out _).mono ?_; rintro e w4 ⟨rfl, hb2⟩; have hB2 := hB.trans (hb2.mono hB.size))
      try rw [rounds_succ]
      go_wp2_with fail
      go_returns
      exact ⟨ret_int (by rw [HE.out]; rfl), by go_grown⟩
end Go.Proofs.YtbagmfnedgjndaaDoor
