/-
  awake returns true: the examples of the document are so. Its condition: the table of primes reads as it is laid.
-/
import Derived.Test.YtbagmfnedgjndaaDoorHalf
import Derived.Test.YtbagmfnedgjndaaDoorAwk
import Derived.Test.YtbagmfnedgjndaaDoorLin5
namespace Go.Proofs.YtbagmfnedgjndaaDoor
open Go.RowKit

theorem comma_any (w : World) : Calls Tryd.prog 65 #[] w fun e w' => e = .returned (.agg #[.int .i64 (-19), .int .i64 12, .int .i64 0, .int .i64 1]) ∧ Below w.heap.size w w' := by
  go_enter Tryd.func65, Tryd.ntmps65
  go_wp2
  go_returns
  exact ⟨rfl, by go_grown⟩
theorem encComma_any (w : World) (hp : Primes w) :
    Calls Tryd.prog 45 #[.agg #[.int .i64 (-19), .int .i64 12, .int .i64 0, .int .i64 1], .int .i64 1000] w fun e w' =>
      e = .returned (.tuple #[.agg #[.int .i64 1013, .int .i64 1014], .int .i64 0]) ∧ Below w.heap.size w w' := by
  have h := enclose_any (-19) 12 0 1 1000 w hp
  rw [comma.1, comma.2.1, comma.2.2] at h
  exact h
set_option maxHeartbeats 800000 in
theorem ints_awake (g g2 : Nat) (w : World) (a0 : w.cell? ⟨g, 0, none⟩ = some (.int .i64 0)) (a1 : w.cell? ⟨g, 1, none⟩ = some (.int .i64 0)) (a2 : w.cell? ⟨g, 2, none⟩ = some (.int .i64 (-3)))
    (b0 : w.cell? ⟨g2, 0, none⟩ = some (.int .i64 0)) (b1 : w.cell? ⟨g2, 1, none⟩ = some (.int .i64 0)) (b2 : w.cell? ⟨g2, 2, none⟩ = some (.int .i64 (-3))) :
    Calls Tryd.prog 61 #[.slice (some ⟨g, 0, none⟩) 3 3, .slice (some ⟨g2, 0, none⟩) 3 3] w fun e w' => e = .returned (.bool true) ∧ Below w.heap.size w w' := by
  go_enter Tryd.func61, Tryd.ntmps61
  go_wp2_with fail
  refine wp_loop_rounds 4 ?_
  iterate 3 (rw [rounds_succ]; go_wp2_with fail; go_quiet (fail); go_wp2_with fail)
  rw [rounds_succ]
  go_wp2_with fail
  go_ret
  refine ⟨rfl, ?_⟩
  repeat' (first | (with_reducible exact Below.refl _ _) | (with_reducible assumption) | (with_reducible refine below_drewN ?_ _) | (with_reducible refine Below.drew ?_) | (with_reducible refine Below.setCell ?_ ?_ _) | (with_reducible refine Below.alloc ?_ ?_ _) | go_size)

set_option maxRecDepth 100000 in
set_option maxHeartbeats 1600000 in
theorem awake_any (w : World) (hp : Primes w) : Calls Tryd.prog 15 #[] w fun e w' => e = .returned (.bool true) ∧ Below w.heap.size w w' := by
  have HP := Lib.hid hp; clear hp
  go_enter Tryd.func15, Tryd.ntmps15
  go_wp2_with fail
  refine (comma_any _).mono ?_
  rintro e w1 ⟨rfl, h1⟩
  have B1 : Below w.heap.size w w1 := below_via (by go_grown) h1
  have z1 := B1.size
  clear h1
  go_wp2_with fail
  refine (encComma_any _ (HP.out.keep B1)).mono ?_
  rintro e w2 ⟨rfl, h2⟩
  have B2 : Below w.heap.size w w2 := below_via (by go_grown) h2
  have z2 := B2.size
  clear h2
  go_wp2_with fail
  refine (solve_awake _ _ (by exact Box.new _ _ _ (by simp))).mono ?_
  rintro e w3 ⟨g, rfl, g0, g1, g2, glt, h3⟩
  have B3 : Below w.heap.size w w3 := below_via (by go_grown) h3
  have z3 := B3.size
  have s3 := h3.size
  simp at s3
  have T1 := Lib.hid (((Box.new w2 #[.int .i64 1013, .int .i64 1014] 37 rfl).alloc _).keep h3)
  clear h3
  go_wp2_with fail
  refine (line_awake _ _ (by exact Box.new _ _ _ (by simp))).mono ?_
  rintro e w4 ⟨rfl, h4⟩
  have B4 : Below w.heap.size w w4 := below_via (by go_grown) h4
  have z4 := B4.size
  have s4 := h4.size
  simp at s4
  have G0 := (h4.cell (p := ⟨g, 0, none⟩) (by simp; omega)).trans ((World.cell?_alloc_past _ _ _ glt).trans g0)
  have G1 := (h4.cell (p := ⟨g, 1, none⟩) (by simp; omega)).trans ((World.cell?_alloc_past _ _ _ glt).trans g1)
  have G2 := (h4.cell (p := ⟨g, 2, none⟩) (by simp; omega)).trans ((World.cell?_alloc_past _ _ _ glt).trans g2)
  have T2 := (T1.out.alloc _).keep h4
  obtain ⟨t0, t1, _, _⟩ := T2.two
  clear h4 g0 g1 g2
  have wl := T2.lt
  have gl : g < w4.heap.size := by omega
  go_wp2_with fail
  have Bx := Box.new (w4.alloc (.cells #[.int .i64 1, .int .i64 2, .int .i64 0, .int .i64 1, .int .i64 1, .int .i64 2, .int .i64 0, .int .i64 1, .int .i64 2] 103)) #[.int .i64 0, .int .i64 0, .int .i64 (-3)] 3 (n := w4.heap.size + 1) (by simp)
  obtain ⟨x0, x1, x2, _, _, _⟩ := Bx.three
  have S6 := (Box.new w4 #[.int .i64 1, .int .i64 2, .int .i64 0, .int .i64 1, .int .i64 1, .int .i64 2, .int .i64 0, .int .i64 1, .int .i64 2] 103 rfl).alloc (.cells #[.int .i64 0, .int .i64 0, .int .i64 (-3)] 3)
  have X0 := Lib.hid x0; have X1 := Lib.hid x1; have X2 := Lib.hid x2; have HS6 := Lib.hid S6
  clear Bx x0 x1 x2 S6
  refine (ints_awake g (w4.heap.size + 1) _ ((World.cell?_alloc_past _ _ _ (by simp; omega)).trans ((World.cell?_alloc_past _ _ _ gl).trans G0)) ((World.cell?_alloc_past _ _ _ (by simp; omega)).trans ((World.cell?_alloc_past _ _ _ gl).trans G1))
    ((World.cell?_alloc_past _ _ _ (by simp; omega)).trans ((World.cell?_alloc_past _ _ _ gl).trans G2)) X0.out X1.out X2.out).mono ?_
  rintro e w5 ⟨rfl, h5⟩
  have B5 : Below w.heap.size w w5 := below_via (by go_grown) h5
  have z5 := B5.size
  have S7 := HS6.out.keep h5
  have y4 := S7.cell 4
  have y5 := S7.cell 5
  simp at y4 y5
  clear S7 h5
  go_wp2_with fail
  go_ret
  exact ⟨rfl, by assumption⟩
end Go.Proofs.YtbagmfnedgjndaaDoor
