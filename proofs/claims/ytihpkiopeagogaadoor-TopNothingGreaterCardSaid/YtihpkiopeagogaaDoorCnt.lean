/-
  The examples that the statements over chapter 1 ask for: counts returns true. Its condition: the table of primes reads as it is laid.
-/
import Derived.Test.YtihpkiopeagogaaDoorHalf
import Derived.Test.YtihpkiopeagogaaDoorPir
import Derived.Laws.EntriesVeiled
namespace Go.Proofs.YtihpkiopeagogaaDoor
open Go.RowKit

theorem comma_any (w : World) : Calls Tryd.prog 10 #[] w fun e w' => e = .returned (.agg #[.int .i64 (-19), .int .i64 12, .int .i64 0, .int .i64 1]) ∧ Below w.heap.size w w' := by
  go_enter Tryd.func10, Tryd.ntmps10
  go_wp2
  go_returns
  exact ⟨rfl, by go_grown⟩
theorem encComma_any (w : World) (hp : Primes w) :
    Calls Tryd.prog 9 #[.agg #[.int .i64 (-19), .int .i64 12, .int .i64 0, .int .i64 1], .int .i64 1000] w fun e w' =>
      e = .returned (.tuple #[.agg #[.int .i64 1013, .int .i64 1014], .int .i64 0]) ∧ Below w.heap.size w w' := by
  have h := enclose_any (-19) 12 0 1 1000 w hp
  rw [comma.1, comma.2.1, comma.2.2] at h
  exact h
set_option maxHeartbeats 800000 in
theorem ints_two (g g2 : Nat) (w : World) (a0 : w.cell? ⟨g, 0, none⟩ = some (.int .i64 0)) (a1 : w.cell? ⟨g, 1, none⟩ = some (.int .i64 (-2)))
    (b0 : w.cell? ⟨g2, 0, none⟩ = some (.int .i64 0)) (b1 : w.cell? ⟨g2, 1, none⟩ = some (.int .i64 (-2))) :
    Calls Tryd.prog 11 #[.slice (some ⟨g, 0, none⟩) 2 2, .slice (some ⟨g2, 0, none⟩) 2 2] w fun e w' => e = .returned (.bool true) ∧ Below w.heap.size w w' := by
  go_enter Tryd.func11, Tryd.ntmps11
  go_wp2_with fail
  refine wp_loop_rounds 3 ?_
  iterate 2 (rw [rounds_succ]; go_wp2_with fail; go_quiet (fail); go_wp2_with fail)
  rw [rounds_succ]
  go_wp2_with fail
  go_ret
  refine ⟨rfl, ?_⟩
  repeat' (first | (with_reducible exact Below.refl _ _) | (with_reducible assumption) | (with_reducible refine below_drewN ?_ _) | (with_reducible refine Below.drew ?_) | (with_reducible refine Below.setCell ?_ ?_ _) | (with_reducible refine Below.alloc ?_ ?_ _) | go_size)
set_option maxHeartbeats 1600000 in
theorem chkSys_one (b : Nat) (w : World) (h : Box w b #[.int .i64 0, .int .i64 1, .int .i64 (-2)] 28) :
    Calls Tryd.prog 12 #[.int .i64 2, .slice (some ⟨b, 0, none⟩) 1 1] w fun e w' => e = .returned (.int .i64 0) ∧ Below w.heap.size w w' := by
  have hb0 := h.lt
  have hb1 : b < w.heap.size + 1 := by omega
  obtain ⟨c0, c1, c2, _⟩ := h.three
  have e1 : inB (-2) 1000000000 = true := by decide
  clear h
  go_enter Tryd.func12, Tryd.ntmps12
  go_wp2_with fail
  refine wp_loop_rounds 2 ?_
  iterate 2 (rw [rounds_succ]; go_wp2_with (go_at_call 22; refine (within_any _ _ _ (by omega) (by omega)).mono ?_; rintro e w' ⟨rfl, rfl⟩))
  go_ret
  refine ⟨rfl, ?_⟩
  go_grown
def SolveQ (w : World) (e : Ending) (w' : World) : Prop :=
  ∃ g, e = .returned (.tuple #[.slice (some ⟨g, 0, none⟩) 2 2, .slice none 0 0, .int .i64 0]) ∧ w'.cell? ⟨g, 0, none⟩ = some (.int .i64 0) ∧ w'.cell? ⟨g, 1, none⟩ = some (.int .i64 (-2)) ∧ g < w'.heap.size ∧ Below w.heap.size w w'
set_option maxHeartbeats 1600000 in
theorem solve_two (b : Nat) (w : World) (h : Box w b #[.int .i64 0, .int .i64 1, .int .i64 (-2)] 28) :
    Calls Tryd.prog 7 #[.int .i64 2, .slice (some ⟨b, 0, none⟩) 1 1] w (SolveQ w) := by
  have hmk : ∀ u : World, (Instr.makeSlice 23 (.int .i64 2) (.int .i64 2)).run Tryd.prog u = .ok (.slice (some ⟨u.heap.size, 0, none⟩) 2 2) (u.alloc (.cells #[.int .i64 0, .int .i64 0] 3)) := fun _ => by kernel_rfl
  have H := Lib.hid h; clear h
  go_enter Tryd.func7, Tryd.ntmps7
  go_wp2_with fail
  refine (chkSys_one b _ H.out).mono ?_
  rintro e w1 ⟨rfl, h1⟩
  have hk := H.out.keep h1
  have hb0 := hk.lt
  have hb1 : b < w1.heap.size + 1 := by omega
  have hb2 : b < w1.heap.size + 1 + 1 := by omega
  have hb3 : b < w1.heap.size + 1 + 1 + 1 := by omega
  have hb4 : b < w1.heap.size + 1 + 1 + 1 + 1 := by omega
  obtain ⟨c0, c1, c2, _⟩ := hk.three
  clear hk
  go_wp2_with fail
  refine wp_loop_rounds 3 ?_
  rw [rounds_succ]
  go_wp2_with fail
  refine wp_loop_rounds 2 ?_
  rw [rounds_succ]
  go_wp2_with fail
  go_region
  go_wp2_with fail
  go_region
  go_wp2_with fail
  rw [rounds_succ]
  go_wp2_with fail
  rw [rounds_succ]
  go_wp2_with fail
  refine wp_loop_rounds 2 ?_
  rw [rounds_succ]
  go_wp2_with fail
  go_region
  go_wp2_with fail
  rw [rounds_succ]
  go_wp2_with fail
  go_ret3
  have hs := h1.size
  refine ⟨w1.heap.size, rfl, ?_, ?_, ?_, ?_⟩
  · go_cell
  · go_cell
  · simp; omega
  · go_grown

set_option maxRecDepth 100000 in
set_option maxHeartbeats 1600000 in
theorem counts_any (w : World) (hp : Primes w) : Calls Tryd.prog 4 #[] w fun e w' => e = .returned (.bool true) ∧ Below w.heap.size w w' := by
  have HP := Lib.hid hp; clear hp
  go_enter Tryd.func4, Tryd.ntmps4
  go_wp2_with fail
  refine (comma_any _).mono ?_
  rintro e w1 ⟨rfl, h1⟩
  have B1 : Below w.heap.size w w1 := below_via (by go_grown) h1
  have z1 := B1.size
  clear h1
  go_wp2_with fail
  refine (encComma_any _ (HP.out.keep B1)).mono ?_
  rintro e w2 ⟨rfl, h2⟩
  have B2 : Below w.heap.size w w2 := below_via (by go_grown) h2
  have z2 := B2.size
  clear h2
  go_wp2_with fail
  refine (solve_two _ _ (by exact Box.new _ _ _ (by simp))).mono ?_
  rintro e w3 ⟨g, rfl, g0, g1, glt, h3⟩
  have B3 : Below w.heap.size w w3 := below_via (by go_grown) h3
  have z3 := B3.size
  have s3 := h3.size
  simp at s3
  have T1 := Lib.hid (((Box.new w2 #[.int .i64 1013, .int .i64 1014] 36 rfl).alloc _).keep h3)
  obtain ⟨t0, t1, _, _⟩ := T1.out.two
  have wl := T1.out.lt
  clear h3
  go_wp2_with fail
  have Bx := Box.new w3 #[.int .i64 0, .int .i64 (-2)] 3 (n := w3.heap.size) rfl
  obtain ⟨x0, x1, _, _⟩ := Bx.two
  have X0 := Lib.hid x0; have X1 := Lib.hid x1
  clear Bx x0 x1
  refine (ints_two g w3.heap.size _ ((World.cell?_alloc_past _ _ _ glt).trans g0) ((World.cell?_alloc_past _ _ _ glt).trans g1) X0.out X1.out).mono ?_
  rintro e w5 ⟨rfl, h5⟩
  have B5 : Below w.heap.size w w5 := below_via (by go_grown) h5
  clear h5
  go_wp2_with fail
  go_ret
  exact ⟨rfl, by assumption⟩
end Go.Proofs.YtihpkiopeagogaaDoor
