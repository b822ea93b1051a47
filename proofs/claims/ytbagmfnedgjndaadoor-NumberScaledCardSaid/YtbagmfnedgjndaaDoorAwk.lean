/-
  The walks of Solve and Line at the document's examples, for 'awake'.
-/
import Derived.Test.YtbagmfnedgjndaaDoorPit
import Derived.Laws.EntriesVeiled
namespace Go.Proofs.YtbagmfnedgjndaaDoor
open Go.RowKit

def bounds3 : Array Value := #[.int .i64 0, .int .i64 1, .int .i64 2, .int .i64 1, .int .i64 2, .int .i64 (-3), .int .i64 2, .int .i64 0, .int .i64 4]
theorem Box.nine {w : World} {b : Nat} (h : Box w b bounds3 100) : (w.cell? ⟨b, 0, none⟩ = some (.int .i64 0) ∧ w.cell? ⟨b, 1, none⟩ = some (.int .i64 1) ∧ w.cell? ⟨b, 2, none⟩ = some (.int .i64 2)) ∧ (w.cell? ⟨b, 3, none⟩ = some (.int .i64 1) ∧ w.cell? ⟨b, 4, none⟩ = some (.int .i64 2) ∧ w.cell? ⟨b, 5, none⟩ = some (.int .i64 (-3))) ∧ (w.cell? ⟨b, 6, none⟩ = some (.int .i64 2) ∧ w.cell? ⟨b, 7, none⟩ = some (.int .i64 0) ∧ w.cell? ⟨b, 8, none⟩ = some (.int .i64 4)) :=
  ⟨⟨h.cell 0, h.cell 1, h.cell 2⟩, ⟨h.cell 3, h.cell 4, h.cell 5⟩, ⟨h.cell 6, h.cell 7, h.cell 8⟩⟩

set_option maxHeartbeats 1600000 in
theorem chkSys_awake (b : Nat) (w : World) (h : Box w b bounds3 100) :
    Calls Tryd.prog 59 #[.int .i64 3, .slice (some ⟨b, 0, none⟩) 3 3] w fun e w' => e = .returned (.int .i64 0) ∧ Below w.heap.size w w' := by
  have hb0 := h.lt
  have hb1 : b < w.heap.size + 1 := by omega
  have hb2 : b < w.heap.size + 1 + 1 := by omega
  have hb3 : b < w.heap.size + 1 + 1 + 1 := by omega
  obtain ⟨⟨c0, c1, c2⟩, ⟨c3, c4, c5⟩, ⟨c6, c7, c8⟩⟩ := h.nine
  have e1 : inB 2 1000000000 = true := by decide
  have e2 : inB (-3) 1000000000 = true := by decide
  have e3 : inB 4 1000000000 = true := by decide
  clear h
  go_enter Tryd.func59, Tryd.ntmps59
  go_wp2_with fail
  refine wp_loop_rounds 4 ?_
  iterate 4 (rw [rounds_succ]; go_wp2_with (go_at_call 72; refine (within_any _ _ _ (by omega) (by omega)).mono ?_; rintro e w' ⟨rfl, rfl⟩))
  go_ret
  refine ⟨rfl, ?_⟩
  go_grown

def SolveP (w : World) (e : Ending) (w' : World) : Prop :=
  ∃ g, e = .returned (.tuple #[.slice (some ⟨g, 0, none⟩) 3 3, .slice none 0 0, .int .i64 0]) ∧ w'.cell? ⟨g, 0, none⟩ = some (.int .i64 0) ∧ w'.cell? ⟨g, 1, none⟩ = some (.int .i64 0) ∧ w'.cell? ⟨g, 2, none⟩ = some (.int .i64 (-3)) ∧ g < w'.heap.size ∧ Below w.heap.size w w'
set_option maxHeartbeats 1600000 in
theorem solve_awake (b : Nat) (w : World) (h : Box w b bounds3 100) :
    Calls Tryd.prog 58 #[.int .i64 3, .slice (some ⟨b, 0, none⟩) 3 3] w (SolveP w) := by
  have hmk : ∀ u : World, (Instr.makeSlice 85 (.int .i64 3) (.int .i64 3)).run Tryd.prog u = .ok (.slice (some ⟨u.heap.size, 0, none⟩) 3 3) (u.alloc (.cells #[.int .i64 0, .int .i64 0, .int .i64 0] 3)) := fun _ => by kernel_rfl
  have H := Lib.hid h; clear h
  go_enter Tryd.func58, Tryd.ntmps58
  go_wp2_with fail
  refine (chkSys_awake b _ H.out).mono ?_
  rintro e w1 ⟨rfl, h1⟩
  have hk := H.out.keep h1
  have hb0 := hk.lt
  have hb1 : b < w1.heap.size + 1 := by omega
  have hb2 : b < w1.heap.size + 1 + 1 := by omega
  have hb3 : b < w1.heap.size + 1 + 1 + 1 := by omega
  have hb4 : b < w1.heap.size + 1 + 1 + 1 + 1 := by omega
  have hb5 : b < w1.heap.size + 1 + 1 + 1 + 1 + 1 := by omega
  have hb6 : b < w1.heap.size + 1 + 1 + 1 + 1 + 1 + 1 := by omega
  have hb7 : b < w1.heap.size + 1 + 1 + 1 + 1 + 1 + 1 + 1 := by omega
  have hb8 : b < w1.heap.size + 1 + 1 + 1 + 1 + 1 + 1 + 1 + 1 := by omega
  obtain ⟨⟨c0, c1, c2⟩, ⟨c3, c4, c5⟩, ⟨c6, c7, c8⟩⟩ := hk.nine
  clear hk
  go_wp2_with fail
  refine wp_loop_rounds 3 ?_
  rw [rounds_succ]
  go_wp2_with fail
  refine wp_loop_rounds 4 ?_
  rw [rounds_succ]
  go_wp2_with fail
  go_region
  go_wp2_with fail
  rw [rounds_succ]
  go_wp2_with fail
  go_region
  go_wp2_with fail
  go_region
  go_wp2_with fail
  rw [rounds_succ]
  go_wp2_with fail
  go_region
  go_wp2_with fail
  rw [rounds_succ]
  go_wp2_with fail
  rw [rounds_succ]
  go_wp2_with fail
  refine wp_loop_rounds 4 ?_
  rw [rounds_succ]
  go_wp2_with fail
  go_region
  go_wp2_with fail
  rw [rounds_succ]
  go_wp2_with fail
  go_region
  go_wp2_with fail
  rw [rounds_succ]
  go_wp2_with fail
  go_region
  go_wp2_with fail
  rw [rounds_succ]
  go_wp2_with fail
  go_ret3
  have hs := h1.size
  refine ⟨w1.heap.size, rfl, ?_, ?_, ?_, ?_, ?_⟩
  · go_cell
  · go_cell
  · go_cell
  · simp; omega
  · go_grown
end Go.Proofs.YtbagmfnedgjndaaDoor
