/-
  The walk of Line at the document's example.
-/
import Derived.Test.YtbagmfnedgjndaaDoorLin3
import Derived.Test.YtbagmfnedgjndaaDoorLin4
namespace Go.Proofs.YtbagmfnedgjndaaDoor
open Go.RowKit

theorem lineOf_awake (b : Nat) (w : World) (h : Box w b dots3 107) :
    Calls Tryd.prog 109 #[.slice (some ⟨b, 0, none⟩) 3 3, .agg #[.int .i64 0, .int .i64 1, .int .i64 2]] w fun e w' =>
      e = .returned (.agg #[.int .i64 1, .int .i64 2, .int .i64 0, .int .i64 1, .int .i64 1, .int .i64 2, .int .i64 0, .int .i64 1, .int .i64 2]) ∧ Below w.heap.size w w' := by
  have hl := h.lt
  obtain ⟨⟨c0, c1⟩, ⟨c2, c3⟩, ⟨c4, c5⟩⟩ := h.six
  refine (lineOf_any b 0 3 3 0 1 2 0 0 1 1 2 0 w hl (by omega) (by omega) (by omega) (by omega) (by omega) (by omega) (by omega) (by omega) (by omega) (by omega) (by omega) (by omega) (by omega) (by omega) (by omega) (by omega) (by omega)
    c0 c1 c2 c3 c4 c5).mono ?_
  rintro e w' ⟨rfl, hb⟩
  refine ⟨?_, hb⟩
  have e1 : redN (stN 0 0 1 1 2 0) (2 * (2 - 0)) = 1 := by decide
  have e2 : redD (stN 0 0 1 1 2 0) (2 * (2 - 0)) = 2 := by decide
  have e3 : redN (0 - 0) (2 - 0) = 0 := by decide
  have e4 : redD (0 - 0) (2 - 0) = 1 := by decide
  have e5 : redN (absH 0 0 1 1 2 0) (2 * (2 - 0)) = 1 := by decide
  have e6 : redD (absH 0 0 1 1 2 0) (2 * (2 - 0)) = 2 := by decide
  rw [e1, e2, e3, e4, e5, e6]
  rfl
theorem worse_awake (b : Nat) (w : World) (h : Box w b dots3 107) :
    Calls Tryd.prog 108 #[.slice (some ⟨b, 0, none⟩) 3 3, .agg #[.int .i64 0, .int .i64 1, .int .i64 2], .agg #[.int .i64 0, .int .i64 1, .int .i64 2]] w fun e w' => e = .returned (.bool false) ∧ Below w.heap.size w w' := by
  have H := Lib.hid (fun (u : World) (hu : Below w.heap.size w u) => show Calls Tryd.prog 119 #[.slice (some ⟨b, 0, none⟩) 3 3, .agg #[.int .i64 ((0 : Nat) : Int), .int .i64 ((1 : Nat) : Int), .int .i64 ((2 : Nat) : Int)]] u fun e w' => e = .returned (.tuple #[.int .i64 2, .int .i64 2]) ∧ Below u.heap.size u w' from by
    have hk := h.keep hu
    obtain ⟨⟨c0, c1⟩, ⟨c2, c3⟩, ⟨c4, c5⟩⟩ := hk.six
    exact bend_any b 0 3 3 0 1 2 0 0 1 1 2 0 u hk.lt (by omega) (by omega) (by omega) (by omega) (by omega) (by omega) (by omega) (by omega) (by omega) (by omega) (by omega) (by omega) (by omega) (by omega) (by omega) (by omega) c0 c1 c2 c3 c4 c5)
  exact worse_any b 0 3 3 0 1 2 0 1 2 2 2 2 2 w H H (by omega) (by omega) (by omega) (by omega) (by omega) (by omega) (by omega) (by omega)

set_option maxRecDepth 100000 in
set_option maxHeartbeats 1600000 in
theorem line_awake (b : Nat) (w : World) (h : Box w b dots3 107) :
    Calls Tryd.prog 66 #[.slice (some ⟨b, 0, none⟩) 3 3] w fun e w' =>
      e = .returned (.tuple #[.agg #[.int .i64 1, .int .i64 2, .int .i64 0, .int .i64 1, .int .i64 1, .int .i64 2, .int .i64 0, .int .i64 1, .int .i64 2], .int .i64 0]) ∧ Below w.heap.size w w' := by
  have H := Lib.hid h; clear h
  go_enter Tryd.func66, Tryd.ntmps66
  go_wp2_with fail
  refine (chkDots_awake b _ (H.out.alloc _)).mono ?_
  rintro e w1 ⟨rfl, h1⟩
  have B1 : Below w.heap.size w w1 := below_via (by go_grown) h1
  have s1 := h1.size
  simp at s1
  have K1 := Lib.hid ((H.out.alloc _).keep h1)
  have R1 := Lib.hid ((Box.new w _ _ rfl).keep h1)
  clear h1
  go_wp2_with fail
  refine wp_loop_rounds 4 ?_
  rw [rounds_succ]; go_wp2_with fail
  refine wp_loop_rounds 3 ?_
  rw [rounds_succ]; go_wp2_with fail
  refine wp_loop_rounds 2 ?_
  rw [rounds_succ]; go_wp2_with fail
  refine (worse_awake b _ (by exact (K1.out.alloc _).alloc _)).mono ?_
  rintro e w2 ⟨rfl, h2⟩
  have B2 : Below w.heap.size w w2 := below_via (by go_grown) h2
  have s2 := h2.size
  simp at s2
  have K2 := Lib.hid (((K1.out.alloc _).alloc _).keep h2)
  have R2 := Lib.hid (((R1.out.alloc _).alloc _).keep h2)
  obtain ⟨q0, q1, q2, _, _, _⟩ := ((Box.new w1 _ _ rfl).alloc _ |>.keep h2).three
  clear h2
  go_wp2_with fail
  repeat ((first | rw [rounds_succ] | (refine wp_loop_rounds 3 ?_; rw [rounds_succ])); go_wp2_with fail)
  refine (lineOf_awake b _ K2.out).mono ?_
  rintro e w3 ⟨rfl, h3⟩
  have B3 : Below w.heap.size w w3 := below_via (by go_grown) h3
  have R3 := R2.out.keep h3
  have r0 := R3.cell 0
  have r1 := R3.cell 1
  have r2 := R3.cell 2
  have r3 := R3.cell 3
  have r4 := R3.cell 4
  have r5 := R3.cell 5
  have r6 := R3.cell 6
  have r7 := R3.cell 7
  have r8 := R3.cell 8
  have f0 := R3.free 0
  have f1 := R3.free 1
  have f2 := R3.free 2
  have f3 := R3.free 3
  have f4 := R3.free 4
  have f5 := R3.free 5
  have f6 := R3.free 6
  have f7 := R3.free 7
  have f8 := R3.free 8
  simp at r0 r1 r2 r3 r4 r5 r6 r7 r8
  clear R3 h3
  go_wp2_with fail
  refine bodyPost_ret (v := .tuple #[.agg #[.int .i64 1, .int .i64 2, .int .i64 0, .int .i64 1, .int .i64 1, .int .i64 2, .int .i64 0, .int .i64 1, .int .i64 2], .int .i64 0])
    (by simp [results, Tryd.results66, go_sem, r0, r1, r2, r3, r4, r5, r6, r7, r8]) rfl ⟨rfl, ?_⟩
  go_grown
end Go.Proofs.YtbagmfnedgjndaaDoor
