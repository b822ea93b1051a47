/-
  The reference of PullOf.
-/
import Derived.Test.YtahfliboanphkaaPu4
import Derived.Test.YtahfliboanphkaaRbe
namespace Go.Proofs.Ytahfliboanphkaa
open Go.RowKit
theorem rminus_any (a0 a1 a2 b0 b1 b2 : Int) (w : World) (ha : Big 4000000000000000000 a0 a1 a2) (hb : Big 4000000000000000000 b0 b1 b2) :
    Calls Try.prog 14 #[vec a0 a1 a2, vec b0 b1 b2] w fun e w' => e = .returned (vec (a0 - b0) (a1 - b1) (a2 - b2)) ∧ Below w.heap.size w w' := by
  obtain ⟨⟨x0, x1⟩, ⟨x2, x3⟩, x4, x5⟩ := ha
  obtain ⟨⟨y0, y1⟩, ⟨y2, y3⟩, y4, y5⟩ := hb
  go_enter Try.func14, Try.ntmps14
  go_wp2_with fail
  have RV : Box (((w.alloc (.cells #[.int .i64 a0, .int .i64 a1, .int .i64 a2] 23)).alloc (.cells #[.int .i64 b0, .int .i64 b1, .int .i64 b2] 23)).alloc (.cells #[.int .i64 (a0 - b0), .int .i64 (a1 - b1), .int .i64 (a2 - b2)] 23)) (w.heap.size + 1 + 1) #[.int .i64 (a0 - b0), .int .i64 (a1 - b1), .int .i64 (a2 - b2)] 23 := Box.new _ _ _ (by simp)
  have BV : Below w.heap.size w (((w.alloc (.cells #[.int .i64 a0, .int .i64 a1, .int .i64 a2] 23)).alloc (.cells #[.int .i64 b0, .int .i64 b1, .int .i64 b2] 23)).alloc (.cells #[.int .i64 (a0 - b0), .int .i64 (a1 - b1), .int .i64 (a2 - b2)] 23)) := by (repeat' (first | (with_reducible exact Below.refl _ _) | (with_reducible assumption) | (with_reducible refine Below.drew ?_) | (with_reducible refine below_drewN ?_ _) | (with_reducible refine Below.setCell ?_ ?_ _) | (with_reducible refine Below.alloc ?_ ?_ _) | go_size | omega))
  generalize (((w.alloc (.cells #[.int .i64 a0, .int .i64 a1, .int .i64 a2] 23)).alloc (.cells #[.int .i64 b0, .int .i64 b1, .int .i64 b2] 23)).alloc (.cells #[.int .i64 (a0 - b0), .int .i64 (a1 - b1), .int .i64 (a2 - b2)] 23)) = v at *
  have s0 := RV.cell 0
  have s1 := RV.cell 1
  have s2 := RV.cell 2
  simp at s0 s1 s2
  refine bodyPost_ret (v := vec (a0 - b0) (a1 - b1) (a2 - b2)) (by simp [results, Try.results14, go_sem, s0, s1, s2]) rfl ⟨rfl, BV⟩
theorem risPlace_any (a b c : Int) (w : World) :
    Calls Try.prog 13 #[vec a b c] w fun e w' => e = .returned (.bool (szB 1000000 a b c)) ∧ Below w.heap.size w w' := by
  go_enter Try.func13, Try.ntmps13
  go_wp2_with fail
  refine (size3_any a b c 1000000 _ (by omega) (by omega)).mono ?_
  rintro e w1 ⟨rfl, h⟩
  have B1 : Below w.heap.size w w1 := below_via (by (repeat' (first | (with_reducible exact Below.refl _ _) | (with_reducible assumption) | (with_reducible refine Below.drew ?_) | (with_reducible refine below_drewN ?_ _) | (with_reducible refine Below.setCell ?_ ?_ _) | (with_reducible refine Below.alloc ?_ ?_ _) | go_size | omega))) h
  clear h
  go_wp2_with fail
  go_ret
  exact ⟨rfl, B1⟩
end Go.Proofs.Ytahfliboanphkaa
