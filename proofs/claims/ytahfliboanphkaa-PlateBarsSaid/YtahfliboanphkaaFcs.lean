/-
  Forces: vectors added and multiplied.
-/
import Derived.Test.YtahfliboanphkaaRpu
namespace Go.Proofs.Ytahfliboanphkaa
open Go.RowKit
set_option maxRecDepth 100000 in
set_option maxHeartbeats 1600000 in
theorem plus_any (a0 a1 a2 b0 b1 b2 : Int) (w : World) (ha : Big 4000000000000000000 a0 a1 a2) (hb : Big 4000000000000000000 b0 b1 b2) :
    Calls Try.prog 80 #[vec a0 a1 a2, vec b0 b1 b2] w fun e w' => e = .returned (vec (a0 + b0) (a1 + b1) (a2 + b2)) ∧ Below w.heap.size w w' := by
  obtain ⟨⟨x0, x1⟩, ⟨x2, x3⟩, x4, x5⟩ := ha
  obtain ⟨⟨y0, y1⟩, ⟨y2, y3⟩, y4, y5⟩ := hb
  go_enter Try.func80, Try.ntmps80
  go_wp2_with fail
  have RV : Box (((w.alloc (.cells #[.int .i64 a0, .int .i64 a1, .int .i64 a2] 91)).alloc (.cells #[.int .i64 b0, .int .i64 b1, .int .i64 b2] 91)).alloc (.cells #[.int .i64 (a0 + b0), .int .i64 (a1 + b1), .int .i64 (a2 + b2)] 91)) (w.heap.size + 1 + 1) #[.int .i64 (a0 + b0), .int .i64 (a1 + b1), .int .i64 (a2 + b2)] 91 := Box.new _ _ _ (by simp)
  have BV : Below w.heap.size w (((w.alloc (.cells #[.int .i64 a0, .int .i64 a1, .int .i64 a2] 91)).alloc (.cells #[.int .i64 b0, .int .i64 b1, .int .i64 b2] 91)).alloc (.cells #[.int .i64 (a0 + b0), .int .i64 (a1 + b1), .int .i64 (a2 + b2)] 91)) := by (repeat' (first | (with_reducible exact Below.refl _ _) | (with_reducible assumption) | (with_reducible refine Below.drew ?_) | (with_reducible refine below_drewN ?_ _) | (with_reducible refine Below.setCell ?_ ?_ _) | (with_reducible refine Below.alloc ?_ ?_ _) | go_size | omega))
  generalize (((w.alloc (.cells #[.int .i64 a0, .int .i64 a1, .int .i64 a2] 91)).alloc (.cells #[.int .i64 b0, .int .i64 b1, .int .i64 b2] 91)).alloc (.cells #[.int .i64 (a0 + b0), .int .i64 (a1 + b1), .int .i64 (a2 + b2)] 91)) = v at *
  have s0 := RV.cell 0
  have s1 := RV.cell 1
  have s2 := RV.cell 2
  simp at s0 s1 s2
  refine bodyPost_ret (v := vec (a0 + b0) (a1 + b1) (a2 + b2)) (by simp [results, Try.results80, go_sem, s0, s1, s2]) rfl ⟨rfl, BV⟩
set_option maxRecDepth 100000 in
set_option maxHeartbeats 1600000 in
theorem rplus_any (a0 a1 a2 b0 b1 b2 : Int) (w : World) (ha : Big 4000000000000000000 a0 a1 a2) (hb : Big 4000000000000000000 b0 b1 b2) :
    Calls Try.prog 49 #[vec a0 a1 a2, vec b0 b1 b2] w fun e w' => e = .returned (vec (a0 + b0) (a1 + b1) (a2 + b2)) ∧ Below w.heap.size w w' := by
  obtain ⟨⟨x0, x1⟩, ⟨x2, x3⟩, x4, x5⟩ := ha
  obtain ⟨⟨y0, y1⟩, ⟨y2, y3⟩, y4, y5⟩ := hb
  go_enter Try.func49, Try.ntmps49
  go_wp2_with fail
  have RV : Box (((w.alloc (.cells #[.int .i64 a0, .int .i64 a1, .int .i64 a2] 23)).alloc (.cells #[.int .i64 b0, .int .i64 b1, .int .i64 b2] 23)).alloc (.cells #[.int .i64 (a0 + b0), .int .i64 (a1 + b1), .int .i64 (a2 + b2)] 23)) (w.heap.size + 1 + 1) #[.int .i64 (a0 + b0), .int .i64 (a1 + b1), .int .i64 (a2 + b2)] 23 := Box.new _ _ _ (by simp)
  have BV : Below w.heap.size w (((w.alloc (.cells #[.int .i64 a0, .int .i64 a1, .int .i64 a2] 23)).alloc (.cells #[.int .i64 b0, .int .i64 b1, .int .i64 b2] 23)).alloc (.cells #[.int .i64 (a0 + b0), .int .i64 (a1 + b1), .int .i64 (a2 + b2)] 23)) := by (repeat' (first | (with_reducible exact Below.refl _ _) | (with_reducible assumption) | (with_reducible refine Below.drew ?_) | (with_reducible refine below_drewN ?_ _) | (with_reducible refine Below.setCell ?_ ?_ _) | (with_reducible refine Below.alloc ?_ ?_ _) | go_size | omega))
  generalize (((w.alloc (.cells #[.int .i64 a0, .int .i64 a1, .int .i64 a2] 23)).alloc (.cells #[.int .i64 b0, .int .i64 b1, .int .i64 b2] 23)).alloc (.cells #[.int .i64 (a0 + b0), .int .i64 (a1 + b1), .int .i64 (a2 + b2)] 23)) = v at *
  have s0 := RV.cell 0
  have s1 := RV.cell 1
  have s2 := RV.cell 2
  simp at s0 s1 s2
  refine bodyPost_ret (v := vec (a0 + b0) (a1 + b1) (a2 + b2)) (by simp [results, Try.results49, go_sem, s0, s1, s2]) rfl ⟨rfl, BV⟩
set_option maxRecDepth 100000 in
set_option maxHeartbeats 1600000 in
theorem across_any (a0 a1 a2 b0 b1 b2 : Int) (w : World) (ha : Big 2000000 a0 a1 a2) (hb : Big 1000000000 b0 b1 b2) :
    Calls Try.prog 81 #[vec a0 a1 a2, vec b0 b1 b2] w fun e w' => e = .returned (vec (a1 * b2 - a2 * b1) (a2 * b0 - a0 * b2) (a0 * b1 - a1 * b0)) ∧ Below w.heap.size w w' := by
  obtain ⟨⟨x0, x1⟩, ⟨x2, x3⟩, x4, x5⟩ := ha
  obtain ⟨⟨y0, y1⟩, ⟨y2, y3⟩, y4, y5⟩ := hb
  obtain ⟨p0, q0⟩ := mul_bd (A := 2000000) (B := 1000000000) (a := a1) (b := b2) (by omega) (by omega) (by omega) (by omega)
  obtain ⟨p1, q1⟩ := mul_bd (A := 2000000) (B := 1000000000) (a := a2) (b := b1) (by omega) (by omega) (by omega) (by omega)
  obtain ⟨p2, q2⟩ := mul_bd (A := 2000000) (B := 1000000000) (a := a2) (b := b0) (by omega) (by omega) (by omega) (by omega)
  obtain ⟨p3, q3⟩ := mul_bd (A := 2000000) (B := 1000000000) (a := a0) (b := b2) (by omega) (by omega) (by omega) (by omega)
  obtain ⟨p4, q4⟩ := mul_bd (A := 2000000) (B := 1000000000) (a := a0) (b := b1) (by omega) (by omega) (by omega) (by omega)
  obtain ⟨p5, q5⟩ := mul_bd (A := 2000000) (B := 1000000000) (a := a1) (b := b0) (by omega) (by omega) (by omega) (by omega)
  go_enter Try.func81, Try.ntmps81
  go_wp2_with fail
  have RV : Box (((w.alloc (.cells #[.int .i64 a0, .int .i64 a1, .int .i64 a2] 91)).alloc (.cells #[.int .i64 b0, .int .i64 b1, .int .i64 b2] 91)).alloc (.cells #[.int .i64 (a1 * b2 - a2 * b1), .int .i64 (a2 * b0 - a0 * b2), .int .i64 (a0 * b1 - a1 * b0)] 91)) (w.heap.size + 1 + 1) #[.int .i64 (a1 * b2 - a2 * b1), .int .i64 (a2 * b0 - a0 * b2), .int .i64 (a0 * b1 - a1 * b0)] 91 := Box.new _ _ _ (by simp)
  have BV : Below w.heap.size w (((w.alloc (.cells #[.int .i64 a0, .int .i64 a1, .int .i64 a2] 91)).alloc (.cells #[.int .i64 b0, .int .i64 b1, .int .i64 b2] 91)).alloc (.cells #[.int .i64 (a1 * b2 - a2 * b1), .int .i64 (a2 * b0 - a0 * b2), .int .i64 (a0 * b1 - a1 * b0)] 91)) := by (repeat' (first | (with_reducible exact Below.refl _ _) | (with_reducible assumption) | (with_reducible refine Below.drew ?_) | (with_reducible refine below_drewN ?_ _) | (with_reducible refine Below.setCell ?_ ?_ _) | (with_reducible refine Below.alloc ?_ ?_ _) | go_size | omega))
  generalize (((w.alloc (.cells #[.int .i64 a0, .int .i64 a1, .int .i64 a2] 91)).alloc (.cells #[.int .i64 b0, .int .i64 b1, .int .i64 b2] 91)).alloc (.cells #[.int .i64 (a1 * b2 - a2 * b1), .int .i64 (a2 * b0 - a0 * b2), .int .i64 (a0 * b1 - a1 * b0)] 91)) = v at *
  have s0 := RV.cell 0
  have s1 := RV.cell 1
  have s2 := RV.cell 2
  simp at s0 s1 s2
  refine bodyPost_ret (v := vec (a1 * b2 - a2 * b1) (a2 * b0 - a0 * b2) (a0 * b1 - a1 * b0)) (by simp [results, Try.results81, go_sem, s0, s1, s2]) rfl ⟨rfl, BV⟩
set_option maxRecDepth 100000 in
set_option maxHeartbeats 1600000 in
theorem rcross_any (a0 a1 a2 b0 b1 b2 : Int) (w : World) (ha : Big 2000000 a0 a1 a2) (hb : Big 1000000000 b0 b1 b2) :
    Calls Try.prog 50 #[vec a0 a1 a2, vec b0 b1 b2] w fun e w' => e = .returned (vec (a1 * b2 - a2 * b1) (a2 * b0 - a0 * b2) (a0 * b1 - a1 * b0)) ∧ Below w.heap.size w w' := by
  obtain ⟨⟨x0, x1⟩, ⟨x2, x3⟩, x4, x5⟩ := ha
  obtain ⟨⟨y0, y1⟩, ⟨y2, y3⟩, y4, y5⟩ := hb
  obtain ⟨p0, q0⟩ := mul_bd (A := 2000000) (B := 1000000000) (a := a1) (b := b2) (by omega) (by omega) (by omega) (by omega)
  obtain ⟨p1, q1⟩ := mul_bd (A := 2000000) (B := 1000000000) (a := a2) (b := b1) (by omega) (by omega) (by omega) (by omega)
  obtain ⟨p2, q2⟩ := mul_bd (A := 2000000) (B := 1000000000) (a := a2) (b := b0) (by omega) (by omega) (by omega) (by omega)
  obtain ⟨p3, q3⟩ := mul_bd (A := 2000000) (B := 1000000000) (a := a0) (b := b2) (by omega) (by omega) (by omega) (by omega)
  obtain ⟨p4, q4⟩ := mul_bd (A := 2000000) (B := 1000000000) (a := a0) (b := b1) (by omega) (by omega) (by omega) (by omega)
  obtain ⟨p5, q5⟩ := mul_bd (A := 2000000) (B := 1000000000) (a := a1) (b := b0) (by omega) (by omega) (by omega) (by omega)
  go_enter Try.func50, Try.ntmps50
  go_wp2_with fail
  have RV : Box (((w.alloc (.cells #[.int .i64 a0, .int .i64 a1, .int .i64 a2] 23)).alloc (.cells #[.int .i64 b0, .int .i64 b1, .int .i64 b2] 23)).alloc (.cells #[.int .i64 (a1 * b2 - a2 * b1), .int .i64 (a2 * b0 - a0 * b2), .int .i64 (a0 * b1 - a1 * b0)] 23)) (w.heap.size + 1 + 1) #[.int .i64 (a1 * b2 - a2 * b1), .int .i64 (a2 * b0 - a0 * b2), .int .i64 (a0 * b1 - a1 * b0)] 23 := Box.new _ _ _ (by simp)
  have BV : Below w.heap.size w (((w.alloc (.cells #[.int .i64 a0, .int .i64 a1, .int .i64 a2] 23)).alloc (.cells #[.int .i64 b0, .int .i64 b1, .int .i64 b2] 23)).alloc (.cells #[.int .i64 (a1 * b2 - a2 * b1), .int .i64 (a2 * b0 - a0 * b2), .int .i64 (a0 * b1 - a1 * b0)] 23)) := by (repeat' (first | (with_reducible exact Below.refl _ _) | (with_reducible assumption) | (with_reducible refine Below.drew ?_) | (with_reducible refine below_drewN ?_ _) | (with_reducible refine Below.setCell ?_ ?_ _) | (with_reducible refine Below.alloc ?_ ?_ _) | go_size | omega))
  generalize (((w.alloc (.cells #[.int .i64 a0, .int .i64 a1, .int .i64 a2] 23)).alloc (.cells #[.int .i64 b0, .int .i64 b1, .int .i64 b2] 23)).alloc (.cells #[.int .i64 (a1 * b2 - a2 * b1), .int .i64 (a2 * b0 - a0 * b2), .int .i64 (a0 * b1 - a1 * b0)] 23)) = v at *
  have s0 := RV.cell 0
  have s1 := RV.cell 1
  have s2 := RV.cell 2
  simp at s0 s1 s2
  refine bodyPost_ret (v := vec (a1 * b2 - a2 * b1) (a2 * b0 - a0 * b2) (a0 * b1 - a1 * b0)) (by simp [results, Try.results50, go_sem, s0, s1, s2]) rfl ⟨rfl, BV⟩
end Go.Proofs.Ytahfliboanphkaa
