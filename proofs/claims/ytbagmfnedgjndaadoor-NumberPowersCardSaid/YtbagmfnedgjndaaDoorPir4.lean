/-
  The walk of the reference of Power.
-/
import Derived.Test.YtbagmfnedgjndaaDoorPir3
import Derived.Test.YtbagmfnedgjndaaDoorFr3
namespace Go.Proofs.YtbagmfnedgjndaaDoor
open Go.RowKit

set_option maxRecDepth 100000 in
set_option maxHeartbeats 1600000 in
theorem rpower_any (a b c d n m : Int) (w : World) (hp : okP a b c d = true) (hf : chkF n m = 0) :
    Calls Tryd.prog 39 #[.agg #[.int .i64 a, .int .i64 b, .int .i64 c, .int .i64 d], .agg #[.int .i64 n, .int .i64 m]] w fun e w' =>
      e = .returned (.tuple #[.agg #[.int .i64 (pX (a * n) (b * n) (c * n) (d * m) (a * n)), .int .i64 (pX (a * n) (b * n) (c * n) (d * m) (b * n)), .int .i64 (pX (a * n) (b * n) (c * n) (d * m) (c * n)), .int .i64 (pX (a * n) (b * n) (c * n) (d * m) (d * m))], .int .i64 (pE (a * n) (b * n) (c * n) (d * m))]) ∧ Below w.heap.size w w' := by
  obtain ⟨⟨d0, d1⟩, ⟨a0, a1⟩, ⟨b0, b1⟩, c0, c1⟩ := okP_bd hp
  obtain ⟨m0, m1, n0, n1, _⟩ := chkF_ok hf
  obtain ⟨x0, x1⟩ := mulM_bd (n := a) (t := n) (by omega) (by omega) n0 n1
  obtain ⟨x2, x3⟩ := mulM_bd (n := b) (t := n) (by omega) (by omega) n0 n1
  obtain ⟨x4, x5⟩ := mulM_bd (n := c) (t := n) (by omega) (by omega) n0 n1
  obtain ⟨x6, x7⟩ := mulP_bd (n := d) (t := m) (by omega) (by omega) m0 m1
  have VA := Lib.hid (fun u : World => rvalid_any (a * n) (b * n) (c * n) (d * m) u x0 x1 x2 x3 x4 x5 x6 x7)
  clear hp hf
  go_enter Tryd.func39, Tryd.ntmps39
  go_wp2_with fail
  refine (VA.out _).mono ?_
  rintro e w7 ⟨rfl, h7⟩
  have B7 : Below w.heap.size w w7 := below_via (by go_grown) h7
  have z7 := B7.size
  obtain ⟨r0, r1, r2, r3, f0, f1, f2, f3⟩ := ((Box.new ((w.alloc (.cells #[.int .i64 a, .int .i64 b, .int .i64 c, .int .i64 d] 47)).alloc (.cells #[.int .i64 n, .int .i64 m] 23)) #[.int .i64 0, .int .i64 0, .int .i64 0, .int .i64 0] 47 (n := w.heap.size + 1 + 1) (by simp)).keep h7).four
  have y7 := h7.size
  simp at y7
  clear h7
  go_wp2_with fail
  refine bodyPost_ret (v := .tuple #[.agg #[.int .i64 (pX (a * n) (b * n) (c * n) (d * m) (a * n)), .int .i64 (pX (a * n) (b * n) (c * n) (d * m) (b * n)), .int .i64 (pX (a * n) (b * n) (c * n) (d * m) (c * n)), .int .i64 (pX (a * n) (b * n) (c * n) (d * m) (d * m))], .int .i64 (pE (a * n) (b * n) (c * n) (d * m))])
    (by simp [results, Tryd.results39, go_sem, r0, r1, r2, r3]) rfl ⟨rfl, ?_⟩
  go_grown
end Go.Proofs.YtbagmfnedgjndaaDoor
