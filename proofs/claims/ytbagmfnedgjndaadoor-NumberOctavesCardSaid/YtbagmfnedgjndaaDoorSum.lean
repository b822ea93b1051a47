/-
  The walk of the reference's sum of two pitches' exponents, and of its Join.
-/
import Derived.Test.YtbagmfnedgjndaaDoorPir3
namespace Go.Proofs.YtbagmfnedgjndaaDoor
open Go.RowKit
theorem mulN {x t : Int} (x0 : -10000 ≤ x) (x1 : x ≤ 10000) (t0 : 1 ≤ t) (t1 : t ≤ 12) : -120000 ≤ x * t ∧ x * t ≤ 120000 := by
  have h1 := Int.mul_le_mul_of_nonneg_right x1 (show 0 ≤ t by omega)
  have h2 := Int.mul_le_mul_of_nonneg_right x0 (show 0 ≤ t by omega)
  omega
theorem mulNN {x t : Int} (x0 : 1 ≤ x) (x1 : x ≤ 12) (t0 : 1 ≤ t) (t1 : t ≤ 12) : 1 ≤ x * t ∧ x * t ≤ 144 := by
  have h1 := Int.mul_le_mul_of_nonneg_right x1 (show 0 ≤ t by omega)
  have h2 := Int.mul_le_mul_of_nonneg_right x0 (show 0 ≤ t by omega)
  omega
set_option maxRecDepth 100000 in
set_option maxHeartbeats 1600000 in
theorem sum_any (a b c d x y z t s : Int) (w : World) (hs : s = 1 ∨ s = -1) (d0 : 1 ≤ d) (d1 : d ≤ 12) (t0 : 1 ≤ t) (t1 : t ≤ 12)
    (a0 : -10000 ≤ a) (a1 : a ≤ 10000) (b0 : -10000 ≤ b) (b1 : b ≤ 10000) (c0 : -10000 ≤ c) (c1 : c ≤ 10000) (x0 : -10000 ≤ x) (x1 : x ≤ 10000) (y0 : -10000 ≤ y) (y1 : y ≤ 10000) (z0 : -10000 ≤ z) (z1 : z ≤ 10000) :
    Calls Tryd.prog 87 #[.agg #[.int .i64 a, .int .i64 b, .int .i64 c, .int .i64 d], .agg #[.int .i64 x, .int .i64 y, .int .i64 z, .int .i64 t], .int .i64 s] w fun e w' => e = .returned (.agg #[.int .i64 (a * t + s * x * d), .int .i64 (b * t + s * y * d), .int .i64 (c * t + s * z * d), .int .i64 (d * t)]) ∧ Below w.heap.size w w' := by
  have sx : -10000 ≤ s * x ∧ s * x ≤ 10000 := by rcases hs with rfl | rfl <;> omega
  have sy : -10000 ≤ s * y ∧ s * y ≤ 10000 := by rcases hs with rfl | rfl <;> omega
  have sz' : -10000 ≤ s * z ∧ s * z ≤ 10000 := by rcases hs with rfl | rfl <;> omega
  have m1 := mulN a0 a1 t0 t1
  have m2 := mulN b0 b1 t0 t1
  have m3 := mulN c0 c1 t0 t1
  have m4 := mulN sx.1 sx.2 d0 d1
  have m5 := mulN sy.1 sy.2 d0 d1
  have m6 := mulN sz'.1 sz'.2 d0 d1
  have m7 := mulNN d0 d1 t0 t1
  have W := fun (v : Int) (h0 : -1000000 ≤ v) (h1 : v ≤ 1000000) => IntWalk.wrap64_in v ⟨by omega, by omega⟩
  have e1 := W (a * t) (by omega) (by omega)
  have e2 := W (b * t) (by omega) (by omega)
  have e3 := W (c * t) (by omega) (by omega)
  have e4 := W (s * x) (by omega) (by omega)
  have e5 := W (s * y) (by omega) (by omega)
  have e6 := W (s * z) (by omega) (by omega)
  have e7 := W (s * x * d) (by omega) (by omega)
  have e8 := W (s * y * d) (by omega) (by omega)
  have e9 := W (s * z * d) (by omega) (by omega)
  have f1 := W (a * t + s * x * d) (by omega) (by omega)
  have f2 := W (b * t + s * y * d) (by omega) (by omega)
  have f3 := W (c * t + s * z * d) (by omega) (by omega)
  have f4 := W (d * t) (by omega) (by omega)
  have HE := Lib.hid (And.intro e1 (And.intro e2 (And.intro e3 (And.intro e4 (And.intro e5 (And.intro e6 (And.intro e7 (And.intro e8 (And.intro e9 (And.intro f1 (And.intro f2 (And.intro f3 f4))))))))))))
  clear e1 e2 e3 e4 e5 e6 e7 e8 e9 f1 f2 f3 f4 W m1 m2 m3 m4 m5 m6 m7 sx sy sz'
  go_enter Tryd.func87, Tryd.ntmps87
  go_wp2_with fail
  go_returns
  obtain ⟨e1, e2, e3, e4, e5, e6, e7, e8, e9, f1, f2, f3, f4⟩ := HE.out
  refine ⟨by simp only [e1, e2, e3, e4, e5, e6, e7, e8, e9, f1, f2, f3, f4], by go_grown⟩
set_option maxRecDepth 100000 in
set_option maxHeartbeats 1600000 in
theorem rjoin_any (a b c d x y z t : Int) (w : World) (d0 : 1 ≤ d) (d1 : d ≤ 12) (t0 : 1 ≤ t) (t1 : t ≤ 12)
    (a0 : -10000 ≤ a) (a1 : a ≤ 10000) (b0 : -10000 ≤ b) (b1 : b ≤ 10000) (c0 : -10000 ≤ c) (c1 : c ≤ 10000) (x0 : -10000 ≤ x) (x1 : x ≤ 10000) (y0 : -10000 ≤ y) (y1 : y ≤ 10000) (z0 : -10000 ≤ z) (z1 : z ≤ 10000) :
    Calls Tryd.prog 37 #[.agg #[.int .i64 a, .int .i64 b, .int .i64 c, .int .i64 d], .agg #[.int .i64 x, .int .i64 y, .int .i64 z, .int .i64 t]] w fun e w' =>
      e = .returned (.tuple #[.agg #[.int .i64 (pX (a * t + x * d) (b * t + y * d) (c * t + z * d) (d * t) (a * t + x * d)), .int .i64 (pX (a * t + x * d) (b * t + y * d) (c * t + z * d) (d * t) (b * t + y * d)), .int .i64 (pX (a * t + x * d) (b * t + y * d) (c * t + z * d) (d * t) (c * t + z * d)), .int .i64 (pX (a * t + x * d) (b * t + y * d) (c * t + z * d) (d * t) (d * t))], .int .i64 (pE (a * t + x * d) (b * t + y * d) (c * t + z * d) (d * t))]) ∧ Below w.heap.size w w' := by
  have m1 := mulN a0 a1 t0 t1
  have m2 := mulN b0 b1 t0 t1
  have m3 := mulN c0 c1 t0 t1
  have m4 := mulN x0 x1 d0 d1
  have m5 := mulN y0 y1 d0 d1
  have m6 := mulN z0 z1 d0 d1
  have m7 := mulNN d0 d1 t0 t1
  have VA := Lib.hid (fun u : World => rvalid_any (a * t + x * d) (b * t + y * d) (c * t + z * d) (d * t) u (by omega) (by omega) (by omega) (by omega) (by omega) (by omega) (by omega) (by omega))
  have SU0 := fun u : World => sum_any a b c d x y z t 1 u (.inl rfl) d0 d1 t0 t1 a0 a1 b0 b1 c0 c1 x0 x1 y0 y1 z0 z1
  simp only [Int.one_mul] at SU0
  have SU := Lib.hid SU0
  clear SU0 m1 m2 m3 m4 m5 m6 m7
  generalize a * t + x * d = p at *
  generalize b * t + y * d = q at *
  generalize c * t + z * d = r at *
  generalize d * t = v at *
  go_enter Tryd.func37, Tryd.ntmps37
  go_wp2_with fail
  refine (SU.out _).mono ?_
  rintro e w6 ⟨rfl, h6⟩
  have B6 : Below w.heap.size w w6 := below_via (by go_grown) h6
  have z6 := B6.size
  have R6 := Lib.hid ((Box.new ((w.alloc (.cells #[.int .i64 a, .int .i64 b, .int .i64 c, .int .i64 d] 47)).alloc (.cells #[.int .i64 x, .int .i64 y, .int .i64 z, .int .i64 t] 47)) #[.int .i64 0, .int .i64 0, .int .i64 0, .int .i64 0] 47 (n := w.heap.size + 1 + 1) (by simp)).keep h6)
  have y6 := h6.size
  simp at y6
  clear h6
  go_wp2_with fail
  refine (VA.out _).mono ?_
  rintro e w7 ⟨rfl, h7⟩
  have B7 : Below w.heap.size w w7 := below_via (by go_grown) h7
  have z7 := B7.size
  obtain ⟨r0, r1, r2, r3, f0, f1, f2, f3⟩ := (R6.out.keep h7).four
  have y7 := h7.size
  clear h7
  go_wp2_with fail
  refine bodyPost_ret (v := .tuple #[.agg #[.int .i64 (pX p q r v p), .int .i64 (pX p q r v q), .int .i64 (pX p q r v r), .int .i64 (pX p q r v v)], .int .i64 (pE p q r v)])
    (by simp [results, Tryd.results37, go_sem, r0, r1, r2, r3]) rfl ⟨rfl, ?_⟩
  go_grown
end Go.Proofs.YtbagmfnedgjndaaDoor
