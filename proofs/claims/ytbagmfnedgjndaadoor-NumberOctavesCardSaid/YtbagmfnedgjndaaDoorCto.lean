/-
  The walks of compareToOne and of the reference's Order: on which side of 1 a product of powers, a quotient of two pitches lies.
-/
import Derived.Test.YtbagmfnedgjndaaDoorRpa
import Derived.Test.YtbagmfnedgjndaaDoorSum
import Derived.Test.YtbagmfnedgjndaaDoorOrd
import Derived.Test.YtbagmfnedgjndaaDoorJon
namespace Go.Proofs.YtbagmfnedgjndaaDoor
open Go.RowKit
set_option maxRecDepth 100000 in
set_option maxHeartbeats 1600000 in
theorem cto_any (a b c : Int) (w : World) (ha : -10000 ≤ a) (ha' : a ≤ 10000) (hb : -10000 ≤ b) (hb' : b ≤ 10000) (hc : -10000 ≤ c) (hc' : c ≤ 10000) (hp : Primes w) :
    Calls Tryd.prog 89 #[.agg #[.int .i64 a, .int .i64 b, .int .i64 c]] w fun e w' => e = .returned (.int .i64 (sgn a b c)) ∧ Below w.heap.size w w' := by
  have HP := Lib.hid hp; clear hp
  go_enter Tryd.func89, Tryd.ntmps89
  go_wp2_with fail
  refine (sides_any a b c _ (by omega) (by omega) (by omega) (by omega) (by omega) (by omega) (HP.out.keep (by go_grown))).mono ?_
  rintro e w1 ⟨g, cap, g', cap', xs, ys, rfl, o1, u1, nx, ny, vx, vy, lx, ly, h1⟩
  have B1 : Below w.heap.size w w1 := below_via (by go_grown) h1
  have O := Lib.hid o1; have U := Lib.hid u1; have NX := Lib.hid nx; have NY := Lib.hid ny; have VX := Lib.hid vx; have VY := Lib.hid vy
  clear o1 u1 nx ny vx vy h1
  go_wp2_with fail
  refine (cmpN_any _ g cap _ g' cap' xs ys _ O.out U.out NX.out NY.out (by omega) (by omega)).mono ?_
  rintro e w2 ⟨rfl, b2⟩
  have B2 : Below w.heap.size w w2 := B1.trans (b2.below _)
  clear b2
  go_wp2_with fail
  go_ret
  exact ⟨ret_int (by rw [VX.out, VY.out]; rfl), by assumption⟩

set_option maxRecDepth 100000 in
set_option maxHeartbeats 1600000 in
theorem rorder_any (a b c d x y z t : Int) (w : World) (hp : okP a b c d = true) (hq : okP x y z t = true) :
    Calls Tryd.prog 42 #[.agg #[.int .i64 a, .int .i64 b, .int .i64 c, .int .i64 d], .agg #[.int .i64 x, .int .i64 y, .int .i64 z, .int .i64 t]] w fun e w' => e = .returned (.int .i64 (ordV a b c d x y z t)) ∧ Below w.heap.size w w' := by
  obtain ⟨⟨d0, d1⟩, ⟨a0, a1⟩, ⟨b0, b1⟩, c0, c1⟩ := okP_bd hp
  obtain ⟨⟨t0, t1⟩, ⟨x0, x1⟩, ⟨y0, y1⟩, z0, z1⟩ := okP_bd hq
  have m1 := mul12 (x := a) (t := t) a0 a1 t0 t1
  have m2 := mul12 (x := b) (t := t) b0 b1 t0 t1
  have m3 := mul12 (x := c) (t := t) c0 c1 t0 t1
  have m4 := mul12 (x := x) (t := d) x0 x1 d0 d1
  have m5 := mul12 (x := y) (t := d) y0 y1 d0 d1
  have m6 := mul12 (x := z) (t := d) z0 z1 d0 d1
  have m7 := mul144 (x := d) (t := t) d0 d1 t0 t1
  have S := fun u : World => sum_any a b c d x y z t (-1) u (.inr rfl) d0 d1 t0 t1 (by omega) (by omega) (by omega) (by omega) (by omega) (by omega) (by omega) (by omega) (by omega) (by omega) (by omega) (by omega)
  have e1 : a * t + -1 * x * d = a * t - x * d := by rw [Int.neg_one_mul, Int.neg_mul]; omega
  have e2 : b * t + -1 * y * d = b * t - y * d := by rw [Int.neg_one_mul, Int.neg_mul]; omega
  have e3 : c * t + -1 * z * d = c * t - z * d := by rw [Int.neg_one_mul, Int.neg_mul]; omega
  rw [e1, e2, e3] at S
  have hv : ordV a b c d x y z t = sgn (a * t - x * d) (b * t - y * d) (c * t - z * d) := rfl
  rw [hv]
  have A0 : -9600 ≤ a * t - x * d ∧ a * t - x * d ≤ 9600 := by omega
  have A1 : -9600 ≤ b * t - y * d ∧ b * t - y * d ≤ 9600 := by omega
  have A2 : -9600 ≤ c * t - z * d ∧ c * t - z * d ≤ 9600 := by omega
  generalize a * t - x * d = A at *
  generalize b * t - y * d = B at *
  generalize c * t - z * d = C at *
  generalize d * t = D at *
  have N := fun u : World => rnormal_any A B C D u (by omega) (by omega) (by omega) (by omega) (by omega) (by omega) (by omega) (by omega)
  have n1 := tdiv_bd (g := gcd4 A B C D) A0.1 A0.2
  have n2 := tdiv_bd (g := gcd4 A B C D) A1.1 A1.2
  have n3 := tdiv_bd (g := gcd4 A B C D) A2.1 A2.2
  have SG := Lib.hid (sgn_nrm A B C D (by omega))
  have HS := Lib.hid S; have HN := Lib.hid N
  have P := Lib.hid (fun u : World => rparts_any (nrm A B C D A) (nrm A B C D B) (nrm A B C D C) u (by unfold nrm; omega) (by unfold nrm; omega) (by unfold nrm; omega) (by unfold nrm; omega) (by unfold nrm; omega) (by unfold nrm; omega))
  clear S N n1 n2 n3 A0 A1 A2 m1 m2 m3 m4 m5 m6 m7 e1 e2 e3 hv hp hq d0 d1 a0 a1 b0 b1 c0 c1 t0 t1 x0 x1 y0 y1 z0 z1
  generalize nrm A B C D A = A' at *
  generalize nrm A B C D B = B' at *
  generalize nrm A B C D C = C' at *
  generalize nrm A B C D D = D' at *
  go_enter Tryd.func42, Tryd.ntmps42
  go_wp2_with fail
  refine (HS.out _).mono ?_
  rintro e w1 ⟨rfl, h1⟩
  have B1 : Below w.heap.size w w1 := below_via (by go_grown) h1
  have z1 := B1.size
  clear h1
  go_wp2_with fail
  refine (HN.out _).mono ?_
  rintro e w2 ⟨rfl, h2⟩
  have B2 : Below w.heap.size w w2 := below_via (by go_grown) h2
  have z2 := B2.size
  have X2 := Lib.hid (Box.new w2 #[.int .i64 A', .int .i64 B', .int .i64 C', .int .i64 D'] 47 rfl)
  clear h2
  obtain ⟨q0, q1, q2, q3, -⟩ := X2.out.four
  go_wp2_with fail
  refine (P.out _).mono ?_
  rintro e w3 ⟨ao, bo, ca, cb, xs, ys, rfl, o3, u3, nx, ny, vx, vy, lx, ly, h3⟩
  have B3 : Below w.heap.size w w3 := below_via (by go_grown) h3
  have O := Lib.hid o3; have U := Lib.hid u3; have NX := Lib.hid nx; have NY := Lib.hid ny; have VX := Lib.hid vx; have VY := Lib.hid vy
  clear o3 u3 nx ny vx vy h3
  go_wp2_with fail
  refine (rcmpN_any ao bo ca cb xs ys _ O.out U.out NX.out NY.out (by omega) (by omega)).mono ?_
  rintro e w4 ⟨rfl, b4⟩
  have B4 : Below w.heap.size w w4 := B3.trans (b4.below _)
  clear b4
  go_wp2_with fail
  go_ret
  exact ⟨ret_int (by rw [VX.out, VY.out, ← SG.out]; rfl), by assumption⟩
end Go.Proofs.YtbagmfnedgjndaaDoor
