/-
  The walk of Octave where the pitch is wrong; the reference's Octave.
-/
import Derived.Test.YtbagmfnedgjndaaDoorOct
namespace Go.Proofs.YtbagmfnedgjndaaDoor
open Go.RowKit
set_option maxRecDepth 100000 in
set_option maxHeartbeats 1600000 in
theorem octave_bad (a b c d : Int) (w : World) (h : nE a b c d ≠ 0) :
    Calls Tryd.prog 43 #[.agg #[.int .i64 a, .int .i64 b, .int .i64 c, .int .i64 d]] w fun e w' =>
      e = .returned (.tuple #[.agg #[.int .i64 0, .int .i64 0, .int .i64 0, .int .i64 0], .int .i64 0, .int .i64 (nE a b c d)]) ∧ Below w.heap.size w w' := by
  have h0 : (nE a b c d != 0) = true := by simpa using h
  have HN := Lib.hid (fun u : World => normal_any a b c d u)
  clear h
  go_enter Tryd.func43, Tryd.ntmps43
  go_wp2_with fail
  refine (HN.out _).mono ?_
  rintro e w1 ⟨rfl, h1⟩
  have b1 : Below w.heap.size w w1 := below_via (by go_grown) h1
  have s1 := h1.size
  simp at s1
  have hP := ((Box.new w _ _ rfl).alloc _).keep h1
  have hR := (Box.new (w.alloc _) _ _ (n := w.heap.size + 1) (by simp)).keep h1
  obtain ⟨p0, p1, p2, p3, q0', q1', q2', q3'⟩ := hP.four
  have lR := hR.lt
  have l0 : w.heap.size < w1.heap.size := by omega
  obtain ⟨r0, r1, r2, r3, f0, f1, f2, f3⟩ := hR.four
  clear h1 hP hR
  go_wp2_with fail
  refine bodyPost_ret (v := .tuple #[.agg #[.int .i64 0, .int .i64 0, .int .i64 0, .int .i64 0], .int .i64 0, .int .i64 (nE a b c d)])
    (by simp [results, Tryd.results43, go_sem, r0, r1, r2, r3]) rfl ⟨rfl, ?_⟩
  go_grown
theorem octave_any (a b c d : Int) (w : World) (hp : Primes w) (h : nE a b c d = 0) :
    Calls Tryd.prog 43 #[.agg #[.int .i64 a, .int .i64 b, .int .i64 c, .int .i64 d]] w fun e w' =>
      e = .returned (.tuple #[.agg #[.int .i64 (pX (nX a b c d a - octN (nX a b c d a) (nX a b c d b) (nX a b c d c) (nX a b c d d) * (nX a b c d d)) (nX a b c d b) (nX a b c d c) (nX a b c d d) (nX a b c d a - octN (nX a b c d a) (nX a b c d b) (nX a b c d c) (nX a b c d d) * (nX a b c d d))), .int .i64 (pX (nX a b c d a - octN (nX a b c d a) (nX a b c d b) (nX a b c d c) (nX a b c d d) * (nX a b c d d)) (nX a b c d b) (nX a b c d c) (nX a b c d d) (nX a b c d b)), .int .i64 (pX (nX a b c d a - octN (nX a b c d a) (nX a b c d b) (nX a b c d c) (nX a b c d d) * (nX a b c d d)) (nX a b c d b) (nX a b c d c) (nX a b c d d) (nX a b c d c)), .int .i64 (pX (nX a b c d a - octN (nX a b c d a) (nX a b c d b) (nX a b c d c) (nX a b c d d) * (nX a b c d d)) (nX a b c d b) (nX a b c d c) (nX a b c d d) (nX a b c d d))],
        .int .i64 (octI (pE (nX a b c d a - octN (nX a b c d a) (nX a b c d b) (nX a b c d c) (nX a b c d d) * (nX a b c d d)) (nX a b c d b) (nX a b c d c) (nX a b c d d)) (octN (nX a b c d a) (nX a b c d b) (nX a b c d c) (nX a b c d d))), .int .i64 (pE (nX a b c d a - octN (nX a b c d a) (nX a b c d b) (nX a b c d c) (nX a b c d d) * (nX a b c d d)) (nX a b c d b) (nX a b c d c) (nX a b c d d))]) ∧ Below w.heap.size w w' := by
  obtain ⟨⟨d0, d1⟩, ⟨a0, a1⟩, ⟨b0, b1⟩, c0, c1⟩ := nE_zero h
  exact octave_good a b c d _ _ _ _ w hp h rfl rfl rfl rfl d0 d1 a0 a1 b0 b1 c0 c1

-- the reference's Order of pitches that need not be valid
set_option maxRecDepth 100000 in
set_option maxHeartbeats 1600000 in
theorem rord2_any (a b c d m : Int) (w : World) (d0 : 1 ≤ d) (d1 : d ≤ 12) (a0 : -400 ≤ a) (a1 : a ≤ 400) (b0 : -400 ≤ b) (b1 : b ≤ 400) (c0 : -400 ≤ c) (c1 : c ≤ 400)
    (m0 : -10000 ≤ m) (m1 : m ≤ 10000) (A0 : -9600 ≤ a - m * d) (A1 : a - m * d ≤ 9600) :
    Calls Tryd.prog 42 #[.agg #[.int .i64 a, .int .i64 b, .int .i64 c, .int .i64 d], .agg #[.int .i64 m, .int .i64 0, .int .i64 0, .int .i64 1]] w fun e w' => e = .returned (.int .i64 (sgn (a - m * d) b c)) ∧ Below w.heap.size w w' := by
  have S := fun u : World => sum_any a b c d m 0 0 1 (-1) u (.inr rfl) d0 d1 (by omega) (by omega) (by omega) (by omega) (by omega) (by omega) (by omega) (by omega) (by omega) (by omega) (by omega) (by omega) (by omega) (by omega)
  have e1 : a * 1 + -1 * m * d = a - m * d := by rw [Int.neg_one_mul, Int.neg_mul]; omega
  have e2 : b * 1 + -1 * 0 * d = b := by simp
  have e3 : c * 1 + -1 * 0 * d = c := by simp
  have e4 : d * 1 = d := by omega
  rw [e1, e2, e3, e4] at S
  generalize a - m * d = A at *
  have N := fun u : World => rnormal_any A b c d u (by omega) (by omega) (by omega) (by omega) (by omega) (by omega) (by omega) (by omega)
  have n1 := tdiv_bd (g := gcd4 A b c d) A0 A1
  have n2 := tdiv_bd (g := gcd4 A b c d) b0 b1
  have n3 := tdiv_bd (g := gcd4 A b c d) c0 c1
  have SG := Lib.hid (sgn_nrm A b c d (by omega))
  have HS := Lib.hid S; have HN := Lib.hid N
  have P := Lib.hid (fun u : World => rparts_any (nrm A b c d A) (nrm A b c d b) (nrm A b c d c) u (by unfold nrm; omega) (by unfold nrm; omega) (by unfold nrm; omega) (by unfold nrm; omega) (by unfold nrm; omega) (by unfold nrm; omega))
  clear S N n1 n2 n3 A0 A1 e1 e2 e3 e4 d0 d1 a0 a1 b0 b1 c0 c1 m0 m1
  generalize nrm A b c d A = A' at *
  generalize nrm A b c d b = B' at *
  generalize nrm A b c d c = C' at *
  generalize nrm A b c d d = D' at *
  go_enter Tryd.func42, Tryd.ntmps42
  go_wp2_with fail
  refine (HS.out _).mono ?_
  rintro e w1 ⟨rfl, h1⟩
  have B1 : Below w.heap.size w w1 := below_via (by go_grown) h1
  have z1 := B1.size
  clear h1
  go_wp2_with fail
  refine (HN.out _).mono ?_
  rintro e w2 ⟨rfl, h2⟩
  have B2 : Below w.heap.size w w2 := below_via (by go_grown) h2
  have z2 := B2.size
  have X2 := Lib.hid (Box.new w2 #[.int .i64 A', .int .i64 B', .int .i64 C', .int .i64 D'] 47 rfl)
  clear h2
  obtain ⟨q0, q1, q2, q3, -⟩ := X2.out.four
  go_wp2_with fail
  refine (P.out _).mono ?_
  rintro e w3 ⟨ao, bo, ca, cb, xs, ys, rfl, o3, u3, nx, ny, vx, vy, lx, ly, h3⟩
  have B3 : Below w.heap.size w w3 := below_via (by go_grown) h3
  have O := Lib.hid o3; have U := Lib.hid u3; have NX := Lib.hid nx; have NY := Lib.hid ny; have VX := Lib.hid vx; have VY := Lib.hid vy
  clear o3 u3 nx ny vx vy h3
  go_wp2_with fail
  refine (rcmpN_any ao bo ca cb xs ys _ O.out U.out NX.out NY.out (by omega) (by omega)).mono ?_
  rintro e w4 ⟨rfl, b4⟩
  have B4 : Below w.heap.size w w4 := B3.trans (b4.below _)
  clear b4
  go_wp2_with fail
  go_ret
  exact ⟨ret_int (by rw [VX.out, VY.out, ← SG.out]; rfl), by assumption⟩
end Go.Proofs.YtbagmfnedgjndaaDoor
