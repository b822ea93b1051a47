/-
  The walks of the references of fractions: fracs, Add, Times, Divide, Cmp.
-/
import Derived.Test.YtcojcfjagneecaaDoorFr4
namespace Go.Proofs.YtcojcfjagneecaaDoor
open Go.RowKit

set_option maxHeartbeats 1600000 in
theorem fracs_any (a b c d : Int) (w : World) (a0 : -9223372036854775808 ≤ a) (a1 : a ≤ 9223372036854775807) (b0 : -9223372036854775808 ≤ b) (b1 : b ≤ 9223372036854775807) (c0 : -9223372036854775808 ≤ c) (c1 : c ≤ 9223372036854775807) (d0 : -9223372036854775808 ≤ d) (d1 : d ≤ 9223372036854775807) :
    Calls Tryd.prog 22 #[.agg #[.int .i64 a, .int .i64 b], .agg #[.int .i64 c, .int .i64 d]] w fun e w' => e = .returned (.int .i64 (err2 (chkF a b) (chkF c d))) ∧ Below w.heap.size w w' := by
  by_cases h : chkF a b = 0
  · have h0 : (chkF a b != 0) = false := by simpa using h
    have HH := Lib.hid h; clear h
    go_enter Tryd.func22, Tryd.ntmps22
    go_wp2_with fail
    refine (rchkF_any _ _ _ (by assumption) (by assumption) (by assumption) (by assumption)).mono ?_
    rintro e w1 ⟨rfl, h1⟩
    have B1 : Below w.heap.size w w1 := below_via (by go_grown) h1
    have q := (Box.new (w.alloc (.cells #[.int .i64 a, .int .i64 b] 23)) #[.int .i64 c, .int .i64 d] 23 (n := w.heap.size + 1) (by simp)).keep h1
    obtain ⟨q0, q1, _, _⟩ := q.two
    clear q h1
    go_wp2_with fail
    refine (rchkF_any _ _ _ (by assumption) (by assumption) (by assumption) (by assumption)).mono ?_
    rintro e w2 ⟨rfl, h2⟩
    have B2 : Below w.heap.size w w2 := below_via (by go_grown) h2
    clear h2
    go_wp2_with fail
    go_ret
    exact ⟨ret_int (by unfold err2; rw [HH.out]; rfl), by assumption⟩
  · have h0 : (chkF a b != 0) = true := by simpa using h
    have HH := Lib.hid h; clear h
    go_enter Tryd.func22, Tryd.ntmps22
    go_wp2_with fail
    refine (rchkF_any _ _ _ (by assumption) (by assumption) (by assumption) (by assumption)).mono ?_
    rintro e w1 ⟨rfl, h1⟩
    have B1 : Below w.heap.size w w1 := below_via (by go_grown) h1
    clear h1
    go_wp2_with fail
    go_ret
    exact ⟨ret_int (by unfold err2; rw [if_pos HH.out]), by assumption⟩

set_option maxRecDepth 100000 in
set_option maxHeartbeats 1600000 in
theorem rad_any (a b c d : Int) (w : World) (h : err2 (chkF a b) (chkF c d) = 0) :
    Calls Tryd.prog 23 #[.agg #[.int .i64 a, .int .i64 b], .agg #[.int .i64 c, .int .i64 d]] w fun e w' =>
      e = .returned (.tuple #[.agg #[.int .i64 (adN a b c d), .int .i64 (adD a b c d)], .int .i64 (adE a b c d)]) ∧ Below w.heap.size w w' := by
  have F1 := Lib.hid (show adN a b c d = fwN (a * d + c * b) (b * d) by unfold adN; rw [if_neg (by omega)])
  have F2 := Lib.hid (show adD a b c d = fwD (a * d + c * b) (b * d) by unfold adD; rw [if_neg (by omega)])
  have F3 := Lib.hid (show adE a b c d = fwE (a * d + c * b) (b * d) by unfold adE; rw [if_neg (by omega)])
  obtain ⟨b0, b1, a0, a1, _⟩ := chkF_ok (err2_zero h).1
  obtain ⟨d0, d1, c0, c1, _⟩ := chkF_ok (err2_zero h).2
  obtain ⟨m00, m01⟩ := mulM_bd a0 a1 (show -1000000000 ≤ d by omega) d1
  obtain ⟨m10, m11⟩ := mulM_bd c0 c1 (show -1000000000 ≤ b by omega) b1
  obtain ⟨m20, m21⟩ := mulP_bd b0 b1 d0 d1
  have RW := Lib.hid (fun u : World => fit_any (a * d + c * b) (b * d) u (by omega) (by omega) (by omega) (by omega))
  clear h
  go_enter Tryd.func23, Tryd.ntmps23
  go_wp2_with fail
  refine (RW.out _).mono ?_
  rintro e w7 ⟨rfl, h7⟩
  have B7 : Below w.heap.size w w7 := below_via (by go_grown) h7
  have z7 := B7.size
  obtain ⟨r0, r1, f0, f1⟩ := ((Box.new ((w.alloc (.cells #[.int .i64 a, .int .i64 b] 23)).alloc (.cells #[.int .i64 c, .int .i64 d] 23)) #[.int .i64 0, .int .i64 0] 23 (n := w.heap.size + 1 + 1) (by simp)).keep h7).two
  have y7 := h7.size
  simp at y7
  clear h7
  go_wp2_with fail
  refine bodyPost_ret (v := .tuple #[.agg #[.int .i64 (adN a b c d), .int .i64 (adD a b c d)], .int .i64 (adE a b c d)])
      (by simp [results, Tryd.results23, go_sem, r0, r1, F1.out, F2.out, F3.out]) rfl ⟨rfl, ?_⟩
  go_grown
set_option maxRecDepth 100000 in
set_option maxHeartbeats 1600000 in
theorem rti_any (a b c d : Int) (w : World) (h : err2 (chkF a b) (chkF c d) = 0) :
    Calls Tryd.prog 24 #[.agg #[.int .i64 a, .int .i64 b], .agg #[.int .i64 c, .int .i64 d]] w fun e w' =>
      e = .returned (.tuple #[.agg #[.int .i64 (tiN a b c d), .int .i64 (tiD a b c d)], .int .i64 (tiE a b c d)]) ∧ Below w.heap.size w w' := by
  have F1 := Lib.hid (show tiN a b c d = fwN (a * c) (b * d) by unfold tiN; rw [if_neg (by omega)])
  have F2 := Lib.hid (show tiD a b c d = fwD (a * c) (b * d) by unfold tiD; rw [if_neg (by omega)])
  have F3 := Lib.hid (show tiE a b c d = fwE (a * c) (b * d) by unfold tiE; rw [if_neg (by omega)])
  obtain ⟨b0, b1, a0, a1, _⟩ := chkF_ok (err2_zero h).1
  obtain ⟨d0, d1, c0, c1, _⟩ := chkF_ok (err2_zero h).2
  obtain ⟨m00, m01⟩ := mulM_bd a0 a1 c0 c1
  obtain ⟨m10, m11⟩ := mulP_bd b0 b1 d0 d1
  have RW := Lib.hid (fun u : World => fit_any (a * c) (b * d) u (by omega) (by omega) (by omega) (by omega))
  clear h
  go_enter Tryd.func24, Tryd.ntmps24
  go_wp2_with fail
  refine (RW.out _).mono ?_
  rintro e w7 ⟨rfl, h7⟩
  have B7 : Below w.heap.size w w7 := below_via (by go_grown) h7
  have z7 := B7.size
  obtain ⟨r0, r1, f0, f1⟩ := ((Box.new ((w.alloc (.cells #[.int .i64 a, .int .i64 b] 23)).alloc (.cells #[.int .i64 c, .int .i64 d] 23)) #[.int .i64 0, .int .i64 0] 23 (n := w.heap.size + 1 + 1) (by simp)).keep h7).two
  have y7 := h7.size
  simp at y7
  clear h7
  go_wp2_with fail
  refine bodyPost_ret (v := .tuple #[.agg #[.int .i64 (tiN a b c d), .int .i64 (tiD a b c d)], .int .i64 (tiE a b c d)])
      (by simp [results, Tryd.results24, go_sem, r0, r1, F1.out, F2.out, F3.out]) rfl ⟨rfl, ?_⟩
  go_grown
set_option maxRecDepth 100000 in
set_option maxHeartbeats 1600000 in
theorem rcmp_any (a b c d : Int) (w : World) (h : err2 (chkF a b) (chkF c d) = 0) :
    Calls Tryd.prog 26 #[.agg #[.int .i64 a, .int .i64 b], .agg #[.int .i64 c, .int .i64 d]] w fun e w' =>
      e = .returned (.int .i64 (coV a b c d)) ∧ Below w.heap.size w w' := by
  have F1 := Lib.hid (show coV a b c d = cmpI (a * d) (c * b) by unfold coV; rw [if_neg (by omega)])
  obtain ⟨b0, b1, a0, a1, _⟩ := chkF_ok (err2_zero h).1
  obtain ⟨d0, d1, c0, c1, _⟩ := chkF_ok (err2_zero h).2
  obtain ⟨m00, m01⟩ := mulM_bd a0 a1 (show -1000000000 ≤ d by omega) d1
  obtain ⟨m10, m11⟩ := mulM_bd c0 c1 (show -1000000000 ≤ b by omega) b1
  clear h
  have F2 := Lib.hid (show cmpI (a * d) (c * b) = if a * d < c * b then -1 else if c * b < a * d then 1 else 0 from rfl)
  rcases Int.lt_trichotomy (a * d) (c * b) with hz | hz | hz
  all_goals
    go_enter Tryd.func26, Tryd.ntmps26
    go_wp2_with fail
    go_quiet (fail)
    go_wp2_with fail
    go_ret
    refine ⟨ret_int ?_, below_drewN (by go_grown) _⟩
    rw [F1.out, F2.out]
    first | (rw [if_pos (by omega)]; done) | (rw [if_neg (by omega), if_pos (by omega)]; done) | (rw [if_neg (by omega), if_neg (by omega)]; done)
set_option maxRecDepth 100000 in
set_option maxHeartbeats 1600000 in
theorem rdv_zero (a b c d : Int) (w : World) (h : err2 (chkF a b) (chkF c d) = 0) (hz : c = 0) :
    Calls Tryd.prog 25 #[.agg #[.int .i64 a, .int .i64 b], .agg #[.int .i64 c, .int .i64 d]] w fun e w' =>
      e = .returned (.tuple #[.agg #[.int .i64 (dvN a b c d), .int .i64 (dvD a b c d)], .int .i64 (dvE a b c d)]) ∧ Below w.heap.size w w' := by
  have F1 := Lib.hid (show dvN a b c d = 0 by unfold dvN; rw [if_neg (by omega), if_pos hz])
  have F2 := Lib.hid (show dvD a b c d = 0 by unfold dvD; rw [if_neg (by omega), if_pos hz])
  have F3 := Lib.hid (show dvE a b c d = 11 by unfold dvE; rw [if_neg (by omega), if_pos hz])
  have hz0 : (c == 0) = true := by simpa using hz
  clear h hz
  go_enter Tryd.func25, Tryd.ntmps25
  go_wp2_with fail
  refine bodyPost_ret (v := .tuple #[.agg #[.int .i64 (dvN a b c d), .int .i64 (dvD a b c d)], .int .i64 (dvE a b c d)])
      (by simp [results, Tryd.results25, go_sem, F1.out, F2.out, F3.out]) rfl ⟨rfl, ?_⟩
  go_grown
set_option maxRecDepth 100000 in
set_option maxHeartbeats 1600000 in
theorem rdv_pos (a b c d : Int) (w : World) (h : err2 (chkF a b) (chkF c d) = 0) (hz : 0 < c) :
    Calls Tryd.prog 25 #[.agg #[.int .i64 a, .int .i64 b], .agg #[.int .i64 c, .int .i64 d]] w fun e w' =>
      e = .returned (.tuple #[.agg #[.int .i64 (dvN a b c d), .int .i64 (dvD a b c d)], .int .i64 (dvE a b c d)]) ∧ Below w.heap.size w w' := by
  have X1 : dvX a c d = a * d := by unfold dvX; rw [if_neg (by omega)]
  have X2 : dvY b c = b * c := by unfold dvY; rw [if_neg (by omega)]
  have F1 := Lib.hid (show dvN a b c d = fwN (a * d) (b * c) by unfold dvN; rw [if_neg (by omega), if_neg (by omega), X1, X2])
  have F2 := Lib.hid (show dvD a b c d = fwD (a * d) (b * c) by unfold dvD; rw [if_neg (by omega), if_neg (by omega), X1, X2])
  have F3 := Lib.hid (show dvE a b c d = fwE (a * d) (b * c) by unfold dvE; rw [if_neg (by omega), if_neg (by omega), X1, X2])
  obtain ⟨b0, b1, a0, a1, _⟩ := chkF_ok (err2_zero h).1
  obtain ⟨d0, d1, c0, c1, _⟩ := chkF_ok (err2_zero h).2
  obtain ⟨m00, m01⟩ := mulM_bd (n := a) (t := d) (by omega) (by omega) (by omega) d1
  obtain ⟨m10, m11⟩ := mulP_bd (n := b) (t := c) b0 b1 (by omega) (by omega)
  have RW := Lib.hid (fun u : World => fit_any (a * d) (b * c) u (by omega) (by omega) (by omega) (by omega))
  have hz0 : (c == 0) = false := by simp; omega
  clear h X1 X2
  go_enter Tryd.func25, Tryd.ntmps25
  go_wp2_with fail
  refine (RW.out _).mono ?_
  rintro e w7 ⟨rfl, h7⟩
  have B7 : Below w.heap.size w w7 := below_via (by go_grown) h7
  have z7 := B7.size
  obtain ⟨r0, r1, f0, f1⟩ := ((Box.new ((w.alloc (.cells #[.int .i64 a, .int .i64 b] 23)).alloc (.cells #[.int .i64 c, .int .i64 d] 23)) #[.int .i64 0, .int .i64 0] 23 (n := w.heap.size + 1 + 1) (by simp)).keep h7).two
  have y7 := h7.size
  simp at y7
  clear h7
  go_wp2_with fail
  refine bodyPost_ret (v := .tuple #[.agg #[.int .i64 (dvN a b c d), .int .i64 (dvD a b c d)], .int .i64 (dvE a b c d)])
      (by simp [results, Tryd.results25, go_sem, r0, r1, F1.out, F2.out, F3.out]) rfl ⟨rfl, ?_⟩
  go_grown
set_option maxRecDepth 100000 in
set_option maxHeartbeats 1600000 in
theorem rdv_neg (a b c d : Int) (w : World) (h : err2 (chkF a b) (chkF c d) = 0) (hz : c < 0) :
    Calls Tryd.prog 25 #[.agg #[.int .i64 a, .int .i64 b], .agg #[.int .i64 c, .int .i64 d]] w fun e w' =>
      e = .returned (.tuple #[.agg #[.int .i64 (dvN a b c d), .int .i64 (dvD a b c d)], .int .i64 (dvE a b c d)]) ∧ Below w.heap.size w w' := by
  have X1 : dvX a c d = (-a) * d := by unfold dvX; rw [if_pos hz]
  have X2 : dvY b c = b * (-c) := by unfold dvY; rw [if_pos hz]
  have F1 := Lib.hid (show dvN a b c d = fwN ((-a) * d) (b * (-c)) by unfold dvN; rw [if_neg (by omega), if_neg (by omega), X1, X2])
  have F2 := Lib.hid (show dvD a b c d = fwD ((-a) * d) (b * (-c)) by unfold dvD; rw [if_neg (by omega), if_neg (by omega), X1, X2])
  have F3 := Lib.hid (show dvE a b c d = fwE ((-a) * d) (b * (-c)) by unfold dvE; rw [if_neg (by omega), if_neg (by omega), X1, X2])
  obtain ⟨b0, b1, a0, a1, _⟩ := chkF_ok (err2_zero h).1
  obtain ⟨d0, d1, c0, c1, _⟩ := chkF_ok (err2_zero h).2
  obtain ⟨m00, m01⟩ := mulM_bd (n := -a) (t := d) (by omega) (by omega) (by omega) d1
  obtain ⟨m10, m11⟩ := mulP_bd (n := b) (t := -c) b0 b1 (by omega) (by omega)
  have RW := Lib.hid (fun u : World => fit_any ((-a) * d) (b * (-c)) u (by omega) (by omega) (by omega) (by omega))
  have hz0 : (c == 0) = false := by simp; omega
  clear h X1 X2
  go_enter Tryd.func25, Tryd.ntmps25
  have wra : IntKind.i64.wrap (-a) = -a := IntWalk.i64_in _ (by omega)
  have wrc : IntKind.i64.wrap (-c) = -c := IntWalk.i64_in _ (by omega)
  go_wp2_with fail
  have BA := (Box.new w #[.int .i64 a, .int .i64 b] 23 rfl).alloc (.cells #[.int .i64 c, .int .i64 d] 23) |>.alloc (.cells #[.int .i64 0, .int .i64 0] 23)
  have BB := (Box.new (w.alloc (.cells #[.int .i64 a, .int .i64 b] 23)) #[.int .i64 c, .int .i64 d] 23 (n := w.heap.size + 1) (by simp)).alloc (.cells #[.int .i64 0, .int .i64 0] 23)
  have BR := Box.new ((w.alloc (.cells #[.int .i64 a, .int .i64 b] 23)).alloc (.cells #[.int .i64 c, .int .i64 d] 23)) #[.int .i64 0, .int .i64 0] 23 (n := w.heap.size + 1 + 1) (by simp)
  have BV : Below w.heap.size w (((w.alloc (.cells #[.int .i64 a, .int .i64 b] 23)).alloc (.cells #[.int .i64 c, .int .i64 d] 23)).alloc (.cells #[.int .i64 0, .int .i64 0] 23)) := by go_grown
  generalize (((w.alloc (.cells #[.int .i64 a, .int .i64 b] 23)).alloc (.cells #[.int .i64 c, .int .i64 d] 23)).alloc (.cells #[.int .i64 0, .int .i64 0] 23)) = v at *
  have lav := BA.lt
  have lbv := BB.lt
  have lrv := BR.lt
  obtain ⟨k0, k1, fa, fa1⟩ := BA.two
  obtain ⟨k2, k3, fb, fb1⟩ := BB.two
  have HRV := Lib.hid BR
  have zv := BV.size
  clear BA BB BR
  go_region
  all_goals
    go_wp2_with fail
    refine (RW.out _).mono ?_
    rintro e w7 ⟨rfl, h7⟩
    have B7 : Below w.heap.size w w7 := below_via (by repeat' (first | (with_reducible exact Below.refl _ _) | (with_reducible assumption) | (with_reducible refine below_drewN ?_ _) | (with_reducible refine Below.drew ?_) | (with_reducible refine Below.setCell ?_ ?_ _) | (with_reducible refine Below.alloc ?_ ?_ _) | go_size)) h7
    have z7 := B7.size
    obtain ⟨r0, r1, f0, f1⟩ := ((Box.drew (Box.other (Box.other HRV.out _ _ (by simp <;> omega)) _ _ (by simp <;> omega))).keep h7).two
    have y7 := h7.size
    simp at y7
    clear h7
    go_wp2_with fail
    refine bodyPost_ret (v := .tuple #[.agg #[.int .i64 (dvN a b c d), .int .i64 (dvD a b c d)], .int .i64 (dvE a b c d)])
      (by simp [results, Tryd.results25, go_sem, r0, r1, F1.out, F2.out, F3.out]) rfl ⟨rfl, ?_⟩
    go_grown
set_option maxRecDepth 100000 in
set_option maxHeartbeats 1600000 in
theorem rdv_any (a b c d : Int) (w : World) (h : err2 (chkF a b) (chkF c d) = 0) :
    Calls Tryd.prog 25 #[.agg #[.int .i64 a, .int .i64 b], .agg #[.int .i64 c, .int .i64 d]] w fun e w' =>
      e = .returned (.tuple #[.agg #[.int .i64 (dvN a b c d), .int .i64 (dvD a b c d)], .int .i64 (dvE a b c d)]) ∧ Below w.heap.size w w' := by
  rcases Int.lt_trichotomy c 0 with hz | hz | hz
  · exact rdv_neg a b c d w h hz
  · exact rdv_zero a b c d w h hz
  · exact rdv_pos a b c d w h hz
--MORE
end Go.Proofs.YtcojcfjagneecaaDoor
