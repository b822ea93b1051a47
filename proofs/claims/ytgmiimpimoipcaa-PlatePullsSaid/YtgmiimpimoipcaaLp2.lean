/-
  The law PlatePulls.
-/
import Derived.Test.YtgmiimpimoipcaaLpu
namespace Go.Proofs.Ytgmiimpimoipcaa
open Go.RowKit
set_option maxRecDepth 100000 in
set_option maxHeartbeats 3200000 in
theorem lawPulls (tl th a0 a1 a2 b0 b1 b2 : Int) (w : World) :
    Calls Try.prog 3 #[.agg #[.int .i64 tl, .int .i64 th], .agg #[.int .i64 a0, .int .i64 a1, .int .i64 a2, .int .i64 b0, .int .i64 b1, .int .i64 b2]] w fun e w' => e = .returned (.bool true) ∧ Below w.heap.size w w' := by
  have AW := Lib.hid (fun u => awake3_any u)
  have CP := Lib.hid (fun u => pullOf_any tl th a0 a1 a2 b0 b1 b2 u)
  have CR := Lib.hid (fun u => rpull_any tl th a0 a1 a2 b0 b1 b2 u)
  have CQ := Lib.hid (fun u => pullOf_any tl th b0 b1 b2 a0 a1 a2 u)
  by_cases hE : pullE tl th a0 a1 a2 b0 b1 b2 = 0
  · obtain ⟨p0, p1, p2, p3, p4, p5, hp, hq, ⟨i0, i1, i2⟩, m0, m1, m2, m3, m4, m5⟩ := pull_shape hE
    rw [hp, hE] at CP CR
    rw [hq, pullE_turn hE] at CQ
    clear hp hq hE
    go_enter Try.func3, Try.ntmps3
    go_wp2_with fail
    have BX0 := ((Box.new w #[.int .i64 tl, .int .i64 th] 23 (n := w.heap.size) (by simp)).alloc (.cells #[.int .i64 a0, .int .i64 a1, .int .i64 a2, .int .i64 b0, .int .i64 b1, .int .i64 b2] 26))
    have BX1 := (Box.new (w.alloc (.cells #[.int .i64 tl, .int .i64 th] 23)) #[.int .i64 a0, .int .i64 a1, .int .i64 a2, .int .i64 b0, .int .i64 b1, .int .i64 b2] 26 (n := w.heap.size + 1) (by simp))
    have BW : Below w.heap.size w ((w.alloc (.cells #[.int .i64 tl, .int .i64 th] 23)).alloc (.cells #[.int .i64 a0, .int .i64 a1, .int .i64 a2, .int .i64 b0, .int .i64 b1, .int .i64 b2] 26)) := by go_grown
    generalize ((w.alloc (.cells #[.int .i64 tl, .int .i64 th] 23)).alloc (.cells #[.int .i64 a0, .int .i64 a1, .int .i64 a2, .int .i64 b0, .int .i64 b1, .int .i64 b2] 26)) = u at *
    have l0 := BX0.lt
    have HX0 := Lib.hid BX0
    clear BX0
    have l1 := BX1.lt
    have HX1 := Lib.hid BX1
    clear BX1
    refine (AW.out _).mono ?_
    rintro e w1 ⟨rfl, U1⟩
    obtain ⟨t0, t1, -⟩ := (HX0.out.keep U1).two
    obtain ⟨x0, x1, x2, x3, x4, x5⟩ := box6 (HX1.out.keep U1)
    have zz1 := U1.size
    go_wp2_with fail
    clear t0 t1 x0 x1 x2 x3 x4 x5 AW
    refine (CP.out _).mono ?_
    rintro e w2 ⟨rfl, h⟩
    have U2 := below_via U1 h
    have zz2 := h.size
    clear h U1
    have P2 := Lib.hid (Box.new w2 #[.int .i64 p0, .int .i64 p1, .int .i64 p2, .int .i64 p3, .int .i64 p4, .int .i64 p5] 28 (n := w2.heap.size) rfl)
    have U2' : Below u.heap.size u (w2.alloc (.cells #[.int .i64 p0, .int .i64 p1, .int .i64 p2, .int .i64 p3, .int .i64 p4, .int .i64 p5] 28)) := by (repeat' (first | (with_reducible exact Below.refl _ _) | (with_reducible assumption) | (with_reducible refine Below.drew ?_) | (with_reducible refine below_drewN ?_ _) | (with_reducible refine Below.setCell ?_ ?_ _) | (with_reducible refine Below.alloc ?_ ?_ _) | go_size | omega))
    obtain ⟨t0, t1, -⟩ := (HX0.out.keep U2).two
    obtain ⟨x0, x1, x2, x3, x4, x5⟩ := box6 (HX1.out.keep U2)
    have lt0 := (HX0.out.keep U2).lt; have lt1 := (HX1.out.keep U2).lt
    go_wp2_with fail
    clear t0 t1 x0 x1 x2 x3 x4 x5 lt0 lt1
    generalize w2.alloc (.cells #[.int .i64 p0, .int .i64 p1, .int .i64 p2, .int .i64 p3, .int .i64 p4, .int .i64 p5] 28) = u2 at *
    generalize w2.heap.size = pb at *
    refine (CR.out _).mono ?_
    rintro e w3 ⟨rfl, h⟩
    have U3 := below_via U2' h
    have zz3 := h.size
    have zz3' := U3.size
    have P3 := Lib.hid (P2.out.keep h)
    have lp := P3.out.lt
    obtain ⟨q0, q1, q2, q3, q4, q5⟩ := box6 P3.out
    clear h U2' U2 P2 CP CR
    have EQ := fun v => eqRng3 p0 p1 p2 p3 p4 p5 p0 p1 p2 p3 p4 p5 v
    simp only [beq_self_eq_true, Bool.and_self] at EQ
    obtain ⟨t0, t1, -⟩ := (HX0.out.keep U3).two
    obtain ⟨x0, x1, x2, x3, x4, x5⟩ := box6 (HX1.out.keep U3)
    have lt0 := (HX0.out.keep U3).lt; have lt1 := (HX1.out.keep U3).lt
    go_wp2_with fail
    clear t0 t1 x0 x1 x2 x3 x4 x5 lt0 lt1 q0 q1 q2 q3 q4 q5 lp EQ
    refine (CQ.out _).mono ?_
    rintro e w4 ⟨rfl, h⟩
    have P4 := Lib.hid ((P3.out.alloc (.cells #[.int .i64 p0, .int .i64 p1, .int .i64 p2, .int .i64 p3, .int .i64 p4, .int .i64 p5] 28)).keep h)
    have U4 : Below u.heap.size u w4 := below_via (by (repeat' (first | (with_reducible exact Below.refl _ _) | (with_reducible assumption) | (with_reducible refine Below.drew ?_) | (with_reducible refine below_drewN ?_ _) | (with_reducible refine Below.setCell ?_ ?_ _) | (with_reducible refine Below.alloc ?_ ?_ _) | go_size | omega))) h
    have zz4 := h.size
    simp at zz4
    clear h U3 P3 CQ HX0 HX1
    obtain ⟨n0, n1, n2, n3, n4, n5⟩ := box6 P4.out
    have lp := P4.out.lt
    go_wp2_with fail
    have P5 := Lib.hid (P4.out.alloc (.cells #[.int .i64 (-p1), .int .i64 (-p0), .int .i64 (-p3), .int .i64 (-p2), .int .i64 (-p5), .int .i64 (-p4)] 28))
    have Q5 := Lib.hid (Box.new w4 #[.int .i64 (-p1), .int .i64 (-p0), .int .i64 (-p3), .int .i64 (-p2), .int .i64 (-p5), .int .i64 (-p4)] 28 (n := w4.heap.size) rfl)
    have B5 : Below w.heap.size w (w4.alloc (.cells #[.int .i64 (-p1), .int .i64 (-p0), .int .i64 (-p3), .int .i64 (-p2), .int .i64 (-p5), .int .i64 (-p4)] 28)) := by have := below_via BW U4; (repeat' (first | (with_reducible exact Below.refl _ _) | (with_reducible assumption) | (with_reducible refine Below.drew ?_) | (with_reducible refine below_drewN ?_ _) | (with_reducible refine Below.setCell ?_ ?_ _) | (with_reducible refine Below.alloc ?_ ?_ _) | go_size | omega))
    clear n0 n1 n2 n3 n4 n5 P4 U4 lp
    generalize w4.alloc (.cells #[.int .i64 (-p1), .int .i64 (-p0), .int .i64 (-p3), .int .i64 (-p2), .int .i64 (-p5), .int .i64 (-p4)] 28) = u5 at *
    generalize w4.heap.size = qb at *
    obtain ⟨n0, n1, n2, n3, n4, n5⟩ := box6 P5.out
    obtain ⟨o0, o1, o2, o3, o4, o5⟩ := box6 Q5.out
    have lp := P5.out.lt; have lq := Q5.out.lt
    have d0 : decide (p1 < p0) = false := decide_eq_false (by omega)
    have d1 : decide (p3 < p2) = false := decide_eq_false (by omega)
    have d2 : decide (p5 < p4) = false := decide_eq_false (by omega)
    have d0' : ¬ p1 < p0 := by omega
    have d1' : ¬ p3 < p2 := by omega
    have d2' : ¬ p5 < p4 := by omega
    have wn0 : IntKind.i64.wrap (-p0) = -p0 := IntWalk.i64_in _ (by omega)
    have wn1 : IntKind.i64.wrap (-p1) = -p1 := IntWalk.i64_in _ (by omega)
    have wn2 : IntKind.i64.wrap (-p2) = -p2 := IntWalk.i64_in _ (by omega)
    have wn3 : IntKind.i64.wrap (-p3) = -p3 := IntWalk.i64_in _ (by omega)
    have wn4 : IntKind.i64.wrap (-p4) = -p4 := IntWalk.i64_in _ (by omega)
    have wn5 : IntKind.i64.wrap (-p5) = -p5 := IntWalk.i64_in _ (by omega)
    refine wp_loop_rounds 4 ?_
    iterate 3 (rw [rounds_succ]; go_wp2_with fail; go_quiet (fail); go_wp2_with fail)
    rw [rounds_succ]
    go_wp2_with fail
    go_ret
    exact ⟨rfl, by (repeat' (first | (with_reducible exact Below.refl _ _) | (with_reducible assumption) | (with_reducible refine Below.drew ?_) | (with_reducible refine below_drewN ?_ _) | (with_reducible refine Below.setCell ?_ ?_ _) | (with_reducible refine Below.alloc ?_ ?_ _) | go_size | omega))⟩
  · have hv : pullE tl th a0 a1 a2 b0 b1 b2 = 2 ∨ pullE tl th a0 a1 a2 b0 b1 b2 = 11 := by
      unfold pullE at hE ⊢; repeat' split
      all_goals simp_all
    unfold pullV at CP CR
    rw [if_neg hE] at CP CR
    clear CQ
    rcases hv with hv | hv
    all_goals
      rw [hv] at CP CR
      clear hE hv
      go_enter Try.func3, Try.ntmps3
      go_wp2_with fail
      have BX0 := ((Box.new w #[.int .i64 tl, .int .i64 th] 23 (n := w.heap.size) (by simp)).alloc (.cells #[.int .i64 a0, .int .i64 a1, .int .i64 a2, .int .i64 b0, .int .i64 b1, .int .i64 b2] 26))
      have BX1 := (Box.new (w.alloc (.cells #[.int .i64 tl, .int .i64 th] 23)) #[.int .i64 a0, .int .i64 a1, .int .i64 a2, .int .i64 b0, .int .i64 b1, .int .i64 b2] 26 (n := w.heap.size + 1) (by simp))
      have BW : Below w.heap.size w ((w.alloc (.cells #[.int .i64 tl, .int .i64 th] 23)).alloc (.cells #[.int .i64 a0, .int .i64 a1, .int .i64 a2, .int .i64 b0, .int .i64 b1, .int .i64 b2] 26)) := by go_grown
      generalize ((w.alloc (.cells #[.int .i64 tl, .int .i64 th] 23)).alloc (.cells #[.int .i64 a0, .int .i64 a1, .int .i64 a2, .int .i64 b0, .int .i64 b1, .int .i64 b2] 26)) = u at *
      have l0 := BX0.lt
      have HX0 := Lib.hid BX0
      clear BX0
      have l1 := BX1.lt
      have HX1 := Lib.hid BX1
      clear BX1
      refine (AW.out _).mono ?_
      rintro e w1 ⟨rfl, U1⟩
      obtain ⟨t0, t1, -⟩ := (HX0.out.keep U1).two
      obtain ⟨x0, x1, x2, x3, x4, x5⟩ := box6 (HX1.out.keep U1)
      have zz1 := U1.size
      go_wp2_with fail
      clear t0 t1 x0 x1 x2 x3 x4 x5 AW
      refine (CP.out _).mono ?_
      rintro e w2 ⟨rfl, h⟩
      have U2 := below_via U1 h
      have zz2 := h.size
      clear h U1
      have P2 := Lib.hid (Box.new w2 #[.int .i64 0, .int .i64 0, .int .i64 0, .int .i64 0, .int .i64 0, .int .i64 0] 28 (n := w2.heap.size) rfl)
      have U2' : Below u.heap.size u (w2.alloc (.cells #[.int .i64 0, .int .i64 0, .int .i64 0, .int .i64 0, .int .i64 0, .int .i64 0] 28)) := by (repeat' (first | (with_reducible exact Below.refl _ _) | (with_reducible assumption) | (with_reducible refine Below.drew ?_) | (with_reducible refine below_drewN ?_ _) | (with_reducible refine Below.setCell ?_ ?_ _) | (with_reducible refine Below.alloc ?_ ?_ _) | go_size | omega))
      obtain ⟨t0, t1, -⟩ := (HX0.out.keep U2).two
      obtain ⟨x0, x1, x2, x3, x4, x5⟩ := box6 (HX1.out.keep U2)
      have lt0 := (HX0.out.keep U2).lt; have lt1 := (HX1.out.keep U2).lt
      go_wp2_with fail
      clear t0 t1 x0 x1 x2 x3 x4 x5 lt0 lt1
      generalize w2.alloc (.cells #[.int .i64 0, .int .i64 0, .int .i64 0, .int .i64 0, .int .i64 0, .int .i64 0] 28) = u2 at *
      generalize w2.heap.size = pb at *
      refine (CR.out _).mono ?_
      rintro e w3 ⟨rfl, h⟩
      have U3 := below_via U2' h
      have zz3 := h.size
      have zz3' := U3.size
      have P3 := Lib.hid (P2.out.keep h)
      have lp := P3.out.lt
      obtain ⟨q0, q1, q2, q3, q4, q5⟩ := box6 P3.out
      clear h U2' U2 P2 CP CR
      have EQ := fun v => eqRng3 0 0 0 0 0 0 0 0 0 0 0 0 v
      simp only [beq_self_eq_true, Bool.and_self] at EQ
      go_wp2_with fail
      go_ret
      exact ⟨rfl, by have := below_via BW U3; (repeat' (first | (with_reducible exact Below.refl _ _) | (with_reducible assumption) | (with_reducible refine Below.drew ?_) | (with_reducible refine below_drewN ?_ _) | (with_reducible refine Below.setCell ?_ ?_ _) | (with_reducible refine Below.alloc ?_ ?_ _) | go_size | omega))⟩
theorem lawPullsA (tl th a0 a1 a2 b0 b1 b2 : Int) (w : World) (_ : -9223372036854775808 ≤ tl ∧ tl ≤ 9223372036854775807) (_ : -9223372036854775808 ≤ th ∧ th ≤ 9223372036854775807) (_ : -9223372036854775808 ≤ a0 ∧ a0 ≤ 9223372036854775807) (_ : -9223372036854775808 ≤ a1 ∧ a1 ≤ 9223372036854775807) (_ : -9223372036854775808 ≤ a2 ∧ a2 ≤ 9223372036854775807) (_ : -9223372036854775808 ≤ b0 ∧ b0 ≤ 9223372036854775807) (_ : -9223372036854775808 ≤ b1 ∧ b1 ≤ 9223372036854775807) (_ : -9223372036854775808 ≤ b2 ∧ b2 ≤ 9223372036854775807) :
    Calls Try.prog 3 #[.agg #[.int .i64 tl, .int .i64 th], .agg #[.int .i64 a0, .int .i64 a1, .int .i64 a2, .int .i64 b0, .int .i64 b1, .int .i64 b2]] w fun e w' => e = .returned (.bool true) ∧ Below w.heap.size w w' := lawPulls tl th a0 a1 a2 b0 b1 b2 w
end Go.Proofs.Ytgmiimpimoipcaa
