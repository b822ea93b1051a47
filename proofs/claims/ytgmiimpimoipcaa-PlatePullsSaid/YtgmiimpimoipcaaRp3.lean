/-
  The reference of PullOf: where it answers an error.
-/
import Derived.Test.YtgmiimpimoipcaaRp2
namespace Go.Proofs.Ytgmiimpimoipcaa
open Go.RowKit
set_option maxRecDepth 100000 in
set_option maxHeartbeats 1600000 in
theorem rpull_b0 (tl th a0 a1 a2 b0 b1 b2 : Int) (w : World) (i0 : inR tl 0 th = false) :
    Calls Try.prog 13 #[.agg #[.int .i64 tl, .int .i64 th], vec a0 a1 a2, vec b0 b1 b2] w fun e w' => e = .returned (.tuple #[.agg #[.int .i64 0, .int .i64 0, .int .i64 0, .int .i64 0, .int .i64 0, .int .i64 0], .int .i64 2]) ∧ Below w.heap.size w w' := by
  go_enter Try.func13, Try.ntmps13
  go_wp2_with (go_at_call 30; refine (Within_any _ _ _ _).mono ?_; rintro e w1 ⟨rfl, rfl⟩)
  have RV : Box (((((w.alloc (.cells #[.int .i64 tl, .int .i64 th] 23)).alloc (.cells #[.int .i64 a0, .int .i64 a1, .int .i64 a2] 24)).alloc (.cells #[.int .i64 b0, .int .i64 b1, .int .i64 b2] 24)).alloc (.cells #[.int .i64 0, .int .i64 0, .int .i64 0, .int .i64 0, .int .i64 0, .int .i64 0] 28)).alloc (.cells #[.int .i64 0, .int .i64 0, .int .i64 0, .int .i64 0, .int .i64 0, .int .i64 0] 28)) (w.heap.size + 1 + 1 + 1) #[.int .i64 0, .int .i64 0, .int .i64 0, .int .i64 0, .int .i64 0, .int .i64 0] 28 := (Box.new _ _ _ (by simp)).alloc _
  have BV : Below w.heap.size w (((((w.alloc (.cells #[.int .i64 tl, .int .i64 th] 23)).alloc (.cells #[.int .i64 a0, .int .i64 a1, .int .i64 a2] 24)).alloc (.cells #[.int .i64 b0, .int .i64 b1, .int .i64 b2] 24)).alloc (.cells #[.int .i64 0, .int .i64 0, .int .i64 0, .int .i64 0, .int .i64 0, .int .i64 0] 28)).alloc (.cells #[.int .i64 0, .int .i64 0, .int .i64 0, .int .i64 0, .int .i64 0, .int .i64 0] 28)) := by (repeat' (first | (with_reducible exact Below.refl _ _) | (with_reducible assumption) | (with_reducible refine Below.drew ?_) | (with_reducible refine below_drewN ?_ _) | (with_reducible refine Below.setCell ?_ ?_ _) | (with_reducible refine Below.alloc ?_ ?_ _) | go_size | omega))
  generalize (((((w.alloc (.cells #[.int .i64 tl, .int .i64 th] 23)).alloc (.cells #[.int .i64 a0, .int .i64 a1, .int .i64 a2] 24)).alloc (.cells #[.int .i64 b0, .int .i64 b1, .int .i64 b2] 24)).alloc (.cells #[.int .i64 0, .int .i64 0, .int .i64 0, .int .i64 0, .int .i64 0, .int .i64 0] 28)).alloc (.cells #[.int .i64 0, .int .i64 0, .int .i64 0, .int .i64 0, .int .i64 0, .int .i64 0] 28)) = v at *
  have s0 := RV.cell 0; have s1 := RV.cell 1; have s2 := RV.cell 2; have s3 := RV.cell 3; have s4 := RV.cell 4; have s5 := RV.cell 5
  simp at s0 s1 s2 s3 s4 s5
  refine bodyPost_ret (v := .tuple #[.agg #[.int .i64 0, .int .i64 0, .int .i64 0, .int .i64 0, .int .i64 0, .int .i64 0], .int .i64 2]) (by simp [results, Try.results13, go_sem, s0, s1, s2, s3, s4, s5]) rfl ⟨rfl, BV⟩
set_option maxRecDepth 100000 in
set_option maxHeartbeats 1600000 in
theorem rpull_b1 (tl th a0 a1 a2 b0 b1 b2 : Int) (w : World) (i0 : inR tl 0 th = true) (i1 : 10000000000 < th) :
    Calls Try.prog 13 #[.agg #[.int .i64 tl, .int .i64 th], vec a0 a1 a2, vec b0 b1 b2] w fun e w' => e = .returned (.tuple #[.agg #[.int .i64 0, .int .i64 0, .int .i64 0, .int .i64 0, .int .i64 0, .int .i64 0], .int .i64 2]) ∧ Below w.heap.size w w' := by
  go_enter Try.func13, Try.ntmps13
  go_wp2_with (go_at_call 30; refine (Within_any _ _ _ _).mono ?_; rintro e w1 ⟨rfl, rfl⟩)
  have RV : Box (((((w.alloc (.cells #[.int .i64 tl, .int .i64 th] 23)).alloc (.cells #[.int .i64 a0, .int .i64 a1, .int .i64 a2] 24)).alloc (.cells #[.int .i64 b0, .int .i64 b1, .int .i64 b2] 24)).alloc (.cells #[.int .i64 0, .int .i64 0, .int .i64 0, .int .i64 0, .int .i64 0, .int .i64 0] 28)).alloc (.cells #[.int .i64 0, .int .i64 0, .int .i64 0, .int .i64 0, .int .i64 0, .int .i64 0] 28)) (w.heap.size + 1 + 1 + 1) #[.int .i64 0, .int .i64 0, .int .i64 0, .int .i64 0, .int .i64 0, .int .i64 0] 28 := (Box.new _ _ _ (by simp)).alloc _
  have BV : Below w.heap.size w (((((w.alloc (.cells #[.int .i64 tl, .int .i64 th] 23)).alloc (.cells #[.int .i64 a0, .int .i64 a1, .int .i64 a2] 24)).alloc (.cells #[.int .i64 b0, .int .i64 b1, .int .i64 b2] 24)).alloc (.cells #[.int .i64 0, .int .i64 0, .int .i64 0, .int .i64 0, .int .i64 0, .int .i64 0] 28)).alloc (.cells #[.int .i64 0, .int .i64 0, .int .i64 0, .int .i64 0, .int .i64 0, .int .i64 0] 28)) := by (repeat' (first | (with_reducible exact Below.refl _ _) | (with_reducible assumption) | (with_reducible refine Below.drew ?_) | (with_reducible refine below_drewN ?_ _) | (with_reducible refine Below.setCell ?_ ?_ _) | (with_reducible refine Below.alloc ?_ ?_ _) | go_size | omega))
  generalize (((((w.alloc (.cells #[.int .i64 tl, .int .i64 th] 23)).alloc (.cells #[.int .i64 a0, .int .i64 a1, .int .i64 a2] 24)).alloc (.cells #[.int .i64 b0, .int .i64 b1, .int .i64 b2] 24)).alloc (.cells #[.int .i64 0, .int .i64 0, .int .i64 0, .int .i64 0, .int .i64 0, .int .i64 0] 28)).alloc (.cells #[.int .i64 0, .int .i64 0, .int .i64 0, .int .i64 0, .int .i64 0, .int .i64 0] 28)) = v at *
  have s0 := RV.cell 0; have s1 := RV.cell 1; have s2 := RV.cell 2; have s3 := RV.cell 3; have s4 := RV.cell 4; have s5 := RV.cell 5
  simp at s0 s1 s2 s3 s4 s5
  refine bodyPost_ret (v := .tuple #[.agg #[.int .i64 0, .int .i64 0, .int .i64 0, .int .i64 0, .int .i64 0, .int .i64 0], .int .i64 2]) (by simp [results, Try.results13, go_sem, s0, s1, s2, s3, s4, s5]) rfl ⟨rfl, BV⟩
set_option maxRecDepth 100000 in
set_option maxHeartbeats 1600000 in
theorem rpull_b2 (tl th a0 a1 a2 b0 b1 b2 : Int) (w : World) (h : 0 ≤ tl ∧ tl ≤ th ∧ th ≤ 10000000000) (ha : beyV 1000000 a0 a1 a2 = true) :
    Calls Try.prog 13 #[.agg #[.int .i64 tl, .int .i64 th], vec a0 a1 a2, vec b0 b1 b2] w fun e w' => e = .returned (.tuple #[.agg #[.int .i64 0, .int .i64 0, .int .i64 0, .int .i64 0, .int .i64 0, .int .i64 0], .int .i64 2]) ∧ Below w.heap.size w w' := by
  have i0 : inR tl 0 th = true := decide_eq_true (by omega)
  have i1 : ¬ (10000000000 < th) := by omega
  have i2 : th ≤ 10000000000 := h.2.2
  have CA := Lib.hid (fun u => risPlace_any a0 a1 a2 u)
  rw [szB_bey, ha] at CA
  go_enter Try.func13, Try.ntmps13
  go_wp2_with (go_at_call 30; refine (Within_any _ _ _ _).mono ?_; rintro e w1 ⟨rfl, rfl⟩)
  have BX0 := (((((Box.new w #[.int .i64 tl, .int .i64 th] 23 (n := w.heap.size) (by simp)).alloc (.cells #[.int .i64 a0, .int .i64 a1, .int .i64 a2] 24)).alloc (.cells #[.int .i64 b0, .int .i64 b1, .int .i64 b2] 24)).alloc (.cells #[.int .i64 0, .int .i64 0, .int .i64 0, .int .i64 0, .int .i64 0, .int .i64 0] 28)).alloc (.cells #[.int .i64 0, .int .i64 0, .int .i64 0, .int .i64 0, .int .i64 0, .int .i64 0] 28))
  have BX1 := ((((Box.new (w.alloc (.cells #[.int .i64 tl, .int .i64 th] 23)) #[.int .i64 a0, .int .i64 a1, .int .i64 a2] 24 (n := w.heap.size + 1) (by simp)).alloc (.cells #[.int .i64 b0, .int .i64 b1, .int .i64 b2] 24)).alloc (.cells #[.int .i64 0, .int .i64 0, .int .i64 0, .int .i64 0, .int .i64 0, .int .i64 0] 28)).alloc (.cells #[.int .i64 0, .int .i64 0, .int .i64 0, .int .i64 0, .int .i64 0, .int .i64 0] 28))
  have BX2 := (((Box.new ((w.alloc (.cells #[.int .i64 tl, .int .i64 th] 23)).alloc (.cells #[.int .i64 a0, .int .i64 a1, .int .i64 a2] 24)) #[.int .i64 b0, .int .i64 b1, .int .i64 b2] 24 (n := w.heap.size + 1 + 1) (by simp)).alloc (.cells #[.int .i64 0, .int .i64 0, .int .i64 0, .int .i64 0, .int .i64 0, .int .i64 0] 28)).alloc (.cells #[.int .i64 0, .int .i64 0, .int .i64 0, .int .i64 0, .int .i64 0, .int .i64 0] 28))
  have BX3 := ((Box.new (((w.alloc (.cells #[.int .i64 tl, .int .i64 th] 23)).alloc (.cells #[.int .i64 a0, .int .i64 a1, .int .i64 a2] 24)).alloc (.cells #[.int .i64 b0, .int .i64 b1, .int .i64 b2] 24)) #[.int .i64 0, .int .i64 0, .int .i64 0, .int .i64 0, .int .i64 0, .int .i64 0] 28 (n := w.heap.size + 1 + 1 + 1) (by simp)).alloc (.cells #[.int .i64 0, .int .i64 0, .int .i64 0, .int .i64 0, .int .i64 0, .int .i64 0] 28))
  have BX4 := (Box.new ((((w.alloc (.cells #[.int .i64 tl, .int .i64 th] 23)).alloc (.cells #[.int .i64 a0, .int .i64 a1, .int .i64 a2] 24)).alloc (.cells #[.int .i64 b0, .int .i64 b1, .int .i64 b2] 24)).alloc (.cells #[.int .i64 0, .int .i64 0, .int .i64 0, .int .i64 0, .int .i64 0, .int .i64 0] 28)) #[.int .i64 0, .int .i64 0, .int .i64 0, .int .i64 0, .int .i64 0, .int .i64 0] 28 (n := w.heap.size + 1 + 1 + 1 + 1) (by simp))
  have BW : Below w.heap.size w (((((w.alloc (.cells #[.int .i64 tl, .int .i64 th] 23)).alloc (.cells #[.int .i64 a0, .int .i64 a1, .int .i64 a2] 24)).alloc (.cells #[.int .i64 b0, .int .i64 b1, .int .i64 b2] 24)).alloc (.cells #[.int .i64 0, .int .i64 0, .int .i64 0, .int .i64 0, .int .i64 0, .int .i64 0] 28)).alloc (.cells #[.int .i64 0, .int .i64 0, .int .i64 0, .int .i64 0, .int .i64 0, .int .i64 0] 28)) := by go_grown
  generalize (((((w.alloc (.cells #[.int .i64 tl, .int .i64 th] 23)).alloc (.cells #[.int .i64 a0, .int .i64 a1, .int .i64 a2] 24)).alloc (.cells #[.int .i64 b0, .int .i64 b1, .int .i64 b2] 24)).alloc (.cells #[.int .i64 0, .int .i64 0, .int .i64 0, .int .i64 0, .int .i64 0, .int .i64 0] 28)).alloc (.cells #[.int .i64 0, .int .i64 0, .int .i64 0, .int .i64 0, .int .i64 0, .int .i64 0] 28)) = u at *
  have l0 := BX0.lt
  have HX0 := Lib.hid BX0
  clear BX0
  have l1 := BX1.lt
  have HX1 := Lib.hid BX1
  clear BX1
  have l2 := BX2.lt
  have HX2 := Lib.hid BX2
  clear BX2
  have l3 := BX3.lt
  have HX3 := Lib.hid BX3
  clear BX3
  have l4 := BX4.lt
  have HX4 := Lib.hid BX4
  clear BX4
  refine (CA.out _).mono ?_
  rintro e w1 ⟨rfl, U1⟩
  have zz1 := U1.size
  obtain ⟨o0, o1, o2, o3, o4, o5⟩ := box6 (HX4.out.keep U1)
  have g0 := (HX3.out.keep U1).cell 0; have g1 := (HX3.out.keep U1).cell 1; have g2 := (HX3.out.keep U1).cell 2; have g3 := (HX3.out.keep U1).cell 3; have g4 := (HX3.out.keep U1).cell 4; have g5 := (HX3.out.keep U1).cell 5
  have f0 := (HX3.out.keep U1).free 0; have f1 := (HX3.out.keep U1).free 1; have f2 := (HX3.out.keep U1).free 2; have f3 := (HX3.out.keep U1).free 3; have f4 := (HX3.out.keep U1).free 4; have f5 := (HX3.out.keep U1).free 5
  have lr := (HX3.out.keep U1).lt; have lo := (HX4.out.keep U1).lt
  simp at g0 g1 g2 g3 g4 g5
  go_wp2_with fail
  clear g0 g1 g2 g3 g4 g5 f0 f1 f2 f3 f4 f5 o0 o1 o2 o3 o4 o5
  have RV : Box ((((((w1.setCell ⟨w.heap.size + 1 + 1 + 1, 0, none⟩ (.int .i64 0)).setCell ⟨w.heap.size + 1 + 1 + 1, 1, none⟩ (.int .i64 0)).setCell ⟨w.heap.size + 1 + 1 + 1, 2, none⟩ (.int .i64 0)).setCell ⟨w.heap.size + 1 + 1 + 1, 3, none⟩ (.int .i64 0)).setCell ⟨w.heap.size + 1 + 1 + 1, 4, none⟩ (.int .i64 0)).setCell ⟨w.heap.size + 1 + 1 + 1, 5, none⟩ (.int .i64 0)) (w.heap.size + 1 + 1 + 1) #[.int .i64 0, .int .i64 0, .int .i64 0, .int .i64 0, .int .i64 0, .int .i64 0] 28 := (((((((HX3.out.keep U1).set 0 _).set 1 _).set 2 _).set 3 _).set 4 _).set 5 _)
  have BWW := below_via BW U1
  have BV : Below w.heap.size w ((((((w1.setCell ⟨w.heap.size + 1 + 1 + 1, 0, none⟩ (.int .i64 0)).setCell ⟨w.heap.size + 1 + 1 + 1, 1, none⟩ (.int .i64 0)).setCell ⟨w.heap.size + 1 + 1 + 1, 2, none⟩ (.int .i64 0)).setCell ⟨w.heap.size + 1 + 1 + 1, 3, none⟩ (.int .i64 0)).setCell ⟨w.heap.size + 1 + 1 + 1, 4, none⟩ (.int .i64 0)).setCell ⟨w.heap.size + 1 + 1 + 1, 5, none⟩ (.int .i64 0)) := by (repeat' (first | (with_reducible exact Below.refl _ _) | (with_reducible assumption) | (with_reducible refine Below.drew ?_) | (with_reducible refine below_drewN ?_ _) | (with_reducible refine Below.setCell ?_ ?_ _) | (with_reducible refine Below.alloc ?_ ?_ _) | go_size | omega))
  generalize ((((((w1.setCell ⟨w.heap.size + 1 + 1 + 1, 0, none⟩ (.int .i64 0)).setCell ⟨w.heap.size + 1 + 1 + 1, 1, none⟩ (.int .i64 0)).setCell ⟨w.heap.size + 1 + 1 + 1, 2, none⟩ (.int .i64 0)).setCell ⟨w.heap.size + 1 + 1 + 1, 3, none⟩ (.int .i64 0)).setCell ⟨w.heap.size + 1 + 1 + 1, 4, none⟩ (.int .i64 0)).setCell ⟨w.heap.size + 1 + 1 + 1, 5, none⟩ (.int .i64 0)) = v at *
  have s0 := RV.cell 0; have s1 := RV.cell 1; have s2 := RV.cell 2; have s3 := RV.cell 3; have s4 := RV.cell 4; have s5 := RV.cell 5
  simp at s0 s1 s2 s3 s4 s5
  go_wp2_with fail
  refine bodyPost_ret (v := .tuple #[.agg #[.int .i64 0, .int .i64 0, .int .i64 0, .int .i64 0, .int .i64 0, .int .i64 0], .int .i64 2]) (by simp [results, Try.results13, go_sem, s0, s1, s2, s3, s4, s5]) rfl ⟨rfl, BV⟩
set_option maxRecDepth 100000 in
set_option maxHeartbeats 1600000 in
theorem rpull_b3 (tl th a0 a1 a2 b0 b1 b2 : Int) (w : World) (h : 0 ≤ tl ∧ tl ≤ th ∧ th ≤ 10000000000) (ha : Big 1000000 a0 a1 a2) (hb : beyV 1000000 b0 b1 b2 = true) :
    Calls Try.prog 13 #[.agg #[.int .i64 tl, .int .i64 th], vec a0 a1 a2, vec b0 b1 b2] w fun e w' => e = .returned (.tuple #[.agg #[.int .i64 0, .int .i64 0, .int .i64 0, .int .i64 0, .int .i64 0, .int .i64 0], .int .i64 2]) ∧ Below w.heap.size w w' := by
  have i0 : inR tl 0 th = true := decide_eq_true (by omega)
  have i1 : ¬ (10000000000 < th) := by omega
  have i2 : th ≤ 10000000000 := h.2.2
  have CA := Lib.hid (fun u => risPlace_any a0 a1 a2 u)
  rw [szB_bey, beyV_of ha] at CA
  have CB := Lib.hid (fun u => risPlace_any b0 b1 b2 u)
  rw [szB_bey, hb] at CB
  go_enter Try.func13, Try.ntmps13
  go_wp2_with (go_at_call 30; refine (Within_any _ _ _ _).mono ?_; rintro e w1 ⟨rfl, rfl⟩)
  have BX0 := (((((Box.new w #[.int .i64 tl, .int .i64 th] 23 (n := w.heap.size) (by simp)).alloc (.cells #[.int .i64 a0, .int .i64 a1, .int .i64 a2] 24)).alloc (.cells #[.int .i64 b0, .int .i64 b1, .int .i64 b2] 24)).alloc (.cells #[.int .i64 0, .int .i64 0, .int .i64 0, .int .i64 0, .int .i64 0, .int .i64 0] 28)).alloc (.cells #[.int .i64 0, .int .i64 0, .int .i64 0, .int .i64 0, .int .i64 0, .int .i64 0] 28))
  have BX1 := ((((Box.new (w.alloc (.cells #[.int .i64 tl, .int .i64 th] 23)) #[.int .i64 a0, .int .i64 a1, .int .i64 a2] 24 (n := w.heap.size + 1) (by simp)).alloc (.cells #[.int .i64 b0, .int .i64 b1, .int .i64 b2] 24)).alloc (.cells #[.int .i64 0, .int .i64 0, .int .i64 0, .int .i64 0, .int .i64 0, .int .i64 0] 28)).alloc (.cells #[.int .i64 0, .int .i64 0, .int .i64 0, .int .i64 0, .int .i64 0, .int .i64 0] 28))
  have BX2 := (((Box.new ((w.alloc (.cells #[.int .i64 tl, .int .i64 th] 23)).alloc (.cells #[.int .i64 a0, .int .i64 a1, .int .i64 a2] 24)) #[.int .i64 b0, .int .i64 b1, .int .i64 b2] 24 (n := w.heap.size + 1 + 1) (by simp)).alloc (.cells #[.int .i64 0, .int .i64 0, .int .i64 0, .int .i64 0, .int .i64 0, .int .i64 0] 28)).alloc (.cells #[.int .i64 0, .int .i64 0, .int .i64 0, .int .i64 0, .int .i64 0, .int .i64 0] 28))
  have BX3 := ((Box.new (((w.alloc (.cells #[.int .i64 tl, .int .i64 th] 23)).alloc (.cells #[.int .i64 a0, .int .i64 a1, .int .i64 a2] 24)).alloc (.cells #[.int .i64 b0, .int .i64 b1, .int .i64 b2] 24)) #[.int .i64 0, .int .i64 0, .int .i64 0, .int .i64 0, .int .i64 0, .int .i64 0] 28 (n := w.heap.size + 1 + 1 + 1) (by simp)).alloc (.cells #[.int .i64 0, .int .i64 0, .int .i64 0, .int .i64 0, .int .i64 0, .int .i64 0] 28))
  have BX4 := (Box.new ((((w.alloc (.cells #[.int .i64 tl, .int .i64 th] 23)).alloc (.cells #[.int .i64 a0, .int .i64 a1, .int .i64 a2] 24)).alloc (.cells #[.int .i64 b0, .int .i64 b1, .int .i64 b2] 24)).alloc (.cells #[.int .i64 0, .int .i64 0, .int .i64 0, .int .i64 0, .int .i64 0, .int .i64 0] 28)) #[.int .i64 0, .int .i64 0, .int .i64 0, .int .i64 0, .int .i64 0, .int .i64 0] 28 (n := w.heap.size + 1 + 1 + 1 + 1) (by simp))
  have BW : Below w.heap.size w (((((w.alloc (.cells #[.int .i64 tl, .int .i64 th] 23)).alloc (.cells #[.int .i64 a0, .int .i64 a1, .int .i64 a2] 24)).alloc (.cells #[.int .i64 b0, .int .i64 b1, .int .i64 b2] 24)).alloc (.cells #[.int .i64 0, .int .i64 0, .int .i64 0, .int .i64 0, .int .i64 0, .int .i64 0] 28)).alloc (.cells #[.int .i64 0, .int .i64 0, .int .i64 0, .int .i64 0, .int .i64 0, .int .i64 0] 28)) := by go_grown
  generalize (((((w.alloc (.cells #[.int .i64 tl, .int .i64 th] 23)).alloc (.cells #[.int .i64 a0, .int .i64 a1, .int .i64 a2] 24)).alloc (.cells #[.int .i64 b0, .int .i64 b1, .int .i64 b2] 24)).alloc (.cells #[.int .i64 0, .int .i64 0, .int .i64 0, .int .i64 0, .int .i64 0, .int .i64 0] 28)).alloc (.cells #[.int .i64 0, .int .i64 0, .int .i64 0, .int .i64 0, .int .i64 0, .int .i64 0] 28)) = u at *
  have l0 := BX0.lt
  have HX0 := Lib.hid BX0
  clear BX0
  have l1 := BX1.lt
  have HX1 := Lib.hid BX1
  clear BX1
  have l2 := BX2.lt
  have HX2 := Lib.hid BX2
  clear BX2
  have l3 := BX3.lt
  have HX3 := Lib.hid BX3
  clear BX3
  have l4 := BX4.lt
  have HX4 := Lib.hid BX4
  clear BX4
  refine (CA.out _).mono ?_
  rintro e w1 ⟨rfl, U1⟩
  have zz1 := U1.size
  have ⟨k0, k1, k2⟩ := show (w1.cell? ⟨w.heap.size + 1 + 1, 0, none⟩ = some (.int .i64 b0) ∧ w1.cell? ⟨w.heap.size + 1 + 1, 1, none⟩ = some (.int .i64 b1) ∧ w1.cell? ⟨w.heap.size + 1 + 1, 2, none⟩ = some (.int .i64 b2)) from ⟨(HX2.out.keep U1).cell 0, (HX2.out.keep U1).cell 1, (HX2.out.keep U1).cell 2⟩
  go_wp2_with fail
  clear k0 k1 k2
  refine (CB.out _).mono ?_
  rintro e w2 ⟨rfl, h⟩
  have U2 : Below u.heap.size u w2 := below_via U1 h
  clear h zz1 U1
  have zz2 := U2.size
  obtain ⟨o0, o1, o2, o3, o4, o5⟩ := box6 (HX4.out.keep U2)
  have g0 := (HX3.out.keep U2).cell 0; have g1 := (HX3.out.keep U2).cell 1; have g2 := (HX3.out.keep U2).cell 2; have g3 := (HX3.out.keep U2).cell 3; have g4 := (HX3.out.keep U2).cell 4; have g5 := (HX3.out.keep U2).cell 5
  have f0 := (HX3.out.keep U2).free 0; have f1 := (HX3.out.keep U2).free 1; have f2 := (HX3.out.keep U2).free 2; have f3 := (HX3.out.keep U2).free 3; have f4 := (HX3.out.keep U2).free 4; have f5 := (HX3.out.keep U2).free 5
  have lr := (HX3.out.keep U2).lt; have lo := (HX4.out.keep U2).lt
  simp at g0 g1 g2 g3 g4 g5
  go_wp2_with fail
  clear g0 g1 g2 g3 g4 g5 f0 f1 f2 f3 f4 f5 o0 o1 o2 o3 o4 o5
  have RV : Box ((((((w2.setCell ⟨w.heap.size + 1 + 1 + 1, 0, none⟩ (.int .i64 0)).setCell ⟨w.heap.size + 1 + 1 + 1, 1, none⟩ (.int .i64 0)).setCell ⟨w.heap.size + 1 + 1 + 1, 2, none⟩ (.int .i64 0)).setCell ⟨w.heap.size + 1 + 1 + 1, 3, none⟩ (.int .i64 0)).setCell ⟨w.heap.size + 1 + 1 + 1, 4, none⟩ (.int .i64 0)).setCell ⟨w.heap.size + 1 + 1 + 1, 5, none⟩ (.int .i64 0)) (w.heap.size + 1 + 1 + 1) #[.int .i64 0, .int .i64 0, .int .i64 0, .int .i64 0, .int .i64 0, .int .i64 0] 28 := (((((((HX3.out.keep U2).set 0 _).set 1 _).set 2 _).set 3 _).set 4 _).set 5 _)
  have BWW := below_via BW U2
  have BV : Below w.heap.size w ((((((w2.setCell ⟨w.heap.size + 1 + 1 + 1, 0, none⟩ (.int .i64 0)).setCell ⟨w.heap.size + 1 + 1 + 1, 1, none⟩ (.int .i64 0)).setCell ⟨w.heap.size + 1 + 1 + 1, 2, none⟩ (.int .i64 0)).setCell ⟨w.heap.size + 1 + 1 + 1, 3, none⟩ (.int .i64 0)).setCell ⟨w.heap.size + 1 + 1 + 1, 4, none⟩ (.int .i64 0)).setCell ⟨w.heap.size + 1 + 1 + 1, 5, none⟩ (.int .i64 0)) := by (repeat' (first | (with_reducible exact Below.refl _ _) | (with_reducible assumption) | (with_reducible refine Below.drew ?_) | (with_reducible refine below_drewN ?_ _) | (with_reducible refine Below.setCell ?_ ?_ _) | (with_reducible refine Below.alloc ?_ ?_ _) | go_size | omega))
  generalize ((((((w2.setCell ⟨w.heap.size + 1 + 1 + 1, 0, none⟩ (.int .i64 0)).setCell ⟨w.heap.size + 1 + 1 + 1, 1, none⟩ (.int .i64 0)).setCell ⟨w.heap.size + 1 + 1 + 1, 2, none⟩ (.int .i64 0)).setCell ⟨w.heap.size + 1 + 1 + 1, 3, none⟩ (.int .i64 0)).setCell ⟨w.heap.size + 1 + 1 + 1, 4, none⟩ (.int .i64 0)).setCell ⟨w.heap.size + 1 + 1 + 1, 5, none⟩ (.int .i64 0)) = v at *
  have s0 := RV.cell 0; have s1 := RV.cell 1; have s2 := RV.cell 2; have s3 := RV.cell 3; have s4 := RV.cell 4; have s5 := RV.cell 5
  simp at s0 s1 s2 s3 s4 s5
  go_wp2_with fail
  refine bodyPost_ret (v := .tuple #[.agg #[.int .i64 0, .int .i64 0, .int .i64 0, .int .i64 0, .int .i64 0, .int .i64 0], .int .i64 2]) (by simp [results, Try.results13, go_sem, s0, s1, s2, s3, s4, s5]) rfl ⟨rfl, BV⟩
set_option maxRecDepth 100000 in
set_option maxHeartbeats 1600000 in
theorem rpull_b4 (tl th a0 a1 a2 b0 b1 b2 : Int) (w : World) (h : 0 ≤ tl ∧ tl ≤ th ∧ th ≤ 10000000000) (ha : Big 1000000 a0 a1 a2) (hb : Big 1000000 b0 b1 b2) (hd : beyV 1000000 (b0 - a0) (b1 - a1) (b2 - a2) = true) :
    Calls Try.prog 13 #[.agg #[.int .i64 tl, .int .i64 th], vec a0 a1 a2, vec b0 b1 b2] w fun e w' => e = .returned (.tuple #[.agg #[.int .i64 0, .int .i64 0, .int .i64 0, .int .i64 0, .int .i64 0, .int .i64 0], .int .i64 2]) ∧ Below w.heap.size w w' := by
  have i0 : inR tl 0 th = true := decide_eq_true (by omega)
  have i1 : ¬ (10000000000 < th) := by omega
  have i2 : th ≤ 10000000000 := h.2.2
  have CA := Lib.hid (fun u => risPlace_any a0 a1 a2 u)
  rw [szB_bey, beyV_of ha] at CA
  have CB := Lib.hid (fun u => risPlace_any b0 b1 b2 u)
  rw [szB_bey, beyV_of hb] at CB
  have CM := Lib.hid (fun u => rminus_any b0 b1 b2 a0 a1 a2 u (hb.up (by omega)) (ha.up (by omega)))
  have CZ := Lib.hid (fun u => size3_any (b0 - a0) (b1 - a1) (b2 - a2) 1000000 u (by omega) (by omega))
  rw [szB_bey, hd] at CZ
  clear ha hb hd
  generalize b0 - a0 = x at *
  generalize b1 - a1 = y at *
  generalize b2 - a2 = z at *
  go_enter Try.func13, Try.ntmps13
  go_wp2_with (go_at_call 30; refine (Within_any _ _ _ _).mono ?_; rintro e w1 ⟨rfl, rfl⟩)
  have BX0 := (((((Box.new w #[.int .i64 tl, .int .i64 th] 23 (n := w.heap.size) (by simp)).alloc (.cells #[.int .i64 a0, .int .i64 a1, .int .i64 a2] 24)).alloc (.cells #[.int .i64 b0, .int .i64 b1, .int .i64 b2] 24)).alloc (.cells #[.int .i64 0, .int .i64 0, .int .i64 0, .int .i64 0, .int .i64 0, .int .i64 0] 28)).alloc (.cells #[.int .i64 0, .int .i64 0, .int .i64 0, .int .i64 0, .int .i64 0, .int .i64 0] 28))
  have BX1 := ((((Box.new (w.alloc (.cells #[.int .i64 tl, .int .i64 th] 23)) #[.int .i64 a0, .int .i64 a1, .int .i64 a2] 24 (n := w.heap.size + 1) (by simp)).alloc (.cells #[.int .i64 b0, .int .i64 b1, .int .i64 b2] 24)).alloc (.cells #[.int .i64 0, .int .i64 0, .int .i64 0, .int .i64 0, .int .i64 0, .int .i64 0] 28)).alloc (.cells #[.int .i64 0, .int .i64 0, .int .i64 0, .int .i64 0, .int .i64 0, .int .i64 0] 28))
  have BX2 := (((Box.new ((w.alloc (.cells #[.int .i64 tl, .int .i64 th] 23)).alloc (.cells #[.int .i64 a0, .int .i64 a1, .int .i64 a2] 24)) #[.int .i64 b0, .int .i64 b1, .int .i64 b2] 24 (n := w.heap.size + 1 + 1) (by simp)).alloc (.cells #[.int .i64 0, .int .i64 0, .int .i64 0, .int .i64 0, .int .i64 0, .int .i64 0] 28)).alloc (.cells #[.int .i64 0, .int .i64 0, .int .i64 0, .int .i64 0, .int .i64 0, .int .i64 0] 28))
  have BX3 := ((Box.new (((w.alloc (.cells #[.int .i64 tl, .int .i64 th] 23)).alloc (.cells #[.int .i64 a0, .int .i64 a1, .int .i64 a2] 24)).alloc (.cells #[.int .i64 b0, .int .i64 b1, .int .i64 b2] 24)) #[.int .i64 0, .int .i64 0, .int .i64 0, .int .i64 0, .int .i64 0, .int .i64 0] 28 (n := w.heap.size + 1 + 1 + 1) (by simp)).alloc (.cells #[.int .i64 0, .int .i64 0, .int .i64 0, .int .i64 0, .int .i64 0, .int .i64 0] 28))
  have BX4 := (Box.new ((((w.alloc (.cells #[.int .i64 tl, .int .i64 th] 23)).alloc (.cells #[.int .i64 a0, .int .i64 a1, .int .i64 a2] 24)).alloc (.cells #[.int .i64 b0, .int .i64 b1, .int .i64 b2] 24)).alloc (.cells #[.int .i64 0, .int .i64 0, .int .i64 0, .int .i64 0, .int .i64 0, .int .i64 0] 28)) #[.int .i64 0, .int .i64 0, .int .i64 0, .int .i64 0, .int .i64 0, .int .i64 0] 28 (n := w.heap.size + 1 + 1 + 1 + 1) (by simp))
  have BW : Below w.heap.size w (((((w.alloc (.cells #[.int .i64 tl, .int .i64 th] 23)).alloc (.cells #[.int .i64 a0, .int .i64 a1, .int .i64 a2] 24)).alloc (.cells #[.int .i64 b0, .int .i64 b1, .int .i64 b2] 24)).alloc (.cells #[.int .i64 0, .int .i64 0, .int .i64 0, .int .i64 0, .int .i64 0, .int .i64 0] 28)).alloc (.cells #[.int .i64 0, .int .i64 0, .int .i64 0, .int .i64 0, .int .i64 0, .int .i64 0] 28)) := by go_grown
  generalize (((((w.alloc (.cells #[.int .i64 tl, .int .i64 th] 23)).alloc (.cells #[.int .i64 a0, .int .i64 a1, .int .i64 a2] 24)).alloc (.cells #[.int .i64 b0, .int .i64 b1, .int .i64 b2] 24)).alloc (.cells #[.int .i64 0, .int .i64 0, .int .i64 0, .int .i64 0, .int .i64 0, .int .i64 0] 28)).alloc (.cells #[.int .i64 0, .int .i64 0, .int .i64 0, .int .i64 0, .int .i64 0, .int .i64 0] 28)) = u at *
  have l0 := BX0.lt
  have HX0 := Lib.hid BX0
  clear BX0
  have l1 := BX1.lt
  have HX1 := Lib.hid BX1
  clear BX1
  have l2 := BX2.lt
  have HX2 := Lib.hid BX2
  clear BX2
  have l3 := BX3.lt
  have HX3 := Lib.hid BX3
  clear BX3
  have l4 := BX4.lt
  have HX4 := Lib.hid BX4
  clear BX4
  refine (CA.out _).mono ?_
  rintro e w1 ⟨rfl, U1⟩
  have zz1 := U1.size
  have ⟨k0, k1, k2⟩ := show (w1.cell? ⟨w.heap.size + 1 + 1, 0, none⟩ = some (.int .i64 b0) ∧ w1.cell? ⟨w.heap.size + 1 + 1, 1, none⟩ = some (.int .i64 b1) ∧ w1.cell? ⟨w.heap.size + 1 + 1, 2, none⟩ = some (.int .i64 b2)) from ⟨(HX2.out.keep U1).cell 0, (HX2.out.keep U1).cell 1, (HX2.out.keep U1).cell 2⟩
  go_wp2_with fail
  clear k0 k1 k2
  refine (CB.out _).mono ?_
  rintro e w2 ⟨rfl, h⟩
  have U2 : Below u.heap.size u w2 := below_via U1 h
  clear h zz1 U1
  have zz2 := U2.size
  obtain ⟨j0, j1, j2⟩ := show (w2.cell? ⟨w.heap.size + 1, 0, none⟩ = some (.int .i64 a0) ∧ w2.cell? ⟨w.heap.size + 1, 1, none⟩ = some (.int .i64 a1) ∧ w2.cell? ⟨w.heap.size + 1, 2, none⟩ = some (.int .i64 a2)) from ⟨(HX1.out.keep U2).cell 0, (HX1.out.keep U2).cell 1, (HX1.out.keep U2).cell 2⟩
  obtain ⟨k0, k1, k2⟩ := show (w2.cell? ⟨w.heap.size + 1 + 1, 0, none⟩ = some (.int .i64 b0) ∧ w2.cell? ⟨w.heap.size + 1 + 1, 1, none⟩ = some (.int .i64 b1) ∧ w2.cell? ⟨w.heap.size + 1 + 1, 2, none⟩ = some (.int .i64 b2)) from ⟨(HX2.out.keep U2).cell 0, (HX2.out.keep U2).cell 1, (HX2.out.keep U2).cell 2⟩
  go_wp2_with fail
  clear j0 j1 j2 k0 k1 k2
  refine (CM.out _).mono ?_
  rintro e w3 ⟨rfl, h⟩
  have U3 : Below u.heap.size u w3 := below_via U2 h
  clear h zz2 U2
  have zz3 := U3.size
  go_wp2_with fail
  refine (CZ.out _).mono ?_
  rintro e w4 ⟨rfl, h⟩
  have D4 := Lib.hid ((Box.new w3 #[.int .i64 x, .int .i64 y, .int .i64 z] 24 (n := w3.heap.size) rfl).keep h)
  have zz4 := h.size
  simp at zz4
  have U4 : Below u.heap.size u w4 := below_via (by (repeat' (first | (with_reducible exact Below.refl _ _) | (with_reducible assumption) | (with_reducible refine Below.drew ?_) | (with_reducible refine below_drewN ?_ _) | (with_reducible refine Below.setCell ?_ ?_ _) | (with_reducible refine Below.alloc ?_ ?_ _) | go_size | omega))) h
  clear h U3
  obtain ⟨o0, o1, o2, o3, o4, o5⟩ := box6 (HX4.out.keep U4)
  have g0 := (HX3.out.keep U4).cell 0; have g1 := (HX3.out.keep U4).cell 1; have g2 := (HX3.out.keep U4).cell 2; have g3 := (HX3.out.keep U4).cell 3; have g4 := (HX3.out.keep U4).cell 4; have g5 := (HX3.out.keep U4).cell 5
  have f0 := (HX3.out.keep U4).free 0; have f1 := (HX3.out.keep U4).free 1; have f2 := (HX3.out.keep U4).free 2; have f3 := (HX3.out.keep U4).free 3; have f4 := (HX3.out.keep U4).free 4; have f5 := (HX3.out.keep U4).free 5
  have lr := (HX3.out.keep U4).lt; have lo := (HX4.out.keep U4).lt
  simp at g0 g1 g2 g3 g4 g5
  go_wp2_with fail
  clear g0 g1 g2 g3 g4 g5 f0 f1 f2 f3 f4 f5 o0 o1 o2 o3 o4 o5
  have RV : Box ((((((w4.setCell ⟨w.heap.size + 1 + 1 + 1, 0, none⟩ (.int .i64 0)).setCell ⟨w.heap.size + 1 + 1 + 1, 1, none⟩ (.int .i64 0)).setCell ⟨w.heap.size + 1 + 1 + 1, 2, none⟩ (.int .i64 0)).setCell ⟨w.heap.size + 1 + 1 + 1, 3, none⟩ (.int .i64 0)).setCell ⟨w.heap.size + 1 + 1 + 1, 4, none⟩ (.int .i64 0)).setCell ⟨w.heap.size + 1 + 1 + 1, 5, none⟩ (.int .i64 0)) (w.heap.size + 1 + 1 + 1) #[.int .i64 0, .int .i64 0, .int .i64 0, .int .i64 0, .int .i64 0, .int .i64 0] 28 := (((((((HX3.out.keep U4).set 0 _).set 1 _).set 2 _).set 3 _).set 4 _).set 5 _)
  have BWW := below_via BW U4
  have BV : Below w.heap.size w ((((((w4.setCell ⟨w.heap.size + 1 + 1 + 1, 0, none⟩ (.int .i64 0)).setCell ⟨w.heap.size + 1 + 1 + 1, 1, none⟩ (.int .i64 0)).setCell ⟨w.heap.size + 1 + 1 + 1, 2, none⟩ (.int .i64 0)).setCell ⟨w.heap.size + 1 + 1 + 1, 3, none⟩ (.int .i64 0)).setCell ⟨w.heap.size + 1 + 1 + 1, 4, none⟩ (.int .i64 0)).setCell ⟨w.heap.size + 1 + 1 + 1, 5, none⟩ (.int .i64 0)) := by (repeat' (first | (with_reducible exact Below.refl _ _) | (with_reducible assumption) | (with_reducible refine Below.drew ?_) | (with_reducible refine below_drewN ?_ _) | (with_reducible refine Below.setCell ?_ ?_ _) | (with_reducible refine Below.alloc ?_ ?_ _) | go_size | omega))
  generalize ((((((w4.setCell ⟨w.heap.size + 1 + 1 + 1, 0, none⟩ (.int .i64 0)).setCell ⟨w.heap.size + 1 + 1 + 1, 1, none⟩ (.int .i64 0)).setCell ⟨w.heap.size + 1 + 1 + 1, 2, none⟩ (.int .i64 0)).setCell ⟨w.heap.size + 1 + 1 + 1, 3, none⟩ (.int .i64 0)).setCell ⟨w.heap.size + 1 + 1 + 1, 4, none⟩ (.int .i64 0)).setCell ⟨w.heap.size + 1 + 1 + 1, 5, none⟩ (.int .i64 0)) = v at *
  have s0 := RV.cell 0; have s1 := RV.cell 1; have s2 := RV.cell 2; have s3 := RV.cell 3; have s4 := RV.cell 4; have s5 := RV.cell 5
  simp at s0 s1 s2 s3 s4 s5
  go_wp2_with fail
  refine bodyPost_ret (v := .tuple #[.agg #[.int .i64 0, .int .i64 0, .int .i64 0, .int .i64 0, .int .i64 0, .int .i64 0], .int .i64 2]) (by simp [results, Try.results13, go_sem, s0, s1, s2, s3, s4, s5]) rfl ⟨rfl, BV⟩
set_option maxRecDepth 100000 in
set_option maxHeartbeats 1600000 in
theorem rpull_b5 (tl th a0 a1 a2 b0 b1 b2 : Int) (w : World) (h : 0 ≤ tl ∧ tl ≤ th ∧ th ≤ 10000000000) (ha : Big 1000000 a0 a1 a2) (hb : Big 1000000 b0 b1 b2) (h0 : b0 - a0 = 0) (h1 : b1 - a1 = 0) (h2 : b2 - a2 = 0) :
    Calls Try.prog 13 #[.agg #[.int .i64 tl, .int .i64 th], vec a0 a1 a2, vec b0 b1 b2] w fun e w' => e = .returned (.tuple #[.agg #[.int .i64 0, .int .i64 0, .int .i64 0, .int .i64 0, .int .i64 0, .int .i64 0], .int .i64 11]) ∧ Below w.heap.size w w' := by
  have i0 : inR tl 0 th = true := decide_eq_true (by omega)
  have i1 : ¬ (10000000000 < th) := by omega
  have i2 : th ≤ 10000000000 := h.2.2
  have CA := Lib.hid (fun u => risPlace_any a0 a1 a2 u)
  rw [szB_bey, beyV_of ha] at CA
  have CB := Lib.hid (fun u => risPlace_any b0 b1 b2 u)
  rw [szB_bey, beyV_of hb] at CB
  have CM := Lib.hid (fun u => rminus_any b0 b1 b2 a0 a1 a2 u (hb.up (by omega)) (ha.up (by omega)))
  have CZ := Lib.hid (fun u => size3_any (b0 - a0) (b1 - a1) (b2 - a2) 1000000 u (by omega) (by omega))
  rw [szB_bey, show beyV 1000000 (b0 - a0) (b1 - a1) (b2 - a2) = false by rw [h0, h1, h2]; rfl] at CZ
  clear ha hb
  rw [h0, h1, h2] at CM CZ
  clear h0 h1 h2
  go_enter Try.func13, Try.ntmps13
  go_wp2_with (go_at_call 30; refine (Within_any _ _ _ _).mono ?_; rintro e w1 ⟨rfl, rfl⟩)
  have BX0 := (((((Box.new w #[.int .i64 tl, .int .i64 th] 23 (n := w.heap.size) (by simp)).alloc (.cells #[.int .i64 a0, .int .i64 a1, .int .i64 a2] 24)).alloc (.cells #[.int .i64 b0, .int .i64 b1, .int .i64 b2] 24)).alloc (.cells #[.int .i64 0, .int .i64 0, .int .i64 0, .int .i64 0, .int .i64 0, .int .i64 0] 28)).alloc (.cells #[.int .i64 0, .int .i64 0, .int .i64 0, .int .i64 0, .int .i64 0, .int .i64 0] 28))
  have BX1 := ((((Box.new (w.alloc (.cells #[.int .i64 tl, .int .i64 th] 23)) #[.int .i64 a0, .int .i64 a1, .int .i64 a2] 24 (n := w.heap.size + 1) (by simp)).alloc (.cells #[.int .i64 b0, .int .i64 b1, .int .i64 b2] 24)).alloc (.cells #[.int .i64 0, .int .i64 0, .int .i64 0, .int .i64 0, .int .i64 0, .int .i64 0] 28)).alloc (.cells #[.int .i64 0, .int .i64 0, .int .i64 0, .int .i64 0, .int .i64 0, .int .i64 0] 28))
  have BX2 := (((Box.new ((w.alloc (.cells #[.int .i64 tl, .int .i64 th] 23)).alloc (.cells #[.int .i64 a0, .int .i64 a1, .int .i64 a2] 24)) #[.int .i64 b0, .int .i64 b1, .int .i64 b2] 24 (n := w.heap.size + 1 + 1) (by simp)).alloc (.cells #[.int .i64 0, .int .i64 0, .int .i64 0, .int .i64 0, .int .i64 0, .int .i64 0] 28)).alloc (.cells #[.int .i64 0, .int .i64 0, .int .i64 0, .int .i64 0, .int .i64 0, .int .i64 0] 28))
  have BX3 := ((Box.new (((w.alloc (.cells #[.int .i64 tl, .int .i64 th] 23)).alloc (.cells #[.int .i64 a0, .int .i64 a1, .int .i64 a2] 24)).alloc (.cells #[.int .i64 b0, .int .i64 b1, .int .i64 b2] 24)) #[.int .i64 0, .int .i64 0, .int .i64 0, .int .i64 0, .int .i64 0, .int .i64 0] 28 (n := w.heap.size + 1 + 1 + 1) (by simp)).alloc (.cells #[.int .i64 0, .int .i64 0, .int .i64 0, .int .i64 0, .int .i64 0, .int .i64 0] 28))
  have BX4 := (Box.new ((((w.alloc (.cells #[.int .i64 tl, .int .i64 th] 23)).alloc (.cells #[.int .i64 a0, .int .i64 a1, .int .i64 a2] 24)).alloc (.cells #[.int .i64 b0, .int .i64 b1, .int .i64 b2] 24)).alloc (.cells #[.int .i64 0, .int .i64 0, .int .i64 0, .int .i64 0, .int .i64 0, .int .i64 0] 28)) #[.int .i64 0, .int .i64 0, .int .i64 0, .int .i64 0, .int .i64 0, .int .i64 0] 28 (n := w.heap.size + 1 + 1 + 1 + 1) (by simp))
  have BW : Below w.heap.size w (((((w.alloc (.cells #[.int .i64 tl, .int .i64 th] 23)).alloc (.cells #[.int .i64 a0, .int .i64 a1, .int .i64 a2] 24)).alloc (.cells #[.int .i64 b0, .int .i64 b1, .int .i64 b2] 24)).alloc (.cells #[.int .i64 0, .int .i64 0, .int .i64 0, .int .i64 0, .int .i64 0, .int .i64 0] 28)).alloc (.cells #[.int .i64 0, .int .i64 0, .int .i64 0, .int .i64 0, .int .i64 0, .int .i64 0] 28)) := by go_grown
  generalize (((((w.alloc (.cells #[.int .i64 tl, .int .i64 th] 23)).alloc (.cells #[.int .i64 a0, .int .i64 a1, .int .i64 a2] 24)).alloc (.cells #[.int .i64 b0, .int .i64 b1, .int .i64 b2] 24)).alloc (.cells #[.int .i64 0, .int .i64 0, .int .i64 0, .int .i64 0, .int .i64 0, .int .i64 0] 28)).alloc (.cells #[.int .i64 0, .int .i64 0, .int .i64 0, .int .i64 0, .int .i64 0, .int .i64 0] 28)) = u at *
  have l0 := BX0.lt
  have HX0 := Lib.hid BX0
  clear BX0
  have l1 := BX1.lt
  have HX1 := Lib.hid BX1
  clear BX1
  have l2 := BX2.lt
  have HX2 := Lib.hid BX2
  clear BX2
  have l3 := BX3.lt
  have HX3 := Lib.hid BX3
  clear BX3
  have l4 := BX4.lt
  have HX4 := Lib.hid BX4
  clear BX4
  refine (CA.out _).mono ?_
  rintro e w1 ⟨rfl, U1⟩
  have zz1 := U1.size
  have ⟨k0, k1, k2⟩ := show (w1.cell? ⟨w.heap.size + 1 + 1, 0, none⟩ = some (.int .i64 b0) ∧ w1.cell? ⟨w.heap.size + 1 + 1, 1, none⟩ = some (.int .i64 b1) ∧ w1.cell? ⟨w.heap.size + 1 + 1, 2, none⟩ = some (.int .i64 b2)) from ⟨(HX2.out.keep U1).cell 0, (HX2.out.keep U1).cell 1, (HX2.out.keep U1).cell 2⟩
  go_wp2_with fail
  clear k0 k1 k2
  refine (CB.out _).mono ?_
  rintro e w2 ⟨rfl, h⟩
  have U2 : Below u.heap.size u w2 := below_via U1 h
  clear h zz1 U1
  have zz2 := U2.size
  obtain ⟨j0, j1, j2⟩ := show (w2.cell? ⟨w.heap.size + 1, 0, none⟩ = some (.int .i64 a0) ∧ w2.cell? ⟨w.heap.size + 1, 1, none⟩ = some (.int .i64 a1) ∧ w2.cell? ⟨w.heap.size + 1, 2, none⟩ = some (.int .i64 a2)) from ⟨(HX1.out.keep U2).cell 0, (HX1.out.keep U2).cell 1, (HX1.out.keep U2).cell 2⟩
  obtain ⟨k0, k1, k2⟩ := show (w2.cell? ⟨w.heap.size + 1 + 1, 0, none⟩ = some (.int .i64 b0) ∧ w2.cell? ⟨w.heap.size + 1 + 1, 1, none⟩ = some (.int .i64 b1) ∧ w2.cell? ⟨w.heap.size + 1 + 1, 2, none⟩ = some (.int .i64 b2)) from ⟨(HX2.out.keep U2).cell 0, (HX2.out.keep U2).cell 1, (HX2.out.keep U2).cell 2⟩
  go_wp2_with fail
  clear j0 j1 j2 k0 k1 k2
  refine (CM.out _).mono ?_
  rintro e w3 ⟨rfl, h⟩
  have U3 : Below u.heap.size u w3 := below_via U2 h
  clear h zz2 U2
  have zz3 := U3.size
  go_wp2_with fail
  refine (CZ.out _).mono ?_
  rintro e w4 ⟨rfl, h⟩
  have D4 := Lib.hid ((Box.new w3 #[.int .i64 0, .int .i64 0, .int .i64 0] 24 (n := w3.heap.size) rfl).keep h)
  have zz4 := h.size
  simp at zz4
  have U4 : Below u.heap.size u w4 := below_via (by (repeat' (first | (with_reducible exact Below.refl _ _) | (with_reducible assumption) | (with_reducible refine Below.drew ?_) | (with_reducible refine below_drewN ?_ _) | (with_reducible refine Below.setCell ?_ ?_ _) | (with_reducible refine Below.alloc ?_ ?_ _) | go_size | omega))) h
  clear h U3
  obtain ⟨j0, j1, j2, -⟩ := D4.out.three
  have l4 := D4.out.lt
  obtain ⟨o0, o1, o2, o3, o4, o5⟩ := box6 (HX4.out.keep U4)
  have g0 := (HX3.out.keep U4).cell 0; have g1 := (HX3.out.keep U4).cell 1; have g2 := (HX3.out.keep U4).cell 2; have g3 := (HX3.out.keep U4).cell 3; have g4 := (HX3.out.keep U4).cell 4; have g5 := (HX3.out.keep U4).cell 5
  have f0 := (HX3.out.keep U4).free 0; have f1 := (HX3.out.keep U4).free 1; have f2 := (HX3.out.keep U4).free 2; have f3 := (HX3.out.keep U4).free 3; have f4 := (HX3.out.keep U4).free 4; have f5 := (HX3.out.keep U4).free 5
  have lr := (HX3.out.keep U4).lt; have lo := (HX4.out.keep U4).lt
  simp at g0 g1 g2 g3 g4 g5
  go_wp2_with fail
  clear g0 g1 g2 g3 g4 g5 f0 f1 f2 f3 f4 f5 o0 o1 o2 o3 o4 o5
  have RV : Box ((((((w4.setCell ⟨w.heap.size + 1 + 1 + 1, 0, none⟩ (.int .i64 0)).setCell ⟨w.heap.size + 1 + 1 + 1, 1, none⟩ (.int .i64 0)).setCell ⟨w.heap.size + 1 + 1 + 1, 2, none⟩ (.int .i64 0)).setCell ⟨w.heap.size + 1 + 1 + 1, 3, none⟩ (.int .i64 0)).setCell ⟨w.heap.size + 1 + 1 + 1, 4, none⟩ (.int .i64 0)).setCell ⟨w.heap.size + 1 + 1 + 1, 5, none⟩ (.int .i64 0)) (w.heap.size + 1 + 1 + 1) #[.int .i64 0, .int .i64 0, .int .i64 0, .int .i64 0, .int .i64 0, .int .i64 0] 28 := (((((((HX3.out.keep U4).set 0 _).set 1 _).set 2 _).set 3 _).set 4 _).set 5 _)
  have BWW := below_via BW U4
  have BV : Below w.heap.size w ((((((w4.setCell ⟨w.heap.size + 1 + 1 + 1, 0, none⟩ (.int .i64 0)).setCell ⟨w.heap.size + 1 + 1 + 1, 1, none⟩ (.int .i64 0)).setCell ⟨w.heap.size + 1 + 1 + 1, 2, none⟩ (.int .i64 0)).setCell ⟨w.heap.size + 1 + 1 + 1, 3, none⟩ (.int .i64 0)).setCell ⟨w.heap.size + 1 + 1 + 1, 4, none⟩ (.int .i64 0)).setCell ⟨w.heap.size + 1 + 1 + 1, 5, none⟩ (.int .i64 0)) := by (repeat' (first | (with_reducible exact Below.refl _ _) | (with_reducible assumption) | (with_reducible refine Below.drew ?_) | (with_reducible refine below_drewN ?_ _) | (with_reducible refine Below.setCell ?_ ?_ _) | (with_reducible refine Below.alloc ?_ ?_ _) | go_size | omega))
  generalize ((((((w4.setCell ⟨w.heap.size + 1 + 1 + 1, 0, none⟩ (.int .i64 0)).setCell ⟨w.heap.size + 1 + 1 + 1, 1, none⟩ (.int .i64 0)).setCell ⟨w.heap.size + 1 + 1 + 1, 2, none⟩ (.int .i64 0)).setCell ⟨w.heap.size + 1 + 1 + 1, 3, none⟩ (.int .i64 0)).setCell ⟨w.heap.size + 1 + 1 + 1, 4, none⟩ (.int .i64 0)).setCell ⟨w.heap.size + 1 + 1 + 1, 5, none⟩ (.int .i64 0)) = v at *
  have s0 := RV.cell 0; have s1 := RV.cell 1; have s2 := RV.cell 2; have s3 := RV.cell 3; have s4 := RV.cell 4; have s5 := RV.cell 5
  simp at s0 s1 s2 s3 s4 s5
  go_wp2_with fail
  refine bodyPost_ret (v := .tuple #[.agg #[.int .i64 0, .int .i64 0, .int .i64 0, .int .i64 0, .int .i64 0, .int .i64 0], .int .i64 11]) (by simp [results, Try.results13, go_sem, s0, s1, s2, s3, s4, s5]) rfl ⟨rfl, BV⟩
theorem rpull_any (tl th a0 a1 a2 b0 b1 b2 : Int) (w : World) :
    Calls Try.prog 13 #[.agg #[.int .i64 tl, .int .i64 th], vec a0 a1 a2, vec b0 b1 b2] w fun e w' => e = .returned (.tuple #[pullV tl th a0 a1 a2 b0 b1 b2, .int .i64 (pullE tl th a0 a1 a2 b0 b1 b2)]) ∧ Below w.heap.size w w' := by
  by_cases h : 0 ≤ tl ∧ tl ≤ th ∧ th ≤ 10000000000
  · cases h1 : beyV 1000000 a0 a1 a2
    · cases h2 : beyV 1000000 b0 b1 b2
      · cases h3 : beyV 1000000 (b0 + -a0) (b1 + -a1) (b2 + -a2)
        · by_cases h4 : a0 = b0 ∧ a1 = b1 ∧ a2 = b2
          · have e : pullE tl th a0 a1 a2 b0 b1 b2 = 11 := by unfold pullE; rw [if_neg (Decidable.not_not.2 h), h1, h2, h3, if_pos h4]; rfl
            unfold pullV
            rw [e]
            exact rpull_b5 tl th a0 a1 a2 b0 b1 b2 w h (beyV_no h1) (beyV_no h2) (by omega) (by omega) (by omega)
          · have e : pullE tl th a0 a1 a2 b0 b1 b2 = 0 := by unfold pullE; simp only [h, h1, h2, h3, h4, and_self, not_true, if_false, if_true, Bool.false_eq_true]
            unfold pullV
            rw [e]
            simp only [← Int.sub_eq_add_neg] at h3 ⊢
            exact rpull_ok tl th a0 a1 a2 b0 b1 b2 w h (beyV_no h1) (beyV_no h2) (beyV_no h3) (by omega) _ _ rfl rfl
        · have e : pullE tl th a0 a1 a2 b0 b1 b2 = 2 := by unfold pullE; simp only [h, h1, h2, h3, and_self, not_true, if_false, if_true, Bool.false_eq_true]
          unfold pullV
          rw [e]
          simp only [← Int.sub_eq_add_neg] at h3
          exact rpull_b4 tl th a0 a1 a2 b0 b1 b2 w h (beyV_no h1) (beyV_no h2) h3
      · have e : pullE tl th a0 a1 a2 b0 b1 b2 = 2 := by unfold pullE; simp only [h, h1, h2, and_self, not_true, if_false, if_true, Bool.false_eq_true]
        unfold pullV
        rw [e]
        exact rpull_b3 tl th a0 a1 a2 b0 b1 b2 w h (beyV_no h1) h2
    · have e : pullE tl th a0 a1 a2 b0 b1 b2 = 2 := by unfold pullE; simp only [h, h1, and_self, not_true, if_false, if_true, Bool.false_eq_true]
      unfold pullV
      rw [e]
      exact rpull_b2 tl th a0 a1 a2 b0 b1 b2 w h h1
  · have e : pullE tl th a0 a1 a2 b0 b1 b2 = 2 := by unfold pullE; rw [if_pos h]
    unfold pullV
    rw [e]
    cases hi : inR tl 0 th
    · exact rpull_b0 tl th a0 a1 a2 b0 b1 b2 w hi
    · exact rpull_b1 tl th a0 a1 a2 b0 b1 b2 w hi (by have := of_decide_eq_true hi; omega)
end Go.Proofs.Ytgmiimpimoipcaa
