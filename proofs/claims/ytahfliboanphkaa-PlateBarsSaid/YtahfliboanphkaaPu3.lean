/-
  The walk of PullOf.
-/
import Derived.Test.YtahfliboanphkaaPu2
namespace Go.Proofs.Ytahfliboanphkaa
open Go.RowKit
set_option maxRecDepth 100000 in
set_option maxHeartbeats 1600000 in
theorem component_any (tl th d slo shi : Int) (w : World) (t0 : 0 ≤ tl) (t1 : tl ≤ 10000000000) (u0 : 0 ≤ th) (u1 : th ≤ 10000000000) (d0 : -1000000 ≤ d) (d1 : d ≤ 1000000) (s0 : 1 ≤ slo) (s1 : slo ≤ 1000000000000) (q0 : 1 ≤ shi) (q1 : shi ≤ 1000000000000) :
    Calls Try.prog 76 #[.agg #[.int .i64 tl, .int .i64 th], .int .i64 d, .agg #[.int .i64 slo, .int .i64 shi]] w fun e w' => e = .returned (.agg #[.int .i64 (cmpL tl th d slo shi), .int .i64 (cmpH tl th d slo shi)]) ∧ Below w.heap.size w w' := by
  by_cases hd : d < 0
  · have CP := Lib.hid (fun u => component_pos tl th (-d) slo shi u t0 t1 u0 u1 (by omega) (by omega) s0 s1 q0 q1)
    have F1 := Lib.hid (show cmpL tl th d slo shi = -(up (th * (100 * (-d))) slo) by unfold cmpL; rw [if_pos hd])
    have F2 := Lib.hid (show cmpH tl th d slo shi = -(dn (tl * (100 * (-d))) shi) by unfold cmpH; rw [if_pos hd])
    obtain ⟨m0, m1⟩ := prod_bd t0 t1 (show 0 ≤ -d by omega) (show -d ≤ 1000000 by omega)
    obtain ⟨n0, n1⟩ := prod_bd u0 u1 (show 0 ≤ -d by omega) (show -d ≤ 1000000 by omega)
    have b0 := dn_bd q0 (show -1000000000000000000 ≤ tl * (100 * (-d)) by omega) m1 (by omega)
    have b1 := up_bd s0 (show -1000000000000000000 ≤ th * (100 * (-d)) by omega) n1 (by omega)
    obtain ⟨b00, b01⟩ := b0
    obtain ⟨b10, b11⟩ := b1
    generalize dn (tl * (100 * (-d))) shi = D at *
    generalize up (th * (100 * (-d))) slo = U at *
    go_enter Try.func76, Try.ntmps76
    go_wp2_with fail
    refine (CP.out _).mono ?_
    rintro e w1 ⟨rfl, h1⟩
    have B1 : Below w.heap.size w w1 := below_via (by go_grown) h1
    have R1 := Lib.hid (((Box.new ((w.alloc (.cells #[.int .i64 tl, .int .i64 th] 83)).alloc (.cells #[.int .i64 slo, .int .i64 shi] 83)) #[.int .i64 0, .int .i64 0] 83 (n := w.heap.size + 1 + 1) (by simp))).keep h1)
    have z1' := h1.size
    simp at z1'
    clear h1 m0 m1 n0 n1
    obtain ⟨r0, r1, f0, f1⟩ := R1.out.two
    have lr := R1.out.lt
    go_wp2_with fail
    clear r0 r1 f0 f1
    have RV : Box (((w1.setCell ⟨w.heap.size + 1 + 1, 0, none⟩ (.int .i64 ((-U)))).setCell ⟨w.heap.size + 1 + 1, 1, none⟩ (.int .i64 ((-D)))).alloc (.cells #[.int .i64 D, .int .i64 U] 83)) (w.heap.size + 1 + 1) #[.int .i64 ((-U)), .int .i64 ((-D))] 83 := (((R1.out.set 0 _).set 1 _).alloc _)
    have BV : Below w.heap.size w (((w1.setCell ⟨w.heap.size + 1 + 1, 0, none⟩ (.int .i64 ((-U)))).setCell ⟨w.heap.size + 1 + 1, 1, none⟩ (.int .i64 ((-D)))).alloc (.cells #[.int .i64 D, .int .i64 U] 83)) := by (repeat' (first | (with_reducible exact Below.refl _ _) | (with_reducible assumption) | (with_reducible refine Below.drew ?_) | (with_reducible refine below_drewN ?_ _) | (with_reducible refine Below.setCell ?_ ?_ _) | (with_reducible refine Below.alloc ?_ ?_ _) | go_size | omega))
    generalize (((w1.setCell ⟨w.heap.size + 1 + 1, 0, none⟩ (.int .i64 ((-U)))).setCell ⟨w.heap.size + 1 + 1, 1, none⟩ (.int .i64 ((-D)))).alloc (.cells #[.int .i64 D, .int .i64 U] 83)) = v at *
    have s0 := RV.cell 0
    have s1 := RV.cell 1
    simp at s0 s1
    go_wp2_with fail
    refine bodyPost_ret (v := .agg #[.int .i64 (cmpL tl th d slo shi), .int .i64 (cmpH tl th d slo shi)]) (by simp [results, Try.results76, go_sem, s0, s1, F1.out, F2.out]) rfl ⟨rfl, BV⟩
  · unfold cmpL cmpH
    rw [if_neg hd, if_neg hd]
    exact component_pos tl th d slo shi w t0 t1 u0 u1 (by omega) d1 s0 s1 q0 q1
theorem vecs_two (w : World) (a0 a1 a2 b0 b1 b2 : Int) : VecsAt (w.alloc (.cells #[.int .i64 a0, .int .i64 a1, .int .i64 a2, .int .i64 b0, .int .i64 b1, .int .i64 b2] 91)) w.heap.size 0 [⟨a0, a1, a2⟩, ⟨b0, b1, b2⟩] := by
  have B : Box (w.alloc (.cells #[.int .i64 a0, .int .i64 a1, .int .i64 a2, .int .i64 b0, .int .i64 b1, .int .i64 b2] 91)) w.heap.size #[.int .i64 a0, .int .i64 a1, .int .i64 a2, .int .i64 b0, .int .i64 b1, .int .i64 b2] 91 := Box.new _ _ _ rfl
  refine ⟨B.lt, fun j hj => ?_⟩
  match j, hj with
  | 0, _ => exact ⟨B.cell 0, B.cell 1, B.cell 2⟩
  | 1, _ => exact ⟨B.cell 3, B.cell 4, B.cell 5⟩
def pullE (tl th a0 a1 a2 b0 b1 b2 : Int) : Int :=
  if ¬ (0 ≤ tl ∧ tl ≤ th ∧ th ≤ 10000000000) then 2 else if beyV 1000000 a0 a1 a2 then 2 else if beyV 1000000 b0 b1 b2 then 2 else if beyV 1000000 (b0 + -a0) (b1 + -a1) (b2 + -a2) then 2 else if a0 = b0 ∧ a1 = b1 ∧ a2 = b2 then 11 else 0
theorem beyV_no {m a b c : Int} (h : beyV m a b c = false) : Big m a b c := by
  unfold beyV inB at h; unfold Big; simp at h; omega
set_option maxRecDepth 100000 in
set_option maxHeartbeats 1600000 in
theorem pullOf_bad0 (tl th a0 a1 a2 b0 b1 b2 : Int) (w : World) (h : ¬ (0 ≤ tl ∧ tl ≤ th ∧ th ≤ 10000000000)) :
    Calls Try.prog 42 #[.agg #[.int .i64 tl, .int .i64 th], vec a0 a1 a2, vec b0 b1 b2] w fun e w' => e = .returned (.tuple #[.agg #[.int .i64 0, .int .i64 0, .int .i64 0, .int .i64 0, .int .i64 0, .int .i64 0], .int .i64 2]) ∧ Below w.heap.size w w' := by
  have IN := Lib.hid (fun u => inside_any tl th 0 10000000000 u)
  rw [decide_eq_false h] at IN
  go_enter Try.func42, Try.ntmps42
  go_wp2_with fail
  refine (IN.out _).mono ?_
  rintro e w1 ⟨rfl, h1⟩
  have B1 : Below w.heap.size w w1 := below_via (by go_grown) h1
  have z1' := h1.size
  simp at z1'
  have R1 := Lib.hid ((Box.new (((w.alloc (.cells #[.int .i64 tl, .int .i64 th] 83)).alloc (.cells #[.int .i64 a0, .int .i64 a1, .int .i64 a2] 23)).alloc (.cells #[.int .i64 b0, .int .i64 b1, .int .i64 b2] 23)) #[.int .i64 0, .int .i64 0, .int .i64 0, .int .i64 0, .int .i64 0, .int .i64 0] 84 (n := w.heap.size + 1 + 1 + 1) (by simp)).keep h1)
  clear h1
  have lr := R1.out.lt
  have g0 := R1.out.cell 0; have g1 := R1.out.cell 1; have g2 := R1.out.cell 2; have g3 := R1.out.cell 3; have g4 := R1.out.cell 4; have g5 := R1.out.cell 5
  have f0 := R1.out.free 0; have f1 := R1.out.free 1; have f2 := R1.out.free 2; have f3 := R1.out.free 3; have f4 := R1.out.free 4; have f5 := R1.out.free 5
  simp at g0 g1 g2 g3 g4 g5
  go_wp2_with fail
  clear g0 g1 g2 g3 g4 g5 f0 f1 f2 f3 f4 f5
  have RV : Box ((((((w1.setCell ⟨w.heap.size + 1 + 1 + 1, 0, none⟩ (.int .i64 0)).setCell ⟨w.heap.size + 1 + 1 + 1, 1, none⟩ (.int .i64 0)).setCell ⟨w.heap.size + 1 + 1 + 1, 2, none⟩ (.int .i64 0)).setCell ⟨w.heap.size + 1 + 1 + 1, 3, none⟩ (.int .i64 0)).setCell ⟨w.heap.size + 1 + 1 + 1, 4, none⟩ (.int .i64 0)).setCell ⟨w.heap.size + 1 + 1 + 1, 5, none⟩ (.int .i64 0)) (w.heap.size + 1 + 1 + 1) #[.int .i64 0, .int .i64 0, .int .i64 0, .int .i64 0, .int .i64 0, .int .i64 0] 84 := ((((((R1.out.set 0 _).set 1 _).set 2 _).set 3 _).set 4 _).set 5 _)
  have BV : Below w.heap.size w ((((((w1.setCell ⟨w.heap.size + 1 + 1 + 1, 0, none⟩ (.int .i64 0)).setCell ⟨w.heap.size + 1 + 1 + 1, 1, none⟩ (.int .i64 0)).setCell ⟨w.heap.size + 1 + 1 + 1, 2, none⟩ (.int .i64 0)).setCell ⟨w.heap.size + 1 + 1 + 1, 3, none⟩ (.int .i64 0)).setCell ⟨w.heap.size + 1 + 1 + 1, 4, none⟩ (.int .i64 0)).setCell ⟨w.heap.size + 1 + 1 + 1, 5, none⟩ (.int .i64 0)) := by (repeat' (first | (with_reducible exact Below.refl _ _) | (with_reducible assumption) | (with_reducible refine Below.drew ?_) | (with_reducible refine below_drewN ?_ _) | (with_reducible refine Below.setCell ?_ ?_ _) | (with_reducible refine Below.alloc ?_ ?_ _) | go_size | omega))
  generalize ((((((w1.setCell ⟨w.heap.size + 1 + 1 + 1, 0, none⟩ (.int .i64 0)).setCell ⟨w.heap.size + 1 + 1 + 1, 1, none⟩ (.int .i64 0)).setCell ⟨w.heap.size + 1 + 1 + 1, 2, none⟩ (.int .i64 0)).setCell ⟨w.heap.size + 1 + 1 + 1, 3, none⟩ (.int .i64 0)).setCell ⟨w.heap.size + 1 + 1 + 1, 4, none⟩ (.int .i64 0)).setCell ⟨w.heap.size + 1 + 1 + 1, 5, none⟩ (.int .i64 0)) = v at *
  have s0 := RV.cell 0
  have s1 := RV.cell 1
  have s2 := RV.cell 2
  have s3 := RV.cell 3
  have s4 := RV.cell 4
  have s5 := RV.cell 5
  simp at s0 s1 s2 s3 s4 s5
  go_wp2_with fail
  refine bodyPost_ret (v := .tuple #[.agg #[.int .i64 0, .int .i64 0, .int .i64 0, .int .i64 0, .int .i64 0, .int .i64 0], .int .i64 2]) (by simp [results, Try.results42, go_sem, s0, s1, s2, s3, s4, s5]) rfl ⟨rfl, BV⟩
set_option maxRecDepth 100000 in
set_option maxHeartbeats 1600000 in
theorem pullOf_bad1 (tl th a0 a1 a2 b0 b1 b2 : Int) (w : World) (h : 0 ≤ tl ∧ tl ≤ th ∧ th ≤ 10000000000) (hp : plErr [⟨a0, a1, a2⟩, ⟨b0, b1, b2⟩] = 2) :
    Calls Try.prog 42 #[.agg #[.int .i64 tl, .int .i64 th], vec a0 a1 a2, vec b0 b1 b2] w fun e w' => e = .returned (.tuple #[.agg #[.int .i64 0, .int .i64 0, .int .i64 0, .int .i64 0, .int .i64 0, .int .i64 0], .int .i64 2]) ∧ Below w.heap.size w w' := by
  have IN := Lib.hid (fun u => inside_any tl th 0 10000000000 u)
  rw [decide_eq_true h] at IN
  have HP := Lib.hid hp; clear hp h
  go_enter Try.func42, Try.ntmps42
  go_wp2_with fail
  refine (IN.out _).mono ?_
  rintro e w1 ⟨rfl, h1⟩
  have B1 : Below w.heap.size w w1 := below_via (by go_grown) h1
  have z1' := h1.size
  simp at z1'
  have A1 := Lib.hid (((Box.new (w.alloc (.cells #[.int .i64 tl, .int .i64 th] 83)) #[.int .i64 a0, .int .i64 a1, .int .i64 a2] 23 (n := w.heap.size + 1) (by simp)).alloc (.cells #[.int .i64 b0, .int .i64 b1, .int .i64 b2] 23)).alloc (.cells #[.int .i64 0, .int .i64 0, .int .i64 0, .int .i64 0, .int .i64 0, .int .i64 0] 84) |>.keep h1)
  have A2 := Lib.hid ((Box.new ((w.alloc (.cells #[.int .i64 tl, .int .i64 th] 83)).alloc (.cells #[.int .i64 a0, .int .i64 a1, .int .i64 a2] 23)) #[.int .i64 b0, .int .i64 b1, .int .i64 b2] 23 (n := w.heap.size + 1 + 1) (by simp)).alloc (.cells #[.int .i64 0, .int .i64 0, .int .i64 0, .int .i64 0, .int .i64 0, .int .i64 0] 84) |>.keep h1)
  have R1 := Lib.hid ((Box.new (((w.alloc (.cells #[.int .i64 tl, .int .i64 th] 83)).alloc (.cells #[.int .i64 a0, .int .i64 a1, .int .i64 a2] 23)).alloc (.cells #[.int .i64 b0, .int .i64 b1, .int .i64 b2] 23)) #[.int .i64 0, .int .i64 0, .int .i64 0, .int .i64 0, .int .i64 0, .int .i64 0] 84 (n := w.heap.size + 1 + 1 + 1) (by simp)).keep h1)
  clear h1
  obtain ⟨p0, p1, p2, -⟩ := A1.out.three
  obtain ⟨q0, q1, q2, -⟩ := A2.out.three
  go_wp2_with fail
  have VA : VecsAt (w1.alloc (.cells #[.int .i64 a0, .int .i64 a1, .int .i64 a2, .int .i64 b0, .int .i64 b1, .int .i64 b2] 91)) w1.heap.size 0 [⟨a0, a1, a2⟩, ⟨b0, b1, b2⟩] := vecs_two _ _ _ _ _ _ _
  refine (placeError_any w1.heap.size 0 2 [⟨a0, a1, a2⟩, ⟨b0, b1, b2⟩] _ VA (by simp)).mono ?_
  rw [HP.out]
  rintro e w2 ⟨rfl, h2⟩
  have B2 : Below w.heap.size w w2 := below_via (by (repeat' (first | (with_reducible exact Below.refl _ _) | (with_reducible assumption) | (with_reducible refine Below.drew ?_) | (with_reducible refine below_drewN ?_ _) | (with_reducible refine Below.setCell ?_ ?_ _) | (with_reducible refine Below.alloc ?_ ?_ _) | go_size | omega))) h2
  have z2' := h2.size
  simp at z2'
  have K2 : Below w1.heap.size w1 w2 := below_via (by (repeat' (first | (with_reducible exact Below.refl _ _) | (with_reducible assumption) | (with_reducible refine Below.drew ?_) | (with_reducible refine below_drewN ?_ _) | (with_reducible refine Below.setCell ?_ ?_ _) | (with_reducible refine Below.alloc ?_ ?_ _) | go_size | omega))) h2
  have R2 := Lib.hid (R1.out.keep K2)
  clear h2 p0 p1 p2 q0 q1 q2
  have lr := R2.out.lt
  have g0 := R2.out.cell 0; have g1 := R2.out.cell 1; have g2 := R2.out.cell 2; have g3 := R2.out.cell 3; have g4 := R2.out.cell 4; have g5 := R2.out.cell 5
  have f0 := R2.out.free 0; have f1 := R2.out.free 1; have f2 := R2.out.free 2; have f3 := R2.out.free 3; have f4 := R2.out.free 4; have f5 := R2.out.free 5
  simp at g0 g1 g2 g3 g4 g5
  go_wp2_with fail
  clear g0 g1 g2 g3 g4 g5 f0 f1 f2 f3 f4 f5
  have RV : Box ((((((w2.setCell ⟨w.heap.size + 1 + 1 + 1, 0, none⟩ (.int .i64 0)).setCell ⟨w.heap.size + 1 + 1 + 1, 1, none⟩ (.int .i64 0)).setCell ⟨w.heap.size + 1 + 1 + 1, 2, none⟩ (.int .i64 0)).setCell ⟨w.heap.size + 1 + 1 + 1, 3, none⟩ (.int .i64 0)).setCell ⟨w.heap.size + 1 + 1 + 1, 4, none⟩ (.int .i64 0)).setCell ⟨w.heap.size + 1 + 1 + 1, 5, none⟩ (.int .i64 0)) (w.heap.size + 1 + 1 + 1) #[.int .i64 0, .int .i64 0, .int .i64 0, .int .i64 0, .int .i64 0, .int .i64 0] 84 := ((((((R2.out.set 0 _).set 1 _).set 2 _).set 3 _).set 4 _).set 5 _)
  have BV : Below w.heap.size w ((((((w2.setCell ⟨w.heap.size + 1 + 1 + 1, 0, none⟩ (.int .i64 0)).setCell ⟨w.heap.size + 1 + 1 + 1, 1, none⟩ (.int .i64 0)).setCell ⟨w.heap.size + 1 + 1 + 1, 2, none⟩ (.int .i64 0)).setCell ⟨w.heap.size + 1 + 1 + 1, 3, none⟩ (.int .i64 0)).setCell ⟨w.heap.size + 1 + 1 + 1, 4, none⟩ (.int .i64 0)).setCell ⟨w.heap.size + 1 + 1 + 1, 5, none⟩ (.int .i64 0)) := by (repeat' (first | (with_reducible exact Below.refl _ _) | (with_reducible assumption) | (with_reducible refine Below.drew ?_) | (with_reducible refine below_drewN ?_ _) | (with_reducible refine Below.setCell ?_ ?_ _) | (with_reducible refine Below.alloc ?_ ?_ _) | go_size | omega))
  generalize ((((((w2.setCell ⟨w.heap.size + 1 + 1 + 1, 0, none⟩ (.int .i64 0)).setCell ⟨w.heap.size + 1 + 1 + 1, 1, none⟩ (.int .i64 0)).setCell ⟨w.heap.size + 1 + 1 + 1, 2, none⟩ (.int .i64 0)).setCell ⟨w.heap.size + 1 + 1 + 1, 3, none⟩ (.int .i64 0)).setCell ⟨w.heap.size + 1 + 1 + 1, 4, none⟩ (.int .i64 0)).setCell ⟨w.heap.size + 1 + 1 + 1, 5, none⟩ (.int .i64 0)) = v at *
  have s0 := RV.cell 0
  have s1 := RV.cell 1
  have s2 := RV.cell 2
  have s3 := RV.cell 3
  have s4 := RV.cell 4
  have s5 := RV.cell 5
  simp at s0 s1 s2 s3 s4 s5
  go_wp2_with fail
  refine bodyPost_ret (v := .tuple #[.agg #[.int .i64 0, .int .i64 0, .int .i64 0, .int .i64 0, .int .i64 0, .int .i64 0], .int .i64 2]) (by simp [results, Try.results42, go_sem, s0, s1, s2, s3, s4, s5]) rfl ⟨rfl, BV⟩
end Go.Proofs.Ytahfliboanphkaa
