/-
  The reference of PullOf.
-/
import Derived.Test.YtgmiimpimoipcaaPu4
import Derived.Test.YtgmiimpimoipcaaRbe
namespace Go.Proofs.Ytgmiimpimoipcaa
open Go.RowKit
theorem rminus_any (a0 a1 a2 b0 b1 b2 : Int) (w : World) (ha : Big 4000000000000000000 a0 a1 a2) (hb : Big 4000000000000000000 b0 b1 b2) :
    Calls Try.prog 26 #[vec a0 a1 a2, vec b0 b1 b2] w fun e w' => e = .returned (vec (a0 - b0) (a1 - b1) (a2 - b2)) ∧ Below w.heap.size w w' := by
  obtain ⟨⟨x0, x1⟩, ⟨x2, x3⟩, x4, x5⟩ := ha
  obtain ⟨⟨y0, y1⟩, ⟨y2, y3⟩, y4, y5⟩ := hb
  go_enter Try.func26, Try.ntmps26
  go_wp2_with fail
  have RV : Box (((w.alloc (.cells #[.int .i64 a0, .int .i64 a1, .int .i64 a2] 24)).alloc (.cells #[.int .i64 b0, .int .i64 b1, .int .i64 b2] 24)).alloc (.cells #[.int .i64 (a0 - b0), .int .i64 (a1 - b1), .int .i64 (a2 - b2)] 24)) (w.heap.size + 1 + 1) #[.int .i64 (a0 - b0), .int .i64 (a1 - b1), .int .i64 (a2 - b2)] 24 := Box.new _ _ _ (by simp)
  have BV : Below w.heap.size w (((w.alloc (.cells #[.int .i64 a0, .int .i64 a1, .int .i64 a2] 24)).alloc (.cells #[.int .i64 b0, .int .i64 b1, .int .i64 b2] 24)).alloc (.cells #[.int .i64 (a0 - b0), .int .i64 (a1 - b1), .int .i64 (a2 - b2)] 24)) := by (repeat' (first | (with_reducible exact Below.refl _ _) | (with_reducible assumption) | (with_reducible refine Below.drew ?_) | (with_reducible refine below_drewN ?_ _) | (with_reducible refine Below.setCell ?_ ?_ _) | (with_reducible refine Below.alloc ?_ ?_ _) | go_size | omega))
  generalize (((w.alloc (.cells #[.int .i64 a0, .int .i64 a1, .int .i64 a2] 24)).alloc (.cells #[.int .i64 b0, .int .i64 b1, .int .i64 b2] 24)).alloc (.cells #[.int .i64 (a0 - b0), .int .i64 (a1 - b1), .int .i64 (a2 - b2)] 24)) = v at *
  have s0 := RV.cell 0
  have s1 := RV.cell 1
  have s2 := RV.cell 2
  simp at s0 s1 s2
  refine bodyPost_ret (v := vec (a0 - b0) (a1 - b1) (a2 - b2)) (by simp [results, Try.results26, go_sem, s0, s1, s2]) rfl ⟨rfl, BV⟩
theorem risPlace_any (a b c : Int) (w : World) :
    Calls Try.prog 23 #[vec a b c] w fun e w' => e = .returned (.bool (szB 1000000 a b c)) ∧ Below w.heap.size w w' := by
  go_enter Try.func23, Try.ntmps23
  go_wp2_with fail
  refine (size3_any a b c 1000000 _ (by omega) (by omega)).mono ?_
  rintro e w1 ⟨rfl, h⟩
  have B1 : Below w.heap.size w w1 := below_via (by (repeat' (first | (with_reducible exact Below.refl _ _) | (with_reducible assumption) | (with_reducible refine Below.drew ?_) | (with_reducible refine below_drewN ?_ _) | (with_reducible refine Below.setCell ?_ ?_ _) | (with_reducible refine Below.alloc ?_ ?_ _) | go_size | omega))) h
  clear h
  go_wp2_with fail
  go_ret
  exact ⟨rfl, B1⟩
set_option maxRecDepth 100000 in
set_option maxHeartbeats 1600000 in
theorem rcomp_pos (tl th d slo shi : Int) (w : World) (t0 : 0 ≤ tl) (t1 : tl ≤ 10000000000) (u0 : 0 ≤ th) (u1 : th ≤ 10000000000) (d0 : 0 < d) (d1 : d ≤ 1000000) (s0 : 1 ≤ slo) (s1 : slo ≤ 1000000000000) (q0 : 1 ≤ shi) (q1 : shi ≤ 1000000000000) :
    Calls Try.prog 51 #[.agg #[.int .i64 tl, .int .i64 th], .int .i64 d, .agg #[.int .i64 slo, .int .i64 shi]] w fun e w' => e = .returned (.agg #[.int .i64 (dn (tl * (100 * d)) shi), .int .i64 (up (th * (100 * d)) slo)]) ∧ Below w.heap.size w w' := by
  obtain ⟨m0, m1⟩ := prod_bd t0 t1 (show 0 ≤ d by omega) d1
  obtain ⟨n0, n1⟩ := prod_bd u0 u1 (show 0 ≤ d by omega) d1
  have E1 : 100 * tl * d = tl * (100 * d) := by rw [Int.mul_comm 100 tl, Int.mul_assoc]
  have E2 : 100 * th * d = th * (100 * d) := by rw [Int.mul_comm 100 th, Int.mul_assoc]
  have wa : IntKind.i64.wrap (100 * tl) = 100 * tl := IntWalk.i64_in _ (by omega)
  have wb : IntKind.i64.wrap (100 * th) = 100 * th := IntWalk.i64_in _ (by omega)
  have wm : IntKind.i64.wrap (100 * tl * d) = tl * (100 * d) := by rw [E1]; exact IntWalk.i64_in _ (by omega)
  have wn : IntKind.i64.wrap (100 * th * d) = th * (100 * d) := by rw [E2]; exact IntWalk.i64_in _ (by omega)
  clear E1 E2
  have CD := Lib.hid (fun v => Floor_any (tl * (100 * d)) shi v (by omega) (by omega) (by omega) (by omega))
  have CU := Lib.hid (fun v => Ceil_any (th * (100 * d)) slo v (by omega) (by omega) (by omega) (by omega))
  generalize tl * (100 * d) = P at *
  generalize th * (100 * d) = Q at *
  have hd0 : ¬ d = 0 := by omega
  have hd1 : ¬ d < 0 := by omega
  go_enter Try.func51, Try.ntmps51
  go_wp2_with fail
  have BX0 := (((Box.new w #[.int .i64 tl, .int .i64 th] 23 (n := w.heap.size) (by simp)).alloc (.cells #[.int .i64 slo, .int .i64 shi] 23)).alloc (.cells #[.int .i64 0, .int .i64 0] 23))
  have BX1 := ((Box.new (w.alloc (.cells #[.int .i64 tl, .int .i64 th] 23)) #[.int .i64 slo, .int .i64 shi] 23 (n := w.heap.size + 1) (by simp)).alloc (.cells #[.int .i64 0, .int .i64 0] 23))
  have BX2 := (Box.new ((w.alloc (.cells #[.int .i64 tl, .int .i64 th] 23)).alloc (.cells #[.int .i64 slo, .int .i64 shi] 23)) #[.int .i64 0, .int .i64 0] 23 (n := w.heap.size + 1 + 1) (by simp))
  have BW : Below w.heap.size w (((w.alloc (.cells #[.int .i64 tl, .int .i64 th] 23)).alloc (.cells #[.int .i64 slo, .int .i64 shi] 23)).alloc (.cells #[.int .i64 0, .int .i64 0] 23)) := by go_grown
  generalize (((w.alloc (.cells #[.int .i64 tl, .int .i64 th] 23)).alloc (.cells #[.int .i64 slo, .int .i64 shi] 23)).alloc (.cells #[.int .i64 0, .int .i64 0] 23)) = u at *
  have l0 := BX0.lt
  have HX0 := Lib.hid BX0
  clear BX0
  have l1 := BX1.lt
  have HX1 := Lib.hid BX1
  clear BX1
  have l2 := BX2.lt
  have HX2 := Lib.hid BX2
  clear BX2
  obtain ⟨r0, r1, f0, f1⟩ := HX2.out.two
  have K := Lib.hid (fun (w' : World) (hw : Below (w.heap.size + 2) u w') => show (w'.cell? ⟨w.heap.size, 0, none⟩ = some (.int .i64 tl) ∧ w'.cell? ⟨w.heap.size, 1, none⟩ = some (.int .i64 th)) ∧ (w'.cell? ⟨w.heap.size + 1, 0, none⟩ = some (.int .i64 slo) ∧ w'.cell? ⟨w.heap.size + 1, 1, none⟩ = some (.int .i64 shi)) from ⟨⟨(Box.keepB (by omega) (HX0.out) hw).cell 0, (Box.keepB (by omega) (HX0.out) hw).cell 1⟩, ⟨(Box.keepB (by omega) (HX1.out) hw).cell 0, (Box.keepB (by omega) (HX1.out) hw).cell 1⟩⟩)
  go_region_held3 (fun w' => (w'.cell? ⟨w.heap.size, 0, none⟩ = some (.int .i64 tl) ∧ w'.cell? ⟨w.heap.size, 1, none⟩ = some (.int .i64 th)) ∧ (w'.cell? ⟨w.heap.size + 1, 0, none⟩ = some (.int .i64 slo) ∧ w'.cell? ⟨w.heap.size + 1, 1, none⟩ = some (.int .i64 shi)))
    ((refine K.out _ ?_; (repeat' (first | (with_reducible exact Below.refl _ _) | (with_reducible assumption) | (with_reducible refine Below.drew ?_) | (with_reducible refine below_drewN ?_ _) | (with_reducible refine Below.setCell ?_ ?_ _) | (with_reducible refine Below.alloc ?_ ?_ _) | go_size | omega)); done))
    (first | (go_at_call 70; refine (CD.out _).mono ?_; rintro e w8 ⟨rfl, rfl⟩) | (go_at_call 83; refine (CU.out _).mono ?_; rintro e w9 ⟨rfl, rfl⟩))
  all_goals
    have RV : Box (((u.setCell ⟨w.heap.size + 1 + 1, 0, none⟩ (.int .i64 ((dn P shi)))).setCell ⟨w.heap.size + 1 + 1, 1, none⟩ (.int .i64 ((up Q slo)))).drew) (w.heap.size + 1 + 1) #[.int .i64 ((dn P shi)), .int .i64 ((up Q slo))] 23 := (((HX2.out.set 0 _).set 1 _).drew)
    have BL : Below w.heap.size w u := BW
    have BV : Below w.heap.size w (((u.setCell ⟨w.heap.size + 1 + 1, 0, none⟩ (.int .i64 ((dn P shi)))).setCell ⟨w.heap.size + 1 + 1, 1, none⟩ (.int .i64 ((up Q slo)))).drew) := by (repeat' (first | (with_reducible exact Below.refl _ _) | (with_reducible assumption) | (with_reducible refine Below.drew ?_) | (with_reducible refine below_drewN ?_ _) | (with_reducible refine Below.setCell ?_ ?_ _) | (with_reducible refine Below.alloc ?_ ?_ _) | go_size | omega))
    generalize (((u.setCell ⟨w.heap.size + 1 + 1, 0, none⟩ (.int .i64 ((dn P shi)))).setCell ⟨w.heap.size + 1 + 1, 1, none⟩ (.int .i64 ((up Q slo)))).drew) = v at *
    have s0 := RV.cell 0
    have s1 := RV.cell 1
    simp at s0 s1
    go_wp2_with fail
    refine bodyPost_ret (v := .agg #[.int .i64 (dn P shi), .int .i64 (up Q slo)]) (by simp [results, Try.results51, go_sem, s0, s1]) rfl ⟨rfl, BV⟩
set_option maxRecDepth 100000 in
set_option maxHeartbeats 1600000 in
theorem rcomp_any (tl th d slo shi : Int) (w : World) (t0 : 0 ≤ tl) (t1 : tl ≤ 10000000000) (u0 : 0 ≤ th) (u1 : th ≤ 10000000000) (d0 : -1000000 ≤ d) (d1 : d ≤ 1000000) (s0 : 1 ≤ slo) (s1 : slo ≤ 1000000000000) (q0 : 1 ≤ shi) (q1 : shi ≤ 1000000000000) :
    Calls Try.prog 51 #[.agg #[.int .i64 tl, .int .i64 th], .int .i64 d, .agg #[.int .i64 slo, .int .i64 shi]] w fun e w' => e = .returned (.agg #[.int .i64 (cmpL tl th d slo shi), .int .i64 (cmpH tl th d slo shi)]) ∧ Below w.heap.size w w' := by
  by_cases hz : d = 0
  · subst hz
    have F1 : cmpL tl th 0 slo shi = 0 := by unfold cmpL dn; simp
    have F2 : cmpH tl th 0 slo shi = 0 := by unfold cmpH up dn; simp
    rw [F1, F2]; clear F1 F2
    go_enter Try.func51, Try.ntmps51
    go_wp2_with fail
    have RV : Box (((w.alloc (.cells #[.int .i64 tl, .int .i64 th] 23)).alloc (.cells #[.int .i64 slo, .int .i64 shi] 23)).alloc (.cells #[.int .i64 0, .int .i64 0] 23)) (w.heap.size + 1 + 1) #[.int .i64 0, .int .i64 0] 23 := Box.new _ _ _ (by simp)
    have BV : Below w.heap.size w (((w.alloc (.cells #[.int .i64 tl, .int .i64 th] 23)).alloc (.cells #[.int .i64 slo, .int .i64 shi] 23)).alloc (.cells #[.int .i64 0, .int .i64 0] 23)) := by (repeat' (first | (with_reducible exact Below.refl _ _) | (with_reducible assumption) | (with_reducible refine Below.drew ?_) | (with_reducible refine below_drewN ?_ _) | (with_reducible refine Below.setCell ?_ ?_ _) | (with_reducible refine Below.alloc ?_ ?_ _) | go_size | omega))
    generalize (((w.alloc (.cells #[.int .i64 tl, .int .i64 th] 23)).alloc (.cells #[.int .i64 slo, .int .i64 shi] 23)).alloc (.cells #[.int .i64 0, .int .i64 0] 23)) = v at *
    have s0 := RV.cell 0
    have s1 := RV.cell 1
    simp at s0 s1
    refine bodyPost_ret (v := .agg #[.int .i64 0, .int .i64 0]) (by simp [results, Try.results51, go_sem, s0, s1]) rfl ⟨rfl, BV⟩
  by_cases hd : d < 0
  · have CP := Lib.hid (fun u => rcomp_pos tl th (-d) slo shi u t0 t1 u0 u1 (by omega) (by omega) s0 s1 q0 q1)
    have F1 := Lib.hid (show cmpL tl th d slo shi = -(up (th * (100 * (-d))) slo) by unfold cmpL; rw [if_pos hd])
    have F2 := Lib.hid (show cmpH tl th d slo shi = -(dn (tl * (100 * (-d))) shi) by unfold cmpH; rw [if_pos hd])
    obtain ⟨m0, m1⟩ := prod_bd t0 t1 (show 0 ≤ -d by omega) (show -d ≤ 1000000 by omega)
    obtain ⟨n0, n1⟩ := prod_bd u0 u1 (show 0 ≤ -d by omega) (show -d ≤ 1000000 by omega)
    have b0 := dn_bd q0 (show -1000000000000000000 ≤ tl * (100 * (-d)) by omega) m1 (by omega)
    have b1 := up_bd s0 (show -1000000000000000000 ≤ th * (100 * (-d)) by omega) n1 (by omega)
    obtain ⟨b00, b01⟩ := b0
    obtain ⟨b10, b11⟩ := b1
    generalize dn (tl * (100 * (-d))) shi = D at *
    generalize up (th * (100 * (-d))) slo = U at *
    go_enter Try.func51, Try.ntmps51
    go_wp2_with fail
    refine (CP.out _).mono ?_
    rintro e w1 ⟨rfl, h1⟩
    have B1 : Below w.heap.size w w1 := below_via (by go_grown) h1
    have R1 := Lib.hid (((Box.new ((w.alloc (.cells #[.int .i64 tl, .int .i64 th] 23)).alloc (.cells #[.int .i64 slo, .int .i64 shi] 23)) #[.int .i64 0, .int .i64 0] 23 (n := w.heap.size + 1 + 1) (by simp))).keep h1)
    have z1' := h1.size
    simp at z1'
    clear h1 m0 m1 n0 n1
    obtain ⟨r0, r1, f0, f1⟩ := R1.out.two
    have lr := R1.out.lt
    go_wp2_with fail
    clear r0 r1 f0 f1
    have RV : Box (((w1.setCell ⟨w.heap.size + 1 + 1, 0, none⟩ (.int .i64 (-U))).setCell ⟨w.heap.size + 1 + 1, 1, none⟩ (.int .i64 (-D))).alloc (.cells #[.int .i64 D, .int .i64 U] 23)) (w.heap.size + 1 + 1) #[.int .i64 (-U), .int .i64 (-D)] 23 := (((R1.out.set 0 _).set 1 _).alloc _)
    have BV : Below w.heap.size w (((w1.setCell ⟨w.heap.size + 1 + 1, 0, none⟩ (.int .i64 (-U))).setCell ⟨w.heap.size + 1 + 1, 1, none⟩ (.int .i64 (-D))).alloc (.cells #[.int .i64 D, .int .i64 U] 23)) := by (repeat' (first | (with_reducible exact Below.refl _ _) | (with_reducible assumption) | (with_reducible refine Below.drew ?_) | (with_reducible refine below_drewN ?_ _) | (with_reducible refine Below.setCell ?_ ?_ _) | (with_reducible refine Below.alloc ?_ ?_ _) | go_size | omega))
    generalize (((w1.setCell ⟨w.heap.size + 1 + 1, 0, none⟩ (.int .i64 (-U))).setCell ⟨w.heap.size + 1 + 1, 1, none⟩ (.int .i64 (-D))).alloc (.cells #[.int .i64 D, .int .i64 U] 23)) = v at *
    have s0 := RV.cell 0
    have s1 := RV.cell 1
    simp at s0 s1
    refine bodyPost_ret (v := .agg #[.int .i64 (cmpL tl th d slo shi), .int .i64 (cmpH tl th d slo shi)]) (by simp [results, Try.results51, go_sem, s0, s1, F1.out, F2.out]) rfl ⟨rfl, BV⟩
  · have h := rcomp_pos tl th d slo shi w t0 t1 u0 u1 (by omega) d1 s0 s1 q0 q1
    unfold cmpL cmpH
    rw [if_neg hd, if_neg hd]
    exact h
end Go.Proofs.Ytgmiimpimoipcaa
