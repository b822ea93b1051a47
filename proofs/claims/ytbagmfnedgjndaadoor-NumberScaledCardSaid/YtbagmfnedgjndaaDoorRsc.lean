/-
  The walk of the reference's Scaled on right arguments.
-/
import Derived.Test.YtbagmfnedgjndaaDoorScl
namespace Go.Proofs.YtbagmfnedgjndaaDoor
open Go.RowKit
theorem pdF_nn (x n d : Int) : pdF (-x) (-n) d = pdF x n d := by unfold pdF; rw [Int.neg_mul_neg]
theorem pdB_nn (x n d : Int) : pdB (-x) (-n) d = pdB x n d := by unfold pdB; rw [pdF_nn]
theorem pdF_ns (x n d : Int) : pdF (-x) n d = pdF x (-n) d := by unfold pdF; rw [Int.neg_mul, Int.mul_neg]
theorem pdB_ns (x n d : Int) : pdB (-x) n d = pdB x (-n) d := by unfold pdB; rw [pdF_ns]
set_option maxRecDepth 100000 in
set_option maxHeartbeats 1600000 in
theorem rsc_neg (a b n d : Int) (w : World) (h : err2 (chkR a b) (chkF n d) = 0) (hneg : n < 0) :
    Calls Tryd.prog 55 #[.agg #[.int .i64 a, .int .i64 b], .agg #[.int .i64 n, .int .i64 d]] w fun e w' =>
      e = .returned (.tuple #[.agg #[.int .i64 (scL a b n d), .int .i64 (scH a b n d)], .int .i64 (scE a b n d)]) ∧ Below w.heap.size w w' := by
  obtain ⟨⟨a0, a1⟩, ⟨b0, b1⟩, ab⟩ := chkR_bd (err2_zero h).1
  obtain ⟨d0, d1, n0, n1, _⟩ := chkF_ok (err2_zero h).2
  have F1 := Lib.hid (show scL a b n d = if (pdB b n d && pdB a (-n) d) then pdF b n d else 0 by unfold scL scB scl; rw [if_neg (by omega), if_pos hneg, if_pos hneg])
  have F2 := Lib.hid (show scH a b n d = if (pdB b n d && pdB a (-n) d) then -pdF a (-n) d else 0 by unfold scH scB sch; rw [if_neg (by omega), if_pos hneg, if_pos hneg])
  have F3 := Lib.hid (show scE a b n d = if (pdB b n d && pdB a (-n) d) then 0 else 8 by unfold scE scB; rw [if_neg (by omega), if_pos hneg])
  have D1 := fun u : World => rdown_any (-b) (-n) d u (by omega) (by omega) (by omega) (by omega) d0 d1
  have U1 := fun u : World => rup_any (-a) (-n) d u (by omega) (by omega) (by omega) (by omega) d0 d1
  simp only [pdF_nn, pdB_nn] at D1
  simp only [Int.neg_neg] at U1
  have P1 := Lib.hid D1
  have P2 := Lib.hid U1
  clear h D1 U1
  go_enter Tryd.func55, Tryd.ntmps55
  go_wp2_with fail
  go_region
  go_wp2_with fail
  have BX : Below w.heap.size w ((((w.alloc (.cells #[.int .i64 (-b), .int .i64 (-a)] 37)).alloc (.cells #[.int .i64 (-n), .int .i64 d] 23)).alloc (.cells #[.int .i64 0, .int .i64 0] 37))).drew := by go_grown
  have A := Box.drew (((Box.new w #[.int .i64 (-b), .int .i64 (-a)] 37 rfl).alloc (.cells #[.int .i64 (-n), .int .i64 d] 23)).alloc (.cells #[.int .i64 0, .int .i64 0] 37))
  have B := Box.drew ((Box.new (w.alloc (.cells #[.int .i64 (-b), .int .i64 (-a)] 37)) #[.int .i64 (-n), .int .i64 d] 23 (n := w.heap.size + 1) (by simp)).alloc (.cells #[.int .i64 0, .int .i64 0] 37))
  have R := Box.drew (Box.new ((w.alloc (.cells #[.int .i64 (-b), .int .i64 (-a)] 37)).alloc (.cells #[.int .i64 (-n), .int .i64 d] 23)) #[.int .i64 0, .int .i64 0] 37 (n := w.heap.size + 1 + 1) (by simp))
  refine (P1.out _).mono ?_
  rintro e w5 ⟨v1, rfl, hv1, ⟨v10, v11⟩, h5⟩
  have B5 : Below w.heap.size w w5 := below_via BX h5
  have z5 := B5.size
  have HA5 := Lib.hid (A.keep h5); have HB5 := Lib.hid (B.keep h5); have HR5 := Lib.hid (R.keep h5)
  have HV1 := Lib.hid hv1
  clear hv1 h5 A B R BX
  have l1 := HA5.out.lt
  have l2 := HB5.out.lt
  have l3 := HR5.out.lt
  obtain ⟨k0, k1, _⟩ := HA5.out.two
  obtain ⟨k2, k3, _⟩ := HB5.out.two
  obtain ⟨r0, r1, f0, f1⟩ := HR5.out.two
  go_wp2_with fail
  refine (P2.out _).mono ?_
  rintro e w6 ⟨v2, rfl, hv2, ⟨v20, v21⟩, h6⟩
  have B6 : Below w.heap.size w w6 := below_via (by go_grown) h6
  have z6 := B6.size
  have HR6 := Lib.hid (HR5.out.keep h6)
  have HV2 := Lib.hid hv2
  clear hv2 h6 r0 r1 f0 f1 k0 k1 k2 k3
  have l3 := HR6.out.lt
  obtain ⟨r0, r1, f0, f1⟩ := HR6.out.two
  have G1 := F1.out; have G2 := F2.out; have G3 := F3.out
  cases hp1 : pdB b n d
  · rw [hp1, Bool.false_and] at G1 G2 G3
    go_wp2_with fail
    refine bodyPost_ret (v := .tuple #[.agg #[.int .i64 (scL a b n d), .int .i64 (scH a b n d)], .int .i64 (scE a b n d)])
      (by simp [results, Tryd.results55, go_sem, r0, r1, G1, G2, G3]) rfl ⟨rfl, ?_⟩
    go_grown
  · cases hp2 : pdB a (-n) d
    · rw [hp1, hp2, Bool.true_and] at G1 G2 G3
      go_wp2_with fail
      refine bodyPost_ret (v := .tuple #[.agg #[.int .i64 (scL a b n d), .int .i64 (scH a b n d)], .int .i64 (scE a b n d)])
        (by simp [results, Tryd.results55, go_sem, r0, r1, G1, G2, G3]) rfl ⟨rfl, ?_⟩
      go_grown
    · rw [hp1, hp2, Bool.true_and] at G1 G2 G3
      have e1 := HV1.out hp1
      have e2 := HV2.out hp2
      rw [← e1] at G1
      rw [← e2] at G2
      clear e1 e2
      go_wp2_with fail
      refine bodyPost_ret (v := .tuple #[.agg #[.int .i64 (scL a b n d), .int .i64 (scH a b n d)], .int .i64 (scE a b n d)])
        (by simp [results, Tryd.results55, go_sem, r0, r1, G1, G2, G3]) rfl ⟨rfl, ?_⟩
      go_grown
set_option maxRecDepth 100000 in
set_option maxHeartbeats 1600000 in
theorem rsc_pos (a b n d : Int) (w : World) (h : err2 (chkR a b) (chkF n d) = 0) (hneg : ¬ n < 0) :
    Calls Tryd.prog 55 #[.agg #[.int .i64 a, .int .i64 b], .agg #[.int .i64 n, .int .i64 d]] w fun e w' =>
      e = .returned (.tuple #[.agg #[.int .i64 (scL a b n d), .int .i64 (scH a b n d)], .int .i64 (scE a b n d)]) ∧ Below w.heap.size w w' := by
  obtain ⟨⟨a0, a1⟩, ⟨b0, b1⟩, ab⟩ := chkR_bd (err2_zero h).1
  obtain ⟨d0, d1, n0, n1, _⟩ := chkF_ok (err2_zero h).2
  have F1 := Lib.hid (show scL a b n d = if (pdB a n d && pdB b (-n) d) then pdF a n d else 0 by unfold scL scB scl; rw [if_neg (by omega), if_neg hneg, if_neg hneg])
  have F2 := Lib.hid (show scH a b n d = if (pdB a n d && pdB b (-n) d) then -pdF b (-n) d else 0 by unfold scH scB sch; rw [if_neg (by omega), if_neg hneg, if_neg hneg])
  have F3 := Lib.hid (show scE a b n d = if (pdB a n d && pdB b (-n) d) then 0 else 8 by unfold scE scB; rw [if_neg (by omega), if_neg hneg])
  have D1 := fun u : World => rdown_any a n d u (by omega) (by omega) (by omega) (by omega) d0 d1
  have U1 := fun u : World => rup_any b n d u (by omega) (by omega) (by omega) (by omega) d0 d1
  skip
  simp only [pdF_ns, pdB_ns] at U1
  have P1 := Lib.hid D1
  have P2 := Lib.hid U1
  clear h D1 U1
  go_enter Tryd.func55, Tryd.ntmps55
  go_wp2_with fail
  have BX : Below w.heap.size w (((w.alloc (.cells #[.int .i64 a, .int .i64 b] 37)).alloc (.cells #[.int .i64 n, .int .i64 d] 23)).alloc (.cells #[.int .i64 0, .int .i64 0] 37)) := by go_grown
  have A := ((Box.new w #[.int .i64 a, .int .i64 b] 37 rfl).alloc (.cells #[.int .i64 n, .int .i64 d] 23)).alloc (.cells #[.int .i64 0, .int .i64 0] 37)
  have B := (Box.new (w.alloc (.cells #[.int .i64 a, .int .i64 b] 37)) #[.int .i64 n, .int .i64 d] 23 (n := w.heap.size + 1) (by simp)).alloc (.cells #[.int .i64 0, .int .i64 0] 37)
  have R := Box.new ((w.alloc (.cells #[.int .i64 a, .int .i64 b] 37)).alloc (.cells #[.int .i64 n, .int .i64 d] 23)) #[.int .i64 0, .int .i64 0] 37 (n := w.heap.size + 1 + 1) (by simp)
  refine (P1.out _).mono ?_
  rintro e w5 ⟨v1, rfl, hv1, ⟨v10, v11⟩, h5⟩
  have B5 : Below w.heap.size w w5 := below_via BX h5
  have z5 := B5.size
  have HA5 := Lib.hid (A.keep h5); have HB5 := Lib.hid (B.keep h5); have HR5 := Lib.hid (R.keep h5)
  have HV1 := Lib.hid hv1
  clear hv1 h5 A B R BX
  have l1 := HA5.out.lt
  have l2 := HB5.out.lt
  have l3 := HR5.out.lt
  obtain ⟨k0, k1, _⟩ := HA5.out.two
  obtain ⟨k2, k3, _⟩ := HB5.out.two
  obtain ⟨r0, r1, f0, f1⟩ := HR5.out.two
  go_wp2_with fail
  refine (P2.out _).mono ?_
  rintro e w6 ⟨v2, rfl, hv2, ⟨v20, v21⟩, h6⟩
  have B6 : Below w.heap.size w w6 := below_via (by go_grown) h6
  have z6 := B6.size
  have HR6 := Lib.hid (HR5.out.keep h6)
  have HV2 := Lib.hid hv2
  clear hv2 h6 r0 r1 f0 f1 k0 k1 k2 k3
  have l3 := HR6.out.lt
  obtain ⟨r0, r1, f0, f1⟩ := HR6.out.two
  have G1 := F1.out; have G2 := F2.out; have G3 := F3.out
  cases hp1 : pdB a n d
  · rw [hp1, Bool.false_and] at G1 G2 G3
    go_wp2_with fail
    refine bodyPost_ret (v := .tuple #[.agg #[.int .i64 (scL a b n d), .int .i64 (scH a b n d)], .int .i64 (scE a b n d)])
      (by simp [results, Tryd.results55, go_sem, r0, r1, G1, G2, G3]) rfl ⟨rfl, ?_⟩
    go_grown
  · cases hp2 : pdB b (-n) d
    · rw [hp1, hp2, Bool.true_and] at G1 G2 G3
      go_wp2_with fail
      refine bodyPost_ret (v := .tuple #[.agg #[.int .i64 (scL a b n d), .int .i64 (scH a b n d)], .int .i64 (scE a b n d)])
        (by simp [results, Tryd.results55, go_sem, r0, r1, G1, G2, G3]) rfl ⟨rfl, ?_⟩
      go_grown
    · rw [hp1, hp2, Bool.true_and] at G1 G2 G3
      have e1 := HV1.out hp1
      have e2 := HV2.out hp2
      rw [← e1] at G1
      rw [← e2] at G2
      clear e1 e2
      go_wp2_with fail
      refine bodyPost_ret (v := .tuple #[.agg #[.int .i64 (scL a b n d), .int .i64 (scH a b n d)], .int .i64 (scE a b n d)])
        (by simp [results, Tryd.results55, go_sem, r0, r1, G1, G2, G3]) rfl ⟨rfl, ?_⟩
      go_grown
end Go.Proofs.YtbagmfnedgjndaaDoor
