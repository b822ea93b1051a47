/-
  The walk of Scaled.
-/
import Derived.Test.YtbagmfnedgjndaaDoorSc3
import Derived.Test.YtbagmfnedgjndaaDoorRng2
namespace Go.Proofs.YtbagmfnedgjndaaDoor
open Go.RowKit

theorem pdB_bd {x n d : Int} (h : pdB x n d = true) : -1000000000000000 ≤ pdF x n d ∧ pdF x n d ≤ 1000000000000000 := by
  unfold pdB at h; exact of_decide_eq_true h
/-- the least product and the greatest one -/
def scl (a b n d : Int) : Int := if n < 0 then pdF b n d else pdF a n d
def sch (a b n d : Int) : Int := if n < 0 then -pdF a (-n) d else -pdF b (-n) d
def scB (a b n d : Int) : Bool := if n < 0 then pdB b n d && pdB a (-n) d else pdB a n d && pdB b (-n) d
def scE (a b n d : Int) : Int := if err2 (chkR a b) (chkF n d) ≠ 0 then err2 (chkR a b) (chkF n d) else if scB a b n d then 0 else 8
def scL (a b n d : Int) : Int := if err2 (chkR a b) (chkF n d) ≠ 0 then 0 else if scB a b n d then scl a b n d else 0
def scH (a b n d : Int) : Int := if err2 (chkR a b) (chkF n d) ≠ 0 then 0 else if scB a b n d then sch a b n d else 0
set_option maxRecDepth 100000 in
set_option maxHeartbeats 1600000 in
theorem sc_bad (a b n d : Int) (w : World) (hn0 : -9223372036854775808 ≤ n) (hn1 : n ≤ 9223372036854775807) (hd0 : -9223372036854775808 ≤ d) (hd1 : d ≤ 9223372036854775807) (h : err2 (chkR a b) (chkF n d) ≠ 0) :
    Calls Tryd.prog 54 #[.agg #[.int .i64 a, .int .i64 b], .agg #[.int .i64 n, .int .i64 d]] w fun e w' =>
      e = .returned (.tuple #[.agg #[.int .i64 (scL a b n d), .int .i64 (scH a b n d)], .int .i64 (scE a b n d)]) ∧ Below w.heap.size w w' := by
  have h0 : (err2 (chkR a b) (chkF n d) != 0) = true := by simpa using h
  have F1 := Lib.hid (show scL a b n d = 0 by unfold scL; rw [if_pos h])
  have F2 := Lib.hid (show scH a b n d = 0 by unfold scH; rw [if_pos h])
  have F3 := Lib.hid (show scE a b n d = err2 (chkR a b) (chkF n d) by unfold scE; rw [if_pos h])
  clear h
  go_enter Tryd.func54, Tryd.ntmps54
  go_wp2_with fail
  have BA := (Box.new w #[.int .i64 a, .int .i64 b] 37 rfl).alloc (.cells #[.int .i64 n, .int .i64 d] 23) |>.alloc (.cells #[.int .i64 0, .int .i64 0] 37)
  have BB := (Box.new (w.alloc (.cells #[.int .i64 a, .int .i64 b] 37)) #[.int .i64 n, .int .i64 d] 23 (n := w.heap.size + 1) (by simp)).alloc (.cells #[.int .i64 0, .int .i64 0] 37)
  have BR := Box.new ((w.alloc (.cells #[.int .i64 a, .int .i64 b] 37)).alloc (.cells #[.int .i64 n, .int .i64 d] 23)) #[.int .i64 0, .int .i64 0] 37 (n := w.heap.size + 1 + 1) (by simp)
  have BW : Below w.heap.size w (((w.alloc (.cells #[.int .i64 a, .int .i64 b] 37)).alloc (.cells #[.int .i64 n, .int .i64 d] 23)).alloc (.cells #[.int .i64 0, .int .i64 0] 37)) := by go_grown
  generalize (((w.alloc (.cells #[.int .i64 a, .int .i64 b] 37)).alloc (.cells #[.int .i64 n, .int .i64 d] 23)).alloc (.cells #[.int .i64 0, .int .i64 0] 37)) = u at *
  have la := BA.lt
  have lb := BB.lt
  have HBA := Lib.hid BA
  have HBB := Lib.hid BB
  have lr := BR.lt
  have HBR := Lib.hid BR
  clear BR
  clear BA BB
  have K := Lib.hid (fun (w' : World) (hw : Below u.heap.size u w') => show w'.cell? ⟨w.heap.size, 0, none⟩ = some (.int .i64 a) ∧ w'.cell? ⟨w.heap.size, 1, none⟩ = some (.int .i64 b) ∧ w'.cell? ⟨w.heap.size + 1, 0, none⟩ = some (.int .i64 n) ∧ w'.cell? ⟨w.heap.size + 1, 1, none⟩ = some (.int .i64 d) from ⟨(HBA.out.keep hw).cell 0, (HBA.out.keep hw).cell 1, (HBB.out.keep hw).cell 0, (HBB.out.keep hw).cell 1⟩)
  go_region_held3 (fun w' => w'.cell? ⟨w.heap.size, 0, none⟩ = some (.int .i64 a) ∧ w'.cell? ⟨w.heap.size, 1, none⟩ = some (.int .i64 b) ∧ w'.cell? ⟨w.heap.size + 1, 0, none⟩ = some (.int .i64 n) ∧ w'.cell? ⟨w.heap.size + 1, 1, none⟩ = some (.int .i64 d))
    ((refine K.out _ ?_; go_grown; done))
    (first | (go_at_call 49; refine (chkR_any _ _ _).mono ?_; rintro e w9 ⟨rfl, h9⟩; have hB9 : Below u.heap.size u w9 := below_via (by go_grown) h9; clear h9; have hz9 := hB9.size; obtain ⟨k0, k1, k2, k3⟩ := K.out w9 hB9) | (go_at_call 20; refine (chkF_any _ _ _ (by assumption) (by assumption) (by assumption) (by assumption)).mono ?_; rintro e w9 ⟨rfl, h9⟩; have hB9 : Below u.heap.size u w9 := below_via (by go_grown) h9; clear h9; have hz9 := hB9.size; obtain ⟨k0, k1, k2, k3⟩ := K.out w9 hB9) | (go_at_call 67; refine (ferr2_any w9.heap.size (chkR a b) (chkF n d) (w9.alloc (.cells #[.int .i64 (chkR a b), .int .i64 (chkF n d)] 25)) (World.cell?_alloc_at _ _ _ 0 rfl) (World.cell?_alloc_at _ _ _ 1 rfl)).mono ?_; rintro e w8 ⟨rfl, rfl⟩))
  all_goals
    have hBv : Below u.heap.size u (w9.alloc (.cells #[.int .i64 (chkR a b), .int .i64 (chkF n d)] 25)) := by go_grown
    have BV : Below w.heap.size w (w9.alloc (.cells #[.int .i64 (chkR a b), .int .i64 (chkF n d)] 25)) := below_via BW hBv
    generalize w9.alloc (.cells #[.int .i64 (chkR a b), .int .i64 (chkF n d)] 25) = v at *
    clear hB9 hz9 k0 k1 k2 k3
    have zv := hBv.size
    obtain ⟨k0, k1, k2, k3⟩ := K.out v hBv
    have HRV := Lib.hid (HBR.out.keep hBv)
    have r0 := HRV.out.cell 0
    have f0 := HRV.out.free 0
    have r1 := HRV.out.cell 1
    have f1 := HRV.out.free 1
    simp at r0 r1
    go_wp2_with fail
    refine bodyPost_ret (v := .tuple #[.agg #[.int .i64 (scL a b n d), .int .i64 (scH a b n d)], .int .i64 (scE a b n d)])
      (by simp [results, Tryd.results54, go_sem, r0, r1, F1.out, F2.out, F3.out]) rfl ⟨rfl, ?_⟩
    go_grown
set_option maxRecDepth 100000 in
set_option maxHeartbeats 1600000 in
theorem sc_neg (a b n d : Int) (w : World) (h : err2 (chkR a b) (chkF n d) = 0) (hneg : n < 0) :
    Calls Tryd.prog 54 #[.agg #[.int .i64 a, .int .i64 b], .agg #[.int .i64 n, .int .i64 d]] w fun e w' =>
      e = .returned (.tuple #[.agg #[.int .i64 (scL a b n d), .int .i64 (scH a b n d)], .int .i64 (scE a b n d)]) ∧ Below w.heap.size w w' := by
  have h0 : (err2 (chkR a b) (chkF n d) != 0) = false := by simpa using h
  obtain ⟨⟨a0, a1⟩, ⟨b0, b1⟩, ab⟩ := chkR_bd (err2_zero h).1
  obtain ⟨d0, d1, n0, n1, _⟩ := chkF_ok (err2_zero h).2
  have F1 := Lib.hid (show scL a b n d = if (pdB b n d && pdB a (-n) d) then pdF b n d else 0 by unfold scL scB scl; rw [if_neg (by omega), if_pos hneg, if_pos hneg])
  have F2 := Lib.hid (show scH a b n d = if (pdB b n d && pdB a (-n) d) then -pdF a (-n) d else 0 by unfold scH scB sch; rw [if_neg (by omega), if_pos hneg, if_pos hneg])
  have F3 := Lib.hid (show scE a b n d = if (pdB b n d && pdB a (-n) d) then 0 else 8 by unfold scE scB; rw [if_neg (by omega), if_pos hneg])
  have hn0 : -9223372036854775808 ≤ n := by omega
  have hn1 : n ≤ 9223372036854775807 := by omega
  have hd0 : -9223372036854775808 ≤ d := by omega
  have hd1 : d ≤ 9223372036854775807 := by omega
  have P1 := Lib.hid (fun u : World => pd_any b n d u b0 b1 n0 n1 d0 d1)
  have P2 := Lib.hid (fun u : World => pd_any a (-n) d u a0 a1 (by omega) (by omega) d0 d1)
  clear h
  go_enter Tryd.func54, Tryd.ntmps54
  go_wp2_with fail
  have BA := (Box.new w #[.int .i64 a, .int .i64 b] 37 rfl).alloc (.cells #[.int .i64 n, .int .i64 d] 23) |>.alloc (.cells #[.int .i64 0, .int .i64 0] 37)
  have BB := (Box.new (w.alloc (.cells #[.int .i64 a, .int .i64 b] 37)) #[.int .i64 n, .int .i64 d] 23 (n := w.heap.size + 1) (by simp)).alloc (.cells #[.int .i64 0, .int .i64 0] 37)
  have BR := Box.new ((w.alloc (.cells #[.int .i64 a, .int .i64 b] 37)).alloc (.cells #[.int .i64 n, .int .i64 d] 23)) #[.int .i64 0, .int .i64 0] 37 (n := w.heap.size + 1 + 1) (by simp)
  have BW : Below w.heap.size w (((w.alloc (.cells #[.int .i64 a, .int .i64 b] 37)).alloc (.cells #[.int .i64 n, .int .i64 d] 23)).alloc (.cells #[.int .i64 0, .int .i64 0] 37)) := by go_grown
  generalize (((w.alloc (.cells #[.int .i64 a, .int .i64 b] 37)).alloc (.cells #[.int .i64 n, .int .i64 d] 23)).alloc (.cells #[.int .i64 0, .int .i64 0] 37)) = u at *
  have la := BA.lt
  have lb := BB.lt
  have HBA := Lib.hid BA
  have HBB := Lib.hid BB
  have lr := BR.lt
  have HBR := Lib.hid BR
  clear BR
  clear BA BB
  have K := Lib.hid (fun (w' : World) (hw : Below u.heap.size u w') => show w'.cell? ⟨w.heap.size, 0, none⟩ = some (.int .i64 a) ∧ w'.cell? ⟨w.heap.size, 1, none⟩ = some (.int .i64 b) ∧ w'.cell? ⟨w.heap.size + 1, 0, none⟩ = some (.int .i64 n) ∧ w'.cell? ⟨w.heap.size + 1, 1, none⟩ = some (.int .i64 d) from ⟨(HBA.out.keep hw).cell 0, (HBA.out.keep hw).cell 1, (HBB.out.keep hw).cell 0, (HBB.out.keep hw).cell 1⟩)
  go_region_held3 (fun w' => w'.cell? ⟨w.heap.size, 0, none⟩ = some (.int .i64 a) ∧ w'.cell? ⟨w.heap.size, 1, none⟩ = some (.int .i64 b) ∧ w'.cell? ⟨w.heap.size + 1, 0, none⟩ = some (.int .i64 n) ∧ w'.cell? ⟨w.heap.size + 1, 1, none⟩ = some (.int .i64 d))
    ((refine K.out _ ?_; go_grown; done))
    (first | (go_at_call 49; refine (chkR_any _ _ _).mono ?_; rintro e w9 ⟨rfl, h9⟩; have hB9 : Below u.heap.size u w9 := below_via (by go_grown) h9; clear h9; have hz9 := hB9.size; obtain ⟨k0, k1, k2, k3⟩ := K.out w9 hB9) | (go_at_call 20; refine (chkF_any _ _ _ (by assumption) (by assumption) (by assumption) (by assumption)).mono ?_; rintro e w9 ⟨rfl, h9⟩; have hB9 : Below u.heap.size u w9 := below_via (by go_grown) h9; clear h9; have hz9 := hB9.size; obtain ⟨k0, k1, k2, k3⟩ := K.out w9 hB9) | (go_at_call 67; refine (ferr2_any w9.heap.size (chkR a b) (chkF n d) (w9.alloc (.cells #[.int .i64 (chkR a b), .int .i64 (chkF n d)] 25)) (World.cell?_alloc_at _ _ _ 0 rfl) (World.cell?_alloc_at _ _ _ 1 rfl)).mono ?_; rintro e w8 ⟨rfl, rfl⟩))
  all_goals
    have hBv : Below u.heap.size u (w9.alloc (.cells #[.int .i64 (chkR a b), .int .i64 (chkF n d)] 25)) := by go_grown
    have BV : Below w.heap.size w (w9.alloc (.cells #[.int .i64 (chkR a b), .int .i64 (chkF n d)] 25)) := below_via BW hBv
    generalize w9.alloc (.cells #[.int .i64 (chkR a b), .int .i64 (chkF n d)] 25) = v at *
    clear hB9 hz9 k0 k1 k2 k3
    have zv := hBv.size
    obtain ⟨k0, k1, k2, k3⟩ := K.out v hBv
    have HRV := Lib.hid (HBR.out.keep hBv)
    have r0 := HRV.out.cell 0
    have f0 := HRV.out.free 0
    have r1 := HRV.out.cell 1
    have f1 := HRV.out.free 1
    simp at r0 r1
    have fa0 := (HBA.out.keep hBv).free 0
    have fa1 := (HBA.out.keep hBv).free 1
    go_wp2_with fail
    have HA1 := Lib.hid (((HBA.out.keep hBv).set 0 (.int .i64 b)).set 1 (.int .i64 a)); have HB1 := Lib.hid ((((HBB.out.keep hBv).other ⟨w.heap.size, 0, none⟩ (.int .i64 b) (by first | (simp; done) | (simp; omega))).other ⟨w.heap.size, 1, none⟩ (.int .i64 a) (by first | (simp; done) | (simp; omega)))); have HR1 := Lib.hid (((HRV.out.other ⟨w.heap.size, 0, none⟩ (.int .i64 b) (by first | (simp; done) | (simp; omega))).other ⟨w.heap.size, 1, none⟩ (.int .i64 a) (by first | (simp; done) | (simp; omega))))
    refine (P1.out _).mono ?_
    rintro e w5 ⟨v1, rfl, hv1, h5⟩
    have B5 : Below w.heap.size w w5 := below_via (by go_grown) h5
    have z5 := B5.size
    have HA5 := Lib.hid (HA1.out.keep h5); have HB5 := Lib.hid (HB1.out.keep h5); have HR5 := Lib.hid (HR1.out.keep h5)
    have HV1 := Lib.hid hv1
    clear hv1 h5 r0 r1 f0 f1 k0 k1 k2 k3 fa0 fa1 HA1 HB1 HR1
    have l1 := HA5.out.lt
    have l2 := HB5.out.lt
    have l3 := HR5.out.lt
    obtain ⟨k0, k1, _⟩ := HA5.out.two
    obtain ⟨k2, k3, _⟩ := HB5.out.two
    obtain ⟨r0, r1, f0, f1⟩ := HR5.out.two
    go_wp2_with fail
    refine (P2.out _).mono ?_
    rintro e w6 ⟨v2, rfl, hv2, h6⟩
    have B6 : Below w.heap.size w w6 := below_via (by go_grown) h6
    have z6 := B6.size
    have HR6 := Lib.hid (HR5.out.keep h6)
    have HV2 := Lib.hid hv2
    clear hv2 h6 r0 r1 f0 f1 k0 k1 k2 k3
    have l3 := HR6.out.lt
    obtain ⟨r0, r1, f0, f1⟩ := HR6.out.two
    have G1 := F1.out; have G2 := F2.out; have G3 := F3.out
    cases hp1 : pdB b n d
    · rw [hp1, Bool.false_and] at G1 G2 G3
      go_wp2_with fail
      refine bodyPost_ret (v := .tuple #[.agg #[.int .i64 (scL a b n d), .int .i64 (scH a b n d)], .int .i64 (scE a b n d)])
        (by simp [results, Tryd.results54, go_sem, r0, r1, G1, G2, G3]) rfl ⟨rfl, ?_⟩
      go_grown
    · cases hp2 : pdB a (-n) d
      · rw [hp1, hp2, Bool.true_and] at G1 G2 G3
        go_wp2_with fail
        refine bodyPost_ret (v := .tuple #[.agg #[.int .i64 (scL a b n d), .int .i64 (scH a b n d)], .int .i64 (scE a b n d)])
          (by simp [results, Tryd.results54, go_sem, r0, r1, G1, G2, G3]) rfl ⟨rfl, ?_⟩
        go_grown
      · rw [hp1, hp2, Bool.true_and] at G1 G2 G3
        have e1 := HV1.out hp1
        have e2 := HV2.out hp2
        have q1 := pdB_bd hp1
        have q2 := pdB_bd hp2
        rw [← e1] at G1 q1
        rw [← e2] at G2 q2
        clear e1 e2
        obtain ⟨q10, q11⟩ := q1
        obtain ⟨q20, q21⟩ := q2
        go_wp2_with fail
        refine bodyPost_ret (v := .tuple #[.agg #[.int .i64 (scL a b n d), .int .i64 (scH a b n d)], .int .i64 (scE a b n d)])
          (by simp [results, Tryd.results54, go_sem, r0, r1, G1, G2, G3]) rfl ⟨rfl, ?_⟩
        go_grown
set_option maxRecDepth 100000 in
set_option maxHeartbeats 1600000 in
theorem sc_pos (a b n d : Int) (w : World) (h : err2 (chkR a b) (chkF n d) = 0) (hneg : ¬ n < 0) :
    Calls Tryd.prog 54 #[.agg #[.int .i64 a, .int .i64 b], .agg #[.int .i64 n, .int .i64 d]] w fun e w' =>
      e = .returned (.tuple #[.agg #[.int .i64 (scL a b n d), .int .i64 (scH a b n d)], .int .i64 (scE a b n d)]) ∧ Below w.heap.size w w' := by
  have h0 : (err2 (chkR a b) (chkF n d) != 0) = false := by simpa using h
  obtain ⟨⟨a0, a1⟩, ⟨b0, b1⟩, ab⟩ := chkR_bd (err2_zero h).1
  obtain ⟨d0, d1, n0, n1, _⟩ := chkF_ok (err2_zero h).2
  have F1 := Lib.hid (show scL a b n d = if (pdB a n d && pdB b (-n) d) then pdF a n d else 0 by unfold scL scB scl; rw [if_neg (by omega), if_neg hneg, if_neg hneg])
  have F2 := Lib.hid (show scH a b n d = if (pdB a n d && pdB b (-n) d) then -pdF b (-n) d else 0 by unfold scH scB sch; rw [if_neg (by omega), if_neg hneg, if_neg hneg])
  have F3 := Lib.hid (show scE a b n d = if (pdB a n d && pdB b (-n) d) then 0 else 8 by unfold scE scB; rw [if_neg (by omega), if_neg hneg])
  have hn0 : -9223372036854775808 ≤ n := by omega
  have hn1 : n ≤ 9223372036854775807 := by omega
  have hd0 : -9223372036854775808 ≤ d := by omega
  have hd1 : d ≤ 9223372036854775807 := by omega
  have P1 := Lib.hid (fun u : World => pd_any a n d u a0 a1 n0 n1 d0 d1)
  have P2 := Lib.hid (fun u : World => pd_any b (-n) d u b0 b1 (by omega) (by omega) d0 d1)
  clear h
  go_enter Tryd.func54, Tryd.ntmps54
  go_wp2_with fail
  have BA := (Box.new w #[.int .i64 a, .int .i64 b] 37 rfl).alloc (.cells #[.int .i64 n, .int .i64 d] 23) |>.alloc (.cells #[.int .i64 0, .int .i64 0] 37)
  have BB := (Box.new (w.alloc (.cells #[.int .i64 a, .int .i64 b] 37)) #[.int .i64 n, .int .i64 d] 23 (n := w.heap.size + 1) (by simp)).alloc (.cells #[.int .i64 0, .int .i64 0] 37)
  have BR := Box.new ((w.alloc (.cells #[.int .i64 a, .int .i64 b] 37)).alloc (.cells #[.int .i64 n, .int .i64 d] 23)) #[.int .i64 0, .int .i64 0] 37 (n := w.heap.size + 1 + 1) (by simp)
  have BW : Below w.heap.size w (((w.alloc (.cells #[.int .i64 a, .int .i64 b] 37)).alloc (.cells #[.int .i64 n, .int .i64 d] 23)).alloc (.cells #[.int .i64 0, .int .i64 0] 37)) := by go_grown
  generalize (((w.alloc (.cells #[.int .i64 a, .int .i64 b] 37)).alloc (.cells #[.int .i64 n, .int .i64 d] 23)).alloc (.cells #[.int .i64 0, .int .i64 0] 37)) = u at *
  have la := BA.lt
  have lb := BB.lt
  have HBA := Lib.hid BA
  have HBB := Lib.hid BB
  have lr := BR.lt
  have HBR := Lib.hid BR
  clear BR
  clear BA BB
  have K := Lib.hid (fun (w' : World) (hw : Below u.heap.size u w') => show w'.cell? ⟨w.heap.size, 0, none⟩ = some (.int .i64 a) ∧ w'.cell? ⟨w.heap.size, 1, none⟩ = some (.int .i64 b) ∧ w'.cell? ⟨w.heap.size + 1, 0, none⟩ = some (.int .i64 n) ∧ w'.cell? ⟨w.heap.size + 1, 1, none⟩ = some (.int .i64 d) from ⟨(HBA.out.keep hw).cell 0, (HBA.out.keep hw).cell 1, (HBB.out.keep hw).cell 0, (HBB.out.keep hw).cell 1⟩)
  go_region_held3 (fun w' => w'.cell? ⟨w.heap.size, 0, none⟩ = some (.int .i64 a) ∧ w'.cell? ⟨w.heap.size, 1, none⟩ = some (.int .i64 b) ∧ w'.cell? ⟨w.heap.size + 1, 0, none⟩ = some (.int .i64 n) ∧ w'.cell? ⟨w.heap.size + 1, 1, none⟩ = some (.int .i64 d))
    ((refine K.out _ ?_; go_grown; done))
    (first | (go_at_call 49; refine (chkR_any _ _ _).mono ?_; rintro e w9 ⟨rfl, h9⟩; have hB9 : Below u.heap.size u w9 := below_via (by go_grown) h9; clear h9; have hz9 := hB9.size; obtain ⟨k0, k1, k2, k3⟩ := K.out w9 hB9) | (go_at_call 20; refine (chkF_any _ _ _ (by assumption) (by assumption) (by assumption) (by assumption)).mono ?_; rintro e w9 ⟨rfl, h9⟩; have hB9 : Below u.heap.size u w9 := below_via (by go_grown) h9; clear h9; have hz9 := hB9.size; obtain ⟨k0, k1, k2, k3⟩ := K.out w9 hB9) | (go_at_call 67; refine (ferr2_any w9.heap.size (chkR a b) (chkF n d) (w9.alloc (.cells #[.int .i64 (chkR a b), .int .i64 (chkF n d)] 25)) (World.cell?_alloc_at _ _ _ 0 rfl) (World.cell?_alloc_at _ _ _ 1 rfl)).mono ?_; rintro e w8 ⟨rfl, rfl⟩))
  all_goals
    have hBv : Below u.heap.size u (w9.alloc (.cells #[.int .i64 (chkR a b), .int .i64 (chkF n d)] 25)) := by go_grown
    have BV : Below w.heap.size w (w9.alloc (.cells #[.int .i64 (chkR a b), .int .i64 (chkF n d)] 25)) := below_via BW hBv
    generalize w9.alloc (.cells #[.int .i64 (chkR a b), .int .i64 (chkF n d)] 25) = v at *
    clear hB9 hz9 k0 k1 k2 k3
    have zv := hBv.size
    obtain ⟨k0, k1, k2, k3⟩ := K.out v hBv
    have HRV := Lib.hid (HBR.out.keep hBv)
    have r0 := HRV.out.cell 0
    have f0 := HRV.out.free 0
    have r1 := HRV.out.cell 1
    have f1 := HRV.out.free 1
    simp at r0 r1
    have fa0 := (HBA.out.keep hBv).free 0
    have fa1 := (HBA.out.keep hBv).free 1
    go_wp2_with fail
    have HA1 := Lib.hid (HBA.out.keep hBv); have HB1 := Lib.hid ((HBB.out.keep hBv)); have HR1 := Lib.hid (HRV.out)
    refine (P1.out _).mono ?_
    rintro e w5 ⟨v1, rfl, hv1, h5⟩
    have B5 : Below w.heap.size w w5 := below_via (by go_grown) h5
    have z5 := B5.size
    have HA5 := Lib.hid (HA1.out.keep h5); have HB5 := Lib.hid (HB1.out.keep h5); have HR5 := Lib.hid (HR1.out.keep h5)
    have HV1 := Lib.hid hv1
    clear hv1 h5 r0 r1 f0 f1 k0 k1 k2 k3 fa0 fa1 HA1 HB1 HR1
    have l1 := HA5.out.lt
    have l2 := HB5.out.lt
    have l3 := HR5.out.lt
    obtain ⟨k0, k1, _⟩ := HA5.out.two
    obtain ⟨k2, k3, _⟩ := HB5.out.two
    obtain ⟨r0, r1, f0, f1⟩ := HR5.out.two
    go_wp2_with fail
    refine (P2.out _).mono ?_
    rintro e w6 ⟨v2, rfl, hv2, h6⟩
    have B6 : Below w.heap.size w w6 := below_via (by go_grown) h6
    have z6 := B6.size
    have HR6 := Lib.hid (HR5.out.keep h6)
    have HV2 := Lib.hid hv2
    clear hv2 h6 r0 r1 f0 f1 k0 k1 k2 k3
    have l3 := HR6.out.lt
    obtain ⟨r0, r1, f0, f1⟩ := HR6.out.two
    have G1 := F1.out; have G2 := F2.out; have G3 := F3.out
    cases hp1 : pdB a n d
    · rw [hp1, Bool.false_and] at G1 G2 G3
      go_wp2_with fail
      refine bodyPost_ret (v := .tuple #[.agg #[.int .i64 (scL a b n d), .int .i64 (scH a b n d)], .int .i64 (scE a b n d)])
        (by simp [results, Tryd.results54, go_sem, r0, r1, G1, G2, G3]) rfl ⟨rfl, ?_⟩
      go_grown
    · cases hp2 : pdB b (-n) d
      · rw [hp1, hp2, Bool.true_and] at G1 G2 G3
        go_wp2_with fail
        refine bodyPost_ret (v := .tuple #[.agg #[.int .i64 (scL a b n d), .int .i64 (scH a b n d)], .int .i64 (scE a b n d)])
          (by simp [results, Tryd.results54, go_sem, r0, r1, G1, G2, G3]) rfl ⟨rfl, ?_⟩
        go_grown
      · rw [hp1, hp2, Bool.true_and] at G1 G2 G3
        have e1 := HV1.out hp1
        have e2 := HV2.out hp2
        have q1 := pdB_bd hp1
        have q2 := pdB_bd hp2
        rw [← e1] at G1 q1
        rw [← e2] at G2 q2
        clear e1 e2
        obtain ⟨q10, q11⟩ := q1
        obtain ⟨q20, q21⟩ := q2
        go_wp2_with fail
        refine bodyPost_ret (v := .tuple #[.agg #[.int .i64 (scL a b n d), .int .i64 (scH a b n d)], .int .i64 (scE a b n d)])
          (by simp [results, Tryd.results54, go_sem, r0, r1, G1, G2, G3]) rfl ⟨rfl, ?_⟩
        go_grown
theorem scaled_any (a b n d : Int) (w : World) (hn0 : -9223372036854775808 ≤ n) (hn1 : n ≤ 9223372036854775807) (hd0 : -9223372036854775808 ≤ d) (hd1 : d ≤ 9223372036854775807) :
    Calls Tryd.prog 54 #[.agg #[.int .i64 a, .int .i64 b], .agg #[.int .i64 n, .int .i64 d]] w fun e w' =>
      e = .returned (.tuple #[.agg #[.int .i64 (scL a b n d), .int .i64 (scH a b n d)], .int .i64 (scE a b n d)]) ∧ Below w.heap.size w w' := by
  by_cases h : err2 (chkR a b) (chkF n d) = 0
  · by_cases hneg : n < 0
    · exact sc_neg a b n d w h hneg
    · exact sc_pos a b n d w h hneg
  · exact sc_bad a b n d w hn0 hn1 hd0 hd1 h
end Go.Proofs.YtbagmfnedgjndaaDoor
