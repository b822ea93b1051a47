/-
  The walks of Divide and Compare of fractions.
-/
import Derived.Test.YtcojcfjagneecaaDoorFr3
import Derived.Test.YtcojcfjagneecaaDoorPow2
namespace Go.Proofs.YtcojcfjagneecaaDoor
open Go.RowKit

def dvX (a c d : Int) : Int := if c < 0 then (-a) * d else a * d
def dvY (b c : Int) : Int := if c < 0 then b * (-c) else b * c
def dvE (a b c d : Int) : Int := if err2 (chkF a b) (chkF c d) ≠ 0 then err2 (chkF a b) (chkF c d) else if c = 0 then 11 else fwE (dvX a c d) (dvY b c)
def dvN (a b c d : Int) : Int := if err2 (chkF a b) (chkF c d) ≠ 0 then 0 else if c = 0 then 0 else fwN (dvX a c d) (dvY b c)
def dvD (a b c d : Int) : Int := if err2 (chkF a b) (chkF c d) ≠ 0 then 0 else if c = 0 then 0 else fwD (dvX a c d) (dvY b c)
def coV (a b c d : Int) : Int := if err2 (chkF a b) (chkF c d) ≠ 0 then 0 else cmpI (a * d) (c * b)
set_option maxRecDepth 100000 in
set_option maxHeartbeats 1600000 in
theorem dv_bad (a b c d : Int) (w : World) (a0 : -9223372036854775808 ≤ a) (a1 : a ≤ 9223372036854775807) (b0 : -9223372036854775808 ≤ b) (b1 : b ≤ 9223372036854775807) (c0 : -9223372036854775808 ≤ c) (c1 : c ≤ 9223372036854775807) (d0 : -9223372036854775808 ≤ d) (d1 : d ≤ 9223372036854775807) (h : err2 (chkF a b) (chkF c d) ≠ 0) :
    Calls Tryd.prog 18 #[.agg #[.int .i64 a, .int .i64 b], .agg #[.int .i64 c, .int .i64 d]] w fun e w' =>
      e = .returned (.tuple #[.agg #[.int .i64 (dvN a b c d), .int .i64 (dvD a b c d)], .int .i64 (dvE a b c d)]) ∧ Below w.heap.size w w' := by
  have h0 : (err2 (chkF a b) (chkF c d) != 0) = true := by simpa using h
  have F1 := Lib.hid (show dvN a b c d = 0 by unfold dvN; rw [if_pos h])
  have F2 := Lib.hid (show dvD a b c d = 0 by unfold dvD; rw [if_pos h])
  have F3 := Lib.hid (show dvE a b c d = err2 (chkF a b) (chkF c d) by unfold dvE; rw [if_pos h])
  have CC := Lib.hid (fun (x y : Int) (u : World) (hx : (x = a ∧ y = b) ∨ (x = c ∧ y = d)) => chkF_any x y u (by omega) (by omega) (by omega) (by omega))
  clear h
  go_enter Tryd.func18, Tryd.ntmps18
  go_wp2_with fail
  have BA := (Box.new w #[.int .i64 a, .int .i64 b] 23 rfl).alloc (.cells #[.int .i64 c, .int .i64 d] 23) |>.alloc (.cells #[.int .i64 0, .int .i64 0] 23)
  have BB := (Box.new (w.alloc (.cells #[.int .i64 a, .int .i64 b] 23)) #[.int .i64 c, .int .i64 d] 23 (n := w.heap.size + 1) (by simp)).alloc (.cells #[.int .i64 0, .int .i64 0] 23)
  have BR := Box.new ((w.alloc (.cells #[.int .i64 a, .int .i64 b] 23)).alloc (.cells #[.int .i64 c, .int .i64 d] 23)) #[.int .i64 0, .int .i64 0] 23 (n := w.heap.size + 1 + 1) (by simp)
  have BW : Below w.heap.size w (((w.alloc (.cells #[.int .i64 a, .int .i64 b] 23)).alloc (.cells #[.int .i64 c, .int .i64 d] 23)).alloc (.cells #[.int .i64 0, .int .i64 0] 23)) := by go_grown
  generalize (((w.alloc (.cells #[.int .i64 a, .int .i64 b] 23)).alloc (.cells #[.int .i64 c, .int .i64 d] 23)).alloc (.cells #[.int .i64 0, .int .i64 0] 23)) = u at *
  have la := BA.lt
  have lb := BB.lt
  have HBA := Lib.hid BA
  have HBB := Lib.hid BB
  have lr := BR.lt
  have HBR := Lib.hid BR
  clear BR
  clear BA BB
  have K := Lib.hid (fun (w' : World) (hw : Below u.heap.size u w') => show w'.cell? ⟨w.heap.size, 0, none⟩ = some (.int .i64 a) ∧ w'.cell? ⟨w.heap.size, 1, none⟩ = some (.int .i64 b) ∧ w'.cell? ⟨w.heap.size + 1, 0, none⟩ = some (.int .i64 c) ∧ w'.cell? ⟨w.heap.size + 1, 1, none⟩ = some (.int .i64 d) from ⟨(HBA.out.keep hw).cell 0, (HBA.out.keep hw).cell 1, (HBB.out.keep hw).cell 0, (HBB.out.keep hw).cell 1⟩)
  go_region_held3 (fun w' => w'.cell? ⟨w.heap.size, 0, none⟩ = some (.int .i64 a) ∧ w'.cell? ⟨w.heap.size, 1, none⟩ = some (.int .i64 b) ∧ w'.cell? ⟨w.heap.size + 1, 0, none⟩ = some (.int .i64 c) ∧ w'.cell? ⟨w.heap.size + 1, 1, none⟩ = some (.int .i64 d))
    ((refine K.out _ ?_; go_grown; done))
    (first | (go_at_call 20; refine (CC.out _ _ _ (by first | exact .inl ⟨rfl, rfl⟩ | exact .inr ⟨rfl, rfl⟩)).mono ?_; rintro e w9 ⟨rfl, h9⟩; have hB9 : Below u.heap.size u w9 := below_via (by go_grown) h9; clear h9; have hz9 := hB9.size; obtain ⟨k0, k1, k2, k3⟩ := K.out w9 hB9) | (go_at_call 67; refine (ferr2_any w9.heap.size (chkF a b) (chkF c d) (w9.alloc (.cells #[.int .i64 (chkF a b), .int .i64 (chkF c d)] 25)) (World.cell?_alloc_at _ _ _ 0 rfl) (World.cell?_alloc_at _ _ _ 1 rfl)).mono ?_; rintro e w8 ⟨rfl, rfl⟩))
  all_goals
    have hBv : Below u.heap.size u (w9.alloc (.cells #[.int .i64 (chkF a b), .int .i64 (chkF c d)] 25)) := by go_grown
    have BV : Below w.heap.size w (w9.alloc (.cells #[.int .i64 (chkF a b), .int .i64 (chkF c d)] 25)) := below_via BW hBv
    generalize w9.alloc (.cells #[.int .i64 (chkF a b), .int .i64 (chkF c d)] 25) = v at *
    clear hB9 hz9 k0 k1 k2 k3
    have zv := hBv.size
    obtain ⟨k0, k1, k2, k3⟩ := K.out v hBv
    have HRV := Lib.hid (HBR.out.keep hBv)
    have r0 := HRV.out.cell 0
    have f0 := HRV.out.free 0
    have r1 := HRV.out.cell 1
    have f1 := HRV.out.free 1
    simp at r0 r1
    go_wp2_with fail
    refine bodyPost_ret (v := .tuple #[.agg #[.int .i64 (dvN a b c d), .int .i64 (dvD a b c d)], .int .i64 (dvE a b c d)])
      (by simp [results, Tryd.results18, go_sem, r0, r1, F1.out, F2.out, F3.out]) rfl ⟨rfl, ?_⟩
    go_grown
set_option maxRecDepth 100000 in
set_option maxHeartbeats 1600000 in
theorem dv_zero (a b c d : Int) (w : World) (h : err2 (chkF a b) (chkF c d) = 0) (hz : c = 0) :
    Calls Tryd.prog 18 #[.agg #[.int .i64 a, .int .i64 b], .agg #[.int .i64 c, .int .i64 d]] w fun e w' =>
      e = .returned (.tuple #[.agg #[.int .i64 (dvN a b c d), .int .i64 (dvD a b c d)], .int .i64 (dvE a b c d)]) ∧ Below w.heap.size w w' := by
  have h0 : (err2 (chkF a b) (chkF c d) != 0) = false := by simpa using h
  have F1 := Lib.hid (show dvN a b c d = 0 by unfold dvN; rw [if_neg (by omega), if_pos hz])
  have F2 := Lib.hid (show dvD a b c d = 0 by unfold dvD; rw [if_neg (by omega), if_pos hz])
  have F3 := Lib.hid (show dvE a b c d = 11 by unfold dvE; rw [if_neg (by omega), if_pos hz])
  obtain ⟨b0, b1, a0, a1, _⟩ := chkF_ok (err2_zero h).1
  obtain ⟨d0, d1, c0, c1, _⟩ := chkF_ok (err2_zero h).2
  have CC := Lib.hid (fun (x y : Int) (u : World) (hx : (x = a ∧ y = b) ∨ (x = c ∧ y = d)) => chkF_any x y u (by omega) (by omega) (by omega) (by omega))
  have hz0 : (c == 0) = true := by simpa using hz
  clear h hz
  go_enter Tryd.func18, Tryd.ntmps18
  go_wp2_with fail
  have BA := (Box.new w #[.int .i64 a, .int .i64 b] 23 rfl).alloc (.cells #[.int .i64 c, .int .i64 d] 23) |>.alloc (.cells #[.int .i64 0, .int .i64 0] 23)
  have BB := (Box.new (w.alloc (.cells #[.int .i64 a, .int .i64 b] 23)) #[.int .i64 c, .int .i64 d] 23 (n := w.heap.size + 1) (by simp)).alloc (.cells #[.int .i64 0, .int .i64 0] 23)
  have BR := Box.new ((w.alloc (.cells #[.int .i64 a, .int .i64 b] 23)).alloc (.cells #[.int .i64 c, .int .i64 d] 23)) #[.int .i64 0, .int .i64 0] 23 (n := w.heap.size + 1 + 1) (by simp)
  have BW : Below w.heap.size w (((w.alloc (.cells #[.int .i64 a, .int .i64 b] 23)).alloc (.cells #[.int .i64 c, .int .i64 d] 23)).alloc (.cells #[.int .i64 0, .int .i64 0] 23)) := by go_grown
  generalize (((w.alloc (.cells #[.int .i64 a, .int .i64 b] 23)).alloc (.cells #[.int .i64 c, .int .i64 d] 23)).alloc (.cells #[.int .i64 0, .int .i64 0] 23)) = u at *
  have la := BA.lt
  have lb := BB.lt
  have HBA := Lib.hid BA
  have HBB := Lib.hid BB
  have lr := BR.lt
  have HBR := Lib.hid BR
  clear BR
  clear BA BB
  have K := Lib.hid (fun (w' : World) (hw : Below u.heap.size u w') => show w'.cell? ⟨w.heap.size, 0, none⟩ = some (.int .i64 a) ∧ w'.cell? ⟨w.heap.size, 1, none⟩ = some (.int .i64 b) ∧ w'.cell? ⟨w.heap.size + 1, 0, none⟩ = some (.int .i64 c) ∧ w'.cell? ⟨w.heap.size + 1, 1, none⟩ = some (.int .i64 d) from ⟨(HBA.out.keep hw).cell 0, (HBA.out.keep hw).cell 1, (HBB.out.keep hw).cell 0, (HBB.out.keep hw).cell 1⟩)
  go_region_held3 (fun w' => w'.cell? ⟨w.heap.size, 0, none⟩ = some (.int .i64 a) ∧ w'.cell? ⟨w.heap.size, 1, none⟩ = some (.int .i64 b) ∧ w'.cell? ⟨w.heap.size + 1, 0, none⟩ = some (.int .i64 c) ∧ w'.cell? ⟨w.heap.size + 1, 1, none⟩ = some (.int .i64 d))
    ((refine K.out _ ?_; go_grown; done))
    (first | (go_at_call 20; refine (CC.out _ _ _ (by first | exact .inl ⟨rfl, rfl⟩ | exact .inr ⟨rfl, rfl⟩)).mono ?_; rintro e w9 ⟨rfl, h9⟩; have hB9 : Below u.heap.size u w9 := below_via (by go_grown) h9; clear h9; have hz9 := hB9.size; obtain ⟨k0, k1, k2, k3⟩ := K.out w9 hB9) | (go_at_call 67; refine (ferr2_any w9.heap.size (chkF a b) (chkF c d) (w9.alloc (.cells #[.int .i64 (chkF a b), .int .i64 (chkF c d)] 25)) (World.cell?_alloc_at _ _ _ 0 rfl) (World.cell?_alloc_at _ _ _ 1 rfl)).mono ?_; rintro e w8 ⟨rfl, rfl⟩))
  all_goals
    have hBv : Below u.heap.size u (w9.alloc (.cells #[.int .i64 (chkF a b), .int .i64 (chkF c d)] 25)) := by go_grown
    have BV : Below w.heap.size w (w9.alloc (.cells #[.int .i64 (chkF a b), .int .i64 (chkF c d)] 25)) := below_via BW hBv
    generalize w9.alloc (.cells #[.int .i64 (chkF a b), .int .i64 (chkF c d)] 25) = v at *
    clear hB9 hz9 k0 k1 k2 k3
    have zv := hBv.size
    obtain ⟨k0, k1, k2, k3⟩ := K.out v hBv
    have HRV := Lib.hid (HBR.out.keep hBv)
    have r0 := HRV.out.cell 0
    have f0 := HRV.out.free 0
    have r1 := HRV.out.cell 1
    have f1 := HRV.out.free 1
    simp at r0 r1
    go_wp2_with fail
    refine bodyPost_ret (v := .tuple #[.agg #[.int .i64 (dvN a b c d), .int .i64 (dvD a b c d)], .int .i64 (dvE a b c d)])
      (by simp [results, Tryd.results18, go_sem, r0, r1, F1.out, F2.out, F3.out]) rfl ⟨rfl, ?_⟩
    go_grown
set_option maxRecDepth 100000 in
set_option maxHeartbeats 1600000 in
theorem dv_pos (a b c d : Int) (w : World) (h : err2 (chkF a b) (chkF c d) = 0) (hz : 0 < c) :
    Calls Tryd.prog 18 #[.agg #[.int .i64 a, .int .i64 b], .agg #[.int .i64 c, .int .i64 d]] w fun e w' =>
      e = .returned (.tuple #[.agg #[.int .i64 (dvN a b c d), .int .i64 (dvD a b c d)], .int .i64 (dvE a b c d)]) ∧ Below w.heap.size w w' := by
  have h0 : (err2 (chkF a b) (chkF c d) != 0) = false := by simpa using h
  have X1 : dvX a c d = a * d := by unfold dvX; rw [if_neg (by omega)]
  have X2 : dvY b c = b * c := by unfold dvY; rw [if_neg (by omega)]
  have F1 := Lib.hid (show dvN a b c d = fwN (a * d) (b * c) by unfold dvN; rw [if_neg (by omega), if_neg (by omega), X1, X2])
  have F2 := Lib.hid (show dvD a b c d = fwD (a * d) (b * c) by unfold dvD; rw [if_neg (by omega), if_neg (by omega), X1, X2])
  have F3 := Lib.hid (show dvE a b c d = fwE (a * d) (b * c) by unfold dvE; rw [if_neg (by omega), if_neg (by omega), X1, X2])
  obtain ⟨b0, b1, a0, a1, _⟩ := chkF_ok (err2_zero h).1
  obtain ⟨d0, d1, c0, c1, _⟩ := chkF_ok (err2_zero h).2
  have CC := Lib.hid (fun (x y : Int) (u : World) (hx : (x = a ∧ y = b) ∨ (x = c ∧ y = d)) => chkF_any x y u (by omega) (by omega) (by omega) (by omega))
  obtain ⟨m00, m01⟩ := mulM_bd (n := a) (t := d) (by omega) (by omega) (by omega) d1
  obtain ⟨m10, m11⟩ := mulP_bd (n := b) (t := c) b0 b1 (by omega) (by omega)
  have RW := Lib.hid (fun u : World => redW_any (a * d) (b * c) u (by omega) (by omega) (by omega) (by omega))
  have hz0 : (c == 0) = false := by simp; omega
  clear h X1 X2
  go_enter Tryd.func18, Tryd.ntmps18
  go_wp2_with fail
  have BA := (Box.new w #[.int .i64 a, .int .i64 b] 23 rfl).alloc (.cells #[.int .i64 c, .int .i64 d] 23) |>.alloc (.cells #[.int .i64 0, .int .i64 0] 23)
  have BB := (Box.new (w.alloc (.cells #[.int .i64 a, .int .i64 b] 23)) #[.int .i64 c, .int .i64 d] 23 (n := w.heap.size + 1) (by simp)).alloc (.cells #[.int .i64 0, .int .i64 0] 23)
  have BR := Box.new ((w.alloc (.cells #[.int .i64 a, .int .i64 b] 23)).alloc (.cells #[.int .i64 c, .int .i64 d] 23)) #[.int .i64 0, .int .i64 0] 23 (n := w.heap.size + 1 + 1) (by simp)
  have BW : Below w.heap.size w (((w.alloc (.cells #[.int .i64 a, .int .i64 b] 23)).alloc (.cells #[.int .i64 c, .int .i64 d] 23)).alloc (.cells #[.int .i64 0, .int .i64 0] 23)) := by go_grown
  generalize (((w.alloc (.cells #[.int .i64 a, .int .i64 b] 23)).alloc (.cells #[.int .i64 c, .int .i64 d] 23)).alloc (.cells #[.int .i64 0, .int .i64 0] 23)) = u at *
  have la := BA.lt
  have lb := BB.lt
  have HBA := Lib.hid BA
  have HBB := Lib.hid BB
  have lr := BR.lt
  have HBR := Lib.hid BR
  clear BR
  clear BA BB
  have K := Lib.hid (fun (w' : World) (hw : Below u.heap.size u w') => show w'.cell? ⟨w.heap.size, 0, none⟩ = some (.int .i64 a) ∧ w'.cell? ⟨w.heap.size, 1, none⟩ = some (.int .i64 b) ∧ w'.cell? ⟨w.heap.size + 1, 0, none⟩ = some (.int .i64 c) ∧ w'.cell? ⟨w.heap.size + 1, 1, none⟩ = some (.int .i64 d) from ⟨(HBA.out.keep hw).cell 0, (HBA.out.keep hw).cell 1, (HBB.out.keep hw).cell 0, (HBB.out.keep hw).cell 1⟩)
  go_region_held3 (fun w' => w'.cell? ⟨w.heap.size, 0, none⟩ = some (.int .i64 a) ∧ w'.cell? ⟨w.heap.size, 1, none⟩ = some (.int .i64 b) ∧ w'.cell? ⟨w.heap.size + 1, 0, none⟩ = some (.int .i64 c) ∧ w'.cell? ⟨w.heap.size + 1, 1, none⟩ = some (.int .i64 d))
    ((refine K.out _ ?_; go_grown; done))
    (first | (go_at_call 20; refine (CC.out _ _ _ (by first | exact .inl ⟨rfl, rfl⟩ | exact .inr ⟨rfl, rfl⟩)).mono ?_; rintro e w9 ⟨rfl, h9⟩; have hB9 : Below u.heap.size u w9 := below_via (by go_grown) h9; clear h9; have hz9 := hB9.size; obtain ⟨k0, k1, k2, k3⟩ := K.out w9 hB9) | (go_at_call 67; refine (ferr2_any w9.heap.size (chkF a b) (chkF c d) (w9.alloc (.cells #[.int .i64 (chkF a b), .int .i64 (chkF c d)] 25)) (World.cell?_alloc_at _ _ _ 0 rfl) (World.cell?_alloc_at _ _ _ 1 rfl)).mono ?_; rintro e w8 ⟨rfl, rfl⟩))
  all_goals
    have hBv : Below u.heap.size u (w9.alloc (.cells #[.int .i64 (chkF a b), .int .i64 (chkF c d)] 25)) := by go_grown
    have BV : Below w.heap.size w (w9.alloc (.cells #[.int .i64 (chkF a b), .int .i64 (chkF c d)] 25)) := below_via BW hBv
    generalize w9.alloc (.cells #[.int .i64 (chkF a b), .int .i64 (chkF c d)] 25) = v at *
    clear hB9 hz9 k0 k1 k2 k3
    have zv := hBv.size
    obtain ⟨k0, k1, k2, k3⟩ := K.out v hBv
    have HRV := Lib.hid (HBR.out.keep hBv)
    have r0 := HRV.out.cell 0
    have f0 := HRV.out.free 0
    have r1 := HRV.out.cell 1
    have f1 := HRV.out.free 1
    simp at r0 r1
    go_wp2_with fail
    refine (RW.out _).mono ?_
    rintro e w7 ⟨rfl, h7⟩
    have B7 : Below w.heap.size w w7 := below_via (by go_grown) h7
    have z7 := B7.size
    clear r0 r1 f0 f1
    obtain ⟨r0, r1, f0, f1⟩ := (HRV.out.keep h7).two
    have y7 := h7.size
    clear h7
    go_wp2_with fail
    refine bodyPost_ret (v := .tuple #[.agg #[.int .i64 (dvN a b c d), .int .i64 (dvD a b c d)], .int .i64 (dvE a b c d)])
      (by simp [results, Tryd.results18, go_sem, r0, r1, F1.out, F2.out, F3.out]) rfl ⟨rfl, ?_⟩
    go_grown
set_option maxRecDepth 100000 in
set_option maxHeartbeats 1600000 in
theorem dv_neg (a b c d : Int) (w : World) (h : err2 (chkF a b) (chkF c d) = 0) (hz : c < 0) :
    Calls Tryd.prog 18 #[.agg #[.int .i64 a, .int .i64 b], .agg #[.int .i64 c, .int .i64 d]] w fun e w' =>
      e = .returned (.tuple #[.agg #[.int .i64 (dvN a b c d), .int .i64 (dvD a b c d)], .int .i64 (dvE a b c d)]) ∧ Below w.heap.size w w' := by
  have h0 : (err2 (chkF a b) (chkF c d) != 0) = false := by simpa using h
  have X1 : dvX a c d = (-a) * d := by unfold dvX; rw [if_pos hz]
  have X2 : dvY b c = b * (-c) := by unfold dvY; rw [if_pos hz]
  have F1 := Lib.hid (show dvN a b c d = fwN ((-a) * d) (b * (-c)) by unfold dvN; rw [if_neg (by omega), if_neg (by omega), X1, X2])
  have F2 := Lib.hid (show dvD a b c d = fwD ((-a) * d) (b * (-c)) by unfold dvD; rw [if_neg (by omega), if_neg (by omega), X1, X2])
  have F3 := Lib.hid (show dvE a b c d = fwE ((-a) * d) (b * (-c)) by unfold dvE; rw [if_neg (by omega), if_neg (by omega), X1, X2])
  obtain ⟨b0, b1, a0, a1, _⟩ := chkF_ok (err2_zero h).1
  obtain ⟨d0, d1, c0, c1, _⟩ := chkF_ok (err2_zero h).2
  have CC := Lib.hid (fun (x y : Int) (u : World) (hx : (x = a ∧ y = b) ∨ (x = c ∧ y = d)) => chkF_any x y u (by omega) (by omega) (by omega) (by omega))
  obtain ⟨m00, m01⟩ := mulM_bd (n := -a) (t := d) (by omega) (by omega) (by omega) d1
  obtain ⟨m10, m11⟩ := mulP_bd (n := b) (t := -c) b0 b1 (by omega) (by omega)
  have RW := Lib.hid (fun u : World => redW_any ((-a) * d) (b * (-c)) u (by omega) (by omega) (by omega) (by omega))
  have hz0 : (c == 0) = false := by simp; omega
  clear h X1 X2
  go_enter Tryd.func18, Tryd.ntmps18
  go_wp2_with fail
  have BA := (Box.new w #[.int .i64 a, .int .i64 b] 23 rfl).alloc (.cells #[.int .i64 c, .int .i64 d] 23) |>.alloc (.cells #[.int .i64 0, .int .i64 0] 23)
  have BB := (Box.new (w.alloc (.cells #[.int .i64 a, .int .i64 b] 23)) #[.int .i64 c, .int .i64 d] 23 (n := w.heap.size + 1) (by simp)).alloc (.cells #[.int .i64 0, .int .i64 0] 23)
  have BR := Box.new ((w.alloc (.cells #[.int .i64 a, .int .i64 b] 23)).alloc (.cells #[.int .i64 c, .int .i64 d] 23)) #[.int .i64 0, .int .i64 0] 23 (n := w.heap.size + 1 + 1) (by simp)
  have BW : Below w.heap.size w (((w.alloc (.cells #[.int .i64 a, .int .i64 b] 23)).alloc (.cells #[.int .i64 c, .int .i64 d] 23)).alloc (.cells #[.int .i64 0, .int .i64 0] 23)) := by go_grown
  generalize (((w.alloc (.cells #[.int .i64 a, .int .i64 b] 23)).alloc (.cells #[.int .i64 c, .int .i64 d] 23)).alloc (.cells #[.int .i64 0, .int .i64 0] 23)) = u at *
  have la := BA.lt
  have lb := BB.lt
  have HBA := Lib.hid BA
  have HBB := Lib.hid BB
  have lr := BR.lt
  have HBR := Lib.hid BR
  clear BR
  clear BA BB
  have K := Lib.hid (fun (w' : World) (hw : Below u.heap.size u w') => show w'.cell? ⟨w.heap.size, 0, none⟩ = some (.int .i64 a) ∧ w'.cell? ⟨w.heap.size, 1, none⟩ = some (.int .i64 b) ∧ w'.cell? ⟨w.heap.size + 1, 0, none⟩ = some (.int .i64 c) ∧ w'.cell? ⟨w.heap.size + 1, 1, none⟩ = some (.int .i64 d) from ⟨(HBA.out.keep hw).cell 0, (HBA.out.keep hw).cell 1, (HBB.out.keep hw).cell 0, (HBB.out.keep hw).cell 1⟩)
  go_region_held3 (fun w' => w'.cell? ⟨w.heap.size, 0, none⟩ = some (.int .i64 a) ∧ w'.cell? ⟨w.heap.size, 1, none⟩ = some (.int .i64 b) ∧ w'.cell? ⟨w.heap.size + 1, 0, none⟩ = some (.int .i64 c) ∧ w'.cell? ⟨w.heap.size + 1, 1, none⟩ = some (.int .i64 d))
    ((refine K.out _ ?_; go_grown; done))
    (first | (go_at_call 20; refine (CC.out _ _ _ (by first | exact .inl ⟨rfl, rfl⟩ | exact .inr ⟨rfl, rfl⟩)).mono ?_; rintro e w9 ⟨rfl, h9⟩; have hB9 : Below u.heap.size u w9 := below_via (by go_grown) h9; clear h9; have hz9 := hB9.size; obtain ⟨k0, k1, k2, k3⟩ := K.out w9 hB9) | (go_at_call 67; refine (ferr2_any w9.heap.size (chkF a b) (chkF c d) (w9.alloc (.cells #[.int .i64 (chkF a b), .int .i64 (chkF c d)] 25)) (World.cell?_alloc_at _ _ _ 0 rfl) (World.cell?_alloc_at _ _ _ 1 rfl)).mono ?_; rintro e w8 ⟨rfl, rfl⟩))
  all_goals
    have hBv : Below u.heap.size u (w9.alloc (.cells #[.int .i64 (chkF a b), .int .i64 (chkF c d)] 25)) := by go_grown
    have BV : Below w.heap.size w (w9.alloc (.cells #[.int .i64 (chkF a b), .int .i64 (chkF c d)] 25)) := below_via BW hBv
    generalize w9.alloc (.cells #[.int .i64 (chkF a b), .int .i64 (chkF c d)] 25) = v at *
    clear hB9 hz9 k0 k1 k2 k3
    have zv := hBv.size
    obtain ⟨k0, k1, k2, k3⟩ := K.out v hBv
    have HRV := Lib.hid (HBR.out.keep hBv)
    have r0 := HRV.out.cell 0
    have f0 := HRV.out.free 0
    have r1 := HRV.out.cell 1
    have f1 := HRV.out.free 1
    simp at r0 r1
    have wra : IntKind.i64.wrap (-a) = -a := IntWalk.i64_in _ (by omega)
    have wrc : IntKind.i64.wrap (-c) = -c := IntWalk.i64_in _ (by omega)
    have lav := (HBA.out.keep hBv).lt
    have lbv := (HBB.out.keep hBv).lt
    have fa := (HBA.out.keep hBv).free 0
    have fb := (HBB.out.keep hBv).free 0
    go_wp2_with fail
    go_region
    all_goals
      go_wp2_with fail
      refine (RW.out _).mono ?_
      rintro e w7 ⟨rfl, h7⟩
      have B7 : Below w.heap.size w w7 := below_via (by repeat' (first | (with_reducible exact Below.refl _ _) | (with_reducible assumption) | (with_reducible refine below_drewN ?_ _) | (with_reducible refine Below.drew ?_) | (with_reducible refine Below.setCell ?_ ?_ _) | (with_reducible refine Below.alloc ?_ ?_ _) | go_size)) h7
      have z7 := B7.size
      clear r0 r1 f0 f1
      obtain ⟨r0, r1, f0, f1⟩ := ((Box.drew (Box.other (Box.other HRV.out _ _ (by simp <;> omega)) _ _ (by simp <;> omega))).keep h7).two
      have y7 := h7.size
      simp at y7
      clear h7
      go_wp2_with fail
      refine bodyPost_ret (v := .tuple #[.agg #[.int .i64 (dvN a b c d), .int .i64 (dvD a b c d)], .int .i64 (dvE a b c d)])
        (by simp [results, Tryd.results18, go_sem, r0, r1, F1.out, F2.out, F3.out]) rfl ⟨rfl, ?_⟩
      go_grown
set_option maxRecDepth 100000 in
set_option maxHeartbeats 1600000 in
theorem dv_any (a b c d : Int) (w : World) (a0 : -9223372036854775808 ≤ a) (a1 : a ≤ 9223372036854775807) (b0 : -9223372036854775808 ≤ b) (b1 : b ≤ 9223372036854775807) (c0 : -9223372036854775808 ≤ c) (c1 : c ≤ 9223372036854775807) (d0 : -9223372036854775808 ≤ d) (d1 : d ≤ 9223372036854775807) :
    Calls Tryd.prog 18 #[.agg #[.int .i64 a, .int .i64 b], .agg #[.int .i64 c, .int .i64 d]] w fun e w' =>
      e = .returned (.tuple #[.agg #[.int .i64 (dvN a b c d), .int .i64 (dvD a b c d)], .int .i64 (dvE a b c d)]) ∧ Below w.heap.size w w' := by
  by_cases h : err2 (chkF a b) (chkF c d) = 0
  · rcases Int.lt_trichotomy c 0 with hz | hz | hz
    · exact dv_neg a b c d w h hz
    · exact dv_zero a b c d w h hz
    · exact dv_pos a b c d w h hz
  · exact dv_bad a b c d w a0 a1 b0 b1 c0 c1 d0 d1 h
set_option maxRecDepth 100000 in
set_option maxHeartbeats 1600000 in
theorem co_bad (a b c d : Int) (w : World) (a0 : -9223372036854775808 ≤ a) (a1 : a ≤ 9223372036854775807) (b0 : -9223372036854775808 ≤ b) (b1 : b ≤ 9223372036854775807) (c0 : -9223372036854775808 ≤ c) (c1 : c ≤ 9223372036854775807) (d0 : -9223372036854775808 ≤ d) (d1 : d ≤ 9223372036854775807) (h : err2 (chkF a b) (chkF c d) ≠ 0) :
    Calls Tryd.prog 19 #[.agg #[.int .i64 a, .int .i64 b], .agg #[.int .i64 c, .int .i64 d]] w fun e w' =>
      e = .returned (.tuple #[.int .i64 (coV a b c d), .int .i64 (err2 (chkF a b) (chkF c d))]) ∧ Below w.heap.size w w' := by
  have h0 : (err2 (chkF a b) (chkF c d) != 0) = true := by simpa using h
  have F1 := Lib.hid (show coV a b c d = 0 by unfold coV; rw [if_pos h])
  have CC := Lib.hid (fun (x y : Int) (u : World) (hx : (x = a ∧ y = b) ∨ (x = c ∧ y = d)) => chkF_any x y u (by omega) (by omega) (by omega) (by omega))
  clear h
  go_enter Tryd.func19, Tryd.ntmps19
  go_wp2_with fail
  have BA := (Box.new w #[.int .i64 a, .int .i64 b] 23 rfl).alloc (.cells #[.int .i64 c, .int .i64 d] 23)
  have BB := (Box.new (w.alloc (.cells #[.int .i64 a, .int .i64 b] 23)) #[.int .i64 c, .int .i64 d] 23 (n := w.heap.size + 1) (by simp))
  have BW : Below w.heap.size w ((w.alloc (.cells #[.int .i64 a, .int .i64 b] 23)).alloc (.cells #[.int .i64 c, .int .i64 d] 23)) := by go_grown
  generalize ((w.alloc (.cells #[.int .i64 a, .int .i64 b] 23)).alloc (.cells #[.int .i64 c, .int .i64 d] 23)) = u at *
  have la := BA.lt
  have lb := BB.lt
  have HBA := Lib.hid BA
  have HBB := Lib.hid BB
  clear BA BB
  have K := Lib.hid (fun (w' : World) (hw : Below u.heap.size u w') => show w'.cell? ⟨w.heap.size, 0, none⟩ = some (.int .i64 a) ∧ w'.cell? ⟨w.heap.size, 1, none⟩ = some (.int .i64 b) ∧ w'.cell? ⟨w.heap.size + 1, 0, none⟩ = some (.int .i64 c) ∧ w'.cell? ⟨w.heap.size + 1, 1, none⟩ = some (.int .i64 d) from ⟨(HBA.out.keep hw).cell 0, (HBA.out.keep hw).cell 1, (HBB.out.keep hw).cell 0, (HBB.out.keep hw).cell 1⟩)
  go_region_held3 (fun w' => w'.cell? ⟨w.heap.size, 0, none⟩ = some (.int .i64 a) ∧ w'.cell? ⟨w.heap.size, 1, none⟩ = some (.int .i64 b) ∧ w'.cell? ⟨w.heap.size + 1, 0, none⟩ = some (.int .i64 c) ∧ w'.cell? ⟨w.heap.size + 1, 1, none⟩ = some (.int .i64 d))
    ((refine K.out _ ?_; go_grown; done))
    (first | (go_at_call 20; refine (CC.out _ _ _ (by first | exact .inl ⟨rfl, rfl⟩ | exact .inr ⟨rfl, rfl⟩)).mono ?_; rintro e w9 ⟨rfl, h9⟩; have hB9 : Below u.heap.size u w9 := below_via (by go_grown) h9; clear h9; have hz9 := hB9.size; obtain ⟨k0, k1, k2, k3⟩ := K.out w9 hB9) | (go_at_call 67; refine (ferr2_any w9.heap.size (chkF a b) (chkF c d) (w9.alloc (.cells #[.int .i64 (chkF a b), .int .i64 (chkF c d)] 25)) (World.cell?_alloc_at _ _ _ 0 rfl) (World.cell?_alloc_at _ _ _ 1 rfl)).mono ?_; rintro e w8 ⟨rfl, rfl⟩))
  all_goals
    have hBv : Below u.heap.size u (w9.alloc (.cells #[.int .i64 (chkF a b), .int .i64 (chkF c d)] 25)) := by go_grown
    have BV : Below w.heap.size w (w9.alloc (.cells #[.int .i64 (chkF a b), .int .i64 (chkF c d)] 25)) := below_via BW hBv
    generalize w9.alloc (.cells #[.int .i64 (chkF a b), .int .i64 (chkF c d)] 25) = v at *
    clear hB9 hz9 k0 k1 k2 k3
    have zv := hBv.size
    obtain ⟨k0, k1, k2, k3⟩ := K.out v hBv
    go_wp2_with fail
    refine bodyPost_ret (v := .tuple #[.int .i64 (coV a b c d), .int .i64 (err2 (chkF a b) (chkF c d))])
      (by simp [results, Tryd.results19, go_sem, F1.out]) rfl ⟨rfl, ?_⟩
    go_grown
set_option maxRecDepth 100000 in
set_option maxHeartbeats 1600000 in
theorem co_ok (a b c d : Int) (w : World) (h : err2 (chkF a b) (chkF c d) = 0) :
    Calls Tryd.prog 19 #[.agg #[.int .i64 a, .int .i64 b], .agg #[.int .i64 c, .int .i64 d]] w fun e w' =>
      e = .returned (.tuple #[.int .i64 (coV a b c d), .int .i64 (err2 (chkF a b) (chkF c d))]) ∧ Below w.heap.size w w' := by
  have h0 : (err2 (chkF a b) (chkF c d) != 0) = false := by simpa using h
  have F1 := Lib.hid (show coV a b c d = cmpI (a * d) (c * b) by unfold coV; rw [if_neg (by omega)])
  obtain ⟨b0, b1, a0, a1, _⟩ := chkF_ok (err2_zero h).1
  obtain ⟨d0, d1, c0, c1, _⟩ := chkF_ok (err2_zero h).2
  have CC := Lib.hid (fun (x y : Int) (u : World) (hx : (x = a ∧ y = b) ∨ (x = c ∧ y = d)) => chkF_any x y u (by omega) (by omega) (by omega) (by omega))
  obtain ⟨m00, m01⟩ := mulM_bd a0 a1 (show -1000000000 ≤ d by omega) d1
  obtain ⟨m10, m11⟩ := mulM_bd c0 c1 (show -1000000000 ≤ b by omega) b1
  have HZ := Lib.hid h
  clear h
  go_enter Tryd.func19, Tryd.ntmps19
  go_wp2_with fail
  have BA := (Box.new w #[.int .i64 a, .int .i64 b] 23 rfl).alloc (.cells #[.int .i64 c, .int .i64 d] 23)
  have BB := (Box.new (w.alloc (.cells #[.int .i64 a, .int .i64 b] 23)) #[.int .i64 c, .int .i64 d] 23 (n := w.heap.size + 1) (by simp))
  have BW : Below w.heap.size w ((w.alloc (.cells #[.int .i64 a, .int .i64 b] 23)).alloc (.cells #[.int .i64 c, .int .i64 d] 23)) := by go_grown
  generalize ((w.alloc (.cells #[.int .i64 a, .int .i64 b] 23)).alloc (.cells #[.int .i64 c, .int .i64 d] 23)) = u at *
  have la := BA.lt
  have lb := BB.lt
  have HBA := Lib.hid BA
  have HBB := Lib.hid BB
  clear BA BB
  have K := Lib.hid (fun (w' : World) (hw : Below u.heap.size u w') => show w'.cell? ⟨w.heap.size, 0, none⟩ = some (.int .i64 a) ∧ w'.cell? ⟨w.heap.size, 1, none⟩ = some (.int .i64 b) ∧ w'.cell? ⟨w.heap.size + 1, 0, none⟩ = some (.int .i64 c) ∧ w'.cell? ⟨w.heap.size + 1, 1, none⟩ = some (.int .i64 d) from ⟨(HBA.out.keep hw).cell 0, (HBA.out.keep hw).cell 1, (HBB.out.keep hw).cell 0, (HBB.out.keep hw).cell 1⟩)
  go_region_held3 (fun w' => w'.cell? ⟨w.heap.size, 0, none⟩ = some (.int .i64 a) ∧ w'.cell? ⟨w.heap.size, 1, none⟩ = some (.int .i64 b) ∧ w'.cell? ⟨w.heap.size + 1, 0, none⟩ = some (.int .i64 c) ∧ w'.cell? ⟨w.heap.size + 1, 1, none⟩ = some (.int .i64 d))
    ((refine K.out _ ?_; go_grown; done))
    (first | (go_at_call 20; refine (CC.out _ _ _ (by first | exact .inl ⟨rfl, rfl⟩ | exact .inr ⟨rfl, rfl⟩)).mono ?_; rintro e w9 ⟨rfl, h9⟩; have hB9 : Below u.heap.size u w9 := below_via (by go_grown) h9; clear h9; have hz9 := hB9.size; obtain ⟨k0, k1, k2, k3⟩ := K.out w9 hB9) | (go_at_call 67; refine (ferr2_any w9.heap.size (chkF a b) (chkF c d) (w9.alloc (.cells #[.int .i64 (chkF a b), .int .i64 (chkF c d)] 25)) (World.cell?_alloc_at _ _ _ 0 rfl) (World.cell?_alloc_at _ _ _ 1 rfl)).mono ?_; rintro e w8 ⟨rfl, rfl⟩))
  all_goals
    have hBv : Below u.heap.size u (w9.alloc (.cells #[.int .i64 (chkF a b), .int .i64 (chkF c d)] 25)) := by go_grown
    have BV : Below w.heap.size w (w9.alloc (.cells #[.int .i64 (chkF a b), .int .i64 (chkF c d)] 25)) := below_via BW hBv
    generalize w9.alloc (.cells #[.int .i64 (chkF a b), .int .i64 (chkF c d)] 25) = v at *
    clear hB9 hz9 k0 k1 k2 k3
    have zv := hBv.size
    obtain ⟨k0, k1, k2, k3⟩ := K.out v hBv
    go_wp2_with (go_at_call 69; refine (cmpi_any _ _ _).mono ?_; rintro e w7 ⟨rfl, rfl⟩)
    refine bodyPost_ret (v := .tuple #[.int .i64 (coV a b c d), .int .i64 (err2 (chkF a b) (chkF c d))])
      (by simp [results, Tryd.results19, go_sem, F1.out, HZ.out]) rfl ⟨rfl, ?_⟩
    go_grown
set_option maxRecDepth 100000 in
set_option maxHeartbeats 1600000 in
theorem co_any (a b c d : Int) (w : World) (a0 : -9223372036854775808 ≤ a) (a1 : a ≤ 9223372036854775807) (b0 : -9223372036854775808 ≤ b) (b1 : b ≤ 9223372036854775807) (c0 : -9223372036854775808 ≤ c) (c1 : c ≤ 9223372036854775807) (d0 : -9223372036854775808 ≤ d) (d1 : d ≤ 9223372036854775807) :
    Calls Tryd.prog 19 #[.agg #[.int .i64 a, .int .i64 b], .agg #[.int .i64 c, .int .i64 d]] w fun e w' =>
      e = .returned (.tuple #[.int .i64 (coV a b c d), .int .i64 (err2 (chkF a b) (chkF c d))]) ∧ Below w.heap.size w w' := by
  by_cases h : err2 (chkF a b) (chkF c d) = 0
  · exact co_ok a b c d w h
  · exact co_bad a b c d w a0 a1 b0 b1 c0 c1 d0 d1 h
--MORE
end Go.Proofs.YtcojcfjagneecaaDoor
