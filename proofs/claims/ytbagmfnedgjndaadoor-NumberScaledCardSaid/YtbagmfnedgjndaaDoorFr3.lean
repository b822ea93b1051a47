/-
  The walks of Add, Times, Divide and Compare of fractions.
-/
import Derived.Test.YtbagmfnedgjndaaDoorFr2
import Derived.Test.YtbagmfnedgjndaaDoorRou
import Derived.Test.YtbagmfnedgjndaaDoorRng2
import Derived.Deep.RegionHeld3
namespace Go.Proofs.YtbagmfnedgjndaaDoor
open Go.RowKit

theorem mulM_bd {n t : Int} (h0 : -1000000000 ≤ n) (h1 : n ≤ 1000000000) (t0 : -1000000000 ≤ t) (t1 : t ≤ 1000000000) : -1000000000000000000 ≤ n * t ∧ n * t ≤ 1000000000000000000 := by
  rcases Int.lt_or_le t 0 with h | h
  · have a1 := mulB_bd h0 h1 (show 0 ≤ -t by omega) (show -t ≤ 1000000000 by omega)
    rw [Int.mul_neg] at a1; omega
  · exact mulB_bd h0 h1 h t1
theorem mulP_bd {n t : Int} (h0 : 1 ≤ n) (h1 : n ≤ 1000000000) (t0 : 1 ≤ t) (t1 : t ≤ 1000000000) : 1 ≤ n * t ∧ n * t ≤ 1000000000000000000 := by
  have a1 := Int.mul_le_mul_of_nonneg_right h0 (show 0 ≤ t by omega)
  have a2 := mulM_bd (show -1000000000 ≤ n by omega) h1 (show -1000000000 ≤ t by omega) t1
  omega
def adE (a b c d : Int) : Int := if err2 (chkF a b) (chkF c d) ≠ 0 then err2 (chkF a b) (chkF c d) else fwE (a * d + c * b) (b * d)
def adN (a b c d : Int) : Int := if err2 (chkF a b) (chkF c d) ≠ 0 then 0 else fwN (a * d + c * b) (b * d)
def adD (a b c d : Int) : Int := if err2 (chkF a b) (chkF c d) ≠ 0 then 0 else fwD (a * d + c * b) (b * d)
def tiE (a b c d : Int) : Int := if err2 (chkF a b) (chkF c d) ≠ 0 then err2 (chkF a b) (chkF c d) else fwE (a * c) (b * d)
def tiN (a b c d : Int) : Int := if err2 (chkF a b) (chkF c d) ≠ 0 then 0 else fwN (a * c) (b * d)
def tiD (a b c d : Int) : Int := if err2 (chkF a b) (chkF c d) ≠ 0 then 0 else fwD (a * c) (b * d)
set_option maxRecDepth 100000 in
set_option maxHeartbeats 1600000 in
theorem ad_bad (a b c d : Int) (w : World) (a0 : -9223372036854775808 ≤ a) (a1 : a ≤ 9223372036854775807) (b0 : -9223372036854775808 ≤ b) (b1 : b ≤ 9223372036854775807) (c0 : -9223372036854775808 ≤ c) (c1 : c ≤ 9223372036854775807) (d0 : -9223372036854775808 ≤ d) (d1 : d ≤ 9223372036854775807) (h : err2 (chkF a b) (chkF c d) ≠ 0) :
    Calls Tryd.prog 16 #[.agg #[.int .i64 a, .int .i64 b], .agg #[.int .i64 c, .int .i64 d]] w fun e w' =>
      e = .returned (.tuple #[.agg #[.int .i64 (adN a b c d), .int .i64 (adD a b c d)], .int .i64 (adE a b c d)]) ∧ Below w.heap.size w w' := by
  have h0 : (err2 (chkF a b) (chkF c d) != 0) = true := by simpa using h
  have F1 := Lib.hid (show adN a b c d = 0 by unfold adN; rw [if_pos h])
  have F2 := Lib.hid (show adD a b c d = 0 by unfold adD; rw [if_pos h])
  have F3 := Lib.hid (show adE a b c d = err2 (chkF a b) (chkF c d) by unfold adE; rw [if_pos h])
  have CC := Lib.hid (fun (x y : Int) (u : World) (hx : (x = a ∧ y = b) ∨ (x = c ∧ y = d)) => chkF_any x y u (by omega) (by omega) (by omega) (by omega))
  clear h
  go_enter Tryd.func16, Tryd.ntmps16
  go_wp2_with fail
  have BA := (Box.new w #[.int .i64 a, .int .i64 b] 23 rfl).alloc (.cells #[.int .i64 c, .int .i64 d] 23) |>.alloc (.cells #[.int .i64 0, .int .i64 0] 23)
  have BB := (Box.new (w.alloc (.cells #[.int .i64 a, .int .i64 b] 23)) #[.int .i64 c, .int .i64 d] 23 (n := w.heap.size + 1) (by simp)).alloc (.cells #[.int .i64 0, .int .i64 0] 23)
  have BR := Box.new ((w.alloc (.cells #[.int .i64 a, .int .i64 b] 23)).alloc (.cells #[.int .i64 c, .int .i64 d] 23)) #[.int .i64 0, .int .i64 0] 23 (n := w.heap.size + 1 + 1) (by simp)
  have BW : Below w.heap.size w (((w.alloc (.cells #[.int .i64 a, .int .i64 b] 23)).alloc (.cells #[.int .i64 c, .int .i64 d] 23)).alloc (.cells #[.int .i64 0, .int .i64 0] 23)) := by go_grown
  generalize (((w.alloc (.cells #[.int .i64 a, .int .i64 b] 23)).alloc (.cells #[.int .i64 c, .int .i64 d] 23)).alloc (.cells #[.int .i64 0, .int .i64 0] 23)) = u at *
  have la := BA.lt
  have lb := BB.lt
  have HBA := Lib.hid BA
  have HBB := Lib.hid BB
  have lr := BR.lt
  have HBR := Lib.hid BR
  clear BR
  clear BA BB
  have K := Lib.hid (fun (w' : World) (hw : Below u.heap.size u w') => show w'.cell? ⟨w.heap.size, 0, none⟩ = some (.int .i64 a) ∧ w'.cell? ⟨w.heap.size, 1, none⟩ = some (.int .i64 b) ∧ w'.cell? ⟨w.heap.size + 1, 0, none⟩ = some (.int .i64 c) ∧ w'.cell? ⟨w.heap.size + 1, 1, none⟩ = some (.int .i64 d) from ⟨(HBA.out.keep hw).cell 0, (HBA.out.keep hw).cell 1, (HBB.out.keep hw).cell 0, (HBB.out.keep hw).cell 1⟩)
  go_region_held3 (fun w' => w'.cell? ⟨w.heap.size, 0, none⟩ = some (.int .i64 a) ∧ w'.cell? ⟨w.heap.size, 1, none⟩ = some (.int .i64 b) ∧ w'.cell? ⟨w.heap.size + 1, 0, none⟩ = some (.int .i64 c) ∧ w'.cell? ⟨w.heap.size + 1, 1, none⟩ = some (.int .i64 d))
    ((refine K.out _ ?_; go_grown; done))
    (first | (go_at_call 20; refine (CC.out _ _ _ (by first | exact .inl ⟨rfl, rfl⟩ | exact .inr ⟨rfl, rfl⟩)).mono ?_; rintro e w9 ⟨rfl, h9⟩; have hB9 : Below u.heap.size u w9 := below_via (by go_grown) h9; clear h9; have hz9 := hB9.size; obtain ⟨k0, k1, k2, k3⟩ := K.out w9 hB9) | (go_at_call 67; refine (ferr2_any w9.heap.size (chkF a b) (chkF c d) (w9.alloc (.cells #[.int .i64 (chkF a b), .int .i64 (chkF c d)] 25)) (World.cell?_alloc_at _ _ _ 0 rfl) (World.cell?_alloc_at _ _ _ 1 rfl)).mono ?_; rintro e w8 ⟨rfl, rfl⟩))
  all_goals
    have hBv : Below u.heap.size u (w9.alloc (.cells #[.int .i64 (chkF a b), .int .i64 (chkF c d)] 25)) := by go_grown
    have BV : Below w.heap.size w (w9.alloc (.cells #[.int .i64 (chkF a b), .int .i64 (chkF c d)] 25)) := below_via BW hBv
    generalize w9.alloc (.cells #[.int .i64 (chkF a b), .int .i64 (chkF c d)] 25) = v at *
    clear hB9 hz9 k0 k1 k2 k3
    have zv := hBv.size
    obtain ⟨k0, k1, k2, k3⟩ := K.out v hBv
    have HRV := Lib.hid (HBR.out.keep hBv)
    have r0 := HRV.out.cell 0
    have f0 := HRV.out.free 0
    have r1 := HRV.out.cell 1
    have f1 := HRV.out.free 1
    simp at r0 r1
    go_wp2_with fail
    refine bodyPost_ret (v := .tuple #[.agg #[.int .i64 (adN a b c d), .int .i64 (adD a b c d)], .int .i64 (adE a b c d)])
      (by simp [results, Tryd.results16, go_sem, r0, r1, F1.out, F2.out, F3.out]) rfl ⟨rfl, ?_⟩
    go_grown
set_option maxRecDepth 100000 in
set_option maxHeartbeats 1600000 in
theorem ad_ok (a b c d : Int) (w : World) (h : err2 (chkF a b) (chkF c d) = 0) :
    Calls Tryd.prog 16 #[.agg #[.int .i64 a, .int .i64 b], .agg #[.int .i64 c, .int .i64 d]] w fun e w' =>
      e = .returned (.tuple #[.agg #[.int .i64 (adN a b c d), .int .i64 (adD a b c d)], .int .i64 (adE a b c d)]) ∧ Below w.heap.size w w' := by
  have h0 : (err2 (chkF a b) (chkF c d) != 0) = false := by simpa using h
  have F1 := Lib.hid (show adN a b c d = fwN (a * d + c * b) (b * d) by unfold adN; rw [if_neg (by omega)])
  have F2 := Lib.hid (show adD a b c d = fwD (a * d + c * b) (b * d) by unfold adD; rw [if_neg (by omega)])
  have F3 := Lib.hid (show adE a b c d = fwE (a * d + c * b) (b * d) by unfold adE; rw [if_neg (by omega)])
  obtain ⟨b0, b1, a0, a1, _⟩ := chkF_ok (err2_zero h).1
  obtain ⟨d0, d1, c0, c1, _⟩ := chkF_ok (err2_zero h).2
  have CC := Lib.hid (fun (x y : Int) (u : World) (hx : (x = a ∧ y = b) ∨ (x = c ∧ y = d)) => chkF_any x y u (by omega) (by omega) (by omega) (by omega))
  obtain ⟨m00, m01⟩ := mulM_bd a0 a1 (show -1000000000 ≤ d by omega) d1
  obtain ⟨m10, m11⟩ := mulM_bd c0 c1 (show -1000000000 ≤ b by omega) b1
  obtain ⟨m20, m21⟩ := mulP_bd b0 b1 d0 d1
  have RW := Lib.hid (fun u : World => redW_any (a * d + c * b) (b * d) u (by omega) (by omega) (by omega) (by omega))
  clear h
  go_enter Tryd.func16, Tryd.ntmps16
  go_wp2_with fail
  have BA := (Box.new w #[.int .i64 a, .int .i64 b] 23 rfl).alloc (.cells #[.int .i64 c, .int .i64 d] 23) |>.alloc (.cells #[.int .i64 0, .int .i64 0] 23)
  have BB := (Box.new (w.alloc (.cells #[.int .i64 a, .int .i64 b] 23)) #[.int .i64 c, .int .i64 d] 23 (n := w.heap.size + 1) (by simp)).alloc (.cells #[.int .i64 0, .int .i64 0] 23)
  have BR := Box.new ((w.alloc (.cells #[.int .i64 a, .int .i64 b] 23)).alloc (.cells #[.int .i64 c, .int .i64 d] 23)) #[.int .i64 0, .int .i64 0] 23 (n := w.heap.size + 1 + 1) (by simp)
  have BW : Below w.heap.size w (((w.alloc (.cells #[.int .i64 a, .int .i64 b] 23)).alloc (.cells #[.int .i64 c, .int .i64 d] 23)).alloc (.cells #[.int .i64 0, .int .i64 0] 23)) := by go_grown
  generalize (((w.alloc (.cells #[.int .i64 a, .int .i64 b] 23)).alloc (.cells #[.int .i64 c, .int .i64 d] 23)).alloc (.cells #[.int .i64 0, .int .i64 0] 23)) = u at *
  have la := BA.lt
  have lb := BB.lt
  have HBA := Lib.hid BA
  have HBB := Lib.hid BB
  have lr := BR.lt
  have HBR := Lib.hid BR
  clear BR
  clear BA BB
  have K := Lib.hid (fun (w' : World) (hw : Below u.heap.size u w') => show w'.cell? ⟨w.heap.size, 0, none⟩ = some (.int .i64 a) ∧ w'.cell? ⟨w.heap.size, 1, none⟩ = some (.int .i64 b) ∧ w'.cell? ⟨w.heap.size + 1, 0, none⟩ = some (.int .i64 c) ∧ w'.cell? ⟨w.heap.size + 1, 1, none⟩ = some (.int .i64 d) from ⟨(HBA.out.keep hw).cell 0, (HBA.out.keep hw).cell 1, (HBB.out.keep hw).cell 0, (HBB.out.keep hw).cell 1⟩)
  go_region_held3 (fun w' => w'.cell? ⟨w.heap.size, 0, none⟩ = some (.int .i64 a) ∧ w'.cell? ⟨w.heap.size, 1, none⟩ = some (.int .i64 b) ∧ w'.cell? ⟨w.heap.size + 1, 0, none⟩ = some (.int .i64 c) ∧ w'.cell? ⟨w.heap.size + 1, 1, none⟩ = some (.int .i64 d))
    ((refine K.out _ ?_; go_grown; done))
    (first | (go_at_call 20; refine (CC.out _ _ _ (by first | exact .inl ⟨rfl, rfl⟩ | exact .inr ⟨rfl, rfl⟩)).mono ?_; rintro e w9 ⟨rfl, h9⟩; have hB9 : Below u.heap.size u w9 := below_via (by go_grown) h9; clear h9; have hz9 := hB9.size; obtain ⟨k0, k1, k2, k3⟩ := K.out w9 hB9) | (go_at_call 67; refine (ferr2_any w9.heap.size (chkF a b) (chkF c d) (w9.alloc (.cells #[.int .i64 (chkF a b), .int .i64 (chkF c d)] 25)) (World.cell?_alloc_at _ _ _ 0 rfl) (World.cell?_alloc_at _ _ _ 1 rfl)).mono ?_; rintro e w8 ⟨rfl, rfl⟩))
  all_goals
    have hBv : Below u.heap.size u (w9.alloc (.cells #[.int .i64 (chkF a b), .int .i64 (chkF c d)] 25)) := by go_grown
    have BV : Below w.heap.size w (w9.alloc (.cells #[.int .i64 (chkF a b), .int .i64 (chkF c d)] 25)) := below_via BW hBv
    generalize w9.alloc (.cells #[.int .i64 (chkF a b), .int .i64 (chkF c d)] 25) = v at *
    clear hB9 hz9 k0 k1 k2 k3
    have zv := hBv.size
    obtain ⟨k0, k1, k2, k3⟩ := K.out v hBv
    have HRV := Lib.hid (HBR.out.keep hBv)
    have r0 := HRV.out.cell 0
    have f0 := HRV.out.free 0
    have r1 := HRV.out.cell 1
    have f1 := HRV.out.free 1
    simp at r0 r1
    go_wp2_with fail
    refine (RW.out _).mono ?_
    rintro e w7 ⟨rfl, h7⟩
    have B7 : Below w.heap.size w w7 := below_via (by go_grown) h7
    have z7 := B7.size
    clear r0 r1 f0 f1
    obtain ⟨r0, r1, f0, f1⟩ := (HRV.out.keep h7).two
    have y7 := h7.size
    clear h7
    go_wp2_with fail
    refine bodyPost_ret (v := .tuple #[.agg #[.int .i64 (adN a b c d), .int .i64 (adD a b c d)], .int .i64 (adE a b c d)])
      (by simp [results, Tryd.results16, go_sem, r0, r1, F1.out, F2.out, F3.out]) rfl ⟨rfl, ?_⟩
    go_grown
set_option maxRecDepth 100000 in
set_option maxHeartbeats 1600000 in
theorem ad_any (a b c d : Int) (w : World) (a0 : -9223372036854775808 ≤ a) (a1 : a ≤ 9223372036854775807) (b0 : -9223372036854775808 ≤ b) (b1 : b ≤ 9223372036854775807) (c0 : -9223372036854775808 ≤ c) (c1 : c ≤ 9223372036854775807) (d0 : -9223372036854775808 ≤ d) (d1 : d ≤ 9223372036854775807) :
    Calls Tryd.prog 16 #[.agg #[.int .i64 a, .int .i64 b], .agg #[.int .i64 c, .int .i64 d]] w fun e w' =>
      e = .returned (.tuple #[.agg #[.int .i64 (adN a b c d), .int .i64 (adD a b c d)], .int .i64 (adE a b c d)]) ∧ Below w.heap.size w w' := by
  by_cases h : err2 (chkF a b) (chkF c d) = 0
  · exact ad_ok a b c d w h
  · exact ad_bad a b c d w a0 a1 b0 b1 c0 c1 d0 d1 h
set_option maxRecDepth 100000 in
set_option maxHeartbeats 1600000 in
theorem ti_bad (a b c d : Int) (w : World) (a0 : -9223372036854775808 ≤ a) (a1 : a ≤ 9223372036854775807) (b0 : -9223372036854775808 ≤ b) (b1 : b ≤ 9223372036854775807) (c0 : -9223372036854775808 ≤ c) (c1 : c ≤ 9223372036854775807) (d0 : -9223372036854775808 ≤ d) (d1 : d ≤ 9223372036854775807) (h : err2 (chkF a b) (chkF c d) ≠ 0) :
    Calls Tryd.prog 17 #[.agg #[.int .i64 a, .int .i64 b], .agg #[.int .i64 c, .int .i64 d]] w fun e w' =>
      e = .returned (.tuple #[.agg #[.int .i64 (tiN a b c d), .int .i64 (tiD a b c d)], .int .i64 (tiE a b c d)]) ∧ Below w.heap.size w w' := by
  have h0 : (err2 (chkF a b) (chkF c d) != 0) = true := by simpa using h
  have F1 := Lib.hid (show tiN a b c d = 0 by unfold tiN; rw [if_pos h])
  have F2 := Lib.hid (show tiD a b c d = 0 by unfold tiD; rw [if_pos h])
  have F3 := Lib.hid (show tiE a b c d = err2 (chkF a b) (chkF c d) by unfold tiE; rw [if_pos h])
  have CC := Lib.hid (fun (x y : Int) (u : World) (hx : (x = a ∧ y = b) ∨ (x = c ∧ y = d)) => chkF_any x y u (by omega) (by omega) (by omega) (by omega))
  clear h
  go_enter Tryd.func17, Tryd.ntmps17
  go_wp2_with fail
  have BA := (Box.new w #[.int .i64 a, .int .i64 b] 23 rfl).alloc (.cells #[.int .i64 c, .int .i64 d] 23) |>.alloc (.cells #[.int .i64 0, .int .i64 0] 23)
  have BB := (Box.new (w.alloc (.cells #[.int .i64 a, .int .i64 b] 23)) #[.int .i64 c, .int .i64 d] 23 (n := w.heap.size + 1) (by simp)).alloc (.cells #[.int .i64 0, .int .i64 0] 23)
  have BR := Box.new ((w.alloc (.cells #[.int .i64 a, .int .i64 b] 23)).alloc (.cells #[.int .i64 c, .int .i64 d] 23)) #[.int .i64 0, .int .i64 0] 23 (n := w.heap.size + 1 + 1) (by simp)
  have BW : Below w.heap.size w (((w.alloc (.cells #[.int .i64 a, .int .i64 b] 23)).alloc (.cells #[.int .i64 c, .int .i64 d] 23)).alloc (.cells #[.int .i64 0, .int .i64 0] 23)) := by go_grown
  generalize (((w.alloc (.cells #[.int .i64 a, .int .i64 b] 23)).alloc (.cells #[.int .i64 c, .int .i64 d] 23)).alloc (.cells #[.int .i64 0, .int .i64 0] 23)) = u at *
  have la := BA.lt
  have lb := BB.lt
  have HBA := Lib.hid BA
  have HBB := Lib.hid BB
  have lr := BR.lt
  have HBR := Lib.hid BR
  clear BR
  clear BA BB
  have K := Lib.hid (fun (w' : World) (hw : Below u.heap.size u w') => show w'.cell? ⟨w.heap.size, 0, none⟩ = some (.int .i64 a) ∧ w'.cell? ⟨w.heap.size, 1, none⟩ = some (.int .i64 b) ∧ w'.cell? ⟨w.heap.size + 1, 0, none⟩ = some (.int .i64 c) ∧ w'.cell? ⟨w.heap.size + 1, 1, none⟩ = some (.int .i64 d) from ⟨(HBA.out.keep hw).cell 0, (HBA.out.keep hw).cell 1, (HBB.out.keep hw).cell 0, (HBB.out.keep hw).cell 1⟩)
  go_region_held3 (fun w' => w'.cell? ⟨w.heap.size, 0, none⟩ = some (.int .i64 a) ∧ w'.cell? ⟨w.heap.size, 1, none⟩ = some (.int .i64 b) ∧ w'.cell? ⟨w.heap.size + 1, 0, none⟩ = some (.int .i64 c) ∧ w'.cell? ⟨w.heap.size + 1, 1, none⟩ = some (.int .i64 d))
    ((refine K.out _ ?_; go_grown; done))
    (first | (go_at_call 20; refine (CC.out _ _ _ (by first | exact .inl ⟨rfl, rfl⟩ | exact .inr ⟨rfl, rfl⟩)).mono ?_; rintro e w9 ⟨rfl, h9⟩; have hB9 : Below u.heap.size u w9 := below_via (by go_grown) h9; clear h9; have hz9 := hB9.size; obtain ⟨k0, k1, k2, k3⟩ := K.out w9 hB9) | (go_at_call 67; refine (ferr2_any w9.heap.size (chkF a b) (chkF c d) (w9.alloc (.cells #[.int .i64 (chkF a b), .int .i64 (chkF c d)] 25)) (World.cell?_alloc_at _ _ _ 0 rfl) (World.cell?_alloc_at _ _ _ 1 rfl)).mono ?_; rintro e w8 ⟨rfl, rfl⟩))
  all_goals
    have hBv : Below u.heap.size u (w9.alloc (.cells #[.int .i64 (chkF a b), .int .i64 (chkF c d)] 25)) := by go_grown
    have BV : Below w.heap.size w (w9.alloc (.cells #[.int .i64 (chkF a b), .int .i64 (chkF c d)] 25)) := below_via BW hBv
    generalize w9.alloc (.cells #[.int .i64 (chkF a b), .int .i64 (chkF c d)] 25) = v at *
    clear hB9 hz9 k0 k1 k2 k3
    have zv := hBv.size
    obtain ⟨k0, k1, k2, k3⟩ := K.out v hBv
    have HRV := Lib.hid (HBR.out.keep hBv)
    have r0 := HRV.out.cell 0
    have f0 := HRV.out.free 0
    have r1 := HRV.out.cell 1
    have f1 := HRV.out.free 1
    simp at r0 r1
    go_wp2_with fail
    refine bodyPost_ret (v := .tuple #[.agg #[.int .i64 (tiN a b c d), .int .i64 (tiD a b c d)], .int .i64 (tiE a b c d)])
      (by simp [results, Tryd.results17, go_sem, r0, r1, F1.out, F2.out, F3.out]) rfl ⟨rfl, ?_⟩
    go_grown
set_option maxRecDepth 100000 in
set_option maxHeartbeats 1600000 in
theorem ti_ok (a b c d : Int) (w : World) (h : err2 (chkF a b) (chkF c d) = 0) :
    Calls Tryd.prog 17 #[.agg #[.int .i64 a, .int .i64 b], .agg #[.int .i64 c, .int .i64 d]] w fun e w' =>
      e = .returned (.tuple #[.agg #[.int .i64 (tiN a b c d), .int .i64 (tiD a b c d)], .int .i64 (tiE a b c d)]) ∧ Below w.heap.size w w' := by
  have h0 : (err2 (chkF a b) (chkF c d) != 0) = false := by simpa using h
  have F1 := Lib.hid (show tiN a b c d = fwN (a * c) (b * d) by unfold tiN; rw [if_neg (by omega)])
  have F2 := Lib.hid (show tiD a b c d = fwD (a * c) (b * d) by unfold tiD; rw [if_neg (by omega)])
  have F3 := Lib.hid (show tiE a b c d = fwE (a * c) (b * d) by unfold tiE; rw [if_neg (by omega)])
  obtain ⟨b0, b1, a0, a1, _⟩ := chkF_ok (err2_zero h).1
  obtain ⟨d0, d1, c0, c1, _⟩ := chkF_ok (err2_zero h).2
  have CC := Lib.hid (fun (x y : Int) (u : World) (hx : (x = a ∧ y = b) ∨ (x = c ∧ y = d)) => chkF_any x y u (by omega) (by omega) (by omega) (by omega))
  obtain ⟨m00, m01⟩ := mulM_bd a0 a1 c0 c1
  obtain ⟨m10, m11⟩ := mulP_bd b0 b1 d0 d1
  have RW := Lib.hid (fun u : World => redW_any (a * c) (b * d) u (by omega) (by omega) (by omega) (by omega))
  clear h
  go_enter Tryd.func17, Tryd.ntmps17
  go_wp2_with fail
  have BA := (Box.new w #[.int .i64 a, .int .i64 b] 23 rfl).alloc (.cells #[.int .i64 c, .int .i64 d] 23) |>.alloc (.cells #[.int .i64 0, .int .i64 0] 23)
  have BB := (Box.new (w.alloc (.cells #[.int .i64 a, .int .i64 b] 23)) #[.int .i64 c, .int .i64 d] 23 (n := w.heap.size + 1) (by simp)).alloc (.cells #[.int .i64 0, .int .i64 0] 23)
  have BR := Box.new ((w.alloc (.cells #[.int .i64 a, .int .i64 b] 23)).alloc (.cells #[.int .i64 c, .int .i64 d] 23)) #[.int .i64 0, .int .i64 0] 23 (n := w.heap.size + 1 + 1) (by simp)
  have BW : Below w.heap.size w (((w.alloc (.cells #[.int .i64 a, .int .i64 b] 23)).alloc (.cells #[.int .i64 c, .int .i64 d] 23)).alloc (.cells #[.int .i64 0, .int .i64 0] 23)) := by go_grown
  generalize (((w.alloc (.cells #[.int .i64 a, .int .i64 b] 23)).alloc (.cells #[.int .i64 c, .int .i64 d] 23)).alloc (.cells #[.int .i64 0, .int .i64 0] 23)) = u at *
  have la := BA.lt
  have lb := BB.lt
  have HBA := Lib.hid BA
  have HBB := Lib.hid BB
  have lr := BR.lt
  have HBR := Lib.hid BR
  clear BR
  clear BA BB
  have K := Lib.hid (fun (w' : World) (hw : Below u.heap.size u w') => show w'.cell? ⟨w.heap.size, 0, none⟩ = some (.int .i64 a) ∧ w'.cell? ⟨w.heap.size, 1, none⟩ = some (.int .i64 b) ∧ w'.cell? ⟨w.heap.size + 1, 0, none⟩ = some (.int .i64 c) ∧ w'.cell? ⟨w.heap.size + 1, 1, none⟩ = some (.int .i64 d) from ⟨(HBA.out.keep hw).cell 0, (HBA.out.keep hw).cell 1, (HBB.out.keep hw).cell 0, (HBB.out.keep hw).cell 1⟩)
  go_region_held3 (fun w' => w'.cell? ⟨w.heap.size, 0, none⟩ = some (.int .i64 a) ∧ w'.cell? ⟨w.heap.size, 1, none⟩ = some (.int .i64 b) ∧ w'.cell? ⟨w.heap.size + 1, 0, none⟩ = some (.int .i64 c) ∧ w'.cell? ⟨w.heap.size + 1, 1, none⟩ = some (.int .i64 d))
    ((refine K.out _ ?_; go_grown; done))
    (first | (go_at_call 20; refine (CC.out _ _ _ (by first | exact .inl ⟨rfl, rfl⟩ | exact .inr ⟨rfl, rfl⟩)).mono ?_; rintro e w9 ⟨rfl, h9⟩; have hB9 : Below u.heap.size u w9 := below_via (by go_grown) h9; clear h9; have hz9 := hB9.size; obtain ⟨k0, k1, k2, k3⟩ := K.out w9 hB9) | (go_at_call 67; refine (ferr2_any w9.heap.size (chkF a b) (chkF c d) (w9.alloc (.cells #[.int .i64 (chkF a b), .int .i64 (chkF c d)] 25)) (World.cell?_alloc_at _ _ _ 0 rfl) (World.cell?_alloc_at _ _ _ 1 rfl)).mono ?_; rintro e w8 ⟨rfl, rfl⟩))
  all_goals
    have hBv : Below u.heap.size u (w9.alloc (.cells #[.int .i64 (chkF a b), .int .i64 (chkF c d)] 25)) := by go_grown
    have BV : Below w.heap.size w (w9.alloc (.cells #[.int .i64 (chkF a b), .int .i64 (chkF c d)] 25)) := below_via BW hBv
    generalize w9.alloc (.cells #[.int .i64 (chkF a b), .int .i64 (chkF c d)] 25) = v at *
    clear hB9 hz9 k0 k1 k2 k3
    have zv := hBv.size
    obtain ⟨k0, k1, k2, k3⟩ := K.out v hBv
    have HRV := Lib.hid (HBR.out.keep hBv)
    have r0 := HRV.out.cell 0
    have f0 := HRV.out.free 0
    have r1 := HRV.out.cell 1
    have f1 := HRV.out.free 1
    simp at r0 r1
    go_wp2_with fail
    refine (RW.out _).mono ?_
    rintro e w7 ⟨rfl, h7⟩
    have B7 : Below w.heap.size w w7 := below_via (by go_grown) h7
    have z7 := B7.size
    clear r0 r1 f0 f1
    obtain ⟨r0, r1, f0, f1⟩ := (HRV.out.keep h7).two
    have y7 := h7.size
    clear h7
    go_wp2_with fail
    refine bodyPost_ret (v := .tuple #[.agg #[.int .i64 (tiN a b c d), .int .i64 (tiD a b c d)], .int .i64 (tiE a b c d)])
      (by simp [results, Tryd.results17, go_sem, r0, r1, F1.out, F2.out, F3.out]) rfl ⟨rfl, ?_⟩
    go_grown
set_option maxRecDepth 100000 in
set_option maxHeartbeats 1600000 in
theorem ti_any (a b c d : Int) (w : World) (a0 : -9223372036854775808 ≤ a) (a1 : a ≤ 9223372036854775807) (b0 : -9223372036854775808 ≤ b) (b1 : b ≤ 9223372036854775807) (c0 : -9223372036854775808 ≤ c) (c1 : c ≤ 9223372036854775807) (d0 : -9223372036854775808 ≤ d) (d1 : d ≤ 9223372036854775807) :
    Calls Tryd.prog 17 #[.agg #[.int .i64 a, .int .i64 b], .agg #[.int .i64 c, .int .i64 d]] w fun e w' =>
      e = .returned (.tuple #[.agg #[.int .i64 (tiN a b c d), .int .i64 (tiD a b c d)], .int .i64 (tiE a b c d)]) ∧ Below w.heap.size w w' := by
  by_cases h : err2 (chkF a b) (chkF c d) = 0
  · exact ti_ok a b c d w h
  · exact ti_bad a b c d w a0 a1 b0 b1 c0 c1 d0 d1 h
--MORE
end Go.Proofs.YtbagmfnedgjndaaDoor
