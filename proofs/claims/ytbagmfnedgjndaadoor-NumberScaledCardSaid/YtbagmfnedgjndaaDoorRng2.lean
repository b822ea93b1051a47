/-
  The walks of Plus and Meet, and of their references.
-/
import Derived.Test.YtbagmfnedgjndaaDoorRng
namespace Go.Proofs.YtbagmfnedgjndaaDoor
open Go.RowKit

def plE (a b c d : Int) : Int := if err2 (chkR a b) (chkR c d) ≠ 0 then err2 (chkR a b) (chkR c d) else if chkR (a + c) (b + d) ≠ 0 then 8 else 0
def plL (a b c d : Int) : Int := if plE a b c d = 0 then a + c else 0
def plH (a b c d : Int) : Int := if plE a b c d = 0 then b + d else 0
def meE (a b c d : Int) : Int := if err2 (chkR a b) (chkR c d) ≠ 0 then err2 (chkR a b) (chkR c d) else if min b d < max a c then 12 else 0
def meL (a b c d : Int) : Int := if meE a b c d = 0 then max a c else 0
def meH (a b c d : Int) : Int := if meE a b c d = 0 then min b d else 0
theorem chkR_bd {a b : Int} (h : chkR a b = 0) : (-1000000000000000 ≤ a ∧ a ≤ 1000000000000000) ∧ (-1000000000000000 ≤ b ∧ b ≤ 1000000000000000) ∧ a ≤ b := by
  unfold chkR at h
  split at h
  · rename_i h2
    unfold inB at h2; simp at h2
    split at h
    · omega
    · omega
  · omega
theorem err2_zero {c d : Int} (h : err2 c d = 0) : c = 0 ∧ d = 0 := by
  unfold err2 at h; split at h
  · omega
  · omega

set_option maxHeartbeats 1600000 in
theorem plus_bad (a b c d : Int) (w : World) (h : err2 (chkR a b) (chkR c d) ≠ 0) :
    Calls Tryd.prog 47 #[.agg #[.int .i64 a, .int .i64 b], .agg #[.int .i64 c, .int .i64 d]] w fun e w' =>
      e = .returned (.tuple #[.agg #[.int .i64 (plL a b c d), .int .i64 (plH a b c d)], .int .i64 (plE a b c d)]) ∧ Below w.heap.size w w' := by
  have h0 : (err2 (chkR a b) (chkR c d) != 0) = true := by simpa using h
  have f3 : plE a b c d = err2 (chkR a b) (chkR c d) := by unfold plE; rw [if_pos h]
  have F1 := Lib.hid (show plL a b c d = 0 by unfold plL; rw [f3, if_neg h])
  have F2 := Lib.hid (show plH a b c d = 0 by unfold plH; rw [f3, if_neg h])
  have F3 := Lib.hid f3
  clear f3 h
  go_enter Tryd.func47, Tryd.ntmps47
  go_wp2_with fail
  have BA := (Box.new w #[.int .i64 a, .int .i64 b] 37 rfl).alloc (.cells #[.int .i64 c, .int .i64 d] 37) |>.alloc (.cells #[.int .i64 0, .int .i64 0] 37)
  have BB := (Box.new (w.alloc (.cells #[.int .i64 a, .int .i64 b] 37)) #[.int .i64 c, .int .i64 d] 37 (n := w.heap.size + 1) (by simp)).alloc (.cells #[.int .i64 0, .int .i64 0] 37)
  have BR := Box.new ((w.alloc (.cells #[.int .i64 a, .int .i64 b] 37)).alloc (.cells #[.int .i64 c, .int .i64 d] 37)) #[.int .i64 0, .int .i64 0] 37 (n := w.heap.size + 1 + 1) (by simp)
  have BW : Below w.heap.size w (((w.alloc (.cells #[.int .i64 a, .int .i64 b] 37)).alloc (.cells #[.int .i64 c, .int .i64 d] 37)).alloc (.cells #[.int .i64 0, .int .i64 0] 37)) := by go_grown
  generalize (((w.alloc (.cells #[.int .i64 a, .int .i64 b] 37)).alloc (.cells #[.int .i64 c, .int .i64 d] 37)).alloc (.cells #[.int .i64 0, .int .i64 0] 37)) = u at *
  have la := BA.lt
  have lb := BB.lt
  have HBA := Lib.hid BA
  have HBB := Lib.hid BB
  have lr := BR.lt
  have HBR := Lib.hid BR
  clear BR
  clear BA BB
  have K := Lib.hid (fun (w' : World) (hw : Below u.heap.size u w') => show w'.cell? ⟨w.heap.size, 0, none⟩ = some (.int .i64 a) ∧ w'.cell? ⟨w.heap.size, 1, none⟩ = some (.int .i64 b) ∧ w'.cell? ⟨w.heap.size + 1, 0, none⟩ = some (.int .i64 c) ∧ w'.cell? ⟨w.heap.size + 1, 1, none⟩ = some (.int .i64 d) from ⟨(HBA.out.keep hw).cell 0, (HBA.out.keep hw).cell 1, (HBB.out.keep hw).cell 0, (HBB.out.keep hw).cell 1⟩)
  go_region_held3 (fun w' => w'.cell? ⟨w.heap.size, 0, none⟩ = some (.int .i64 a) ∧ w'.cell? ⟨w.heap.size, 1, none⟩ = some (.int .i64 b) ∧ w'.cell? ⟨w.heap.size + 1, 0, none⟩ = some (.int .i64 c) ∧ w'.cell? ⟨w.heap.size + 1, 1, none⟩ = some (.int .i64 d))
    ((refine K.out _ ?_; go_grown; done))
    (first | (go_at_call 49; refine (chkR_any _ _ _).mono ?_; rintro e w9 ⟨rfl, h9⟩; have hB9 : Below u.heap.size u w9 := below_via (by go_grown) h9; clear h9; have hz9 := hB9.size; obtain ⟨k0, k1, k2, k3⟩ := K.out w9 hB9) | (go_at_call 67; refine (ferr2_any w9.heap.size (chkR a b) (chkR c d) (w9.alloc (.cells #[.int .i64 (chkR a b), .int .i64 (chkR c d)] 25)) (World.cell?_alloc_at _ _ _ 0 rfl) (World.cell?_alloc_at _ _ _ 1 rfl)).mono ?_; rintro e w8 ⟨rfl, rfl⟩))
  all_goals
    have hBv : Below u.heap.size u (w9.alloc (.cells #[.int .i64 (chkR a b), .int .i64 (chkR c d)] 25)) := by go_grown
    have BV : Below w.heap.size w (w9.alloc (.cells #[.int .i64 (chkR a b), .int .i64 (chkR c d)] 25)) := below_via BW hBv
    generalize w9.alloc (.cells #[.int .i64 (chkR a b), .int .i64 (chkR c d)] 25) = v at *
    clear hB9 hz9 k0 k1 k2 k3
    have zv := hBv.size
    obtain ⟨k0, k1, k2, k3⟩ := K.out v hBv
    have HRV := Lib.hid (HBR.out.keep hBv)
    have r0 := HRV.out.cell 0
    have f0 := HRV.out.free 0
    have r1 := HRV.out.cell 1
    have f1 := HRV.out.free 1
    simp at r0 r1
    go_wp2_with fail
    refine bodyPost_ret (v := .tuple #[.agg #[.int .i64 (plL a b c d), .int .i64 (plH a b c d)], .int .i64 (plE a b c d)])
      (by simp [results, Tryd.results47, go_sem, r0, r1, F1.out, F2.out, F3.out]) rfl ⟨rfl, ?_⟩
    go_grown
set_option maxHeartbeats 1600000 in
theorem plus_ok (a b c d : Int) (w : World) (h : err2 (chkR a b) (chkR c d) = 0) (hs : (chkR (a + c) (b + d) = 0)) :
    Calls Tryd.prog 47 #[.agg #[.int .i64 a, .int .i64 b], .agg #[.int .i64 c, .int .i64 d]] w fun e w' =>
      e = .returned (.tuple #[.agg #[.int .i64 (plL a b c d), .int .i64 (plH a b c d)], .int .i64 (plE a b c d)]) ∧ Below w.heap.size w w' := by
  have h0 : (err2 (chkR a b) (chkR c d) != 0) = false := by simpa using h
  obtain ⟨⟨x0, x1⟩, ⟨x2, x3⟩, _⟩ := chkR_bd (err2_zero h).1
  obtain ⟨⟨y0, y1⟩, ⟨y2, y3⟩, _⟩ := chkR_bd (err2_zero h).2
  have f3 : plE a b c d = 0 := by unfold plE; rw [if_neg (by omega)]; simp [hs]
  have F1 := Lib.hid (show plL a b c d = a + c by unfold plL; rw [f3]; simp; try omega)
  have F2 := Lib.hid (show plH a b c d = b + d by unfold plH; rw [f3]; simp; try omega)
  have F3 := Lib.hid f3
  have hs' : (chkR (a + c) (b + d) != 0) = false := by simpa using hs
  clear f3 h hs
  go_enter Tryd.func47, Tryd.ntmps47
  go_wp2_with fail
  have BA := (Box.new w #[.int .i64 a, .int .i64 b] 37 rfl).alloc (.cells #[.int .i64 c, .int .i64 d] 37) |>.alloc (.cells #[.int .i64 0, .int .i64 0] 37)
  have BB := (Box.new (w.alloc (.cells #[.int .i64 a, .int .i64 b] 37)) #[.int .i64 c, .int .i64 d] 37 (n := w.heap.size + 1) (by simp)).alloc (.cells #[.int .i64 0, .int .i64 0] 37)
  have BR := Box.new ((w.alloc (.cells #[.int .i64 a, .int .i64 b] 37)).alloc (.cells #[.int .i64 c, .int .i64 d] 37)) #[.int .i64 0, .int .i64 0] 37 (n := w.heap.size + 1 + 1) (by simp)
  have BW : Below w.heap.size w (((w.alloc (.cells #[.int .i64 a, .int .i64 b] 37)).alloc (.cells #[.int .i64 c, .int .i64 d] 37)).alloc (.cells #[.int .i64 0, .int .i64 0] 37)) := by go_grown
  generalize (((w.alloc (.cells #[.int .i64 a, .int .i64 b] 37)).alloc (.cells #[.int .i64 c, .int .i64 d] 37)).alloc (.cells #[.int .i64 0, .int .i64 0] 37)) = u at *
  have la := BA.lt
  have lb := BB.lt
  have HBA := Lib.hid BA
  have HBB := Lib.hid BB
  have lr := BR.lt
  have HBR := Lib.hid BR
  clear BR
  clear BA BB
  have K := Lib.hid (fun (w' : World) (hw : Below u.heap.size u w') => show w'.cell? ⟨w.heap.size, 0, none⟩ = some (.int .i64 a) ∧ w'.cell? ⟨w.heap.size, 1, none⟩ = some (.int .i64 b) ∧ w'.cell? ⟨w.heap.size + 1, 0, none⟩ = some (.int .i64 c) ∧ w'.cell? ⟨w.heap.size + 1, 1, none⟩ = some (.int .i64 d) from ⟨(HBA.out.keep hw).cell 0, (HBA.out.keep hw).cell 1, (HBB.out.keep hw).cell 0, (HBB.out.keep hw).cell 1⟩)
  go_region_held3 (fun w' => w'.cell? ⟨w.heap.size, 0, none⟩ = some (.int .i64 a) ∧ w'.cell? ⟨w.heap.size, 1, none⟩ = some (.int .i64 b) ∧ w'.cell? ⟨w.heap.size + 1, 0, none⟩ = some (.int .i64 c) ∧ w'.cell? ⟨w.heap.size + 1, 1, none⟩ = some (.int .i64 d))
    ((refine K.out _ ?_; go_grown; done))
    (first | (go_at_call 49; refine (chkR_any _ _ _).mono ?_; rintro e w9 ⟨rfl, h9⟩; have hB9 : Below u.heap.size u w9 := below_via (by go_grown) h9; clear h9; have hz9 := hB9.size; obtain ⟨k0, k1, k2, k3⟩ := K.out w9 hB9) | (go_at_call 67; refine (ferr2_any w9.heap.size (chkR a b) (chkR c d) (w9.alloc (.cells #[.int .i64 (chkR a b), .int .i64 (chkR c d)] 25)) (World.cell?_alloc_at _ _ _ 0 rfl) (World.cell?_alloc_at _ _ _ 1 rfl)).mono ?_; rintro e w8 ⟨rfl, rfl⟩))
  all_goals
    have hBv : Below u.heap.size u (w9.alloc (.cells #[.int .i64 (chkR a b), .int .i64 (chkR c d)] 25)) := by go_grown
    have BV : Below w.heap.size w (w9.alloc (.cells #[.int .i64 (chkR a b), .int .i64 (chkR c d)] 25)) := below_via BW hBv
    generalize w9.alloc (.cells #[.int .i64 (chkR a b), .int .i64 (chkR c d)] 25) = v at *
    clear hB9 hz9 k0 k1 k2 k3
    have zv := hBv.size
    obtain ⟨k0, k1, k2, k3⟩ := K.out v hBv
    have HRV := Lib.hid (HBR.out.keep hBv)
    have r0 := HRV.out.cell 0
    have f0 := HRV.out.free 0
    have r1 := HRV.out.cell 1
    have f1 := HRV.out.free 1
    simp at r0 r1
    go_wp2_with fail
    refine (chkR_any _ _ _).mono ?_
    rintro e w7 ⟨rfl, h7⟩
    have B7 : Below w.heap.size w w7 := below_via (by go_grown) h7
    have z7 := B7.size
    obtain ⟨n0, n1, _, _⟩ := ((Box.new v #[.int .i64 (a + c), .int .i64 (b + d)] 37 rfl).keep h7).two
    clear r0 r1 f0 f1
    obtain ⟨r0, r1, f0, f1⟩ := ((HRV.out.alloc _).keep h7).two
    clear h7
    go_wp2_with fail
    refine bodyPost_ret (v := .tuple #[.agg #[.int .i64 (plL a b c d), .int .i64 (plH a b c d)], .int .i64 (plE a b c d)])
      (by simp [results, Tryd.results47, go_sem, r0, r1, F1.out, F2.out, F3.out]) rfl ⟨rfl, ?_⟩
    go_grown
set_option maxHeartbeats 1600000 in
theorem plus_no (a b c d : Int) (w : World) (h : err2 (chkR a b) (chkR c d) = 0) (hs : ¬ (chkR (a + c) (b + d) = 0)) :
    Calls Tryd.prog 47 #[.agg #[.int .i64 a, .int .i64 b], .agg #[.int .i64 c, .int .i64 d]] w fun e w' =>
      e = .returned (.tuple #[.agg #[.int .i64 (plL a b c d), .int .i64 (plH a b c d)], .int .i64 (plE a b c d)]) ∧ Below w.heap.size w w' := by
  have h0 : (err2 (chkR a b) (chkR c d) != 0) = false := by simpa using h
  obtain ⟨⟨x0, x1⟩, ⟨x2, x3⟩, _⟩ := chkR_bd (err2_zero h).1
  obtain ⟨⟨y0, y1⟩, ⟨y2, y3⟩, _⟩ := chkR_bd (err2_zero h).2
  have f3 : plE a b c d = 8 := by unfold plE; rw [if_neg (by omega)]; simp [hs]
  have F1 := Lib.hid (show plL a b c d = 0 by unfold plL; rw [f3]; rfl)
  have F2 := Lib.hid (show plH a b c d = 0 by unfold plH; rw [f3]; rfl)
  have F3 := Lib.hid f3
  have hs' : (chkR (a + c) (b + d) != 0) = true := by simpa using hs
  clear f3 h hs
  go_enter Tryd.func47, Tryd.ntmps47
  go_wp2_with fail
  have BA := (Box.new w #[.int .i64 a, .int .i64 b] 37 rfl).alloc (.cells #[.int .i64 c, .int .i64 d] 37) |>.alloc (.cells #[.int .i64 0, .int .i64 0] 37)
  have BB := (Box.new (w.alloc (.cells #[.int .i64 a, .int .i64 b] 37)) #[.int .i64 c, .int .i64 d] 37 (n := w.heap.size + 1) (by simp)).alloc (.cells #[.int .i64 0, .int .i64 0] 37)
  have BR := Box.new ((w.alloc (.cells #[.int .i64 a, .int .i64 b] 37)).alloc (.cells #[.int .i64 c, .int .i64 d] 37)) #[.int .i64 0, .int .i64 0] 37 (n := w.heap.size + 1 + 1) (by simp)
  have BW : Below w.heap.size w (((w.alloc (.cells #[.int .i64 a, .int .i64 b] 37)).alloc (.cells #[.int .i64 c, .int .i64 d] 37)).alloc (.cells #[.int .i64 0, .int .i64 0] 37)) := by go_grown
  generalize (((w.alloc (.cells #[.int .i64 a, .int .i64 b] 37)).alloc (.cells #[.int .i64 c, .int .i64 d] 37)).alloc (.cells #[.int .i64 0, .int .i64 0] 37)) = u at *
  have la := BA.lt
  have lb := BB.lt
  have HBA := Lib.hid BA
  have HBB := Lib.hid BB
  have lr := BR.lt
  have HBR := Lib.hid BR
  clear BR
  clear BA BB
  have K := Lib.hid (fun (w' : World) (hw : Below u.heap.size u w') => show w'.cell? ⟨w.heap.size, 0, none⟩ = some (.int .i64 a) ∧ w'.cell? ⟨w.heap.size, 1, none⟩ = some (.int .i64 b) ∧ w'.cell? ⟨w.heap.size + 1, 0, none⟩ = some (.int .i64 c) ∧ w'.cell? ⟨w.heap.size + 1, 1, none⟩ = some (.int .i64 d) from ⟨(HBA.out.keep hw).cell 0, (HBA.out.keep hw).cell 1, (HBB.out.keep hw).cell 0, (HBB.out.keep hw).cell 1⟩)
  go_region_held3 (fun w' => w'.cell? ⟨w.heap.size, 0, none⟩ = some (.int .i64 a) ∧ w'.cell? ⟨w.heap.size, 1, none⟩ = some (.int .i64 b) ∧ w'.cell? ⟨w.heap.size + 1, 0, none⟩ = some (.int .i64 c) ∧ w'.cell? ⟨w.heap.size + 1, 1, none⟩ = some (.int .i64 d))
    ((refine K.out _ ?_; go_grown; done))
    (first | (go_at_call 49; refine (chkR_any _ _ _).mono ?_; rintro e w9 ⟨rfl, h9⟩; have hB9 : Below u.heap.size u w9 := below_via (by go_grown) h9; clear h9; have hz9 := hB9.size; obtain ⟨k0, k1, k2, k3⟩ := K.out w9 hB9) | (go_at_call 67; refine (ferr2_any w9.heap.size (chkR a b) (chkR c d) (w9.alloc (.cells #[.int .i64 (chkR a b), .int .i64 (chkR c d)] 25)) (World.cell?_alloc_at _ _ _ 0 rfl) (World.cell?_alloc_at _ _ _ 1 rfl)).mono ?_; rintro e w8 ⟨rfl, rfl⟩))
  all_goals
    have hBv : Below u.heap.size u (w9.alloc (.cells #[.int .i64 (chkR a b), .int .i64 (chkR c d)] 25)) := by go_grown
    have BV : Below w.heap.size w (w9.alloc (.cells #[.int .i64 (chkR a b), .int .i64 (chkR c d)] 25)) := below_via BW hBv
    generalize w9.alloc (.cells #[.int .i64 (chkR a b), .int .i64 (chkR c d)] 25) = v at *
    clear hB9 hz9 k0 k1 k2 k3
    have zv := hBv.size
    obtain ⟨k0, k1, k2, k3⟩ := K.out v hBv
    have HRV := Lib.hid (HBR.out.keep hBv)
    have r0 := HRV.out.cell 0
    have f0 := HRV.out.free 0
    have r1 := HRV.out.cell 1
    have f1 := HRV.out.free 1
    simp at r0 r1
    go_wp2_with fail
    refine (chkR_any _ _ _).mono ?_
    rintro e w7 ⟨rfl, h7⟩
    have B7 : Below w.heap.size w w7 := below_via (by go_grown) h7
    have z7 := B7.size
    obtain ⟨n0, n1, _, _⟩ := ((Box.new v #[.int .i64 (a + c), .int .i64 (b + d)] 37 rfl).keep h7).two
    clear r0 r1 f0 f1
    obtain ⟨r0, r1, f0, f1⟩ := ((HRV.out.alloc _).keep h7).two
    clear h7
    go_wp2_with fail
    refine bodyPost_ret (v := .tuple #[.agg #[.int .i64 (plL a b c d), .int .i64 (plH a b c d)], .int .i64 (plE a b c d)])
      (by simp [results, Tryd.results47, go_sem, r0, r1, F1.out, F2.out, F3.out]) rfl ⟨rfl, ?_⟩
    go_grown
theorem plus_any (a b c d : Int) (w : World) :
    Calls Tryd.prog 47 #[.agg #[.int .i64 a, .int .i64 b], .agg #[.int .i64 c, .int .i64 d]] w fun e w' =>
      e = .returned (.tuple #[.agg #[.int .i64 (plL a b c d), .int .i64 (plH a b c d)], .int .i64 (plE a b c d)]) ∧ Below w.heap.size w w' := by
  by_cases h : err2 (chkR a b) (chkR c d) = 0
  · by_cases hs : chkR (a + c) (b + d) = 0
    · exact plus_ok a b c d w h hs
    · exact plus_no a b c d w h hs
  · exact plus_bad a b c d w h
set_option maxHeartbeats 1600000 in
theorem meet_bad (a b c d : Int) (w : World) (h : err2 (chkR a b) (chkR c d) ≠ 0) :
    Calls Tryd.prog 48 #[.agg #[.int .i64 a, .int .i64 b], .agg #[.int .i64 c, .int .i64 d]] w fun e w' =>
      e = .returned (.tuple #[.agg #[.int .i64 (meL a b c d), .int .i64 (meH a b c d)], .int .i64 (meE a b c d)]) ∧ Below w.heap.size w w' := by
  have h0 : (err2 (chkR a b) (chkR c d) != 0) = true := by simpa using h
  have f3 : meE a b c d = err2 (chkR a b) (chkR c d) := by unfold meE; rw [if_pos h]
  have F1 := Lib.hid (show meL a b c d = 0 by unfold meL; rw [f3, if_neg h])
  have F2 := Lib.hid (show meH a b c d = 0 by unfold meH; rw [f3, if_neg h])
  have F3 := Lib.hid f3
  clear f3 h
  go_enter Tryd.func48, Tryd.ntmps48
  go_wp2_with fail
  have BA := (Box.new w #[.int .i64 a, .int .i64 b] 37 rfl).alloc (.cells #[.int .i64 c, .int .i64 d] 37) |>.alloc (.cells #[.int .i64 0, .int .i64 0] 37)
  have BB := (Box.new (w.alloc (.cells #[.int .i64 a, .int .i64 b] 37)) #[.int .i64 c, .int .i64 d] 37 (n := w.heap.size + 1) (by simp)).alloc (.cells #[.int .i64 0, .int .i64 0] 37)
  have BR := Box.new ((w.alloc (.cells #[.int .i64 a, .int .i64 b] 37)).alloc (.cells #[.int .i64 c, .int .i64 d] 37)) #[.int .i64 0, .int .i64 0] 37 (n := w.heap.size + 1 + 1) (by simp)
  have BW : Below w.heap.size w (((w.alloc (.cells #[.int .i64 a, .int .i64 b] 37)).alloc (.cells #[.int .i64 c, .int .i64 d] 37)).alloc (.cells #[.int .i64 0, .int .i64 0] 37)) := by go_grown
  generalize (((w.alloc (.cells #[.int .i64 a, .int .i64 b] 37)).alloc (.cells #[.int .i64 c, .int .i64 d] 37)).alloc (.cells #[.int .i64 0, .int .i64 0] 37)) = u at *
  have la := BA.lt
  have lb := BB.lt
  have HBA := Lib.hid BA
  have HBB := Lib.hid BB
  have lr := BR.lt
  have HBR := Lib.hid BR
  clear BR
  clear BA BB
  have K := Lib.hid (fun (w' : World) (hw : Below u.heap.size u w') => show w'.cell? ⟨w.heap.size, 0, none⟩ = some (.int .i64 a) ∧ w'.cell? ⟨w.heap.size, 1, none⟩ = some (.int .i64 b) ∧ w'.cell? ⟨w.heap.size + 1, 0, none⟩ = some (.int .i64 c) ∧ w'.cell? ⟨w.heap.size + 1, 1, none⟩ = some (.int .i64 d) from ⟨(HBA.out.keep hw).cell 0, (HBA.out.keep hw).cell 1, (HBB.out.keep hw).cell 0, (HBB.out.keep hw).cell 1⟩)
  go_region_held3 (fun w' => w'.cell? ⟨w.heap.size, 0, none⟩ = some (.int .i64 a) ∧ w'.cell? ⟨w.heap.size, 1, none⟩ = some (.int .i64 b) ∧ w'.cell? ⟨w.heap.size + 1, 0, none⟩ = some (.int .i64 c) ∧ w'.cell? ⟨w.heap.size + 1, 1, none⟩ = some (.int .i64 d))
    ((refine K.out _ ?_; go_grown; done))
    (first | (go_at_call 49; refine (chkR_any _ _ _).mono ?_; rintro e w9 ⟨rfl, h9⟩; have hB9 : Below u.heap.size u w9 := below_via (by go_grown) h9; clear h9; have hz9 := hB9.size; obtain ⟨k0, k1, k2, k3⟩ := K.out w9 hB9) | (go_at_call 67; refine (ferr2_any w9.heap.size (chkR a b) (chkR c d) (w9.alloc (.cells #[.int .i64 (chkR a b), .int .i64 (chkR c d)] 25)) (World.cell?_alloc_at _ _ _ 0 rfl) (World.cell?_alloc_at _ _ _ 1 rfl)).mono ?_; rintro e w8 ⟨rfl, rfl⟩))
  all_goals
    have hBv : Below u.heap.size u (w9.alloc (.cells #[.int .i64 (chkR a b), .int .i64 (chkR c d)] 25)) := by go_grown
    have BV : Below w.heap.size w (w9.alloc (.cells #[.int .i64 (chkR a b), .int .i64 (chkR c d)] 25)) := below_via BW hBv
    generalize w9.alloc (.cells #[.int .i64 (chkR a b), .int .i64 (chkR c d)] 25) = v at *
    clear hB9 hz9 k0 k1 k2 k3
    have zv := hBv.size
    obtain ⟨k0, k1, k2, k3⟩ := K.out v hBv
    have HRV := Lib.hid (HBR.out.keep hBv)
    have r0 := HRV.out.cell 0
    have f0 := HRV.out.free 0
    have r1 := HRV.out.cell 1
    have f1 := HRV.out.free 1
    simp at r0 r1
    go_wp2_with fail
    refine bodyPost_ret (v := .tuple #[.agg #[.int .i64 (meL a b c d), .int .i64 (meH a b c d)], .int .i64 (meE a b c d)])
      (by simp [results, Tryd.results48, go_sem, r0, r1, F1.out, F2.out, F3.out]) rfl ⟨rfl, ?_⟩
    go_grown
set_option maxHeartbeats 1600000 in
theorem meet_ok1 (a b c d : Int) (w : World) (hm1 : a < c) (hm2 : b ≤ d) (h : err2 (chkR a b) (chkR c d) = 0) (hs : (¬ b < c)) :
    Calls Tryd.prog 48 #[.agg #[.int .i64 a, .int .i64 b], .agg #[.int .i64 c, .int .i64 d]] w fun e w' =>
      e = .returned (.tuple #[.agg #[.int .i64 (meL a b c d), .int .i64 (meH a b c d)], .int .i64 (meE a b c d)]) ∧ Below w.heap.size w w' := by
  have h0 : (err2 (chkR a b) (chkR c d) != 0) = false := by simpa using h
  obtain ⟨⟨x0, x1⟩, ⟨x2, x3⟩, _⟩ := chkR_bd (err2_zero h).1
  obtain ⟨⟨y0, y1⟩, ⟨y2, y3⟩, _⟩ := chkR_bd (err2_zero h).2
  have f3 : meE a b c d = 0 := by unfold meE; rw [if_neg (by omega), if_neg (by omega)]
  have F1 := Lib.hid (show meL a b c d = c by unfold meL; rw [f3]; simp; try omega)
  have F2 := Lib.hid (show meH a b c d = b by unfold meH; rw [f3]; simp; try omega)
  have F3 := Lib.hid f3
  clear f3 h
  go_enter Tryd.func48, Tryd.ntmps48
  go_wp2_with fail
  have BA := (Box.new w #[.int .i64 a, .int .i64 b] 37 rfl).alloc (.cells #[.int .i64 c, .int .i64 d] 37) |>.alloc (.cells #[.int .i64 0, .int .i64 0] 37)
  have BB := (Box.new (w.alloc (.cells #[.int .i64 a, .int .i64 b] 37)) #[.int .i64 c, .int .i64 d] 37 (n := w.heap.size + 1) (by simp)).alloc (.cells #[.int .i64 0, .int .i64 0] 37)
  have BR := Box.new ((w.alloc (.cells #[.int .i64 a, .int .i64 b] 37)).alloc (.cells #[.int .i64 c, .int .i64 d] 37)) #[.int .i64 0, .int .i64 0] 37 (n := w.heap.size + 1 + 1) (by simp)
  have BW : Below w.heap.size w (((w.alloc (.cells #[.int .i64 a, .int .i64 b] 37)).alloc (.cells #[.int .i64 c, .int .i64 d] 37)).alloc (.cells #[.int .i64 0, .int .i64 0] 37)) := by go_grown
  generalize (((w.alloc (.cells #[.int .i64 a, .int .i64 b] 37)).alloc (.cells #[.int .i64 c, .int .i64 d] 37)).alloc (.cells #[.int .i64 0, .int .i64 0] 37)) = u at *
  have la := BA.lt
  have lb := BB.lt
  have HBA := Lib.hid BA
  have HBB := Lib.hid BB
  have lr := BR.lt
  have HBR := Lib.hid BR
  clear BR
  clear BA BB
  have K := Lib.hid (fun (w' : World) (hw : Below u.heap.size u w') => show w'.cell? ⟨w.heap.size, 0, none⟩ = some (.int .i64 a) ∧ w'.cell? ⟨w.heap.size, 1, none⟩ = some (.int .i64 b) ∧ w'.cell? ⟨w.heap.size + 1, 0, none⟩ = some (.int .i64 c) ∧ w'.cell? ⟨w.heap.size + 1, 1, none⟩ = some (.int .i64 d) from ⟨(HBA.out.keep hw).cell 0, (HBA.out.keep hw).cell 1, (HBB.out.keep hw).cell 0, (HBB.out.keep hw).cell 1⟩)
  go_region_held3 (fun w' => w'.cell? ⟨w.heap.size, 0, none⟩ = some (.int .i64 a) ∧ w'.cell? ⟨w.heap.size, 1, none⟩ = some (.int .i64 b) ∧ w'.cell? ⟨w.heap.size + 1, 0, none⟩ = some (.int .i64 c) ∧ w'.cell? ⟨w.heap.size + 1, 1, none⟩ = some (.int .i64 d))
    ((refine K.out _ ?_; go_grown; done))
    (first | (go_at_call 49; refine (chkR_any _ _ _).mono ?_; rintro e w9 ⟨rfl, h9⟩; have hB9 : Below u.heap.size u w9 := below_via (by go_grown) h9; clear h9; have hz9 := hB9.size; obtain ⟨k0, k1, k2, k3⟩ := K.out w9 hB9) | (go_at_call 67; refine (ferr2_any w9.heap.size (chkR a b) (chkR c d) (w9.alloc (.cells #[.int .i64 (chkR a b), .int .i64 (chkR c d)] 25)) (World.cell?_alloc_at _ _ _ 0 rfl) (World.cell?_alloc_at _ _ _ 1 rfl)).mono ?_; rintro e w8 ⟨rfl, rfl⟩))
  all_goals
    have hBv : Below u.heap.size u (w9.alloc (.cells #[.int .i64 (chkR a b), .int .i64 (chkR c d)] 25)) := by go_grown
    have BV : Below w.heap.size w (w9.alloc (.cells #[.int .i64 (chkR a b), .int .i64 (chkR c d)] 25)) := below_via BW hBv
    generalize w9.alloc (.cells #[.int .i64 (chkR a b), .int .i64 (chkR c d)] 25) = v at *
    clear hB9 hz9 k0 k1 k2 k3
    have zv := hBv.size
    obtain ⟨k0, k1, k2, k3⟩ := K.out v hBv
    have HRV := Lib.hid (HBR.out.keep hBv)
    have r0 := HRV.out.cell 0
    have f0 := HRV.out.free 0
    have r1 := HRV.out.cell 1
    have f1 := HRV.out.free 1
    simp at r0 r1
    have lv := HRV.out.lt
    have zb := BV.size
    have ra0 : ∀ x y o, (((v.setCell ⟨w.heap.size + 1 + 1, 0, none⟩ x).setCell ⟨w.heap.size + 1 + 1, 1, none⟩ y).alloc o).cell? ⟨w.heap.size + 1 + 1, 0, none⟩ = some x := fun x y o => (((HRV.out.set 0 x).set 1 y).alloc o).cell 0
    have ra1 : ∀ x y o, (((v.setCell ⟨w.heap.size + 1 + 1, 0, none⟩ x).setCell ⟨w.heap.size + 1 + 1, 1, none⟩ y).alloc o).cell? ⟨w.heap.size + 1 + 1, 1, none⟩ = some y := fun x y o => (((HRV.out.set 0 x).set 1 y).alloc o).cell 1
    go_wp2_with fail
    refine bodyPost_ret (v := .tuple #[.agg #[.int .i64 (meL a b c d), .int .i64 (meH a b c d)], .int .i64 (meE a b c d)])
      (by simp [results, Tryd.results48, go_sem, r0, r1, ra0, ra1, F1.out, F2.out, F3.out]) rfl ⟨rfl, ?_⟩
    go_grown
set_option maxHeartbeats 1600000 in
theorem meet_no1 (a b c d : Int) (w : World) (hm1 : a < c) (hm2 : b ≤ d) (h : err2 (chkR a b) (chkR c d) = 0) (hs : ¬ (¬ b < c)) :
    Calls Tryd.prog 48 #[.agg #[.int .i64 a, .int .i64 b], .agg #[.int .i64 c, .int .i64 d]] w fun e w' =>
      e = .returned (.tuple #[.agg #[.int .i64 (meL a b c d), .int .i64 (meH a b c d)], .int .i64 (meE a b c d)]) ∧ Below w.heap.size w w' := by
  have h0 : (err2 (chkR a b) (chkR c d) != 0) = false := by simpa using h
  obtain ⟨⟨x0, x1⟩, ⟨x2, x3⟩, _⟩ := chkR_bd (err2_zero h).1
  obtain ⟨⟨y0, y1⟩, ⟨y2, y3⟩, _⟩ := chkR_bd (err2_zero h).2
  have f3 : meE a b c d = 12 := by unfold meE; rw [if_neg (by omega), if_pos (by omega)]
  have F1 := Lib.hid (show meL a b c d = 0 by unfold meL; rw [f3]; rfl)
  have F2 := Lib.hid (show meH a b c d = 0 by unfold meH; rw [f3]; rfl)
  have F3 := Lib.hid f3
  clear f3 h
  go_enter Tryd.func48, Tryd.ntmps48
  go_wp2_with fail
  have BA := (Box.new w #[.int .i64 a, .int .i64 b] 37 rfl).alloc (.cells #[.int .i64 c, .int .i64 d] 37) |>.alloc (.cells #[.int .i64 0, .int .i64 0] 37)
  have BB := (Box.new (w.alloc (.cells #[.int .i64 a, .int .i64 b] 37)) #[.int .i64 c, .int .i64 d] 37 (n := w.heap.size + 1) (by simp)).alloc (.cells #[.int .i64 0, .int .i64 0] 37)
  have BR := Box.new ((w.alloc (.cells #[.int .i64 a, .int .i64 b] 37)).alloc (.cells #[.int .i64 c, .int .i64 d] 37)) #[.int .i64 0, .int .i64 0] 37 (n := w.heap.size + 1 + 1) (by simp)
  have BW : Below w.heap.size w (((w.alloc (.cells #[.int .i64 a, .int .i64 b] 37)).alloc (.cells #[.int .i64 c, .int .i64 d] 37)).alloc (.cells #[.int .i64 0, .int .i64 0] 37)) := by go_grown
  generalize (((w.alloc (.cells #[.int .i64 a, .int .i64 b] 37)).alloc (.cells #[.int .i64 c, .int .i64 d] 37)).alloc (.cells #[.int .i64 0, .int .i64 0] 37)) = u at *
  have la := BA.lt
  have lb := BB.lt
  have HBA := Lib.hid BA
  have HBB := Lib.hid BB
  have lr := BR.lt
  have HBR := Lib.hid BR
  clear BR
  clear BA BB
  have K := Lib.hid (fun (w' : World) (hw : Below u.heap.size u w') => show w'.cell? ⟨w.heap.size, 0, none⟩ = some (.int .i64 a) ∧ w'.cell? ⟨w.heap.size, 1, none⟩ = some (.int .i64 b) ∧ w'.cell? ⟨w.heap.size + 1, 0, none⟩ = some (.int .i64 c) ∧ w'.cell? ⟨w.heap.size + 1, 1, none⟩ = some (.int .i64 d) from ⟨(HBA.out.keep hw).cell 0, (HBA.out.keep hw).cell 1, (HBB.out.keep hw).cell 0, (HBB.out.keep hw).cell 1⟩)
  go_region_held3 (fun w' => w'.cell? ⟨w.heap.size, 0, none⟩ = some (.int .i64 a) ∧ w'.cell? ⟨w.heap.size, 1, none⟩ = some (.int .i64 b) ∧ w'.cell? ⟨w.heap.size + 1, 0, none⟩ = some (.int .i64 c) ∧ w'.cell? ⟨w.heap.size + 1, 1, none⟩ = some (.int .i64 d))
    ((refine K.out _ ?_; go_grown; done))
    (first | (go_at_call 49; refine (chkR_any _ _ _).mono ?_; rintro e w9 ⟨rfl, h9⟩; have hB9 : Below u.heap.size u w9 := below_via (by go_grown) h9; clear h9; have hz9 := hB9.size; obtain ⟨k0, k1, k2, k3⟩ := K.out w9 hB9) | (go_at_call 67; refine (ferr2_any w9.heap.size (chkR a b) (chkR c d) (w9.alloc (.cells #[.int .i64 (chkR a b), .int .i64 (chkR c d)] 25)) (World.cell?_alloc_at _ _ _ 0 rfl) (World.cell?_alloc_at _ _ _ 1 rfl)).mono ?_; rintro e w8 ⟨rfl, rfl⟩))
  all_goals
    have hBv : Below u.heap.size u (w9.alloc (.cells #[.int .i64 (chkR a b), .int .i64 (chkR c d)] 25)) := by go_grown
    have BV : Below w.heap.size w (w9.alloc (.cells #[.int .i64 (chkR a b), .int .i64 (chkR c d)] 25)) := below_via BW hBv
    generalize w9.alloc (.cells #[.int .i64 (chkR a b), .int .i64 (chkR c d)] 25) = v at *
    clear hB9 hz9 k0 k1 k2 k3
    have zv := hBv.size
    obtain ⟨k0, k1, k2, k3⟩ := K.out v hBv
    have HRV := Lib.hid (HBR.out.keep hBv)
    have r0 := HRV.out.cell 0
    have f0 := HRV.out.free 0
    have r1 := HRV.out.cell 1
    have f1 := HRV.out.free 1
    simp at r0 r1
    have lv := HRV.out.lt
    have zb := BV.size
    have ra0 : ∀ x y o, (((v.setCell ⟨w.heap.size + 1 + 1, 0, none⟩ x).setCell ⟨w.heap.size + 1 + 1, 1, none⟩ y).alloc o).cell? ⟨w.heap.size + 1 + 1, 0, none⟩ = some x := fun x y o => (((HRV.out.set 0 x).set 1 y).alloc o).cell 0
    have ra1 : ∀ x y o, (((v.setCell ⟨w.heap.size + 1 + 1, 0, none⟩ x).setCell ⟨w.heap.size + 1 + 1, 1, none⟩ y).alloc o).cell? ⟨w.heap.size + 1 + 1, 1, none⟩ = some y := fun x y o => (((HRV.out.set 0 x).set 1 y).alloc o).cell 1
    go_wp2_with fail
    refine bodyPost_ret (v := .tuple #[.agg #[.int .i64 (meL a b c d), .int .i64 (meH a b c d)], .int .i64 (meE a b c d)])
      (by simp [results, Tryd.results48, go_sem, r0, r1, ra0, ra1, F1.out, F2.out, F3.out]) rfl ⟨rfl, ?_⟩
    go_grown
set_option maxHeartbeats 1600000 in
theorem meet_ok2 (a b c d : Int) (w : World) (hm1 : a < c) (hm2 : d < b) (h : err2 (chkR a b) (chkR c d) = 0) (hs : (¬ d < c)) :
    Calls Tryd.prog 48 #[.agg #[.int .i64 a, .int .i64 b], .agg #[.int .i64 c, .int .i64 d]] w fun e w' =>
      e = .returned (.tuple #[.agg #[.int .i64 (meL a b c d), .int .i64 (meH a b c d)], .int .i64 (meE a b c d)]) ∧ Below w.heap.size w w' := by
  have h0 : (err2 (chkR a b) (chkR c d) != 0) = false := by simpa using h
  obtain ⟨⟨x0, x1⟩, ⟨x2, x3⟩, _⟩ := chkR_bd (err2_zero h).1
  obtain ⟨⟨y0, y1⟩, ⟨y2, y3⟩, _⟩ := chkR_bd (err2_zero h).2
  have f3 : meE a b c d = 0 := by unfold meE; rw [if_neg (by omega), if_neg (by omega)]
  have F1 := Lib.hid (show meL a b c d = c by unfold meL; rw [f3]; simp; try omega)
  have F2 := Lib.hid (show meH a b c d = d by unfold meH; rw [f3]; simp; try omega)
  have F3 := Lib.hid f3
  clear f3 h
  go_enter Tryd.func48, Tryd.ntmps48
  go_wp2_with fail
  have BA := (Box.new w #[.int .i64 a, .int .i64 b] 37 rfl).alloc (.cells #[.int .i64 c, .int .i64 d] 37) |>.alloc (.cells #[.int .i64 0, .int .i64 0] 37)
  have BB := (Box.new (w.alloc (.cells #[.int .i64 a, .int .i64 b] 37)) #[.int .i64 c, .int .i64 d] 37 (n := w.heap.size + 1) (by simp)).alloc (.cells #[.int .i64 0, .int .i64 0] 37)
  have BR := Box.new ((w.alloc (.cells #[.int .i64 a, .int .i64 b] 37)).alloc (.cells #[.int .i64 c, .int .i64 d] 37)) #[.int .i64 0, .int .i64 0] 37 (n := w.heap.size + 1 + 1) (by simp)
  have BW : Below w.heap.size w (((w.alloc (.cells #[.int .i64 a, .int .i64 b] 37)).alloc (.cells #[.int .i64 c, .int .i64 d] 37)).alloc (.cells #[.int .i64 0, .int .i64 0] 37)) := by go_grown
  generalize (((w.alloc (.cells #[.int .i64 a, .int .i64 b] 37)).alloc (.cells #[.int .i64 c, .int .i64 d] 37)).alloc (.cells #[.int .i64 0, .int .i64 0] 37)) = u at *
  have la := BA.lt
  have lb := BB.lt
  have HBA := Lib.hid BA
  have HBB := Lib.hid BB
  have lr := BR.lt
  have HBR := Lib.hid BR
  clear BR
  clear BA BB
  have K := Lib.hid (fun (w' : World) (hw : Below u.heap.size u w') => show w'.cell? ⟨w.heap.size, 0, none⟩ = some (.int .i64 a) ∧ w'.cell? ⟨w.heap.size, 1, none⟩ = some (.int .i64 b) ∧ w'.cell? ⟨w.heap.size + 1, 0, none⟩ = some (.int .i64 c) ∧ w'.cell? ⟨w.heap.size + 1, 1, none⟩ = some (.int .i64 d) from ⟨(HBA.out.keep hw).cell 0, (HBA.out.keep hw).cell 1, (HBB.out.keep hw).cell 0, (HBB.out.keep hw).cell 1⟩)
  go_region_held3 (fun w' => w'.cell? ⟨w.heap.size, 0, none⟩ = some (.int .i64 a) ∧ w'.cell? ⟨w.heap.size, 1, none⟩ = some (.int .i64 b) ∧ w'.cell? ⟨w.heap.size + 1, 0, none⟩ = some (.int .i64 c) ∧ w'.cell? ⟨w.heap.size + 1, 1, none⟩ = some (.int .i64 d))
    ((refine K.out _ ?_; go_grown; done))
    (first | (go_at_call 49; refine (chkR_any _ _ _).mono ?_; rintro e w9 ⟨rfl, h9⟩; have hB9 : Below u.heap.size u w9 := below_via (by go_grown) h9; clear h9; have hz9 := hB9.size; obtain ⟨k0, k1, k2, k3⟩ := K.out w9 hB9) | (go_at_call 67; refine (ferr2_any w9.heap.size (chkR a b) (chkR c d) (w9.alloc (.cells #[.int .i64 (chkR a b), .int .i64 (chkR c d)] 25)) (World.cell?_alloc_at _ _ _ 0 rfl) (World.cell?_alloc_at _ _ _ 1 rfl)).mono ?_; rintro e w8 ⟨rfl, rfl⟩))
  all_goals
    have hBv : Below u.heap.size u (w9.alloc (.cells #[.int .i64 (chkR a b), .int .i64 (chkR c d)] 25)) := by go_grown
    have BV : Below w.heap.size w (w9.alloc (.cells #[.int .i64 (chkR a b), .int .i64 (chkR c d)] 25)) := below_via BW hBv
    generalize w9.alloc (.cells #[.int .i64 (chkR a b), .int .i64 (chkR c d)] 25) = v at *
    clear hB9 hz9 k0 k1 k2 k3
    have zv := hBv.size
    obtain ⟨k0, k1, k2, k3⟩ := K.out v hBv
    have HRV := Lib.hid (HBR.out.keep hBv)
    have r0 := HRV.out.cell 0
    have f0 := HRV.out.free 0
    have r1 := HRV.out.cell 1
    have f1 := HRV.out.free 1
    simp at r0 r1
    have lv := HRV.out.lt
    have zb := BV.size
    have ra0 : ∀ x y o, (((v.setCell ⟨w.heap.size + 1 + 1, 0, none⟩ x).setCell ⟨w.heap.size + 1 + 1, 1, none⟩ y).alloc o).cell? ⟨w.heap.size + 1 + 1, 0, none⟩ = some x := fun x y o => (((HRV.out.set 0 x).set 1 y).alloc o).cell 0
    have ra1 : ∀ x y o, (((v.setCell ⟨w.heap.size + 1 + 1, 0, none⟩ x).setCell ⟨w.heap.size + 1 + 1, 1, none⟩ y).alloc o).cell? ⟨w.heap.size + 1 + 1, 1, none⟩ = some y := fun x y o => (((HRV.out.set 0 x).set 1 y).alloc o).cell 1
    go_wp2_with fail
    refine bodyPost_ret (v := .tuple #[.agg #[.int .i64 (meL a b c d), .int .i64 (meH a b c d)], .int .i64 (meE a b c d)])
      (by simp [results, Tryd.results48, go_sem, r0, r1, ra0, ra1, F1.out, F2.out, F3.out]) rfl ⟨rfl, ?_⟩
    go_grown
set_option maxHeartbeats 1600000 in
theorem meet_no2 (a b c d : Int) (w : World) (hm1 : a < c) (hm2 : d < b) (h : err2 (chkR a b) (chkR c d) = 0) (hs : ¬ (¬ d < c)) :
    Calls Tryd.prog 48 #[.agg #[.int .i64 a, .int .i64 b], .agg #[.int .i64 c, .int .i64 d]] w fun e w' =>
      e = .returned (.tuple #[.agg #[.int .i64 (meL a b c d), .int .i64 (meH a b c d)], .int .i64 (meE a b c d)]) ∧ Below w.heap.size w w' := by
  have p1 := chkR_bd (err2_zero h).1
  have p2 := chkR_bd (err2_zero h).2
  exact absurd hs (by omega)
set_option maxHeartbeats 1600000 in
theorem meet_ok3 (a b c d : Int) (w : World) (hm1 : c ≤ a) (hm2 : b ≤ d) (h : err2 (chkR a b) (chkR c d) = 0) (hs : (¬ b < a)) :
    Calls Tryd.prog 48 #[.agg #[.int .i64 a, .int .i64 b], .agg #[.int .i64 c, .int .i64 d]] w fun e w' =>
      e = .returned (.tuple #[.agg #[.int .i64 (meL a b c d), .int .i64 (meH a b c d)], .int .i64 (meE a b c d)]) ∧ Below w.heap.size w w' := by
  have h0 : (err2 (chkR a b) (chkR c d) != 0) = false := by simpa using h
  obtain ⟨⟨x0, x1⟩, ⟨x2, x3⟩, _⟩ := chkR_bd (err2_zero h).1
  obtain ⟨⟨y0, y1⟩, ⟨y2, y3⟩, _⟩ := chkR_bd (err2_zero h).2
  have f3 : meE a b c d = 0 := by unfold meE; rw [if_neg (by omega), if_neg (by omega)]
  have F1 := Lib.hid (show meL a b c d = a by unfold meL; rw [f3]; simp; try omega)
  have F2 := Lib.hid (show meH a b c d = b by unfold meH; rw [f3]; simp; try omega)
  have F3 := Lib.hid f3
  clear f3 h
  go_enter Tryd.func48, Tryd.ntmps48
  go_wp2_with fail
  have BA := (Box.new w #[.int .i64 a, .int .i64 b] 37 rfl).alloc (.cells #[.int .i64 c, .int .i64 d] 37) |>.alloc (.cells #[.int .i64 0, .int .i64 0] 37)
  have BB := (Box.new (w.alloc (.cells #[.int .i64 a, .int .i64 b] 37)) #[.int .i64 c, .int .i64 d] 37 (n := w.heap.size + 1) (by simp)).alloc (.cells #[.int .i64 0, .int .i64 0] 37)
  have BR := Box.new ((w.alloc (.cells #[.int .i64 a, .int .i64 b] 37)).alloc (.cells #[.int .i64 c, .int .i64 d] 37)) #[.int .i64 0, .int .i64 0] 37 (n := w.heap.size + 1 + 1) (by simp)
  have BW : Below w.heap.size w (((w.alloc (.cells #[.int .i64 a, .int .i64 b] 37)).alloc (.cells #[.int .i64 c, .int .i64 d] 37)).alloc (.cells #[.int .i64 0, .int .i64 0] 37)) := by go_grown
  generalize (((w.alloc (.cells #[.int .i64 a, .int .i64 b] 37)).alloc (.cells #[.int .i64 c, .int .i64 d] 37)).alloc (.cells #[.int .i64 0, .int .i64 0] 37)) = u at *
  have la := BA.lt
  have lb := BB.lt
  have HBA := Lib.hid BA
  have HBB := Lib.hid BB
  have lr := BR.lt
  have HBR := Lib.hid BR
  clear BR
  clear BA BB
  have K := Lib.hid (fun (w' : World) (hw : Below u.heap.size u w') => show w'.cell? ⟨w.heap.size, 0, none⟩ = some (.int .i64 a) ∧ w'.cell? ⟨w.heap.size, 1, none⟩ = some (.int .i64 b) ∧ w'.cell? ⟨w.heap.size + 1, 0, none⟩ = some (.int .i64 c) ∧ w'.cell? ⟨w.heap.size + 1, 1, none⟩ = some (.int .i64 d) from ⟨(HBA.out.keep hw).cell 0, (HBA.out.keep hw).cell 1, (HBB.out.keep hw).cell 0, (HBB.out.keep hw).cell 1⟩)
  go_region_held3 (fun w' => w'.cell? ⟨w.heap.size, 0, none⟩ = some (.int .i64 a) ∧ w'.cell? ⟨w.heap.size, 1, none⟩ = some (.int .i64 b) ∧ w'.cell? ⟨w.heap.size + 1, 0, none⟩ = some (.int .i64 c) ∧ w'.cell? ⟨w.heap.size + 1, 1, none⟩ = some (.int .i64 d))
    ((refine K.out _ ?_; go_grown; done))
    (first | (go_at_call 49; refine (chkR_any _ _ _).mono ?_; rintro e w9 ⟨rfl, h9⟩; have hB9 : Below u.heap.size u w9 := below_via (by go_grown) h9; clear h9; have hz9 := hB9.size; obtain ⟨k0, k1, k2, k3⟩ := K.out w9 hB9) | (go_at_call 67; refine (ferr2_any w9.heap.size (chkR a b) (chkR c d) (w9.alloc (.cells #[.int .i64 (chkR a b), .int .i64 (chkR c d)] 25)) (World.cell?_alloc_at _ _ _ 0 rfl) (World.cell?_alloc_at _ _ _ 1 rfl)).mono ?_; rintro e w8 ⟨rfl, rfl⟩))
  all_goals
    have hBv : Below u.heap.size u (w9.alloc (.cells #[.int .i64 (chkR a b), .int .i64 (chkR c d)] 25)) := by go_grown
    have BV : Below w.heap.size w (w9.alloc (.cells #[.int .i64 (chkR a b), .int .i64 (chkR c d)] 25)) := below_via BW hBv
    generalize w9.alloc (.cells #[.int .i64 (chkR a b), .int .i64 (chkR c d)] 25) = v at *
    clear hB9 hz9 k0 k1 k2 k3
    have zv := hBv.size
    obtain ⟨k0, k1, k2, k3⟩ := K.out v hBv
    have HRV := Lib.hid (HBR.out.keep hBv)
    have r0 := HRV.out.cell 0
    have f0 := HRV.out.free 0
    have r1 := HRV.out.cell 1
    have f1 := HRV.out.free 1
    simp at r0 r1
    have lv := HRV.out.lt
    have zb := BV.size
    have ra0 : ∀ x y o, (((v.setCell ⟨w.heap.size + 1 + 1, 0, none⟩ x).setCell ⟨w.heap.size + 1 + 1, 1, none⟩ y).alloc o).cell? ⟨w.heap.size + 1 + 1, 0, none⟩ = some x := fun x y o => (((HRV.out.set 0 x).set 1 y).alloc o).cell 0
    have ra1 : ∀ x y o, (((v.setCell ⟨w.heap.size + 1 + 1, 0, none⟩ x).setCell ⟨w.heap.size + 1 + 1, 1, none⟩ y).alloc o).cell? ⟨w.heap.size + 1 + 1, 1, none⟩ = some y := fun x y o => (((HRV.out.set 0 x).set 1 y).alloc o).cell 1
    go_wp2_with fail
    refine bodyPost_ret (v := .tuple #[.agg #[.int .i64 (meL a b c d), .int .i64 (meH a b c d)], .int .i64 (meE a b c d)])
      (by simp [results, Tryd.results48, go_sem, r0, r1, ra0, ra1, F1.out, F2.out, F3.out]) rfl ⟨rfl, ?_⟩
    go_grown
set_option maxHeartbeats 1600000 in
theorem meet_no3 (a b c d : Int) (w : World) (hm1 : c ≤ a) (hm2 : b ≤ d) (h : err2 (chkR a b) (chkR c d) = 0) (hs : ¬ (¬ b < a)) :
    Calls Tryd.prog 48 #[.agg #[.int .i64 a, .int .i64 b], .agg #[.int .i64 c, .int .i64 d]] w fun e w' =>
      e = .returned (.tuple #[.agg #[.int .i64 (meL a b c d), .int .i64 (meH a b c d)], .int .i64 (meE a b c d)]) ∧ Below w.heap.size w w' := by
  have p1 := chkR_bd (err2_zero h).1
  have p2 := chkR_bd (err2_zero h).2
  exact absurd hs (by omega)
set_option maxHeartbeats 1600000 in
theorem meet_ok4 (a b c d : Int) (w : World) (hm1 : c ≤ a) (hm2 : d < b) (h : err2 (chkR a b) (chkR c d) = 0) (hs : (¬ d < a)) :
    Calls Tryd.prog 48 #[.agg #[.int .i64 a, .int .i64 b], .agg #[.int .i64 c, .int .i64 d]] w fun e w' =>
      e = .returned (.tuple #[.agg #[.int .i64 (meL a b c d), .int .i64 (meH a b c d)], .int .i64 (meE a b c d)]) ∧ Below w.heap.size w w' := by
  have h0 : (err2 (chkR a b) (chkR c d) != 0) = false := by simpa using h
  obtain ⟨⟨x0, x1⟩, ⟨x2, x3⟩, _⟩ := chkR_bd (err2_zero h).1
  obtain ⟨⟨y0, y1⟩, ⟨y2, y3⟩, _⟩ := chkR_bd (err2_zero h).2
  have f3 : meE a b c d = 0 := by unfold meE; rw [if_neg (by omega), if_neg (by omega)]
  have F1 := Lib.hid (show meL a b c d = a by unfold meL; rw [f3]; simp; try omega)
  have F2 := Lib.hid (show meH a b c d = d by unfold meH; rw [f3]; simp; try omega)
  have F3 := Lib.hid f3
  clear f3 h
  go_enter Tryd.func48, Tryd.ntmps48
  go_wp2_with fail
  have BA := (Box.new w #[.int .i64 a, .int .i64 b] 37 rfl).alloc (.cells #[.int .i64 c, .int .i64 d] 37) |>.alloc (.cells #[.int .i64 0, .int .i64 0] 37)
  have BB := (Box.new (w.alloc (.cells #[.int .i64 a, .int .i64 b] 37)) #[.int .i64 c, .int .i64 d] 37 (n := w.heap.size + 1) (by simp)).alloc (.cells #[.int .i64 0, .int .i64 0] 37)
  have BR := Box.new ((w.alloc (.cells #[.int .i64 a, .int .i64 b] 37)).alloc (.cells #[.int .i64 c, .int .i64 d] 37)) #[.int .i64 0, .int .i64 0] 37 (n := w.heap.size + 1 + 1) (by simp)
  have BW : Below w.heap.size w (((w.alloc (.cells #[.int .i64 a, .int .i64 b] 37)).alloc (.cells #[.int .i64 c, .int .i64 d] 37)).alloc (.cells #[.int .i64 0, .int .i64 0] 37)) := by go_grown
  generalize (((w.alloc (.cells #[.int .i64 a, .int .i64 b] 37)).alloc (.cells #[.int .i64 c, .int .i64 d] 37)).alloc (.cells #[.int .i64 0, .int .i64 0] 37)) = u at *
  have la := BA.lt
  have lb := BB.lt
  have HBA := Lib.hid BA
  have HBB := Lib.hid BB
  have lr := BR.lt
  have HBR := Lib.hid BR
  clear BR
  clear BA BB
  have K := Lib.hid (fun (w' : World) (hw : Below u.heap.size u w') => show w'.cell? ⟨w.heap.size, 0, none⟩ = some (.int .i64 a) ∧ w'.cell? ⟨w.heap.size, 1, none⟩ = some (.int .i64 b) ∧ w'.cell? ⟨w.heap.size + 1, 0, none⟩ = some (.int .i64 c) ∧ w'.cell? ⟨w.heap.size + 1, 1, none⟩ = some (.int .i64 d) from ⟨(HBA.out.keep hw).cell 0, (HBA.out.keep hw).cell 1, (HBB.out.keep hw).cell 0, (HBB.out.keep hw).cell 1⟩)
  go_region_held3 (fun w' => w'.cell? ⟨w.heap.size, 0, none⟩ = some (.int .i64 a) ∧ w'.cell? ⟨w.heap.size, 1, none⟩ = some (.int .i64 b) ∧ w'.cell? ⟨w.heap.size + 1, 0, none⟩ = some (.int .i64 c) ∧ w'.cell? ⟨w.heap.size + 1, 1, none⟩ = some (.int .i64 d))
    ((refine K.out _ ?_; go_grown; done))
    (first | (go_at_call 49; refine (chkR_any _ _ _).mono ?_; rintro e w9 ⟨rfl, h9⟩; have hB9 : Below u.heap.size u w9 := below_via (by go_grown) h9; clear h9; have hz9 := hB9.size; obtain ⟨k0, k1, k2, k3⟩ := K.out w9 hB9) | (go_at_call 67; refine (ferr2_any w9.heap.size (chkR a b) (chkR c d) (w9.alloc (.cells #[.int .i64 (chkR a b), .int .i64 (chkR c d)] 25)) (World.cell?_alloc_at _ _ _ 0 rfl) (World.cell?_alloc_at _ _ _ 1 rfl)).mono ?_; rintro e w8 ⟨rfl, rfl⟩))
  all_goals
    have hBv : Below u.heap.size u (w9.alloc (.cells #[.int .i64 (chkR a b), .int .i64 (chkR c d)] 25)) := by go_grown
    have BV : Below w.heap.size w (w9.alloc (.cells #[.int .i64 (chkR a b), .int .i64 (chkR c d)] 25)) := below_via BW hBv
    generalize w9.alloc (.cells #[.int .i64 (chkR a b), .int .i64 (chkR c d)] 25) = v at *
    clear hB9 hz9 k0 k1 k2 k3
    have zv := hBv.size
    obtain ⟨k0, k1, k2, k3⟩ := K.out v hBv
    have HRV := Lib.hid (HBR.out.keep hBv)
    have r0 := HRV.out.cell 0
    have f0 := HRV.out.free 0
    have r1 := HRV.out.cell 1
    have f1 := HRV.out.free 1
    simp at r0 r1
    have lv := HRV.out.lt
    have zb := BV.size
    have ra0 : ∀ x y o, (((v.setCell ⟨w.heap.size + 1 + 1, 0, none⟩ x).setCell ⟨w.heap.size + 1 + 1, 1, none⟩ y).alloc o).cell? ⟨w.heap.size + 1 + 1, 0, none⟩ = some x := fun x y o => (((HRV.out.set 0 x).set 1 y).alloc o).cell 0
    have ra1 : ∀ x y o, (((v.setCell ⟨w.heap.size + 1 + 1, 0, none⟩ x).setCell ⟨w.heap.size + 1 + 1, 1, none⟩ y).alloc o).cell? ⟨w.heap.size + 1 + 1, 1, none⟩ = some y := fun x y o => (((HRV.out.set 0 x).set 1 y).alloc o).cell 1
    go_wp2_with fail
    refine bodyPost_ret (v := .tuple #[.agg #[.int .i64 (meL a b c d), .int .i64 (meH a b c d)], .int .i64 (meE a b c d)])
      (by simp [results, Tryd.results48, go_sem, r0, r1, ra0, ra1, F1.out, F2.out, F3.out]) rfl ⟨rfl, ?_⟩
    go_grown
set_option maxHeartbeats 1600000 in
theorem meet_no4 (a b c d : Int) (w : World) (hm1 : c ≤ a) (hm2 : d < b) (h : err2 (chkR a b) (chkR c d) = 0) (hs : ¬ (¬ d < a)) :
    Calls Tryd.prog 48 #[.agg #[.int .i64 a, .int .i64 b], .agg #[.int .i64 c, .int .i64 d]] w fun e w' =>
      e = .returned (.tuple #[.agg #[.int .i64 (meL a b c d), .int .i64 (meH a b c d)], .int .i64 (meE a b c d)]) ∧ Below w.heap.size w w' := by
  have h0 : (err2 (chkR a b) (chkR c d) != 0) = false := by simpa using h
  obtain ⟨⟨x0, x1⟩, ⟨x2, x3⟩, _⟩ := chkR_bd (err2_zero h).1
  obtain ⟨⟨y0, y1⟩, ⟨y2, y3⟩, _⟩ := chkR_bd (err2_zero h).2
  have f3 : meE a b c d = 12 := by unfold meE; rw [if_neg (by omega), if_pos (by omega)]
  have F1 := Lib.hid (show meL a b c d = 0 by unfold meL; rw [f3]; rfl)
  have F2 := Lib.hid (show meH a b c d = 0 by unfold meH; rw [f3]; rfl)
  have F3 := Lib.hid f3
  clear f3 h
  go_enter Tryd.func48, Tryd.ntmps48
  go_wp2_with fail
  have BA := (Box.new w #[.int .i64 a, .int .i64 b] 37 rfl).alloc (.cells #[.int .i64 c, .int .i64 d] 37) |>.alloc (.cells #[.int .i64 0, .int .i64 0] 37)
  have BB := (Box.new (w.alloc (.cells #[.int .i64 a, .int .i64 b] 37)) #[.int .i64 c, .int .i64 d] 37 (n := w.heap.size + 1) (by simp)).alloc (.cells #[.int .i64 0, .int .i64 0] 37)
  have BR := Box.new ((w.alloc (.cells #[.int .i64 a, .int .i64 b] 37)).alloc (.cells #[.int .i64 c, .int .i64 d] 37)) #[.int .i64 0, .int .i64 0] 37 (n := w.heap.size + 1 + 1) (by simp)
  have BW : Below w.heap.size w (((w.alloc (.cells #[.int .i64 a, .int .i64 b] 37)).alloc (.cells #[.int .i64 c, .int .i64 d] 37)).alloc (.cells #[.int .i64 0, .int .i64 0] 37)) := by go_grown
  generalize (((w.alloc (.cells #[.int .i64 a, .int .i64 b] 37)).alloc (.cells #[.int .i64 c, .int .i64 d] 37)).alloc (.cells #[.int .i64 0, .int .i64 0] 37)) = u at *
  have la := BA.lt
  have lb := BB.lt
  have HBA := Lib.hid BA
  have HBB := Lib.hid BB
  have lr := BR.lt
  have HBR := Lib.hid BR
  clear BR
  clear BA BB
  have K := Lib.hid (fun (w' : World) (hw : Below u.heap.size u w') => show w'.cell? ⟨w.heap.size, 0, none⟩ = some (.int .i64 a) ∧ w'.cell? ⟨w.heap.size, 1, none⟩ = some (.int .i64 b) ∧ w'.cell? ⟨w.heap.size + 1, 0, none⟩ = some (.int .i64 c) ∧ w'.cell? ⟨w.heap.size + 1, 1, none⟩ = some (.int .i64 d) from ⟨(HBA.out.keep hw).cell 0, (HBA.out.keep hw).cell 1, (HBB.out.keep hw).cell 0, (HBB.out.keep hw).cell 1⟩)
  go_region_held3 (fun w' => w'.cell? ⟨w.heap.size, 0, none⟩ = some (.int .i64 a) ∧ w'.cell? ⟨w.heap.size, 1, none⟩ = some (.int .i64 b) ∧ w'.cell? ⟨w.heap.size + 1, 0, none⟩ = some (.int .i64 c) ∧ w'.cell? ⟨w.heap.size + 1, 1, none⟩ = some (.int .i64 d))
    ((refine K.out _ ?_; go_grown; done))
    (first | (go_at_call 49; refine (chkR_any _ _ _).mono ?_; rintro e w9 ⟨rfl, h9⟩; have hB9 : Below u.heap.size u w9 := below_via (by go_grown) h9; clear h9; have hz9 := hB9.size; obtain ⟨k0, k1, k2, k3⟩ := K.out w9 hB9) | (go_at_call 67; refine (ferr2_any w9.heap.size (chkR a b) (chkR c d) (w9.alloc (.cells #[.int .i64 (chkR a b), .int .i64 (chkR c d)] 25)) (World.cell?_alloc_at _ _ _ 0 rfl) (World.cell?_alloc_at _ _ _ 1 rfl)).mono ?_; rintro e w8 ⟨rfl, rfl⟩))
  all_goals
    have hBv : Below u.heap.size u (w9.alloc (.cells #[.int .i64 (chkR a b), .int .i64 (chkR c d)] 25)) := by go_grown
    have BV : Below w.heap.size w (w9.alloc (.cells #[.int .i64 (chkR a b), .int .i64 (chkR c d)] 25)) := below_via BW hBv
    generalize w9.alloc (.cells #[.int .i64 (chkR a b), .int .i64 (chkR c d)] 25) = v at *
    clear hB9 hz9 k0 k1 k2 k3
    have zv := hBv.size
    obtain ⟨k0, k1, k2, k3⟩ := K.out v hBv
    have HRV := Lib.hid (HBR.out.keep hBv)
    have r0 := HRV.out.cell 0
    have f0 := HRV.out.free 0
    have r1 := HRV.out.cell 1
    have f1 := HRV.out.free 1
    simp at r0 r1
    have lv := HRV.out.lt
    have zb := BV.size
    have ra0 : ∀ x y o, (((v.setCell ⟨w.heap.size + 1 + 1, 0, none⟩ x).setCell ⟨w.heap.size + 1 + 1, 1, none⟩ y).alloc o).cell? ⟨w.heap.size + 1 + 1, 0, none⟩ = some x := fun x y o => (((HRV.out.set 0 x).set 1 y).alloc o).cell 0
    have ra1 : ∀ x y o, (((v.setCell ⟨w.heap.size + 1 + 1, 0, none⟩ x).setCell ⟨w.heap.size + 1 + 1, 1, none⟩ y).alloc o).cell? ⟨w.heap.size + 1 + 1, 1, none⟩ = some y := fun x y o => (((HRV.out.set 0 x).set 1 y).alloc o).cell 1
    go_wp2_with fail
    refine bodyPost_ret (v := .tuple #[.agg #[.int .i64 (meL a b c d), .int .i64 (meH a b c d)], .int .i64 (meE a b c d)])
      (by simp [results, Tryd.results48, go_sem, r0, r1, ra0, ra1, F1.out, F2.out, F3.out]) rfl ⟨rfl, ?_⟩
    go_grown
theorem meet_any (a b c d : Int) (w : World) :
    Calls Tryd.prog 48 #[.agg #[.int .i64 a, .int .i64 b], .agg #[.int .i64 c, .int .i64 d]] w fun e w' =>
      e = .returned (.tuple #[.agg #[.int .i64 (meL a b c d), .int .i64 (meH a b c d)], .int .i64 (meE a b c d)]) ∧ Below w.heap.size w w' := by
  by_cases h : err2 (chkR a b) (chkR c d) = 0
  · rcases Int.lt_or_le a c with p | p <;> rcases Int.lt_or_le d b with q | q
    · by_cases hs : d < c
      · exact meet_no2 a b c d w p q h (by omega)
      · exact meet_ok2 a b c d w p q h (by omega)
    · by_cases hs : b < c
      · exact meet_no1 a b c d w p q h (by omega)
      · exact meet_ok1 a b c d w p q h (by omega)
    · by_cases hs : d < a
      · exact meet_no4 a b c d w p q h (by omega)
      · exact meet_ok4 a b c d w p q h (by omega)
    · by_cases hs : b < a
      · exact meet_no3 a b c d w p q h (by omega)
      · exact meet_ok3 a b c d w p q h (by omega)
  · exact meet_bad a b c d w h
end Go.Proofs.YtbagmfnedgjndaaDoor
