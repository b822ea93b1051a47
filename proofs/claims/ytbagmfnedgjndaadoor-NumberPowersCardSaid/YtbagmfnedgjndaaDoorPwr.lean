/-
  The walk of Power.
-/
import Derived.Test.YtbagmfnedgjndaaDoorPir4
namespace Go.Proofs.YtbagmfnedgjndaaDoor
open Go.RowKit

def pwE (a b c d n m : Int) : Int := if err2 (chkP a b c d) (chkF n m) ≠ 0 then err2 (chkP a b c d) (chkF n m) else pE (a * n) (b * n) (c * n) (d * m)
def pwX (a b c d n m x : Int) : Int := if err2 (chkP a b c d) (chkF n m) ≠ 0 then 0 else pX (a * n) (b * n) (c * n) (d * m) x
set_option maxRecDepth 100000 in
set_option maxHeartbeats 1600000 in
theorem power_bad (a b c d n m : Int) (w : World) (hn0 : -9223372036854775808 ≤ n) (hn1 : n ≤ 9223372036854775807) (hm0 : -9223372036854775808 ≤ m) (hm1 : m ≤ 9223372036854775807) (h : err2 (chkP a b c d) (chkF n m) ≠ 0) :
    Calls Tryd.prog 38 #[.agg #[.int .i64 a, .int .i64 b, .int .i64 c, .int .i64 d], .agg #[.int .i64 n, .int .i64 m]] w fun e w' =>
      e = .returned (.tuple #[.agg #[.int .i64 (pwX a b c d n m (a * n)), .int .i64 (pwX a b c d n m (b * n)), .int .i64 (pwX a b c d n m (c * n)), .int .i64 (pwX a b c d n m (d * m))], .int .i64 (pwE a b c d n m)]) ∧ Below w.heap.size w w' := by
  have h0 : (err2 (chkP a b c d) (chkF n m) != 0) = true := by simpa using h
  have FX := Lib.hid (fun x : Int => show pwX a b c d n m x = 0 by unfold pwX; rw [if_pos h])
  have FE := Lib.hid (show pwE a b c d n m = err2 (chkP a b c d) (chkF n m) by unfold pwE; rw [if_pos h])
  clear h
  go_enter Tryd.func38, Tryd.ntmps38
  go_wp2_with fail
  have BA := (Box.new w #[.int .i64 a, .int .i64 b, .int .i64 c, .int .i64 d] 47 rfl).alloc (.cells #[.int .i64 n, .int .i64 m] 23) |>.alloc (.cells #[.int .i64 0, .int .i64 0, .int .i64 0, .int .i64 0] 47)
  have BB := (Box.new (w.alloc (.cells #[.int .i64 a, .int .i64 b, .int .i64 c, .int .i64 d] 47)) #[.int .i64 n, .int .i64 m] 23 (n := w.heap.size + 1) (by simp)).alloc (.cells #[.int .i64 0, .int .i64 0, .int .i64 0, .int .i64 0] 47)
  have BR := Box.new ((w.alloc (.cells #[.int .i64 a, .int .i64 b, .int .i64 c, .int .i64 d] 47)).alloc (.cells #[.int .i64 n, .int .i64 m] 23)) #[.int .i64 0, .int .i64 0, .int .i64 0, .int .i64 0] 47 (n := w.heap.size + 1 + 1) (by simp)
  have BW : Below w.heap.size w (((w.alloc (.cells #[.int .i64 a, .int .i64 b, .int .i64 c, .int .i64 d] 47)).alloc (.cells #[.int .i64 n, .int .i64 m] 23)).alloc (.cells #[.int .i64 0, .int .i64 0, .int .i64 0, .int .i64 0] 47)) := by go_grown
  generalize (((w.alloc (.cells #[.int .i64 a, .int .i64 b, .int .i64 c, .int .i64 d] 47)).alloc (.cells #[.int .i64 n, .int .i64 m] 23)).alloc (.cells #[.int .i64 0, .int .i64 0, .int .i64 0, .int .i64 0] 47)) = u at *
  have la := BA.lt
  have lb := BB.lt
  have HBA := Lib.hid BA
  have HBB := Lib.hid BB
  have lr := BR.lt
  have HBR := Lib.hid BR
  clear BR
  clear BA BB
  have K := Lib.hid (fun (w' : World) (hw : Below u.heap.size u w') => show w'.cell? ⟨w.heap.size, 0, none⟩ = some (.int .i64 a) ∧ w'.cell? ⟨w.heap.size, 1, none⟩ = some (.int .i64 b) ∧ w'.cell? ⟨w.heap.size, 2, none⟩ = some (.int .i64 c) ∧ w'.cell? ⟨w.heap.size, 3, none⟩ = some (.int .i64 d) ∧ w'.cell? ⟨w.heap.size + 1, 0, none⟩ = some (.int .i64 n) ∧ w'.cell? ⟨w.heap.size + 1, 1, none⟩ = some (.int .i64 m) from ⟨(HBA.out.keep hw).cell 0, (HBA.out.keep hw).cell 1, (HBA.out.keep hw).cell 2, (HBA.out.keep hw).cell 3, (HBB.out.keep hw).cell 0, (HBB.out.keep hw).cell 1⟩)
  go_region_held3 (fun w' => w'.cell? ⟨w.heap.size, 0, none⟩ = some (.int .i64 a) ∧ w'.cell? ⟨w.heap.size, 1, none⟩ = some (.int .i64 b) ∧ w'.cell? ⟨w.heap.size, 2, none⟩ = some (.int .i64 c) ∧ w'.cell? ⟨w.heap.size, 3, none⟩ = some (.int .i64 d) ∧ w'.cell? ⟨w.heap.size + 1, 0, none⟩ = some (.int .i64 n) ∧ w'.cell? ⟨w.heap.size + 1, 1, none⟩ = some (.int .i64 m))
    ((refine K.out _ ?_; go_grown; done))
    (first | (go_at_call 35; refine (chkP_any _ _ _ _ _).mono ?_; rintro e w9 ⟨rfl, h9⟩; have hB9 : Below u.heap.size u w9 := below_via (by go_grown) h9; clear h9; have hz9 := hB9.size; obtain ⟨k0, k1, k2, k3, k4, k5⟩ := K.out w9 hB9) | (go_at_call 20; refine (chkF_any _ _ _ (by assumption) (by assumption) (by assumption) (by assumption)).mono ?_; rintro e w9 ⟨rfl, h9⟩; have hB9 : Below u.heap.size u w9 := below_via (by go_grown) h9; clear h9; have hz9 := hB9.size; obtain ⟨k0, k1, k2, k3, k4, k5⟩ := K.out w9 hB9) | (go_at_call 67; refine (ferr2_any w9.heap.size (chkP a b c d) (chkF n m) (w9.alloc (.cells #[.int .i64 (chkP a b c d), .int .i64 (chkF n m)] 25)) (World.cell?_alloc_at _ _ _ 0 rfl) (World.cell?_alloc_at _ _ _ 1 rfl)).mono ?_; rintro e w8 ⟨rfl, rfl⟩))
  all_goals
    have hBv : Below u.heap.size u (w9.alloc (.cells #[.int .i64 (chkP a b c d), .int .i64 (chkF n m)] 25)) := by go_grown
    have BV : Below w.heap.size w (w9.alloc (.cells #[.int .i64 (chkP a b c d), .int .i64 (chkF n m)] 25)) := below_via BW hBv
    generalize w9.alloc (.cells #[.int .i64 (chkP a b c d), .int .i64 (chkF n m)] 25) = v at *
    clear hB9 hz9 k0 k1 k2 k3 k4 k5
    have zv := hBv.size
    obtain ⟨k0, k1, k2, k3, k4, k5⟩ := K.out v hBv
    have HRV := Lib.hid (HBR.out.keep hBv)
    have r0 := HRV.out.cell 0
    have f0 := HRV.out.free 0
    have r1 := HRV.out.cell 1
    have f1 := HRV.out.free 1
    have r2 := HRV.out.cell 2
    have f2 := HRV.out.free 2
    have r3 := HRV.out.cell 3
    have f3 := HRV.out.free 3
    simp at r0 r1 r2 r3
    go_wp2_with fail
    refine bodyPost_ret (v := .tuple #[.agg #[.int .i64 (pwX a b c d n m (a * n)), .int .i64 (pwX a b c d n m (b * n)), .int .i64 (pwX a b c d n m (c * n)), .int .i64 (pwX a b c d n m (d * m))], .int .i64 (pwE a b c d n m)])
      (by simp [results, Tryd.results38, go_sem, r0, r1, r2, r3, FX.out, FE.out]) rfl ⟨rfl, ?_⟩
    go_grown
end Go.Proofs.YtbagmfnedgjndaaDoor
