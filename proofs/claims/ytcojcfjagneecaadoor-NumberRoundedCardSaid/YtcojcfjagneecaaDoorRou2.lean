/-
  The walk of Rounded's reference.
-/
import Derived.Test.YtcojcfjagneecaaDoorRou
namespace Go.Proofs.YtcojcfjagneecaaDoor
open Go.RowKit

set_option maxHeartbeats 1600000 in
theorem rrounded_any (n d t : Int) (w : World) (h : rouE n d t = 0) :
    Calls Tryd.prog 29 #[.agg #[.int .i64 n, .int .i64 d], .int .i64 t] w fun e w' =>
      e = .returned (.agg #[.int .i64 (rouL n d t), .int .i64 (rouH n d t)]) ∧ Below w.heap.size w w' := by
  have F1 := Lib.hid (show rouL n d t = dn (n * t) d by unfold rouL; rw [if_pos h])
  have F2 := Lib.hid (show rouH n d t = up (n * t) d by unfold rouH; rw [if_pos h])
  obtain ⟨hc, t0, t1⟩ := rouE_ok h
  obtain ⟨d0, d1, n0, n1, _⟩ := chkF_ok hc
  obtain ⟨m0, m1⟩ := mulB_bd n0 n1 (show 0 ≤ t by omega) t1
  clear h hc
  have u1 := dn_bd d0 m0 m1 (by omega)
  have u2 := dn_bd (n := -(n * t)) (m := 1000000000000000000) d0 (by omega) (by omega) (by omega)
  obtain ⟨u10, u11⟩ := u1
  have u20 : -1000000000000000000 ≤ up (n * t) d := by unfold up; omega
  have u21 : up (n * t) d ≤ 1000000000000000000 := by unfold up; omega
  clear u2
  have wr : IntKind.i64.wrap (n * t) = n * t := IntWalk.i64_in _ (by omega)
  go_enter Tryd.func29, Tryd.ntmps29
  go_wp2_with fail
  have A := (Box.new w #[.int .i64 n, .int .i64 d] 23 rfl).alloc (.cells #[.int .i64 0, .int .i64 0] 37)
  have R := Box.new (w.alloc (.cells #[.int .i64 n, .int .i64 d] 23)) #[.int .i64 0, .int .i64 0] 37 (n := w.heap.size + 1) (by simp)
  have BW : Below w.heap.size w ((w.alloc (.cells #[.int .i64 n, .int .i64 d] 23)).alloc (.cells #[.int .i64 0, .int .i64 0] 37)) := by go_grown
  generalize (w.alloc (.cells #[.int .i64 n, .int .i64 d] 23)).alloc (.cells #[.int .i64 0, .int .i64 0] 37) = u at *
  have zb := BW.size
  have la := A.lt
  have lr := R.lt
  obtain ⟨a0, a1, _, _⟩ := A.two
  obtain ⟨r0, r1, f0, f1⟩ := R.two
  have HA := Lib.hid A
  have HR := Lib.hid R
  clear A R
  have K := Lib.hid (fun (w' : World) (hw : Below u.heap.size u w') => show w'.cell? ⟨w.heap.size, 0, none⟩ = some (.int .i64 n) ∧ w'.cell? ⟨w.heap.size, 1, none⟩ = some (.int .i64 d) from ⟨(HA.out.keep hw).cell 0, (HA.out.keep hw).cell 1⟩)
  go_region_held3 (fun w' => w'.cell? ⟨w.heap.size, 0, none⟩ = some (.int .i64 n) ∧ w'.cell? ⟨w.heap.size, 1, none⟩ = some (.int .i64 d)) ((first | (refine K.out _ ?_; go_grown; done) | (exact ⟨(Box.other (Box.other HA.out ⟨w.heap.size + 1, 0, none⟩ _ (by simp)) ⟨w.heap.size + 1, 1, none⟩ _ (by simp)).drew.cell 0, (Box.other (Box.other HA.out ⟨w.heap.size + 1, 0, none⟩ _ (by simp)) ⟨w.heap.size + 1, 1, none⟩ _ (by simp)).drew.cell 1⟩)))
    (first | (go_at_call 76; refine (Floor_any _ _ _ (by omega) (by omega) (by omega) (by omega)).mono ?_; rintro e w9 ⟨rfl, rfl⟩) | (go_at_call 77; refine (Ceil_any _ _ _ (by omega) (by omega) (by omega) (by omega)).mono ?_; rintro e w9 ⟨rfl, rfl⟩))
  all_goals
    go_wp2_with fail
    refine bodyPost_ret (v := .agg #[.int .i64 (rouL n d t), .int .i64 (rouH n d t)])
      (by simp [results, Tryd.results29, go_sem, r0, r1, F1.out, F2.out]) rfl ⟨rfl, ?_⟩
    repeat' (first | (with_reducible exact Below.refl _ _) | (with_reducible assumption) | (with_reducible refine below_drewN ?_ _) | (with_reducible refine Below.drew ?_) | (with_reducible refine Below.setCell ?_ ?_ _) | (with_reducible refine Below.alloc ?_ ?_ _) | go_size)
end Go.Proofs.YtcojcfjagneecaaDoor
