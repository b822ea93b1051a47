/-
  Sum, Moment and Balanced where they answer an error.
-/
import Derived.Test.YtahfliboanphkaaFap
namespace Go.Proofs.Ytahfliboanphkaa
open Go.RowKit
set_option maxRecDepth 100000 in
set_option maxHeartbeats 1600000 in
theorem sumBad_any (E : Int) (l : List Pf) (a : Option Addr) (cap : Nat) (w : World) (hE : chkP l = E) (hne : E ≠ 0) (hl : l.length ≤ 9223372036854775807) (hp : PlAt w a l) :
    Calls Try.prog 17 #[.slice a l.length cap] w fun e w' => e = .returned (.tuple #[vec 0 0 0, .int .i64 E]) ∧ Below w.heap.size w w' := by
  have CK := Lib.hid (fun (u : World) (h : PlAt u a l) => chkP_any l a cap u hl h)
  rw [hE] at CK
  have HP := Lib.hid hp
  have hb : (E == 0) = false := by simpa using hne
  clear hp hE
  go_enter Try.func17, Try.ntmps17
  go_wp2_with fail
  refine (CK.out _ (HP.out.keep (by (repeat' (first | (with_reducible exact Below.refl _ _) | (with_reducible assumption) | (with_reducible refine Below.drew ?_) | (with_reducible refine below_drewN ?_ _) | (with_reducible refine Below.setCell ?_ ?_ _) | (with_reducible refine Below.alloc ?_ ?_ _) | go_size | omega))))).mono ?_
  rintro e w1 ⟨rfl, h⟩
  have B1 : Below w.heap.size w w1 := below_via (by (repeat' (first | (with_reducible exact Below.refl _ _) | (with_reducible assumption) | (with_reducible refine Below.drew ?_) | (with_reducible refine below_drewN ?_ _) | (with_reducible refine Below.setCell ?_ ?_ _) | (with_reducible refine Below.alloc ?_ ?_ _) | go_size | omega))) h
  have R1 := Lib.hid ((Box.new w #[.int .i64 0, .int .i64 0, .int .i64 0] 23 (n := w.heap.size) rfl).keep h)
  clear h
  obtain ⟨n0, n1, n2, f0, f1, f2⟩ := R1.out.three
  have l0 := R1.out.lt
  go_wp2_with fail
  clear n0 n1 n2 f0 f1 f2
  have RV : Box (((w1.setCell ⟨w.heap.size, 0, none⟩ (.int .i64 0)).setCell ⟨w.heap.size, 1, none⟩ (.int .i64 0)).setCell ⟨w.heap.size, 2, none⟩ (.int .i64 0)) w.heap.size #[.int .i64 0, .int .i64 0, .int .i64 0] 23 := ((R1.out.set 0 _).set 1 _).set 2 _
  have BV : Below w.heap.size w (((w1.setCell ⟨w.heap.size, 0, none⟩ (.int .i64 0)).setCell ⟨w.heap.size, 1, none⟩ (.int .i64 0)).setCell ⟨w.heap.size, 2, none⟩ (.int .i64 0)) := by (repeat' (first | (with_reducible exact Below.refl _ _) | (with_reducible assumption) | (with_reducible refine Below.drew ?_) | (with_reducible refine below_drewN ?_ _) | (with_reducible refine Below.setCell ?_ ?_ _) | (with_reducible refine Below.alloc ?_ ?_ _) | go_size | omega))
  generalize (((w1.setCell ⟨w.heap.size, 0, none⟩ (.int .i64 0)).setCell ⟨w.heap.size, 1, none⟩ (.int .i64 0)).setCell ⟨w.heap.size, 2, none⟩ (.int .i64 0)) = v at *
  have s0 := RV.cell 0; have s1 := RV.cell 1; have s2 := RV.cell 2
  simp at s0 s1 s2
  refine bodyPost_ret (v := .tuple #[vec 0 0 0, .int .i64 E]) (by simp [results, Try.results17, go_sem, s0, s1, s2]) rfl ⟨rfl, BV⟩
set_option maxRecDepth 100000 in
set_option maxHeartbeats 1600000 in
theorem balBad_any (E : Int) (l : List Pf) (a : Option Addr) (cap : Nat) (w : World) (hE : chkP l = E) (hne : E ≠ 0) (hl : l.length ≤ 9223372036854775807) (hp : PlAt w a l) :
    Calls Try.prog 18 #[.slice a l.length cap] w fun e w' => e = .returned (.tuple #[.bool false, .int .i64 E]) ∧ Below w.heap.size w w' := by
  have CK := Lib.hid (fun (u : World) (h : PlAt u a l) => chkP_any l a cap u hl h)
  rw [hE] at CK
  have HP := Lib.hid hp
  have hb : (E == 0) = false := by simpa using hne
  clear hp hE
  go_enter Try.func18, Try.ntmps18
  go_wp2_with fail
  refine (CK.out _ (HP.out.keep (by (repeat' (first | (with_reducible exact Below.refl _ _) | (with_reducible assumption) | (with_reducible refine Below.drew ?_) | (with_reducible refine below_drewN ?_ _) | (with_reducible refine Below.setCell ?_ ?_ _) | (with_reducible refine Below.alloc ?_ ?_ _) | go_size | omega))))).mono ?_
  rintro e w1 ⟨rfl, h⟩
  have B1 : Below w.heap.size w w1 := below_via (by (repeat' (first | (with_reducible exact Below.refl _ _) | (with_reducible assumption) | (with_reducible refine Below.drew ?_) | (with_reducible refine below_drewN ?_ _) | (with_reducible refine Below.setCell ?_ ?_ _) | (with_reducible refine Below.alloc ?_ ?_ _) | go_size | omega))) h
  clear h
  go_wp2_with fail
  go_ret2
  exact ⟨rfl, B1⟩
set_option maxRecDepth 100000 in
set_option maxHeartbeats 1600000 in
theorem forcesAtBad_any (E : Int) (t0 t1 t2 : Int) (l : List Pf) (a : Option Addr) (cap : Nat) (w : World) (hE : chkP l = E) (hne : E ≠ 0) (hl : l.length ≤ 9223372036854775807) (hp : PlAt w a l) :
    Calls Try.prog 44 #[.slice a l.length cap, vec t0 t1 t2] w fun e w' => e = .returned (.int .i64 E) ∧ Below w.heap.size w w' := by
  have CK := Lib.hid (fun (u : World) (h : PlAt u a l) => chkP_any l a cap u hl h)
  rw [hE] at CK
  have HP := Lib.hid hp
  have hb : (E == 0) = false := by simpa using hne
  clear hp hE
  go_enter Try.func44, Try.ntmps44
  go_wp2_with fail
  refine (CK.out _ (HP.out.keep (by (repeat' (first | (with_reducible exact Below.refl _ _) | (with_reducible assumption) | (with_reducible refine Below.drew ?_) | (with_reducible refine below_drewN ?_ _) | (with_reducible refine Below.setCell ?_ ?_ _) | (with_reducible refine Below.alloc ?_ ?_ _) | go_size | omega))))).mono ?_
  rintro e w1 ⟨rfl, h⟩
  have B1 : Below w.heap.size w w1 := below_via (by (repeat' (first | (with_reducible exact Below.refl _ _) | (with_reducible assumption) | (with_reducible refine Below.drew ?_) | (with_reducible refine below_drewN ?_ _) | (with_reducible refine Below.setCell ?_ ?_ _) | (with_reducible refine Below.alloc ?_ ?_ _) | go_size | omega))) h
  clear h
  go_wp2_with fail
  go_ret
  exact ⟨rfl, B1⟩
set_option maxRecDepth 100000 in
set_option maxHeartbeats 1600000 in
theorem forcesAtPlace_any (t0 t1 t2 : Int) (l : List Pf) (a : Option Addr) (cap : Nat) (w : World) (hc : chkP l = 0) (hp : PlAt w a l) (ht : beyV 1000000 t0 t1 t2 = true) :
    Calls Try.prog 44 #[.slice a l.length cap, vec t0 t1 t2] w fun e w' => e = .returned (.int .i64 2) ∧ Below w.heap.size w w' := by
  have ho := okL_of hc
  have CK := Lib.hid (fun (u : World) (h : PlAt u a l) => chkP_any l a cap u (by have := ho.1; omega) h)
  rw [hc] at CK
  have CA := Lib.hid (fun (u : World) (b o : Nat) (h : VecsAt u b o [⟨t0, t1, t2⟩]) => placeError_any b o 1 [⟨t0, t1, t2⟩] u h (by simp))
  rw [plErr_one, ht] at CA
  have HP := Lib.hid hp
  clear hp hc ho
  go_enter Try.func44, Try.ntmps44
  go_wp2_with fail
  refine (CK.out _ (HP.out.keep (by (repeat' (first | (with_reducible exact Below.refl _ _) | (with_reducible assumption) | (with_reducible refine Below.drew ?_) | (with_reducible refine below_drewN ?_ _) | (with_reducible refine Below.setCell ?_ ?_ _) | (with_reducible refine Below.alloc ?_ ?_ _) | go_size | omega))))).mono ?_
  rintro e w1 ⟨rfl, h⟩
  have B1 : Below w.heap.size w w1 := below_via (by (repeat' (first | (with_reducible exact Below.refl _ _) | (with_reducible assumption) | (with_reducible refine Below.drew ?_) | (with_reducible refine below_drewN ?_ _) | (with_reducible refine Below.setCell ?_ ?_ _) | (with_reducible refine Below.alloc ?_ ?_ _) | go_size | omega))) h
  have R1 := Lib.hid ((Box.new w #[.int .i64 t0, .int .i64 t1, .int .i64 t2] 91 (n := w.heap.size) rfl).keep h)
  clear h
  obtain ⟨n0, n1, n2, -⟩ := R1.out.three
  have l0 := R1.out.lt
  go_wp2_with fail
  clear n0 n1 n2
  refine (CA.out _ w1.heap.size 0 (vecs_one w1 t0 t1 t2)).mono ?_
  rintro e w2 ⟨rfl, h⟩
  have B2 : Below w.heap.size w w2 := below_via (by (repeat' (first | (with_reducible exact Below.refl _ _) | (with_reducible assumption) | (with_reducible refine Below.drew ?_) | (with_reducible refine below_drewN ?_ _) | (with_reducible refine Below.setCell ?_ ?_ _) | (with_reducible refine Below.alloc ?_ ?_ _) | go_size | omega))) h
  clear h
  go_wp2_with fail
  go_ret
  exact ⟨rfl, B2⟩
end Go.Proofs.Ytahfliboanphkaa
