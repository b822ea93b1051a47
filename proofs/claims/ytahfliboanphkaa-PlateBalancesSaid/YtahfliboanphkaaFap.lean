/-
  Sum, Moment and Balanced, of forces that are right.
-/
import Derived.Test.YtahfliboanphkaaFmo
import Derived.Deep.RegionWith
namespace Go.Proofs.Ytahfliboanphkaa
open Go.RowKit
set_option maxRecDepth 100000 in
set_option maxHeartbeats 1600000 in
theorem rcross2_any (a0 a1 a2 b0 b1 b2 : Int) (w : World) (ha : Big 1000000 a0 a1 a2) (hb : Big 300000000000 b0 b1 b2) :
    Calls Try.prog 50 #[vec a0 a1 a2, vec b0 b1 b2] w fun e w' => e = .returned (vec (a1 * b2 - a2 * b1) (a2 * b0 - a0 * b2) (a0 * b1 - a1 * b0)) ∧ Below w.heap.size w w' := by
  obtain ⟨⟨x0, x1⟩, ⟨x2, x3⟩, x4, x5⟩ := ha
  obtain ⟨⟨y0, y1⟩, ⟨y2, y3⟩, y4, y5⟩ := hb
  obtain ⟨p0, q0⟩ := mul_bd (A := 1000000) (B := 300000000000) (a := a1) (b := b2) (by omega) (by omega) (by omega) (by omega)
  obtain ⟨p1, q1⟩ := mul_bd (A := 1000000) (B := 300000000000) (a := a2) (b := b1) (by omega) (by omega) (by omega) (by omega)
  obtain ⟨p2, q2⟩ := mul_bd (A := 1000000) (B := 300000000000) (a := a2) (b := b0) (by omega) (by omega) (by omega) (by omega)
  obtain ⟨p3, q3⟩ := mul_bd (A := 1000000) (B := 300000000000) (a := a0) (b := b2) (by omega) (by omega) (by omega) (by omega)
  obtain ⟨p4, q4⟩ := mul_bd (A := 1000000) (B := 300000000000) (a := a0) (b := b1) (by omega) (by omega) (by omega) (by omega)
  obtain ⟨p5, q5⟩ := mul_bd (A := 1000000) (B := 300000000000) (a := a1) (b := b0) (by omega) (by omega) (by omega) (by omega)
  go_enter Try.func50, Try.ntmps50
  go_wp2_with fail
  have RV : Box (((w.alloc (.cells #[.int .i64 a0, .int .i64 a1, .int .i64 a2] 23)).alloc (.cells #[.int .i64 b0, .int .i64 b1, .int .i64 b2] 23)).alloc (.cells #[.int .i64 (a1 * b2 - a2 * b1), .int .i64 (a2 * b0 - a0 * b2), .int .i64 (a0 * b1 - a1 * b0)] 23)) (w.heap.size + 1 + 1) #[.int .i64 (a1 * b2 - a2 * b1), .int .i64 (a2 * b0 - a0 * b2), .int .i64 (a0 * b1 - a1 * b0)] 23 := Box.new _ _ _ (by simp)
  have BV : Below w.heap.size w (((w.alloc (.cells #[.int .i64 a0, .int .i64 a1, .int .i64 a2] 23)).alloc (.cells #[.int .i64 b0, .int .i64 b1, .int .i64 b2] 23)).alloc (.cells #[.int .i64 (a1 * b2 - a2 * b1), .int .i64 (a2 * b0 - a0 * b2), .int .i64 (a0 * b1 - a1 * b0)] 23)) := by (repeat' (first | (with_reducible exact Below.refl _ _) | (with_reducible assumption) | (with_reducible refine Below.drew ?_) | (with_reducible refine below_drewN ?_ _) | (with_reducible refine Below.setCell ?_ ?_ _) | (with_reducible refine Below.alloc ?_ ?_ _) | go_size | omega))
  generalize (((w.alloc (.cells #[.int .i64 a0, .int .i64 a1, .int .i64 a2] 23)).alloc (.cells #[.int .i64 b0, .int .i64 b1, .int .i64 b2] 23)).alloc (.cells #[.int .i64 (a1 * b2 - a2 * b1), .int .i64 (a2 * b0 - a0 * b2), .int .i64 (a0 * b1 - a1 * b0)] 23)) = v at *
  have s0 := RV.cell 0
  have s1 := RV.cell 1
  have s2 := RV.cell 2
  simp at s0 s1 s2
  refine bodyPost_ret (v := vec (a1 * b2 - a2 * b1) (a2 * b0 - a0 * b2) (a0 * b1 - a1 * b0)) (by simp [results, Try.results50, go_sem, s0, s1, s2]) rfl ⟨rfl, BV⟩

theorem eqVec3 (a0 a1 a2 b0 b1 b2 : Int) (w : World) :
    (Op.equalIn 10000 91 (.agg #[.int .i64 a0, .int .i64 a1, .int .i64 a2]) (.agg #[.int .i64 b0, .int .i64 b1, .int .i64 b2])).run Try.prog w = .ok (a0 == b0 && (a1 == b1 && a2 == b2)) w := by
  have hi : ∃ i, Try.prog.info? 3 = some i := by
    cases h : Try.prog.info? 3 with
    | none => exact absurd h (by decide +kernel)
    | some i => exact ⟨i, rfl⟩
  obtain ⟨i, hi⟩ := hi
  have hc : Try.prog.cellsOf 3 = 1 := by kernel_rfl
  rw [show (10000 : Nat) = 9999 + 1 from rfl, run_equalIn_array w 9999 _ _ Try.underlying91 hi, hc, show List.range 3 = [0, 1, 2] from rfl]
  simp [Op.eqItems, go_sem]
  by_cases h0 : a0 = b0 <;> by_cases h1 : a1 = b1 <;> by_cases h2 : a2 = b2 <;> simp [h0, h1, h2]
set_option maxRecDepth 100000 in
set_option maxHeartbeats 1600000 in
theorem sumOk_any (l : List Pf) (a : Option Addr) (cap : Nat) (w : World) (hc : chkP l = 0) (hp : PlAt w a l) :
    Calls Try.prog 17 #[.slice a l.length cap] w fun e w' => e = .returned (.tuple #[vec (sA Pf.p l l.length) (sA Pf.q l l.length) (sA Pf.r l l.length), .int .i64 0]) ∧ Below w.heap.size w w' := by
  have ho := okL_of hc
  have CK := Lib.hid (fun (u : World) (h : PlAt u a l) => chkP_any l a cap u (by have := ho.1; omega) h)
  rw [hc] at CK
  have CS := Lib.hid (fun (u : World) (h : PlAt u a l) => sumOf_any l a cap u ho h)
  have HP := Lib.hid hp
  clear hp hc ho
  generalize sA Pf.p l l.length = A0 at *
  generalize sA Pf.q l l.length = A1 at *
  generalize sA Pf.r l l.length = A2 at *
  go_enter Try.func17, Try.ntmps17
  go_wp2_with fail
  refine (CK.out _ (HP.out.keep (by (repeat' (first | (with_reducible exact Below.refl _ _) | (with_reducible assumption) | (with_reducible refine Below.drew ?_) | (with_reducible refine below_drewN ?_ _) | (with_reducible refine Below.setCell ?_ ?_ _) | (with_reducible refine Below.alloc ?_ ?_ _) | go_size | omega))))).mono ?_
  rintro e w1 ⟨rfl, h⟩
  have B1 : Below w.heap.size w w1 := below_via (by (repeat' (first | (with_reducible exact Below.refl _ _) | (with_reducible assumption) | (with_reducible refine Below.drew ?_) | (with_reducible refine below_drewN ?_ _) | (with_reducible refine Below.setCell ?_ ?_ _) | (with_reducible refine Below.alloc ?_ ?_ _) | go_size | omega))) h
  have R1 := Lib.hid ((Box.new w #[.int .i64 0, .int .i64 0, .int .i64 0] 23 (n := w.heap.size) rfl).keep h)
  clear h
  go_wp2_with fail
  refine (CS.out _ (HP.out.keep B1)).mono ?_
  rintro e w2 ⟨rfl, h⟩
  have B2 : Below w.heap.size w w2 := below_via B1 h
  have R2 := Lib.hid (R1.out.keep h)
  clear h
  obtain ⟨n0, n1, n2, f0, f1, f2⟩ := R2.out.three
  have l0 := R2.out.lt
  go_wp2_with fail
  clear n0 n1 n2 f0 f1 f2
  have RV : Box (((w2.setCell ⟨w.heap.size, 0, none⟩ (.int .i64 A0)).setCell ⟨w.heap.size, 1, none⟩ (.int .i64 A1)).setCell ⟨w.heap.size, 2, none⟩ (.int .i64 A2)) w.heap.size #[.int .i64 A0, .int .i64 A1, .int .i64 A2] 23 := ((R2.out.set 0 _).set 1 _).set 2 _
  have BV : Below w.heap.size w (((w2.setCell ⟨w.heap.size, 0, none⟩ (.int .i64 A0)).setCell ⟨w.heap.size, 1, none⟩ (.int .i64 A1)).setCell ⟨w.heap.size, 2, none⟩ (.int .i64 A2)) := by (repeat' (first | (with_reducible exact Below.refl _ _) | (with_reducible assumption) | (with_reducible refine Below.drew ?_) | (with_reducible refine below_drewN ?_ _) | (with_reducible refine Below.setCell ?_ ?_ _) | (with_reducible refine Below.alloc ?_ ?_ _) | go_size | omega))
  generalize (((w2.setCell ⟨w.heap.size, 0, none⟩ (.int .i64 A0)).setCell ⟨w.heap.size, 1, none⟩ (.int .i64 A1)).setCell ⟨w.heap.size, 2, none⟩ (.int .i64 A2)) = v at *
  have s0 := RV.cell 0; have s1 := RV.cell 1; have s2 := RV.cell 2
  simp at s0 s1 s2
  refine bodyPost_ret (v := .tuple #[vec A0 A1 A2, .int .i64 0]) (by simp [results, Try.results17, go_sem, s0, s1, s2]) rfl ⟨rfl, BV⟩
set_option maxRecDepth 100000 in
set_option maxHeartbeats 1600000 in
theorem forcesAt_any (t0 t1 t2 : Int) (l : List Pf) (a : Option Addr) (cap : Nat) (w : World) (hc : chkP l = 0) (hp : PlAt w a l) (ht : Big 1000000 t0 t1 t2) :
    Calls Try.prog 44 #[.slice a l.length cap, vec t0 t1 t2] w fun e w' => e = .returned (.int .i64 0) ∧ Below w.heap.size w w' := by
  have ho := okL_of hc
  have CK := Lib.hid (fun (u : World) (h : PlAt u a l) => chkP_any l a cap u (by have := ho.1; omega) h)
  rw [hc] at CK
  have CA := Lib.hid (fun (u : World) (b o : Nat) (h : VecsAt u b o [⟨t0, t1, t2⟩]) => placeError_any b o 1 [⟨t0, t1, t2⟩] u h (by simp))
  rw [plErr_one, beyV_of ht] at CA
  have HP := Lib.hid hp
  clear hp hc ho
  go_enter Try.func44, Try.ntmps44
  go_wp2_with fail
  refine (CK.out _ (HP.out.keep (by (repeat' (first | (with_reducible exact Below.refl _ _) | (with_reducible assumption) | (with_reducible refine Below.drew ?_) | (with_reducible refine below_drewN ?_ _) | (with_reducible refine Below.setCell ?_ ?_ _) | (with_reducible refine Below.alloc ?_ ?_ _) | go_size | omega))))).mono ?_
  rintro e w1 ⟨rfl, h⟩
  have B1 : Below w.heap.size w w1 := below_via (by (repeat' (first | (with_reducible exact Below.refl _ _) | (with_reducible assumption) | (with_reducible refine Below.drew ?_) | (with_reducible refine below_drewN ?_ _) | (with_reducible refine Below.setCell ?_ ?_ _) | (with_reducible refine Below.alloc ?_ ?_ _) | go_size | omega))) h
  have R1 := Lib.hid ((Box.new w #[.int .i64 t0, .int .i64 t1, .int .i64 t2] 91 (n := w.heap.size) rfl).keep h)
  clear h
  obtain ⟨n0, n1, n2, -⟩ := R1.out.three
  have l0 := R1.out.lt
  go_wp2_with fail
  clear n0 n1 n2
  refine (CA.out _ w1.heap.size 0 (vecs_one w1 t0 t1 t2)).mono ?_
  rintro e w2 ⟨rfl, h⟩
  have B2 : Below w.heap.size w w2 := below_via (by (repeat' (first | (with_reducible exact Below.refl _ _) | (with_reducible assumption) | (with_reducible refine Below.drew ?_) | (with_reducible refine below_drewN ?_ _) | (with_reducible refine Below.setCell ?_ ?_ _) | (with_reducible refine Below.alloc ?_ ?_ _) | go_size | omega))) h
  clear h
  go_wp2_with fail
  go_ret
  exact ⟨rfl, B2⟩
set_option maxRecDepth 100000 in
set_option maxHeartbeats 1600000 in
theorem balOk_any (l : List Pf) (a : Option Addr) (cap : Nat) (w : World) (hc : chkP l = 0) (hp : PlAt w a l) :
    Calls Try.prog 18 #[.slice a l.length cap] w fun e w' => e = .returned (.tuple #[.bool ((sA Pf.p l l.length == 0 && (sA Pf.q l l.length == 0 && sA Pf.r l l.length == 0)) && (sA (mX 0 0) l l.length == 0 && (sA (mY 0 0) l l.length == 0 && sA (mZ 0 0) l l.length == 0))), .int .i64 0]) ∧ Below w.heap.size w w' := by
  have ho := okL_of hc
  have CK := Lib.hid (fun (u : World) (h : PlAt u a l) => chkP_any l a cap u (by have := ho.1; omega) h)
  rw [hc] at CK
  have CS := Lib.hid (fun (u : World) (h : PlAt u a l) => sumOf_any l a cap u ho h)
  have CM := Lib.hid (fun (u : World) (h : PlAt u a l) => momentAbout_any l 0 0 0 a cap u ho (by unfold Big; omega) h)
  have HP := Lib.hid hp
  clear hp hc ho
  generalize sA Pf.p l l.length = A0 at *
  generalize sA Pf.q l l.length = A1 at *
  generalize sA Pf.r l l.length = A2 at *
  generalize sA (mX 0 0) l l.length = C0 at *
  generalize sA (mY 0 0) l l.length = C1 at *
  generalize sA (mZ 0 0) l l.length = C2 at *
  go_enter Try.func18, Try.ntmps18
  go_wp2_with fail
  refine (CK.out _ (HP.out.keep (by (repeat' (first | (with_reducible exact Below.refl _ _) | (with_reducible assumption) | (with_reducible refine Below.drew ?_) | (with_reducible refine below_drewN ?_ _) | (with_reducible refine Below.setCell ?_ ?_ _) | (with_reducible refine Below.alloc ?_ ?_ _) | go_size | omega))))).mono ?_
  rintro e w1 ⟨rfl, h⟩
  have B1 : Below w.heap.size w w1 := below_via (by (repeat' (first | (with_reducible exact Below.refl _ _) | (with_reducible assumption) | (with_reducible refine Below.drew ?_) | (with_reducible refine below_drewN ?_ _) | (with_reducible refine Below.setCell ?_ ?_ _) | (with_reducible refine Below.alloc ?_ ?_ _) | go_size | omega))) h
  clear h
  have zz1 := B1.size
  have EV := fun (a0 a1 a2 b0 b1 b2 : Int) (v : World) => eqVec3 a0 a1 a2 b0 b1 b2 v
  go_wp2_with fail
  have NB := Lib.hid (Box.new w1 #[.int .i64 0, .int .i64 0, .int .i64 0] 91 (n := w1.heap.size) rfl)
  have B2 : Below w.heap.size w (w1.alloc (.cells #[.int .i64 0, .int .i64 0, .int .i64 0] 91)) := by (repeat' (first | (with_reducible exact Below.refl _ _) | (with_reducible assumption) | (with_reducible refine Below.drew ?_) | (with_reducible refine below_drewN ?_ _) | (with_reducible refine Below.setCell ?_ ?_ _) | (with_reducible refine Below.alloc ?_ ?_ _) | go_size | omega))
  generalize w1.alloc (.cells #[.int .i64 0, .int .i64 0, .int .i64 0] 91) = u at *
  generalize w1.heap.size = nb at *
  obtain ⟨k0, k1, k2, -⟩ := NB.out.three
  have lk := NB.out.lt
  have PB : Hid (PlAt u a l) := Lib.hid (HP.out.keep B2)
  cases hS : (A0 == 0 && (A1 == 0 && A2 == 0))
  · have HS := Lib.hid hS
    have EQS := EV A0 A1 A2 0 0 0
    rw [hS] at EQS
    clear hS EV CM
    first | (go_region_with (first | (go_at_call 45; refine (CS.out _ (PB.out.keep (by (repeat' (first | (with_reducible exact Below.refl _ _) | (with_reducible assumption) | (with_reducible refine Below.drew ?_) | (with_reducible refine below_drewN ?_ _) | (with_reducible refine Below.setCell ?_ ?_ _) | (with_reducible refine Below.alloc ?_ ?_ _) | go_size | omega))))).mono ?_; rintro e w8 ⟨rfl, h8⟩; have hB8 : Below u.heap.size u w8 := below_via (by (repeat' (first | (with_reducible exact Below.refl _ _) | (with_reducible assumption) | (with_reducible refine Below.drew ?_) | (with_reducible refine below_drewN ?_ _) | (with_reducible refine Below.setCell ?_ ?_ _) | (with_reducible refine Below.alloc ?_ ?_ _) | go_size | omega))) h8; clear h8; have hz8 := hB8.size; obtain ⟨m0, m1, m2, -⟩ := (NB.out.keep hB8).three; have lm := (NB.out.keep hB8).lt))) | fail
    all_goals
      have B8 := below_via B2 hB8
      go_wp2_with fail
      go_ret2
      exact ⟨by rw [HS.out]; simp [Act.put], B8⟩
  · have HS := Lib.hid hS
    have EQS := EV A0 A1 A2 0 0 0
    have EQM := EV C0 C1 C2 0 0 0
    rw [hS] at EQS
    clear hS EV
    clear k0 k1 k2
    have K := Lib.hid (fun (w' : World) (hw : Below u.heap.size u w') => show (w'.cell? ⟨nb, 0, none⟩ = some (.int .i64 0) ∧ w'.cell? ⟨nb, 1, none⟩ = some (.int .i64 0) ∧ w'.cell? ⟨nb, 2, none⟩ = some (.int .i64 0)) from ⟨(NB.out.keep hw).cell 0, (NB.out.keep hw).cell 1, (NB.out.keep hw).cell 2⟩)
    go_region_held3 (fun w' => (w'.cell? ⟨nb, 0, none⟩ = some (.int .i64 0) ∧ w'.cell? ⟨nb, 1, none⟩ = some (.int .i64 0) ∧ w'.cell? ⟨nb, 2, none⟩ = some (.int .i64 0)))
      ((refine K.out _ ?_; (repeat' (first | (with_reducible exact Below.refl _ _) | (with_reducible assumption) | (with_reducible refine Below.drew ?_) | (with_reducible refine below_drewN ?_ _) | (with_reducible refine Below.setCell ?_ ?_ _) | (with_reducible refine Below.alloc ?_ ?_ _) | go_size | omega)); done))
      (first | (go_at_call 45; refine (CS.out _ (PB.out.keep (by (repeat' (first | (with_reducible exact Below.refl _ _) | (with_reducible assumption) | (with_reducible refine Below.drew ?_) | (with_reducible refine below_drewN ?_ _) | (with_reducible refine Below.setCell ?_ ?_ _) | (with_reducible refine Below.alloc ?_ ?_ _) | go_size | omega))))).mono ?_; rintro e w8 ⟨rfl, h8⟩; have hB8 : Below u.heap.size u w8 := below_via (by (repeat' (first | (with_reducible exact Below.refl _ _) | (with_reducible assumption) | (with_reducible refine Below.drew ?_) | (with_reducible refine below_drewN ?_ _) | (with_reducible refine Below.setCell ?_ ?_ _) | (with_reducible refine Below.alloc ?_ ?_ _) | go_size | omega))) h8; clear h8; have hz8 := hB8.size; obtain ⟨m0, m1, m2, -⟩ := (NB.out.keep hB8).three; have lm := (NB.out.keep hB8).lt) | (go_at_call 47; refine (CM.out _ (PB.out.keep (by (repeat' (first | (with_reducible exact Below.refl _ _) | (with_reducible assumption) | (with_reducible refine Below.drew ?_) | (with_reducible refine below_drewN ?_ _) | (with_reducible refine Below.setCell ?_ ?_ _) | (with_reducible refine Below.alloc ?_ ?_ _) | go_size | omega))))).mono ?_; rintro e w9 ⟨rfl, h9⟩; have hB9 : Below u.heap.size u w9 := below_via (by (repeat' (first | (with_reducible exact Below.refl _ _) | (with_reducible assumption) | (with_reducible refine Below.drew ?_) | (with_reducible refine below_drewN ?_ _) | (with_reducible refine Below.setCell ?_ ?_ _) | (with_reducible refine Below.alloc ?_ ?_ _) | go_size | omega))) h9; clear h9; have hz9 := hB9.size; obtain ⟨o0, o1, o2, -⟩ := (NB.out.keep hB9).three; have lo := (NB.out.keep hB9).lt))
    all_goals
      have B9 := below_via B2 hB9
      go_wp2_with fail
      go_ret2
      exact ⟨by rw [HS.out]; simp, B9⟩
end Go.Proofs.Ytahfliboanphkaa
