/-
  A place moved: plate.movedPlace.
-/
import Derived.Test.YtahfliboanphkaaFck
import Derived.Deep.RegionHeld3
namespace Go.Proofs.Ytahfliboanphkaa
open Go.RowKit
set_option maxRecDepth 100000 in
set_option maxHeartbeats 3200000 in
theorem mvp_far (p0 p1 p2 b0 b1 b2 : Int) (w : World) (hb : beyV 2000000 b0 b1 b2 = true) :
    Calls Try.prog 53 #[vec p0 p1 p2, vec b0 b1 b2] w fun e w' => e = .returned (.tuple #[vec 0 0 0, .int .i64 2]) ∧ Below w.heap.size w w' := by
  have C2 := Lib.hid (fun (c : Nat) (v : World) (hcl : c < v.heap.size) (hc : v.cell? ⟨c, 0, none⟩ = some (.int .i64 2000000)) => hasOne_any 2000000 b0 b1 b2 c v (by omega) (by omega) hcl hc)
  rw [hb] at C2
  clear hb
  go_enter Try.func53, Try.ntmps53
  go_wp2_with fail
  have RP := Lib.hid (((Box.new w #[.int .i64 p0, .int .i64 p1, .int .i64 p2] 91 (n := w.heap.size) rfl).alloc (.cells #[.int .i64 b0, .int .i64 b1, .int .i64 b2] 91)).alloc (.cells #[.int .i64 0, .int .i64 0, .int .i64 0] 91))
  have RB := Lib.hid ((Box.new (w.alloc (.cells #[.int .i64 p0, .int .i64 p1, .int .i64 p2] 91)) #[.int .i64 b0, .int .i64 b1, .int .i64 b2] 91 (n := w.heap.size + 1) (by simp)).alloc (.cells #[.int .i64 0, .int .i64 0, .int .i64 0] 91))
  have RZ := Lib.hid (Box.new ((w.alloc (.cells #[.int .i64 p0, .int .i64 p1, .int .i64 p2] 91)).alloc (.cells #[.int .i64 b0, .int .i64 b1, .int .i64 b2] 91)) #[.int .i64 0, .int .i64 0, .int .i64 0] 91 (n := w.heap.size + 1 + 1) (by simp))
  have BU : Below w.heap.size w (((w.alloc (.cells #[.int .i64 p0, .int .i64 p1, .int .i64 p2] 91)).alloc (.cells #[.int .i64 b0, .int .i64 b1, .int .i64 b2] 91)).alloc (.cells #[.int .i64 0, .int .i64 0, .int .i64 0] 91)) := by (repeat' (first | (with_reducible exact Below.refl _ _) | (with_reducible assumption) | (with_reducible refine Below.drew ?_) | (with_reducible refine below_drewN ?_ _) | (with_reducible refine Below.setCell ?_ ?_ _) | (with_reducible refine Below.alloc ?_ ?_ _) | go_size | omega))
  have zu : w.heap.size + 1 + 1 < (((w.alloc (.cells #[.int .i64 p0, .int .i64 p1, .int .i64 p2] 91)).alloc (.cells #[.int .i64 b0, .int .i64 b1, .int .i64 b2] 91)).alloc (.cells #[.int .i64 0, .int .i64 0, .int .i64 0] 91)).heap.size := by simp
  generalize (((w.alloc (.cells #[.int .i64 p0, .int .i64 p1, .int .i64 p2] 91)).alloc (.cells #[.int .i64 b0, .int .i64 b1, .int .i64 b2] 91)).alloc (.cells #[.int .i64 0, .int .i64 0, .int .i64 0] 91)) = u at *
  have lb := RB.out.lt
  have K := Lib.hid (fun (w' : World) (hw : Below u.heap.size u w') => show (w'.cell? ⟨w.heap.size + 1, 0, none⟩ = some (.int .i64 b0) ∧ w'.cell? ⟨w.heap.size + 1, 1, none⟩ = some (.int .i64 b1) ∧ w'.cell? ⟨w.heap.size + 1, 2, none⟩ = some (.int .i64 b2)) from ⟨(RB.out.keep hw).cell 0, (RB.out.keep hw).cell 1, (RB.out.keep hw).cell 2⟩)
  go_region_held3 (fun w' => (w'.cell? ⟨w.heap.size + 1, 0, none⟩ = some (.int .i64 b0) ∧ w'.cell? ⟨w.heap.size + 1, 1, none⟩ = some (.int .i64 b1) ∧ w'.cell? ⟨w.heap.size + 1, 2, none⟩ = some (.int .i64 b2)))
    ((refine K.out _ ?_; (repeat' (first | (with_reducible exact Below.refl _ _) | (with_reducible assumption) | (with_reducible refine Below.drew ?_) | (with_reducible refine below_drewN ?_ _) | (with_reducible refine Below.setCell ?_ ?_ _) | (with_reducible refine Below.alloc ?_ ?_ _) | go_size | omega)); done))
    (first | (go_at_call 74; refine (beyond_any _ _).mono ?_; rintro e w8 ⟨rfl, bx8, h8⟩; have hB8 : Below u.heap.size u w8 := below_via (by (repeat' (first | (with_reducible exact Below.refl _ _) | (with_reducible assumption) | (with_reducible refine Below.drew ?_) | (with_reducible refine below_drewN ?_ _) | (with_reducible refine Below.setCell ?_ ?_ _) | (with_reducible refine Below.alloc ?_ ?_ _) | go_size | omega))) h8; have hz8 := hB8.size; have HC8 := Lib.hid bx8; have lc8 := bx8.lt; clear h8 bx8; obtain ⟨k0_0, k0_1, k0_2⟩ := K.out w8 hB8) | (go_at_call 73; refine (C2.out _ _ lc8 (HC8.out.cell 0)).mono ?_; rintro e w9 ⟨rfl, h9⟩; have hB9 : Below u.heap.size u w9 := below_via (by (repeat' (first | (with_reducible exact Below.refl _ _) | (with_reducible assumption) | (with_reducible refine Below.drew ?_) | (with_reducible refine below_drewN ?_ _) | (with_reducible refine Below.setCell ?_ ?_ _) | (with_reducible refine Below.alloc ?_ ?_ _) | go_size | omega))) h9; clear h9; have hz9 := hB9.size; obtain ⟨k0_0, k0_1, k0_2⟩ := K.out w9 hB9))
  all_goals
    have BV : Below w.heap.size w w9 := below_via BU hB9
    have QP := Lib.hid (RP.out.keep hB9); have QB := Lib.hid (RB.out.keep hB9); have QZ := Lib.hid (RZ.out.keep hB9)
    have zv := hB9.size
    obtain ⟨n0, n1, n2, f0, f1, f2⟩ := QZ.out.three
    have lz := QZ.out.lt
    go_wp2_with fail
    clear n0 n1 n2 f0 f1 f2
    have RV : Box (((w9.setCell ⟨w.heap.size + 1 + 1, 0, none⟩ (.int .i64 0)).setCell ⟨w.heap.size + 1 + 1, 1, none⟩ (.int .i64 0)).setCell ⟨w.heap.size + 1 + 1, 2, none⟩ (.int .i64 0)) (w.heap.size + 1 + 1) #[.int .i64 0, .int .i64 0, .int .i64 0] 91 := ((QZ.out.set 0 _).set 1 _).set 2 _
    have BR : Below w.heap.size w (((w9.setCell ⟨w.heap.size + 1 + 1, 0, none⟩ (.int .i64 0)).setCell ⟨w.heap.size + 1 + 1, 1, none⟩ (.int .i64 0)).setCell ⟨w.heap.size + 1 + 1, 2, none⟩ (.int .i64 0)) := by (repeat' (first | (with_reducible exact Below.refl _ _) | (with_reducible assumption) | (with_reducible refine Below.drew ?_) | (with_reducible refine below_drewN ?_ _) | (with_reducible refine Below.setCell ?_ ?_ _) | (with_reducible refine Below.alloc ?_ ?_ _) | go_size | omega))
    generalize (((w9.setCell ⟨w.heap.size + 1 + 1, 0, none⟩ (.int .i64 0)).setCell ⟨w.heap.size + 1 + 1, 1, none⟩ (.int .i64 0)).setCell ⟨w.heap.size + 1 + 1, 2, none⟩ (.int .i64 0)) = v at *
    have r0 := RV.cell 0; have r1 := RV.cell 1; have r2 := RV.cell 2
    simp at r0 r1 r2
    go_wp2_with fail
    refine bodyPost_ret (v := .tuple #[.agg #[.int .i64 0, .int .i64 0, .int .i64 0], .int .i64 2]) (by simp [results, Try.results53, go_sem, r0, r1, r2]) rfl ⟨rfl, BR⟩
set_option maxRecDepth 100000 in
set_option maxHeartbeats 3200000 in
theorem mvp_near (p0 p1 p2 b0 b1 b2 E : Int) (w : World) (hp : Big 1000000 p0 p1 p2) (hb : beyV 2000000 b0 b1 b2 = false) (hE : (if beyV 1000000 (p0 + b0) (p1 + b1) (p2 + b2) = true then 2 else 0) = E) :
    Calls Try.prog 53 #[vec p0 p1 p2, vec b0 b1 b2] w fun e w' => e = .returned (.tuple #[vec (p0 + b0) (p1 + b1) (p2 + b2), .int .i64 E]) ∧ Below w.heap.size w w' := by
  have hbb := beyV_no hb
  have CP := Lib.hid (fun u => vplus_any p0 p1 p2 b0 b1 b2 u (hp.up (by omega)) (hbb.up (by omega)))
  have CA := Lib.hid (fun (u : World) (b o : Nat) (h : VecsAt u b o [⟨p0 + b0, p1 + b1, p2 + b2⟩]) => placeError_any b o 1 [⟨p0 + b0, p1 + b1, p2 + b2⟩] u h (by simp))
  rw [plErr_one, hE] at CA
  clear hE hp hbb
  have C2 := Lib.hid (fun (c : Nat) (v : World) (hcl : c < v.heap.size) (hc : v.cell? ⟨c, 0, none⟩ = some (.int .i64 2000000)) => hasOne_any 2000000 b0 b1 b2 c v (by omega) (by omega) hcl hc)
  rw [hb] at C2
  clear hb
  go_enter Try.func53, Try.ntmps53
  go_wp2_with fail
  have RP := Lib.hid (((Box.new w #[.int .i64 p0, .int .i64 p1, .int .i64 p2] 91 (n := w.heap.size) rfl).alloc (.cells #[.int .i64 b0, .int .i64 b1, .int .i64 b2] 91)).alloc (.cells #[.int .i64 0, .int .i64 0, .int .i64 0] 91))
  have RB := Lib.hid ((Box.new (w.alloc (.cells #[.int .i64 p0, .int .i64 p1, .int .i64 p2] 91)) #[.int .i64 b0, .int .i64 b1, .int .i64 b2] 91 (n := w.heap.size + 1) (by simp)).alloc (.cells #[.int .i64 0, .int .i64 0, .int .i64 0] 91))
  have RZ := Lib.hid (Box.new ((w.alloc (.cells #[.int .i64 p0, .int .i64 p1, .int .i64 p2] 91)).alloc (.cells #[.int .i64 b0, .int .i64 b1, .int .i64 b2] 91)) #[.int .i64 0, .int .i64 0, .int .i64 0] 91 (n := w.heap.size + 1 + 1) (by simp))
  have BU : Below w.heap.size w (((w.alloc (.cells #[.int .i64 p0, .int .i64 p1, .int .i64 p2] 91)).alloc (.cells #[.int .i64 b0, .int .i64 b1, .int .i64 b2] 91)).alloc (.cells #[.int .i64 0, .int .i64 0, .int .i64 0] 91)) := by (repeat' (first | (with_reducible exact Below.refl _ _) | (with_reducible assumption) | (with_reducible refine Below.drew ?_) | (with_reducible refine below_drewN ?_ _) | (with_reducible refine Below.setCell ?_ ?_ _) | (with_reducible refine Below.alloc ?_ ?_ _) | go_size | omega))
  have zu : w.heap.size + 1 + 1 < (((w.alloc (.cells #[.int .i64 p0, .int .i64 p1, .int .i64 p2] 91)).alloc (.cells #[.int .i64 b0, .int .i64 b1, .int .i64 b2] 91)).alloc (.cells #[.int .i64 0, .int .i64 0, .int .i64 0] 91)).heap.size := by simp
  generalize (((w.alloc (.cells #[.int .i64 p0, .int .i64 p1, .int .i64 p2] 91)).alloc (.cells #[.int .i64 b0, .int .i64 b1, .int .i64 b2] 91)).alloc (.cells #[.int .i64 0, .int .i64 0, .int .i64 0] 91)) = u at *
  have lb := RB.out.lt
  have K := Lib.hid (fun (w' : World) (hw : Below u.heap.size u w') => show (w'.cell? ⟨w.heap.size + 1, 0, none⟩ = some (.int .i64 b0) ∧ w'.cell? ⟨w.heap.size + 1, 1, none⟩ = some (.int .i64 b1) ∧ w'.cell? ⟨w.heap.size + 1, 2, none⟩ = some (.int .i64 b2)) from ⟨(RB.out.keep hw).cell 0, (RB.out.keep hw).cell 1, (RB.out.keep hw).cell 2⟩)
  go_region_held3 (fun w' => (w'.cell? ⟨w.heap.size + 1, 0, none⟩ = some (.int .i64 b0) ∧ w'.cell? ⟨w.heap.size + 1, 1, none⟩ = some (.int .i64 b1) ∧ w'.cell? ⟨w.heap.size + 1, 2, none⟩ = some (.int .i64 b2)))
    ((refine K.out _ ?_; (repeat' (first | (with_reducible exact Below.refl _ _) | (with_reducible assumption) | (with_reducible refine Below.drew ?_) | (with_reducible refine below_drewN ?_ _) | (with_reducible refine Below.setCell ?_ ?_ _) | (with_reducible refine Below.alloc ?_ ?_ _) | go_size | omega)); done))
    (first | (go_at_call 74; refine (beyond_any _ _).mono ?_; rintro e w8 ⟨rfl, bx8, h8⟩; have hB8 : Below u.heap.size u w8 := below_via (by (repeat' (first | (with_reducible exact Below.refl _ _) | (with_reducible assumption) | (with_reducible refine Below.drew ?_) | (with_reducible refine below_drewN ?_ _) | (with_reducible refine Below.setCell ?_ ?_ _) | (with_reducible refine Below.alloc ?_ ?_ _) | go_size | omega))) h8; have hz8 := hB8.size; have HC8 := Lib.hid bx8; have lc8 := bx8.lt; clear h8 bx8; obtain ⟨k0_0, k0_1, k0_2⟩ := K.out w8 hB8) | (go_at_call 73; refine (C2.out _ _ lc8 (HC8.out.cell 0)).mono ?_; rintro e w9 ⟨rfl, h9⟩; have hB9 : Below u.heap.size u w9 := below_via (by (repeat' (first | (with_reducible exact Below.refl _ _) | (with_reducible assumption) | (with_reducible refine Below.drew ?_) | (with_reducible refine below_drewN ?_ _) | (with_reducible refine Below.setCell ?_ ?_ _) | (with_reducible refine Below.alloc ?_ ?_ _) | go_size | omega))) h9; clear h9; have hz9 := hB9.size; obtain ⟨k0_0, k0_1, k0_2⟩ := K.out w9 hB9))
  all_goals
    have BV : Below w.heap.size w w9 := below_via BU hB9
    have QP := Lib.hid (RP.out.keep hB9); have QB := Lib.hid (RB.out.keep hB9); have QZ := Lib.hid (RZ.out.keep hB9)
    have zv := hB9.size
    obtain ⟨n0, n1, n2, -⟩ := QP.out.three
    obtain ⟨m0, m1, m2, -⟩ := QB.out.three
    have lp := QP.out.lt; have lq := QB.out.lt
    clear K k0_0 k0_1 k0_2 lb
    go_wp2_with fail
    clear n0 n1 n2 m0 m1 m2
    refine (CP.out _).mono ?_
    rintro e w2 ⟨rfl, h⟩
    have B2 : Below w.heap.size w w2 := below_via BV h
    have QZ2 := Lib.hid (QZ.out.keep h)
    have z2 := h.size
    clear h CP
    generalize hs0 : p0 + b0 = s0 at *
    generalize hs1 : p1 + b1 = s1 at *
    generalize hs2 : p2 + b2 = s2 at *
    have HS := Lib.hid (And.intro hs0 (And.intro hs1 hs2))
    clear hs0 hs1 hs2
    go_wp2_with fail
    have RM := Lib.hid (Box.new w2 #[.int .i64 s0, .int .i64 s1, .int .i64 s2] 91 (n := w2.heap.size) rfl)
    have QZ3 := Lib.hid (QZ2.out.alloc (.cells #[.int .i64 s0, .int .i64 s1, .int .i64 s2] 91))
    have BU2 : Below w.heap.size w (w2.alloc (.cells #[.int .i64 s0, .int .i64 s1, .int .i64 s2] 91)) := by (repeat' (first | (with_reducible exact Below.refl _ _) | (with_reducible assumption) | (with_reducible refine Below.drew ?_) | (with_reducible refine below_drewN ?_ _) | (with_reducible refine Below.setCell ?_ ?_ _) | (with_reducible refine Below.alloc ?_ ?_ _) | go_size | omega))
    clear QZ2 QP QB QZ RP RB RZ
    generalize (w2.alloc (.cells #[.int .i64 s0, .int .i64 s1, .int .i64 s2] 91)) = u2 at *
    have lm := RM.out.lt; have lz := QZ3.out.lt
    generalize w2.heap.size = mb at *
    have K := Lib.hid (fun (w' : World) (hw : Below u2.heap.size u2 w') => show (w'.cell? ⟨mb, 0, none⟩ = some (.int .i64 s0) ∧ w'.cell? ⟨mb, 1, none⟩ = some (.int .i64 s1) ∧ w'.cell? ⟨mb, 2, none⟩ = some (.int .i64 s2)) from ⟨(RM.out.keep hw).cell 0, (RM.out.keep hw).cell 1, (RM.out.keep hw).cell 2⟩)
    go_region_held3 (fun w' => (w'.cell? ⟨mb, 0, none⟩ = some (.int .i64 s0) ∧ w'.cell? ⟨mb, 1, none⟩ = some (.int .i64 s1) ∧ w'.cell? ⟨mb, 2, none⟩ = some (.int .i64 s2)))
      (first | (refine K.out _ ?_; (repeat' (first | (with_reducible exact Below.refl _ _) | (with_reducible assumption) | (with_reducible refine Below.drew ?_) | (with_reducible refine below_drewN ?_ _) | (with_reducible refine Below.setCell ?_ ?_ _) | (with_reducible refine Below.alloc ?_ ?_ _) | go_size | omega)); done) | (refine ⟨?_, ?_, ?_⟩ <;> (repeat (refine (World.cell?_setCell_far _ _ _ _ (by simp; omega)).trans ?_)) <;> assumption))
      (first | (go_at_call 71; refine (CA.out _ _ _ (show VecsAt (u2.alloc (.cells #[.int .i64 s0, .int .i64 s1, .int .i64 s2] 91)).drew u2.heap.size 0 [⟨s0, s1, s2⟩] from vecs_one u2 s0 s1 s2)).mono ?_; rintro e w7 ⟨rfl, h7⟩; have hB7 : Below u2.heap.size u2 w7 := below_via (by (repeat' (first | (with_reducible exact Below.refl _ _) | (with_reducible assumption) | (with_reducible refine Below.drew ?_) | (with_reducible refine below_drewN ?_ _) | (with_reducible refine Below.setCell ?_ ?_ _) | (with_reducible refine Below.alloc ?_ ?_ _) | go_size | omega))) h7; clear h7; have hz7 := hB7.size; obtain ⟨k1_0, k1_1, k1_2⟩ := K.out w7 hB7; obtain ⟨n0, n1, n2, f0, f1, f2⟩ := (QZ3.out.keep hB7).three; have lzz := (QZ3.out.keep hB7).lt))
    all_goals
      have QZ7 := Lib.hid (QZ3.out.keep hB7)
      have BL : Below w.heap.size w w7 := below_via BU2 hB7
      have RV : Box (((w7.setCell ⟨w.heap.size + 1 + 1, 0, none⟩ (.int .i64 s0)).setCell ⟨w.heap.size + 1 + 1, 1, none⟩ (.int .i64 s1)).setCell ⟨w.heap.size + 1 + 1, 2, none⟩ (.int .i64 s2)) (w.heap.size + 1 + 1) #[.int .i64 s0, .int .i64 s1, .int .i64 s2] 91 := ((QZ7.out.set 0 _).set 1 _).set 2 _
      have BR : Below w.heap.size w (((w7.setCell ⟨w.heap.size + 1 + 1, 0, none⟩ (.int .i64 s0)).setCell ⟨w.heap.size + 1 + 1, 1, none⟩ (.int .i64 s1)).setCell ⟨w.heap.size + 1 + 1, 2, none⟩ (.int .i64 s2)) := by (repeat' (first | (with_reducible exact Below.refl _ _) | (with_reducible assumption) | (with_reducible refine Below.drew ?_) | (with_reducible refine below_drewN ?_ _) | (with_reducible refine Below.setCell ?_ ?_ _) | (with_reducible refine Below.alloc ?_ ?_ _) | go_size | omega))
      generalize (((w7.setCell ⟨w.heap.size + 1 + 1, 0, none⟩ (.int .i64 s0)).setCell ⟨w.heap.size + 1 + 1, 1, none⟩ (.int .i64 s1)).setCell ⟨w.heap.size + 1 + 1, 2, none⟩ (.int .i64 s2)) = v at *
      have r0 := RV.cell 0; have r1 := RV.cell 1; have r2 := RV.cell 2
      simp at r0 r1 r2
      go_wp2_with fail
      refine bodyPost_ret (v := .tuple #[.agg #[.int .i64 s0, .int .i64 s1, .int .i64 s2], .int .i64 E]) (by simp [results, Try.results53, go_sem, r0, r1, r2]) rfl ⟨by rw [HS.out.1, HS.out.2.1, HS.out.2.2], BR⟩
end Go.Proofs.Ytahfliboanphkaa
