/-
  The reference of PullOf: the whole.
-/
import Derived.Test.YtgmiimpimoipcaaRpu
namespace Go.Proofs.Ytgmiimpimoipcaa
open Go.RowKit
set_option maxRecDepth 100000 in
set_option maxHeartbeats 1600000 in
theorem rpull_ok (tl th a0 a1 a2 b0 b1 b2 : Int) (w : World) (h : 0 ≤ tl ∧ tl ≤ th ∧ th ≤ 10000000000) (ha : Big 1000000 a0 a1 a2) (hb : Big 1000000 b0 b1 b2) (hd : Big 1000000 (b0 - a0) (b1 - a1) (b2 - a2)) (hn : ¬ (b0 - a0 = 0 ∧ b1 - a1 = 0 ∧ b2 - a2 = 0)) (L H : Int) (hL : lenL (b0 - a0) (b1 - a1) (b2 - a2) = L) (hH : lenH (b0 - a0) (b1 - a1) (b2 - a2) = H) :
    Calls Try.prog 13 #[.agg #[.int .i64 tl, .int .i64 th], vec a0 a1 a2, vec b0 b1 b2] w fun e w' => e = .returned (.tuple #[.agg #[.int .i64 (cmpL tl th (b0 - a0) L H), .int .i64 (cmpH tl th (b0 - a0) L H), .int .i64 (cmpL tl th (b1 - a1) L H), .int .i64 (cmpH tl th (b1 - a1) L H), .int .i64 (cmpL tl th (b2 - a2) L H), .int .i64 (cmpH tl th (b2 - a2) L H)], .int .i64 0]) ∧ Below w.heap.size w w' := by
  have i0 : inR tl 0 th = true := decide_eq_true (by omega)
  have i1 : ¬ (10000000000 < th) := by omega
  have i2 : th ≤ 10000000000 := h.2.2
  have CA := Lib.hid (fun u => risPlace_any a0 a1 a2 u)
  rw [szB_bey, beyV_of ha] at CA
  have CB := Lib.hid (fun u => risPlace_any b0 b1 b2 u)
  rw [szB_bey, beyV_of hb] at CB
  have CM := Lib.hid (fun u => rminus_any b0 b1 b2 a0 a1 a2 u (hb.up (by omega)) (ha.up (by omega)))
  have CZ := Lib.hid (fun u => size3_any (b0 - a0) (b1 - a1) (b2 - a2) 1000000 u (by omega) (by omega))
  rw [szB_bey, beyV_of hd] at CZ
  clear hb ha
  generalize b0 - a0 = x at *
  generalize b1 - a1 = y at *
  generalize b2 - a2 = z at *
  have hsz : ¬ (sqV x y z = 0) := by have := (sqV_bd hd).2.2 hn; omega
  have hsz1 : (10000 * (x * x + y * y + z * z) == 0) = false := by unfold sqV at hsz; simpa using hsz
  obtain ⟨s0, s1, -⟩ := sqV_bd hd
  obtain ⟨r0, r1, r2, -⟩ := rooV_sq (s := sqV x y z) s0 (by omega)
  have rr0 : 0 ≤ rooV (sqV x y z) 2 * rooV (sqV x y z) 2 := Int.mul_nonneg r0 r0
  have CR := Lib.hid (fun u => rrootV_any (sqV x y z) 2 u (by unfold rooE; rw [if_pos (by omega)]))
  have HS := Lib.hid (show 10000 * (x * x + y * y + z * z) = sqV x y z from rfl)
  obtain ⟨ql, qh, qL, qH⟩ := len_bd hd hn
  rw [hL] at ql qh
  rw [hH] at qL qH
  rw [show lenL x y z = rooV (sqV x y z) 2 from rfl] at hL
  rw [show lenH x y z = if rooV (sqV x y z) 2 * rooV (sqV x y z) 2 < sqV x y z then rooV (sqV x y z) 2 + 1 else rooV (sqV x y z) 2 from rfl] at hH
  rw [hL] at hH CR r0 r1 r2 rr0
  have HH := Lib.hid hH
  clear hH hL
  obtain ⟨⟨x0, x1⟩, ⟨y0, y1⟩, z0, z1⟩ := hd
  obtain ⟨p0, p1⟩ := sq_bd x0 x1; obtain ⟨p2, p3⟩ := sq_bd y0 y1; obtain ⟨p4, p5⟩ := sq_bd z0 z1
  clear hn hsz
  have CC := Lib.hid (fun (d : Int) (u : World) (d0 : -1000000 ≤ d) (d1 : d ≤ 1000000) => rcomp_any tl th d L H u (by omega) (by omega) (by omega) (by omega) d0 d1 ql qh qL qH)
  go_enter Try.func13, Try.ntmps13
  go_wp2_with (go_at_call 30; refine (Within_any _ _ _ _).mono ?_; rintro e w1 ⟨rfl, rfl⟩)
  have BX0 := (((((Box.new w #[.int .i64 tl, .int .i64 th] 23 (n := w.heap.size) (by simp)).alloc (.cells #[.int .i64 a0, .int .i64 a1, .int .i64 a2] 24)).alloc (.cells #[.int .i64 b0, .int .i64 b1, .int .i64 b2] 24)).alloc (.cells #[.int .i64 0, .int .i64 0, .int .i64 0, .int .i64 0, .int .i64 0, .int .i64 0] 28)).alloc (.cells #[.int .i64 0, .int .i64 0, .int .i64 0, .int .i64 0, .int .i64 0, .int .i64 0] 28))
  have BX1 := ((((Box.new (w.alloc (.cells #[.int .i64 tl, .int .i64 th] 23)) #[.int .i64 a0, .int .i64 a1, .int .i64 a2] 24 (n := w.heap.size + 1) (by simp)).alloc (.cells #[.int .i64 b0, .int .i64 b1, .int .i64 b2] 24)).alloc (.cells #[.int .i64 0, .int .i64 0, .int .i64 0, .int .i64 0, .int .i64 0, .int .i64 0] 28)).alloc (.cells #[.int .i64 0, .int .i64 0, .int .i64 0, .int .i64 0, .int .i64 0, .int .i64 0] 28))
  have BX2 := (((Box.new ((w.alloc (.cells #[.int .i64 tl, .int .i64 th] 23)).alloc (.cells #[.int .i64 a0, .int .i64 a1, .int .i64 a2] 24)) #[.int .i64 b0, .int .i64 b1, .int .i64 b2] 24 (n := w.heap.size + 1 + 1) (by simp)).alloc (.cells #[.int .i64 0, .int .i64 0, .int .i64 0, .int .i64 0, .int .i64 0, .int .i64 0] 28)).alloc (.cells #[.int .i64 0, .int .i64 0, .int .i64 0, .int .i64 0, .int .i64 0, .int .i64 0] 28))
  have BX3 := ((Box.new (((w.alloc (.cells #[.int .i64 tl, .int .i64 th] 23)).alloc (.cells #[.int .i64 a0, .int .i64 a1, .int .i64 a2] 24)).alloc (.cells #[.int .i64 b0, .int .i64 b1, .int .i64 b2] 24)) #[.int .i64 0, .int .i64 0, .int .i64 0, .int .i64 0, .int .i64 0, .int .i64 0] 28 (n := w.heap.size + 1 + 1 + 1) (by simp)).alloc (.cells #[.int .i64 0, .int .i64 0, .int .i64 0, .int .i64 0, .int .i64 0, .int .i64 0] 28))
  have BX4 := (Box.new ((((w.alloc (.cells #[.int .i64 tl, .int .i64 th] 23)).alloc (.cells #[.int .i64 a0, .int .i64 a1, .int .i64 a2] 24)).alloc (.cells #[.int .i64 b0, .int .i64 b1, .int .i64 b2] 24)).alloc (.cells #[.int .i64 0, .int .i64 0, .int .i64 0, .int .i64 0, .int .i64 0, .int .i64 0] 28)) #[.int .i64 0, .int .i64 0, .int .i64 0, .int .i64 0, .int .i64 0, .int .i64 0] 28 (n := w.heap.size + 1 + 1 + 1 + 1) (by simp))
  have BW : Below w.heap.size w (((((w.alloc (.cells #[.int .i64 tl, .int .i64 th] 23)).alloc (.cells #[.int .i64 a0, .int .i64 a1, .int .i64 a2] 24)).alloc (.cells #[.int .i64 b0, .int .i64 b1, .int .i64 b2] 24)).alloc (.cells #[.int .i64 0, .int .i64 0, .int .i64 0, .int .i64 0, .int .i64 0, .int .i64 0] 28)).alloc (.cells #[.int .i64 0, .int .i64 0, .int .i64 0, .int .i64 0, .int .i64 0, .int .i64 0] 28)) := by go_grown
  generalize (((((w.alloc (.cells #[.int .i64 tl, .int .i64 th] 23)).alloc (.cells #[.int .i64 a0, .int .i64 a1, .int .i64 a2] 24)).alloc (.cells #[.int .i64 b0, .int .i64 b1, .int .i64 b2] 24)).alloc (.cells #[.int .i64 0, .int .i64 0, .int .i64 0, .int .i64 0, .int .i64 0, .int .i64 0] 28)).alloc (.cells #[.int .i64 0, .int .i64 0, .int .i64 0, .int .i64 0, .int .i64 0, .int .i64 0] 28)) = u at *
  have l0 := BX0.lt
  have HX0 := Lib.hid BX0
  clear BX0
  have l1 := BX1.lt
  have HX1 := Lib.hid BX1
  clear BX1
  have l2 := BX2.lt
  have HX2 := Lib.hid BX2
  clear BX2
  have l3 := BX3.lt
  have HX3 := Lib.hid BX3
  clear BX3
  have l4 := BX4.lt
  have HX4 := Lib.hid BX4
  clear BX4
  refine (CA.out _).mono ?_
  rintro e w1 ⟨rfl, U1⟩
  have ⟨k0, k1, k2⟩ := show (w1.cell? ⟨w.heap.size + 1 + 1, 0, none⟩ = some (.int .i64 b0) ∧ w1.cell? ⟨w.heap.size + 1 + 1, 1, none⟩ = some (.int .i64 b1) ∧ w1.cell? ⟨w.heap.size + 1 + 1, 2, none⟩ = some (.int .i64 b2)) from ⟨(HX2.out.keep U1).cell 0, (HX2.out.keep U1).cell 1, (HX2.out.keep U1).cell 2⟩
  have zz1 := U1.size
  go_wp2_with fail
  clear k0 k1 k2
  refine (CB.out _).mono ?_
  rintro e w2 ⟨rfl, h⟩
  have U2 : Below u.heap.size u w2 := below_via U1 h
  clear h zz1 U1
  have zz2 := U2.size
  obtain ⟨j0, j1, j2⟩ := show (w2.cell? ⟨w.heap.size + 1, 0, none⟩ = some (.int .i64 a0) ∧ w2.cell? ⟨w.heap.size + 1, 1, none⟩ = some (.int .i64 a1) ∧ w2.cell? ⟨w.heap.size + 1, 2, none⟩ = some (.int .i64 a2)) from ⟨(HX1.out.keep U2).cell 0, (HX1.out.keep U2).cell 1, (HX1.out.keep U2).cell 2⟩
  obtain ⟨k0, k1, k2⟩ := show (w2.cell? ⟨w.heap.size + 1 + 1, 0, none⟩ = some (.int .i64 b0) ∧ w2.cell? ⟨w.heap.size + 1 + 1, 1, none⟩ = some (.int .i64 b1) ∧ w2.cell? ⟨w.heap.size + 1 + 1, 2, none⟩ = some (.int .i64 b2)) from ⟨(HX2.out.keep U2).cell 0, (HX2.out.keep U2).cell 1, (HX2.out.keep U2).cell 2⟩
  go_wp2_with fail
  clear j0 j1 j2 k0 k1 k2
  refine (CM.out _).mono ?_
  rintro e w3 ⟨rfl, h⟩
  have U3 : Below u.heap.size u w3 := below_via U2 h
  clear h zz2 U2
  have zz3 := U3.size
  go_wp2_with fail
  refine (CZ.out _).mono ?_
  rintro e w4 ⟨rfl, h⟩
  have D4 := Lib.hid ((Box.new w3 #[.int .i64 x, .int .i64 y, .int .i64 z] 24 (n := w3.heap.size) rfl).keep h)
  have zz4 := h.size
  simp at zz4
  have U4 : Below u.heap.size u w4 := below_via (by (repeat' (first | (with_reducible exact Below.refl _ _) | (with_reducible assumption) | (with_reducible refine Below.drew ?_) | (with_reducible refine below_drewN ?_ _) | (with_reducible refine Below.setCell ?_ ?_ _) | (with_reducible refine Below.alloc ?_ ?_ _) | go_size | omega))) h
  clear h U3
  obtain ⟨j0, j1, j2, -⟩ := D4.out.three
  have l4 := D4.out.lt
  go_wp2_with fail
  rw [HS.out]
  clear j0 j1 j2 hsz1 p0 p1 p2 p3 p4 p5
  refine (CR.out _).mono ?_
  rintro e w5 ⟨rfl, rfl⟩
  generalize sqV x y z = s at *
  by_cases hlt : L * L < s
  · rw [if_pos hlt] at HH
    have hH := HH.out
    subst hH
    go_wp2_with fail
    have TB := Lib.hid ((HX0.out.keep U4).alloc (.cells #[.int .i64 L, .int .i64 (L + 1)] 23)); have DB := Lib.hid (D4.out.alloc (.cells #[.int .i64 L, .int .i64 (L + 1)] 23)); have RB := Lib.hid ((HX3.out.keep U4).alloc (.cells #[.int .i64 L, .int .i64 (L + 1)] 23)); have OB := Lib.hid ((HX4.out.keep U4).alloc (.cells #[.int .i64 L, .int .i64 (L + 1)] 23))
    have SB := Lib.hid (Box.new w5 #[.int .i64 L, .int .i64 (L + 1)] 23 (n := w5.heap.size) rfl)
    have B0 : Below w.heap.size w (w5.alloc (.cells #[.int .i64 L, .int .i64 (L + 1)] 23)) := by have := below_via BW U4; (repeat' (first | (with_reducible exact Below.refl _ _) | (with_reducible assumption) | (with_reducible refine Below.drew ?_) | (with_reducible refine below_drewN ?_ _) | (with_reducible refine Below.setCell ?_ ?_ _) | (with_reducible refine Below.alloc ?_ ?_ _) | go_size | omega))
    have zz5 := U4.size
    generalize (w5.alloc (.cells #[.int .i64 L, .int .i64 (L + 1)] 23)) = v0 at *
    generalize hdb : w3.heap.size = db at *
    generalize hsb : w5.heap.size = sb at *
    clear HX0 HX1 HX2 HX3 HX4 D4 U4 CA CB CM CZ CR HH
    refine wp_loop_rounds 4 ?_
    rw [rounds_succ]
    have ldb := DB.out.lt; have lsb := SB.out.lt; have ltb := TB.out.lt; have lob := OB.out.lt; have lrb := RB.out.lt
    go_wp2_with fail
    have K := Lib.hid (fun (w' : World) (hw : Below v0.heap.size v0 w') => show (w'.cell? ⟨w.heap.size, 0, none⟩ = some (.int .i64 tl) ∧ w'.cell? ⟨w.heap.size, 1, none⟩ = some (.int .i64 th)) ∧ (w'.cell? ⟨db, 0, none⟩ = some (.int .i64 x) ∧ w'.cell? ⟨db, 1, none⟩ = some (.int .i64 y) ∧ w'.cell? ⟨db, 2, none⟩ = some (.int .i64 z)) ∧ (w'.cell? ⟨sb, 0, none⟩ = some (.int .i64 L) ∧ w'.cell? ⟨sb, 1, none⟩ = some (.int .i64 (L + 1))) from ⟨⟨(Box.keepB (by omega) (TB.out) hw).cell 0, (Box.keepB (by omega) (TB.out) hw).cell 1⟩, ⟨(Box.keepB (by omega) (DB.out) hw).cell 0, (Box.keepB (by omega) (DB.out) hw).cell 1, (Box.keepB (by omega) (DB.out) hw).cell 2⟩, ⟨(Box.keepB (by omega) (SB.out) hw).cell 0, (Box.keepB (by omega) (SB.out) hw).cell 1⟩⟩)
    go_region_held3 (fun w' => (w'.cell? ⟨w.heap.size, 0, none⟩ = some (.int .i64 tl) ∧ w'.cell? ⟨w.heap.size, 1, none⟩ = some (.int .i64 th)) ∧ (w'.cell? ⟨db, 0, none⟩ = some (.int .i64 x) ∧ w'.cell? ⟨db, 1, none⟩ = some (.int .i64 y) ∧ w'.cell? ⟨db, 2, none⟩ = some (.int .i64 z)) ∧ (w'.cell? ⟨sb, 0, none⟩ = some (.int .i64 L) ∧ w'.cell? ⟨sb, 1, none⟩ = some (.int .i64 (L + 1))))
      ((first | (refine K.out _ ?_; (repeat' (first | (with_reducible exact Below.refl _ _) | (with_reducible assumption) | (with_reducible refine Below.drew ?_) | (with_reducible refine below_drewN ?_ _) | (with_reducible refine Below.setCell ?_ ?_ _) | (with_reducible refine Below.alloc ?_ ?_ _) | go_size | omega)); done) | (refine ⟨⟨?_, ?_⟩, ⟨?_, ?_, ?_⟩, ?_, ?_⟩ <;> (rw [World.cell?_setCell_far _ _ _ _ (by simp; omega), World.cell?_setCell_far _ _ _ _ (by simp; omega)]; assumption))))
      (first | (go_at_call 51; refine (CC.out x _ (by omega) (by omega)).mono ?_; rintro e w8 ⟨rfl, h8⟩; have hB8 : Below v0.heap.size v0 w8 := below_via (by (repeat' (first | (with_reducible exact Below.refl _ _) | (with_reducible assumption) | (with_reducible refine Below.drew ?_) | (with_reducible refine below_drewN ?_ _) | (with_reducible refine Below.setCell ?_ ?_ _) | (with_reducible refine Below.alloc ?_ ?_ _) | go_size | omega))) h8; clear h8; have hz8 := hB8.size; obtain ⟨⟨k0_0, k0_1⟩, ⟨k1_0, k1_1, k1_2⟩, ⟨k2_0, k2_1⟩⟩ := K.out w8 hB8; obtain ⟨o0, o1, o2, o3, o4, o5⟩ := box6 (OB.out.keep hB8); have lo := (OB.out.keep hB8).lt; have f0 := (OB.out.keep hB8).free 0; have f1 := (OB.out.keep hB8).free 1))
    have TB' := Lib.hid ((((TB.out.keep hB8).other ⟨w.heap.size + 1 + 1 + 1 + 1, 0, none⟩ (.int .i64 (cmpL tl th x L (L + 1))) (by first | (simp; done) | (simp; omega))).other ⟨w.heap.size + 1 + 1 + 1 + 1, 1, none⟩ (.int .i64 (cmpH tl th x L (L + 1))) (by first | (simp; done) | (simp; omega))))
    have DB' := Lib.hid ((((DB.out.keep hB8).other ⟨w.heap.size + 1 + 1 + 1 + 1, 0, none⟩ (.int .i64 (cmpL tl th x L (L + 1))) (by first | (simp; done) | (simp; omega))).other ⟨w.heap.size + 1 + 1 + 1 + 1, 1, none⟩ (.int .i64 (cmpH tl th x L (L + 1))) (by first | (simp; done) | (simp; omega))))
    have RB' := Lib.hid ((((RB.out.keep hB8).other ⟨w.heap.size + 1 + 1 + 1 + 1, 0, none⟩ (.int .i64 (cmpL tl th x L (L + 1))) (by first | (simp; done) | (simp; omega))).other ⟨w.heap.size + 1 + 1 + 1 + 1, 1, none⟩ (.int .i64 (cmpH tl th x L (L + 1))) (by first | (simp; done) | (simp; omega))))
    have SB' := Lib.hid ((((SB.out.keep hB8).other ⟨w.heap.size + 1 + 1 + 1 + 1, 0, none⟩ (.int .i64 (cmpL tl th x L (L + 1))) (by first | (simp; done) | (simp; omega))).other ⟨w.heap.size + 1 + 1 + 1 + 1, 1, none⟩ (.int .i64 (cmpH tl th x L (L + 1))) (by first | (simp; done) | (simp; omega))))
    have OB' : Hid (Box ((w8.setCell ⟨w.heap.size + 1 + 1 + 1 + 1, 0, none⟩ (.int .i64 (cmpL tl th x L (L + 1)))).setCell ⟨w.heap.size + 1 + 1 + 1 + 1, 1, none⟩ (.int .i64 (cmpH tl th x L (L + 1)))) (w.heap.size + 1 + 1 + 1 + 1) #[.int .i64 (cmpL tl th x L (L + 1)), .int .i64 (cmpH tl th x L (L + 1)), .int .i64 0, .int .i64 0, .int .i64 0, .int .i64 0] 28) := Lib.hid (((OB.out.keep hB8).set 0 _).set 1 _)
    have BK := below_via B0 hB8
    have B1 : Below w.heap.size w ((w8.setCell ⟨w.heap.size + 1 + 1 + 1 + 1, 0, none⟩ (.int .i64 (cmpL tl th x L (L + 1)))).setCell ⟨w.heap.size + 1 + 1 + 1 + 1, 1, none⟩ (.int .i64 (cmpH tl th x L (L + 1)))) := by (repeat' (first | (with_reducible exact Below.refl _ _) | (with_reducible assumption) | (with_reducible refine Below.drew ?_) | (with_reducible refine below_drewN ?_ _) | (with_reducible refine Below.setCell ?_ ?_ _) | (with_reducible refine Below.alloc ?_ ?_ _) | go_size | omega))
    go_wp2_with fail
    clear ldb lsb ltb lob lrb
    clear K k0_0 k0_1 k1_0 k1_1 k1_2 k2_0 k2_1 o0 o1 o2 o3 o4 o5 lo f0 f1 hB8 TB DB RB SB OB BK hz8
    generalize ((w8.setCell ⟨w.heap.size + 1 + 1 + 1 + 1, 0, none⟩ (.int .i64 (cmpL tl th x L (L + 1)))).setCell ⟨w.heap.size + 1 + 1 + 1 + 1, 1, none⟩ (.int .i64 (cmpH tl th x L (L + 1)))) = v1 at *
    have TB := TB'; have DB := DB'; have RB := RB'; have SB := SB'; have OB := OB'
    clear TB' DB' RB' SB' OB'
    rw [rounds_succ]
    have ldb := DB.out.lt; have lsb := SB.out.lt; have ltb := TB.out.lt; have lob := OB.out.lt; have lrb := RB.out.lt
    go_wp2_with fail
    have K := Lib.hid (fun (w' : World) (hw : Below v1.heap.size v1 w') => show (w'.cell? ⟨w.heap.size, 0, none⟩ = some (.int .i64 tl) ∧ w'.cell? ⟨w.heap.size, 1, none⟩ = some (.int .i64 th)) ∧ (w'.cell? ⟨db, 0, none⟩ = some (.int .i64 x) ∧ w'.cell? ⟨db, 1, none⟩ = some (.int .i64 y) ∧ w'.cell? ⟨db, 2, none⟩ = some (.int .i64 z)) ∧ (w'.cell? ⟨sb, 0, none⟩ = some (.int .i64 L) ∧ w'.cell? ⟨sb, 1, none⟩ = some (.int .i64 (L + 1))) from ⟨⟨(Box.keepB (by omega) (TB.out) hw).cell 0, (Box.keepB (by omega) (TB.out) hw).cell 1⟩, ⟨(Box.keepB (by omega) (DB.out) hw).cell 0, (Box.keepB (by omega) (DB.out) hw).cell 1, (Box.keepB (by omega) (DB.out) hw).cell 2⟩, ⟨(Box.keepB (by omega) (SB.out) hw).cell 0, (Box.keepB (by omega) (SB.out) hw).cell 1⟩⟩)
    go_region_held3 (fun w' => (w'.cell? ⟨w.heap.size, 0, none⟩ = some (.int .i64 tl) ∧ w'.cell? ⟨w.heap.size, 1, none⟩ = some (.int .i64 th)) ∧ (w'.cell? ⟨db, 0, none⟩ = some (.int .i64 x) ∧ w'.cell? ⟨db, 1, none⟩ = some (.int .i64 y) ∧ w'.cell? ⟨db, 2, none⟩ = some (.int .i64 z)) ∧ (w'.cell? ⟨sb, 0, none⟩ = some (.int .i64 L) ∧ w'.cell? ⟨sb, 1, none⟩ = some (.int .i64 (L + 1))))
      ((first | (refine K.out _ ?_; (repeat' (first | (with_reducible exact Below.refl _ _) | (with_reducible assumption) | (with_reducible refine Below.drew ?_) | (with_reducible refine below_drewN ?_ _) | (with_reducible refine Below.setCell ?_ ?_ _) | (with_reducible refine Below.alloc ?_ ?_ _) | go_size | omega)); done) | (refine ⟨⟨?_, ?_⟩, ⟨?_, ?_, ?_⟩, ?_, ?_⟩ <;> (rw [World.cell?_setCell_far _ _ _ _ (by simp; omega), World.cell?_setCell_far _ _ _ _ (by simp; omega)]; assumption))))
      (first | (go_at_call 51; refine (CC.out y _ (by omega) (by omega)).mono ?_; rintro e w8 ⟨rfl, h8⟩; have hB8 : Below v1.heap.size v1 w8 := below_via (by (repeat' (first | (with_reducible exact Below.refl _ _) | (with_reducible assumption) | (with_reducible refine Below.drew ?_) | (with_reducible refine below_drewN ?_ _) | (with_reducible refine Below.setCell ?_ ?_ _) | (with_reducible refine Below.alloc ?_ ?_ _) | go_size | omega))) h8; clear h8; have hz8 := hB8.size; obtain ⟨⟨k0_0, k0_1⟩, ⟨k1_0, k1_1, k1_2⟩, ⟨k2_0, k2_1⟩⟩ := K.out w8 hB8; obtain ⟨o0, o1, o2, o3, o4, o5⟩ := box6 (OB.out.keep hB8); have lo := (OB.out.keep hB8).lt; have f0 := (OB.out.keep hB8).free 2; have f1 := (OB.out.keep hB8).free 3))
    have TB' := Lib.hid ((((TB.out.keep hB8).other ⟨w.heap.size + 1 + 1 + 1 + 1, 2, none⟩ (.int .i64 (cmpL tl th y L (L + 1))) (by first | (simp; done) | (simp; omega))).other ⟨w.heap.size + 1 + 1 + 1 + 1, 3, none⟩ (.int .i64 (cmpH tl th y L (L + 1))) (by first | (simp; done) | (simp; omega))))
    have DB' := Lib.hid ((((DB.out.keep hB8).other ⟨w.heap.size + 1 + 1 + 1 + 1, 2, none⟩ (.int .i64 (cmpL tl th y L (L + 1))) (by first | (simp; done) | (simp; omega))).other ⟨w.heap.size + 1 + 1 + 1 + 1, 3, none⟩ (.int .i64 (cmpH tl th y L (L + 1))) (by first | (simp; done) | (simp; omega))))
    have RB' := Lib.hid ((((RB.out.keep hB8).other ⟨w.heap.size + 1 + 1 + 1 + 1, 2, none⟩ (.int .i64 (cmpL tl th y L (L + 1))) (by first | (simp; done) | (simp; omega))).other ⟨w.heap.size + 1 + 1 + 1 + 1, 3, none⟩ (.int .i64 (cmpH tl th y L (L + 1))) (by first | (simp; done) | (simp; omega))))
    have SB' := Lib.hid ((((SB.out.keep hB8).other ⟨w.heap.size + 1 + 1 + 1 + 1, 2, none⟩ (.int .i64 (cmpL tl th y L (L + 1))) (by first | (simp; done) | (simp; omega))).other ⟨w.heap.size + 1 + 1 + 1 + 1, 3, none⟩ (.int .i64 (cmpH tl th y L (L + 1))) (by first | (simp; done) | (simp; omega))))
    have OB' : Hid (Box ((w8.setCell ⟨w.heap.size + 1 + 1 + 1 + 1, 2, none⟩ (.int .i64 (cmpL tl th y L (L + 1)))).setCell ⟨w.heap.size + 1 + 1 + 1 + 1, 3, none⟩ (.int .i64 (cmpH tl th y L (L + 1)))) (w.heap.size + 1 + 1 + 1 + 1) #[.int .i64 (cmpL tl th x L (L + 1)), .int .i64 (cmpH tl th x L (L + 1)), .int .i64 (cmpL tl th y L (L + 1)), .int .i64 (cmpH tl th y L (L + 1)), .int .i64 0, .int .i64 0] 28) := Lib.hid (((OB.out.keep hB8).set 2 _).set 3 _)
    have BK := below_via B1 hB8
    have B2 : Below w.heap.size w ((w8.setCell ⟨w.heap.size + 1 + 1 + 1 + 1, 2, none⟩ (.int .i64 (cmpL tl th y L (L + 1)))).setCell ⟨w.heap.size + 1 + 1 + 1 + 1, 3, none⟩ (.int .i64 (cmpH tl th y L (L + 1)))) := by (repeat' (first | (with_reducible exact Below.refl _ _) | (with_reducible assumption) | (with_reducible refine Below.drew ?_) | (with_reducible refine below_drewN ?_ _) | (with_reducible refine Below.setCell ?_ ?_ _) | (with_reducible refine Below.alloc ?_ ?_ _) | go_size | omega))
    go_wp2_with fail
    clear ldb lsb ltb lob lrb
    clear K k0_0 k0_1 k1_0 k1_1 k1_2 k2_0 k2_1 o0 o1 o2 o3 o4 o5 lo f0 f1 hB8 TB DB RB SB OB BK hz8
    generalize ((w8.setCell ⟨w.heap.size + 1 + 1 + 1 + 1, 2, none⟩ (.int .i64 (cmpL tl th y L (L + 1)))).setCell ⟨w.heap.size + 1 + 1 + 1 + 1, 3, none⟩ (.int .i64 (cmpH tl th y L (L + 1)))) = v2 at *
    have TB := TB'; have DB := DB'; have RB := RB'; have SB := SB'; have OB := OB'
    clear TB' DB' RB' SB' OB'
    rw [rounds_succ]
    have ldb := DB.out.lt; have lsb := SB.out.lt; have ltb := TB.out.lt; have lob := OB.out.lt; have lrb := RB.out.lt
    go_wp2_with fail
    have K := Lib.hid (fun (w' : World) (hw : Below v2.heap.size v2 w') => show (w'.cell? ⟨w.heap.size, 0, none⟩ = some (.int .i64 tl) ∧ w'.cell? ⟨w.heap.size, 1, none⟩ = some (.int .i64 th)) ∧ (w'.cell? ⟨db, 0, none⟩ = some (.int .i64 x) ∧ w'.cell? ⟨db, 1, none⟩ = some (.int .i64 y) ∧ w'.cell? ⟨db, 2, none⟩ = some (.int .i64 z)) ∧ (w'.cell? ⟨sb, 0, none⟩ = some (.int .i64 L) ∧ w'.cell? ⟨sb, 1, none⟩ = some (.int .i64 (L + 1))) from ⟨⟨(Box.keepB (by omega) (TB.out) hw).cell 0, (Box.keepB (by omega) (TB.out) hw).cell 1⟩, ⟨(Box.keepB (by omega) (DB.out) hw).cell 0, (Box.keepB (by omega) (DB.out) hw).cell 1, (Box.keepB (by omega) (DB.out) hw).cell 2⟩, ⟨(Box.keepB (by omega) (SB.out) hw).cell 0, (Box.keepB (by omega) (SB.out) hw).cell 1⟩⟩)
    go_region_held3 (fun w' => (w'.cell? ⟨w.heap.size, 0, none⟩ = some (.int .i64 tl) ∧ w'.cell? ⟨w.heap.size, 1, none⟩ = some (.int .i64 th)) ∧ (w'.cell? ⟨db, 0, none⟩ = some (.int .i64 x) ∧ w'.cell? ⟨db, 1, none⟩ = some (.int .i64 y) ∧ w'.cell? ⟨db, 2, none⟩ = some (.int .i64 z)) ∧ (w'.cell? ⟨sb, 0, none⟩ = some (.int .i64 L) ∧ w'.cell? ⟨sb, 1, none⟩ = some (.int .i64 (L + 1))))
      ((first | (refine K.out _ ?_; (repeat' (first | (with_reducible exact Below.refl _ _) | (with_reducible assumption) | (with_reducible refine Below.drew ?_) | (with_reducible refine below_drewN ?_ _) | (with_reducible refine Below.setCell ?_ ?_ _) | (with_reducible refine Below.alloc ?_ ?_ _) | go_size | omega)); done) | (refine ⟨⟨?_, ?_⟩, ⟨?_, ?_, ?_⟩, ?_, ?_⟩ <;> (rw [World.cell?_setCell_far _ _ _ _ (by simp; omega), World.cell?_setCell_far _ _ _ _ (by simp; omega)]; assumption))))
      (first | (go_at_call 51; refine (CC.out z _ (by omega) (by omega)).mono ?_; rintro e w8 ⟨rfl, h8⟩; have hB8 : Below v2.heap.size v2 w8 := below_via (by (repeat' (first | (with_reducible exact Below.refl _ _) | (with_reducible assumption) | (with_reducible refine Below.drew ?_) | (with_reducible refine below_drewN ?_ _) | (with_reducible refine Below.setCell ?_ ?_ _) | (with_reducible refine Below.alloc ?_ ?_ _) | go_size | omega))) h8; clear h8; have hz8 := hB8.size; obtain ⟨⟨k0_0, k0_1⟩, ⟨k1_0, k1_1, k1_2⟩, ⟨k2_0, k2_1⟩⟩ := K.out w8 hB8; obtain ⟨o0, o1, o2, o3, o4, o5⟩ := box6 (OB.out.keep hB8); have lo := (OB.out.keep hB8).lt; have f0 := (OB.out.keep hB8).free 4; have f1 := (OB.out.keep hB8).free 5))
    have TB' := Lib.hid ((((TB.out.keep hB8).other ⟨w.heap.size + 1 + 1 + 1 + 1, 4, none⟩ (.int .i64 (cmpL tl th z L (L + 1))) (by first | (simp; done) | (simp; omega))).other ⟨w.heap.size + 1 + 1 + 1 + 1, 5, none⟩ (.int .i64 (cmpH tl th z L (L + 1))) (by first | (simp; done) | (simp; omega))))
    have DB' := Lib.hid ((((DB.out.keep hB8).other ⟨w.heap.size + 1 + 1 + 1 + 1, 4, none⟩ (.int .i64 (cmpL tl th z L (L + 1))) (by first | (simp; done) | (simp; omega))).other ⟨w.heap.size + 1 + 1 + 1 + 1, 5, none⟩ (.int .i64 (cmpH tl th z L (L + 1))) (by first | (simp; done) | (simp; omega))))
    have RB' := Lib.hid ((((RB.out.keep hB8).other ⟨w.heap.size + 1 + 1 + 1 + 1, 4, none⟩ (.int .i64 (cmpL tl th z L (L + 1))) (by first | (simp; done) | (simp; omega))).other ⟨w.heap.size + 1 + 1 + 1 + 1, 5, none⟩ (.int .i64 (cmpH tl th z L (L + 1))) (by first | (simp; done) | (simp; omega))))
    have SB' := Lib.hid ((((SB.out.keep hB8).other ⟨w.heap.size + 1 + 1 + 1 + 1, 4, none⟩ (.int .i64 (cmpL tl th z L (L + 1))) (by first | (simp; done) | (simp; omega))).other ⟨w.heap.size + 1 + 1 + 1 + 1, 5, none⟩ (.int .i64 (cmpH tl th z L (L + 1))) (by first | (simp; done) | (simp; omega))))
    have OB' : Hid (Box ((w8.setCell ⟨w.heap.size + 1 + 1 + 1 + 1, 4, none⟩ (.int .i64 (cmpL tl th z L (L + 1)))).setCell ⟨w.heap.size + 1 + 1 + 1 + 1, 5, none⟩ (.int .i64 (cmpH tl th z L (L + 1)))) (w.heap.size + 1 + 1 + 1 + 1) #[.int .i64 (cmpL tl th x L (L + 1)), .int .i64 (cmpH tl th x L (L + 1)), .int .i64 (cmpL tl th y L (L + 1)), .int .i64 (cmpH tl th y L (L + 1)), .int .i64 (cmpL tl th z L (L + 1)), .int .i64 (cmpH tl th z L (L + 1))] 28) := Lib.hid (((OB.out.keep hB8).set 4 _).set 5 _)
    have BK := below_via B2 hB8
    have B3 : Below w.heap.size w ((w8.setCell ⟨w.heap.size + 1 + 1 + 1 + 1, 4, none⟩ (.int .i64 (cmpL tl th z L (L + 1)))).setCell ⟨w.heap.size + 1 + 1 + 1 + 1, 5, none⟩ (.int .i64 (cmpH tl th z L (L + 1)))) := by (repeat' (first | (with_reducible exact Below.refl _ _) | (with_reducible assumption) | (with_reducible refine Below.drew ?_) | (with_reducible refine below_drewN ?_ _) | (with_reducible refine Below.setCell ?_ ?_ _) | (with_reducible refine Below.alloc ?_ ?_ _) | go_size | omega))
    go_wp2_with fail
    clear ldb lsb ltb lob lrb
    clear K k0_0 k0_1 k1_0 k1_1 k1_2 k2_0 k2_1 o0 o1 o2 o3 o4 o5 lo f0 f1 hB8 TB DB RB SB OB BK hz8
    generalize ((w8.setCell ⟨w.heap.size + 1 + 1 + 1 + 1, 4, none⟩ (.int .i64 (cmpL tl th z L (L + 1)))).setCell ⟨w.heap.size + 1 + 1 + 1 + 1, 5, none⟩ (.int .i64 (cmpH tl th z L (L + 1)))) = v3 at *
    have TB := TB'; have DB := DB'; have RB := RB'; have SB := SB'; have OB := OB'
    clear TB' DB' RB' SB' OB'
    rw [rounds_succ]
    obtain ⟨o0, o1, o2, o3, o4, o5⟩ := box6 OB.out
    have lr := RB.out.lt; have lo := OB.out.lt
    have g0 := RB.out.cell 0; have g1 := RB.out.cell 1; have g2 := RB.out.cell 2; have g3 := RB.out.cell 3; have g4 := RB.out.cell 4; have g5 := RB.out.cell 5
    have f0 := RB.out.free 0; have f1 := RB.out.free 1; have f2 := RB.out.free 2; have f3 := RB.out.free 3; have f4 := RB.out.free 4; have f5 := RB.out.free 5
    simp at g0 g1 g2 g3 g4 g5
    go_wp2_with fail
    clear g0 g1 g2 g3 g4 g5 f0 f1 f2 f3 f4 f5 o0 o1 o2 o3 o4 o5
    have RV : Box ((((((v3.setCell ⟨w.heap.size + 1 + 1 + 1, 0, none⟩ (.int .i64 (cmpL tl th x L (L + 1)))).setCell ⟨w.heap.size + 1 + 1 + 1, 1, none⟩ (.int .i64 (cmpH tl th x L (L + 1)))).setCell ⟨w.heap.size + 1 + 1 + 1, 2, none⟩ (.int .i64 (cmpL tl th y L (L + 1)))).setCell ⟨w.heap.size + 1 + 1 + 1, 3, none⟩ (.int .i64 (cmpH tl th y L (L + 1)))).setCell ⟨w.heap.size + 1 + 1 + 1, 4, none⟩ (.int .i64 (cmpL tl th z L (L + 1)))).setCell ⟨w.heap.size + 1 + 1 + 1, 5, none⟩ (.int .i64 (cmpH tl th z L (L + 1)))) (w.heap.size + 1 + 1 + 1) #[.int .i64 (cmpL tl th x L (L + 1)), .int .i64 (cmpH tl th x L (L + 1)), .int .i64 (cmpL tl th y L (L + 1)), .int .i64 (cmpH tl th y L (L + 1)), .int .i64 (cmpL tl th z L (L + 1)), .int .i64 (cmpH tl th z L (L + 1))] 28 := ((((((RB.out.set 0 _).set 1 _).set 2 _).set 3 _).set 4 _).set 5 _)
    have BV : Below w.heap.size w ((((((v3.setCell ⟨w.heap.size + 1 + 1 + 1, 0, none⟩ (.int .i64 (cmpL tl th x L (L + 1)))).setCell ⟨w.heap.size + 1 + 1 + 1, 1, none⟩ (.int .i64 (cmpH tl th x L (L + 1)))).setCell ⟨w.heap.size + 1 + 1 + 1, 2, none⟩ (.int .i64 (cmpL tl th y L (L + 1)))).setCell ⟨w.heap.size + 1 + 1 + 1, 3, none⟩ (.int .i64 (cmpH tl th y L (L + 1)))).setCell ⟨w.heap.size + 1 + 1 + 1, 4, none⟩ (.int .i64 (cmpL tl th z L (L + 1)))).setCell ⟨w.heap.size + 1 + 1 + 1, 5, none⟩ (.int .i64 (cmpH tl th z L (L + 1)))) := by (repeat' (first | (with_reducible exact Below.refl _ _) | (with_reducible assumption) | (with_reducible refine Below.drew ?_) | (with_reducible refine below_drewN ?_ _) | (with_reducible refine Below.setCell ?_ ?_ _) | (with_reducible refine Below.alloc ?_ ?_ _) | go_size | omega))
    generalize ((((((v3.setCell ⟨w.heap.size + 1 + 1 + 1, 0, none⟩ (.int .i64 (cmpL tl th x L (L + 1)))).setCell ⟨w.heap.size + 1 + 1 + 1, 1, none⟩ (.int .i64 (cmpH tl th x L (L + 1)))).setCell ⟨w.heap.size + 1 + 1 + 1, 2, none⟩ (.int .i64 (cmpL tl th y L (L + 1)))).setCell ⟨w.heap.size + 1 + 1 + 1, 3, none⟩ (.int .i64 (cmpH tl th y L (L + 1)))).setCell ⟨w.heap.size + 1 + 1 + 1, 4, none⟩ (.int .i64 (cmpL tl th z L (L + 1)))).setCell ⟨w.heap.size + 1 + 1 + 1, 5, none⟩ (.int .i64 (cmpH tl th z L (L + 1)))) = v at *
    have s0 := RV.cell 0; have s1 := RV.cell 1; have s2 := RV.cell 2; have s3 := RV.cell 3; have s4 := RV.cell 4; have s5 := RV.cell 5
    simp at s0 s1 s2 s3 s4 s5
    go_wp2_with fail
    refine bodyPost_ret (v := .tuple #[.agg #[.int .i64 (cmpL tl th x L (L + 1)), .int .i64 (cmpH tl th x L (L + 1)), .int .i64 (cmpL tl th y L (L + 1)), .int .i64 (cmpH tl th y L (L + 1)), .int .i64 (cmpL tl th z L (L + 1)), .int .i64 (cmpH tl th z L (L + 1))], .int .i64 0]) (by simp [results, Try.results13, go_sem, s0, s1, s2, s3, s4, s5]) rfl ⟨rfl, BV⟩
  · rw [if_neg hlt] at HH
    have hH := HH.out
    subst hH
    go_wp2_with fail
    have TB := Lib.hid ((HX0.out.keep U4).alloc (.cells #[.int .i64 L, .int .i64 L] 23)); have DB := Lib.hid (D4.out.alloc (.cells #[.int .i64 L, .int .i64 L] 23)); have RB := Lib.hid ((HX3.out.keep U4).alloc (.cells #[.int .i64 L, .int .i64 L] 23)); have OB := Lib.hid ((HX4.out.keep U4).alloc (.cells #[.int .i64 L, .int .i64 L] 23))
    have SB := Lib.hid (Box.new w5 #[.int .i64 L, .int .i64 L] 23 (n := w5.heap.size) rfl)
    have B0 : Below w.heap.size w (w5.alloc (.cells #[.int .i64 L, .int .i64 L] 23)) := by have := below_via BW U4; (repeat' (first | (with_reducible exact Below.refl _ _) | (with_reducible assumption) | (with_reducible refine Below.drew ?_) | (with_reducible refine below_drewN ?_ _) | (with_reducible refine Below.setCell ?_ ?_ _) | (with_reducible refine Below.alloc ?_ ?_ _) | go_size | omega))
    have zz5 := U4.size
    generalize (w5.alloc (.cells #[.int .i64 L, .int .i64 L] 23)) = v0 at *
    generalize hdb : w3.heap.size = db at *
    generalize hsb : w5.heap.size = sb at *
    clear HX0 HX1 HX2 HX3 HX4 D4 U4 CA CB CM CZ CR HH
    refine wp_loop_rounds 4 ?_
    rw [rounds_succ]
    have ldb := DB.out.lt; have lsb := SB.out.lt; have ltb := TB.out.lt; have lob := OB.out.lt; have lrb := RB.out.lt
    go_wp2_with fail
    have K := Lib.hid (fun (w' : World) (hw : Below v0.heap.size v0 w') => show (w'.cell? ⟨w.heap.size, 0, none⟩ = some (.int .i64 tl) ∧ w'.cell? ⟨w.heap.size, 1, none⟩ = some (.int .i64 th)) ∧ (w'.cell? ⟨db, 0, none⟩ = some (.int .i64 x) ∧ w'.cell? ⟨db, 1, none⟩ = some (.int .i64 y) ∧ w'.cell? ⟨db, 2, none⟩ = some (.int .i64 z)) ∧ (w'.cell? ⟨sb, 0, none⟩ = some (.int .i64 L) ∧ w'.cell? ⟨sb, 1, none⟩ = some (.int .i64 L)) from ⟨⟨(Box.keepB (by omega) (TB.out) hw).cell 0, (Box.keepB (by omega) (TB.out) hw).cell 1⟩, ⟨(Box.keepB (by omega) (DB.out) hw).cell 0, (Box.keepB (by omega) (DB.out) hw).cell 1, (Box.keepB (by omega) (DB.out) hw).cell 2⟩, ⟨(Box.keepB (by omega) (SB.out) hw).cell 0, (Box.keepB (by omega) (SB.out) hw).cell 1⟩⟩)
    go_region_held3 (fun w' => (w'.cell? ⟨w.heap.size, 0, none⟩ = some (.int .i64 tl) ∧ w'.cell? ⟨w.heap.size, 1, none⟩ = some (.int .i64 th)) ∧ (w'.cell? ⟨db, 0, none⟩ = some (.int .i64 x) ∧ w'.cell? ⟨db, 1, none⟩ = some (.int .i64 y) ∧ w'.cell? ⟨db, 2, none⟩ = some (.int .i64 z)) ∧ (w'.cell? ⟨sb, 0, none⟩ = some (.int .i64 L) ∧ w'.cell? ⟨sb, 1, none⟩ = some (.int .i64 L)))
      ((first | (refine K.out _ ?_; (repeat' (first | (with_reducible exact Below.refl _ _) | (with_reducible assumption) | (with_reducible refine Below.drew ?_) | (with_reducible refine below_drewN ?_ _) | (with_reducible refine Below.setCell ?_ ?_ _) | (with_reducible refine Below.alloc ?_ ?_ _) | go_size | omega)); done) | (refine ⟨⟨?_, ?_⟩, ⟨?_, ?_, ?_⟩, ?_, ?_⟩ <;> (rw [World.cell?_setCell_far _ _ _ _ (by simp; omega), World.cell?_setCell_far _ _ _ _ (by simp; omega)]; assumption))))
      (first | (go_at_call 51; refine (CC.out x _ (by omega) (by omega)).mono ?_; rintro e w8 ⟨rfl, h8⟩; have hB8 : Below v0.heap.size v0 w8 := below_via (by (repeat' (first | (with_reducible exact Below.refl _ _) | (with_reducible assumption) | (with_reducible refine Below.drew ?_) | (with_reducible refine below_drewN ?_ _) | (with_reducible refine Below.setCell ?_ ?_ _) | (with_reducible refine Below.alloc ?_ ?_ _) | go_size | omega))) h8; clear h8; have hz8 := hB8.size; obtain ⟨⟨k0_0, k0_1⟩, ⟨k1_0, k1_1, k1_2⟩, ⟨k2_0, k2_1⟩⟩ := K.out w8 hB8; obtain ⟨o0, o1, o2, o3, o4, o5⟩ := box6 (OB.out.keep hB8); have lo := (OB.out.keep hB8).lt; have f0 := (OB.out.keep hB8).free 0; have f1 := (OB.out.keep hB8).free 1))
    have TB' := Lib.hid ((((TB.out.keep hB8).other ⟨w.heap.size + 1 + 1 + 1 + 1, 0, none⟩ (.int .i64 (cmpL tl th x L L)) (by first | (simp; done) | (simp; omega))).other ⟨w.heap.size + 1 + 1 + 1 + 1, 1, none⟩ (.int .i64 (cmpH tl th x L L)) (by first | (simp; done) | (simp; omega))))
    have DB' := Lib.hid ((((DB.out.keep hB8).other ⟨w.heap.size + 1 + 1 + 1 + 1, 0, none⟩ (.int .i64 (cmpL tl th x L L)) (by first | (simp; done) | (simp; omega))).other ⟨w.heap.size + 1 + 1 + 1 + 1, 1, none⟩ (.int .i64 (cmpH tl th x L L)) (by first | (simp; done) | (simp; omega))))
    have RB' := Lib.hid ((((RB.out.keep hB8).other ⟨w.heap.size + 1 + 1 + 1 + 1, 0, none⟩ (.int .i64 (cmpL tl th x L L)) (by first | (simp; done) | (simp; omega))).other ⟨w.heap.size + 1 + 1 + 1 + 1, 1, none⟩ (.int .i64 (cmpH tl th x L L)) (by first | (simp; done) | (simp; omega))))
    have SB' := Lib.hid ((((SB.out.keep hB8).other ⟨w.heap.size + 1 + 1 + 1 + 1, 0, none⟩ (.int .i64 (cmpL tl th x L L)) (by first | (simp; done) | (simp; omega))).other ⟨w.heap.size + 1 + 1 + 1 + 1, 1, none⟩ (.int .i64 (cmpH tl th x L L)) (by first | (simp; done) | (simp; omega))))
    have OB' : Hid (Box ((w8.setCell ⟨w.heap.size + 1 + 1 + 1 + 1, 0, none⟩ (.int .i64 (cmpL tl th x L L))).setCell ⟨w.heap.size + 1 + 1 + 1 + 1, 1, none⟩ (.int .i64 (cmpH tl th x L L))) (w.heap.size + 1 + 1 + 1 + 1) #[.int .i64 (cmpL tl th x L L), .int .i64 (cmpH tl th x L L), .int .i64 0, .int .i64 0, .int .i64 0, .int .i64 0] 28) := Lib.hid (((OB.out.keep hB8).set 0 _).set 1 _)
    have BK := below_via B0 hB8
    have B1 : Below w.heap.size w ((w8.setCell ⟨w.heap.size + 1 + 1 + 1 + 1, 0, none⟩ (.int .i64 (cmpL tl th x L L))).setCell ⟨w.heap.size + 1 + 1 + 1 + 1, 1, none⟩ (.int .i64 (cmpH tl th x L L))) := by (repeat' (first | (with_reducible exact Below.refl _ _) | (with_reducible assumption) | (with_reducible refine Below.drew ?_) | (with_reducible refine below_drewN ?_ _) | (with_reducible refine Below.setCell ?_ ?_ _) | (with_reducible refine Below.alloc ?_ ?_ _) | go_size | omega))
    go_wp2_with fail
    clear ldb lsb ltb lob lrb
    clear K k0_0 k0_1 k1_0 k1_1 k1_2 k2_0 k2_1 o0 o1 o2 o3 o4 o5 lo f0 f1 hB8 TB DB RB SB OB BK hz8
    generalize ((w8.setCell ⟨w.heap.size + 1 + 1 + 1 + 1, 0, none⟩ (.int .i64 (cmpL tl th x L L))).setCell ⟨w.heap.size + 1 + 1 + 1 + 1, 1, none⟩ (.int .i64 (cmpH tl th x L L))) = v1 at *
    have TB := TB'; have DB := DB'; have RB := RB'; have SB := SB'; have OB := OB'
    clear TB' DB' RB' SB' OB'
    rw [rounds_succ]
    have ldb := DB.out.lt; have lsb := SB.out.lt; have ltb := TB.out.lt; have lob := OB.out.lt; have lrb := RB.out.lt
    go_wp2_with fail
    have K := Lib.hid (fun (w' : World) (hw : Below v1.heap.size v1 w') => show (w'.cell? ⟨w.heap.size, 0, none⟩ = some (.int .i64 tl) ∧ w'.cell? ⟨w.heap.size, 1, none⟩ = some (.int .i64 th)) ∧ (w'.cell? ⟨db, 0, none⟩ = some (.int .i64 x) ∧ w'.cell? ⟨db, 1, none⟩ = some (.int .i64 y) ∧ w'.cell? ⟨db, 2, none⟩ = some (.int .i64 z)) ∧ (w'.cell? ⟨sb, 0, none⟩ = some (.int .i64 L) ∧ w'.cell? ⟨sb, 1, none⟩ = some (.int .i64 L)) from ⟨⟨(Box.keepB (by omega) (TB.out) hw).cell 0, (Box.keepB (by omega) (TB.out) hw).cell 1⟩, ⟨(Box.keepB (by omega) (DB.out) hw).cell 0, (Box.keepB (by omega) (DB.out) hw).cell 1, (Box.keepB (by omega) (DB.out) hw).cell 2⟩, ⟨(Box.keepB (by omega) (SB.out) hw).cell 0, (Box.keepB (by omega) (SB.out) hw).cell 1⟩⟩)
    go_region_held3 (fun w' => (w'.cell? ⟨w.heap.size, 0, none⟩ = some (.int .i64 tl) ∧ w'.cell? ⟨w.heap.size, 1, none⟩ = some (.int .i64 th)) ∧ (w'.cell? ⟨db, 0, none⟩ = some (.int .i64 x) ∧ w'.cell? ⟨db, 1, none⟩ = some (.int .i64 y) ∧ w'.cell? ⟨db, 2, none⟩ = some (.int .i64 z)) ∧ (w'.cell? ⟨sb, 0, none⟩ = some (.int .i64 L) ∧ w'.cell? ⟨sb, 1, none⟩ = some (.int .i64 L)))
      ((first | (refine K.out _ ?_; (repeat' (first | (with_reducible exact Below.refl _ _) | (with_reducible assumption) | (with_reducible refine Below.drew ?_) | (with_reducible refine below_drewN ?_ _) | (with_reducible refine Below.setCell ?_ ?_ _) | (with_reducible refine Below.alloc ?_ ?_ _) | go_size | omega)); done) | (refine ⟨⟨?_, ?_⟩, ⟨?_, ?_, ?_⟩, ?_, ?_⟩ <;> (rw [World.cell?_setCell_far _ _ _ _ (by simp; omega), World.cell?_setCell_far _ _ _ _ (by simp; omega)]; assumption))))
      (first | (go_at_call 51; refine (CC.out y _ (by omega) (by omega)).mono ?_; rintro e w8 ⟨rfl, h8⟩; have hB8 : Below v1.heap.size v1 w8 := below_via (by (repeat' (first | (with_reducible exact Below.refl _ _) | (with_reducible assumption) | (with_reducible refine Below.drew ?_) | (with_reducible refine below_drewN ?_ _) | (with_reducible refine Below.setCell ?_ ?_ _) | (with_reducible refine Below.alloc ?_ ?_ _) | go_size | omega))) h8; clear h8; have hz8 := hB8.size; obtain ⟨⟨k0_0, k0_1⟩, ⟨k1_0, k1_1, k1_2⟩, ⟨k2_0, k2_1⟩⟩ := K.out w8 hB8; obtain ⟨o0, o1, o2, o3, o4, o5⟩ := box6 (OB.out.keep hB8); have lo := (OB.out.keep hB8).lt; have f0 := (OB.out.keep hB8).free 2; have f1 := (OB.out.keep hB8).free 3))
    have TB' := Lib.hid ((((TB.out.keep hB8).other ⟨w.heap.size + 1 + 1 + 1 + 1, 2, none⟩ (.int .i64 (cmpL tl th y L L)) (by first | (simp; done) | (simp; omega))).other ⟨w.heap.size + 1 + 1 + 1 + 1, 3, none⟩ (.int .i64 (cmpH tl th y L L)) (by first | (simp; done) | (simp; omega))))
    have DB' := Lib.hid ((((DB.out.keep hB8).other ⟨w.heap.size + 1 + 1 + 1 + 1, 2, none⟩ (.int .i64 (cmpL tl th y L L)) (by first | (simp; done) | (simp; omega))).other ⟨w.heap.size + 1 + 1 + 1 + 1, 3, none⟩ (.int .i64 (cmpH tl th y L L)) (by first | (simp; done) | (simp; omega))))
    have RB' := Lib.hid ((((RB.out.keep hB8).other ⟨w.heap.size + 1 + 1 + 1 + 1, 2, none⟩ (.int .i64 (cmpL tl th y L L)) (by first | (simp; done) | (simp; omega))).other ⟨w.heap.size + 1 + 1 + 1 + 1, 3, none⟩ (.int .i64 (cmpH tl th y L L)) (by first | (simp; done) | (simp; omega))))
    have SB' := Lib.hid ((((SB.out.keep hB8).other ⟨w.heap.size + 1 + 1 + 1 + 1, 2, none⟩ (.int .i64 (cmpL tl th y L L)) (by first | (simp; done) | (simp; omega))).other ⟨w.heap.size + 1 + 1 + 1 + 1, 3, none⟩ (.int .i64 (cmpH tl th y L L)) (by first | (simp; done) | (simp; omega))))
    have OB' : Hid (Box ((w8.setCell ⟨w.heap.size + 1 + 1 + 1 + 1, 2, none⟩ (.int .i64 (cmpL tl th y L L))).setCell ⟨w.heap.size + 1 + 1 + 1 + 1, 3, none⟩ (.int .i64 (cmpH tl th y L L))) (w.heap.size + 1 + 1 + 1 + 1) #[.int .i64 (cmpL tl th x L L), .int .i64 (cmpH tl th x L L), .int .i64 (cmpL tl th y L L), .int .i64 (cmpH tl th y L L), .int .i64 0, .int .i64 0] 28) := Lib.hid (((OB.out.keep hB8).set 2 _).set 3 _)
    have BK := below_via B1 hB8
    have B2 : Below w.heap.size w ((w8.setCell ⟨w.heap.size + 1 + 1 + 1 + 1, 2, none⟩ (.int .i64 (cmpL tl th y L L))).setCell ⟨w.heap.size + 1 + 1 + 1 + 1, 3, none⟩ (.int .i64 (cmpH tl th y L L))) := by (repeat' (first | (with_reducible exact Below.refl _ _) | (with_reducible assumption) | (with_reducible refine Below.drew ?_) | (with_reducible refine below_drewN ?_ _) | (with_reducible refine Below.setCell ?_ ?_ _) | (with_reducible refine Below.alloc ?_ ?_ _) | go_size | omega))
    go_wp2_with fail
    clear ldb lsb ltb lob lrb
    clear K k0_0 k0_1 k1_0 k1_1 k1_2 k2_0 k2_1 o0 o1 o2 o3 o4 o5 lo f0 f1 hB8 TB DB RB SB OB BK hz8
    generalize ((w8.setCell ⟨w.heap.size + 1 + 1 + 1 + 1, 2, none⟩ (.int .i64 (cmpL tl th y L L))).setCell ⟨w.heap.size + 1 + 1 + 1 + 1, 3, none⟩ (.int .i64 (cmpH tl th y L L))) = v2 at *
    have TB := TB'; have DB := DB'; have RB := RB'; have SB := SB'; have OB := OB'
    clear TB' DB' RB' SB' OB'
    rw [rounds_succ]
    have ldb := DB.out.lt; have lsb := SB.out.lt; have ltb := TB.out.lt; have lob := OB.out.lt; have lrb := RB.out.lt
    go_wp2_with fail
    have K := Lib.hid (fun (w' : World) (hw : Below v2.heap.size v2 w') => show (w'.cell? ⟨w.heap.size, 0, none⟩ = some (.int .i64 tl) ∧ w'.cell? ⟨w.heap.size, 1, none⟩ = some (.int .i64 th)) ∧ (w'.cell? ⟨db, 0, none⟩ = some (.int .i64 x) ∧ w'.cell? ⟨db, 1, none⟩ = some (.int .i64 y) ∧ w'.cell? ⟨db, 2, none⟩ = some (.int .i64 z)) ∧ (w'.cell? ⟨sb, 0, none⟩ = some (.int .i64 L) ∧ w'.cell? ⟨sb, 1, none⟩ = some (.int .i64 L)) from ⟨⟨(Box.keepB (by omega) (TB.out) hw).cell 0, (Box.keepB (by omega) (TB.out) hw).cell 1⟩, ⟨(Box.keepB (by omega) (DB.out) hw).cell 0, (Box.keepB (by omega) (DB.out) hw).cell 1, (Box.keepB (by omega) (DB.out) hw).cell 2⟩, ⟨(Box.keepB (by omega) (SB.out) hw).cell 0, (Box.keepB (by omega) (SB.out) hw).cell 1⟩⟩)
    go_region_held3 (fun w' => (w'.cell? ⟨w.heap.size, 0, none⟩ = some (.int .i64 tl) ∧ w'.cell? ⟨w.heap.size, 1, none⟩ = some (.int .i64 th)) ∧ (w'.cell? ⟨db, 0, none⟩ = some (.int .i64 x) ∧ w'.cell? ⟨db, 1, none⟩ = some (.int .i64 y) ∧ w'.cell? ⟨db, 2, none⟩ = some (.int .i64 z)) ∧ (w'.cell? ⟨sb, 0, none⟩ = some (.int .i64 L) ∧ w'.cell? ⟨sb, 1, none⟩ = some (.int .i64 L)))
      ((first | (refine K.out _ ?_; (repeat' (first | (with_reducible exact Below.refl _ _) | (with_reducible assumption) | (with_reducible refine Below.drew ?_) | (with_reducible refine below_drewN ?_ _) | (with_reducible refine Below.setCell ?_ ?_ _) | (with_reducible refine Below.alloc ?_ ?_ _) | go_size | omega)); done) | (refine ⟨⟨?_, ?_⟩, ⟨?_, ?_, ?_⟩, ?_, ?_⟩ <;> (rw [World.cell?_setCell_far _ _ _ _ (by simp; omega), World.cell?_setCell_far _ _ _ _ (by simp; omega)]; assumption))))
      (first | (go_at_call 51; refine (CC.out z _ (by omega) (by omega)).mono ?_; rintro e w8 ⟨rfl, h8⟩; have hB8 : Below v2.heap.size v2 w8 := below_via (by (repeat' (first | (with_reducible exact Below.refl _ _) | (with_reducible assumption) | (with_reducible refine Below.drew ?_) | (with_reducible refine below_drewN ?_ _) | (with_reducible refine Below.setCell ?_ ?_ _) | (with_reducible refine Below.alloc ?_ ?_ _) | go_size | omega))) h8; clear h8; have hz8 := hB8.size; obtain ⟨⟨k0_0, k0_1⟩, ⟨k1_0, k1_1, k1_2⟩, ⟨k2_0, k2_1⟩⟩ := K.out w8 hB8; obtain ⟨o0, o1, o2, o3, o4, o5⟩ := box6 (OB.out.keep hB8); have lo := (OB.out.keep hB8).lt; have f0 := (OB.out.keep hB8).free 4; have f1 := (OB.out.keep hB8).free 5))
    have TB' := Lib.hid ((((TB.out.keep hB8).other ⟨w.heap.size + 1 + 1 + 1 + 1, 4, none⟩ (.int .i64 (cmpL tl th z L L)) (by first | (simp; done) | (simp; omega))).other ⟨w.heap.size + 1 + 1 + 1 + 1, 5, none⟩ (.int .i64 (cmpH tl th z L L)) (by first | (simp; done) | (simp; omega))))
    have DB' := Lib.hid ((((DB.out.keep hB8).other ⟨w.heap.size + 1 + 1 + 1 + 1, 4, none⟩ (.int .i64 (cmpL tl th z L L)) (by first | (simp; done) | (simp; omega))).other ⟨w.heap.size + 1 + 1 + 1 + 1, 5, none⟩ (.int .i64 (cmpH tl th z L L)) (by first | (simp; done) | (simp; omega))))
    have RB' := Lib.hid ((((RB.out.keep hB8).other ⟨w.heap.size + 1 + 1 + 1 + 1, 4, none⟩ (.int .i64 (cmpL tl th z L L)) (by first | (simp; done) | (simp; omega))).other ⟨w.heap.size + 1 + 1 + 1 + 1, 5, none⟩ (.int .i64 (cmpH tl th z L L)) (by first | (simp; done) | (simp; omega))))
    have SB' := Lib.hid ((((SB.out.keep hB8).other ⟨w.heap.size + 1 + 1 + 1 + 1, 4, none⟩ (.int .i64 (cmpL tl th z L L)) (by first | (simp; done) | (simp; omega))).other ⟨w.heap.size + 1 + 1 + 1 + 1, 5, none⟩ (.int .i64 (cmpH tl th z L L)) (by first | (simp; done) | (simp; omega))))
    have OB' : Hid (Box ((w8.setCell ⟨w.heap.size + 1 + 1 + 1 + 1, 4, none⟩ (.int .i64 (cmpL tl th z L L))).setCell ⟨w.heap.size + 1 + 1 + 1 + 1, 5, none⟩ (.int .i64 (cmpH tl th z L L))) (w.heap.size + 1 + 1 + 1 + 1) #[.int .i64 (cmpL tl th x L L), .int .i64 (cmpH tl th x L L), .int .i64 (cmpL tl th y L L), .int .i64 (cmpH tl th y L L), .int .i64 (cmpL tl th z L L), .int .i64 (cmpH tl th z L L)] 28) := Lib.hid (((OB.out.keep hB8).set 4 _).set 5 _)
    have BK := below_via B2 hB8
    have B3 : Below w.heap.size w ((w8.setCell ⟨w.heap.size + 1 + 1 + 1 + 1, 4, none⟩ (.int .i64 (cmpL tl th z L L))).setCell ⟨w.heap.size + 1 + 1 + 1 + 1, 5, none⟩ (.int .i64 (cmpH tl th z L L))) := by (repeat' (first | (with_reducible exact Below.refl _ _) | (with_reducible assumption) | (with_reducible refine Below.drew ?_) | (with_reducible refine below_drewN ?_ _) | (with_reducible refine Below.setCell ?_ ?_ _) | (with_reducible refine Below.alloc ?_ ?_ _) | go_size | omega))
    go_wp2_with fail
    clear ldb lsb ltb lob lrb
    clear K k0_0 k0_1 k1_0 k1_1 k1_2 k2_0 k2_1 o0 o1 o2 o3 o4 o5 lo f0 f1 hB8 TB DB RB SB OB BK hz8
    generalize ((w8.setCell ⟨w.heap.size + 1 + 1 + 1 + 1, 4, none⟩ (.int .i64 (cmpL tl th z L L))).setCell ⟨w.heap.size + 1 + 1 + 1 + 1, 5, none⟩ (.int .i64 (cmpH tl th z L L))) = v3 at *
    have TB := TB'; have DB := DB'; have RB := RB'; have SB := SB'; have OB := OB'
    clear TB' DB' RB' SB' OB'
    rw [rounds_succ]
    obtain ⟨o0, o1, o2, o3, o4, o5⟩ := box6 OB.out
    have lr := RB.out.lt; have lo := OB.out.lt
    have g0 := RB.out.cell 0; have g1 := RB.out.cell 1; have g2 := RB.out.cell 2; have g3 := RB.out.cell 3; have g4 := RB.out.cell 4; have g5 := RB.out.cell 5
    have f0 := RB.out.free 0; have f1 := RB.out.free 1; have f2 := RB.out.free 2; have f3 := RB.out.free 3; have f4 := RB.out.free 4; have f5 := RB.out.free 5
    simp at g0 g1 g2 g3 g4 g5
    go_wp2_with fail
    clear g0 g1 g2 g3 g4 g5 f0 f1 f2 f3 f4 f5 o0 o1 o2 o3 o4 o5
    have RV : Box ((((((v3.setCell ⟨w.heap.size + 1 + 1 + 1, 0, none⟩ (.int .i64 (cmpL tl th x L L))).setCell ⟨w.heap.size + 1 + 1 + 1, 1, none⟩ (.int .i64 (cmpH tl th x L L))).setCell ⟨w.heap.size + 1 + 1 + 1, 2, none⟩ (.int .i64 (cmpL tl th y L L))).setCell ⟨w.heap.size + 1 + 1 + 1, 3, none⟩ (.int .i64 (cmpH tl th y L L))).setCell ⟨w.heap.size + 1 + 1 + 1, 4, none⟩ (.int .i64 (cmpL tl th z L L))).setCell ⟨w.heap.size + 1 + 1 + 1, 5, none⟩ (.int .i64 (cmpH tl th z L L))) (w.heap.size + 1 + 1 + 1) #[.int .i64 (cmpL tl th x L L), .int .i64 (cmpH tl th x L L), .int .i64 (cmpL tl th y L L), .int .i64 (cmpH tl th y L L), .int .i64 (cmpL tl th z L L), .int .i64 (cmpH tl th z L L)] 28 := ((((((RB.out.set 0 _).set 1 _).set 2 _).set 3 _).set 4 _).set 5 _)
    have BV : Below w.heap.size w ((((((v3.setCell ⟨w.heap.size + 1 + 1 + 1, 0, none⟩ (.int .i64 (cmpL tl th x L L))).setCell ⟨w.heap.size + 1 + 1 + 1, 1, none⟩ (.int .i64 (cmpH tl th x L L))).setCell ⟨w.heap.size + 1 + 1 + 1, 2, none⟩ (.int .i64 (cmpL tl th y L L))).setCell ⟨w.heap.size + 1 + 1 + 1, 3, none⟩ (.int .i64 (cmpH tl th y L L))).setCell ⟨w.heap.size + 1 + 1 + 1, 4, none⟩ (.int .i64 (cmpL tl th z L L))).setCell ⟨w.heap.size + 1 + 1 + 1, 5, none⟩ (.int .i64 (cmpH tl th z L L))) := by (repeat' (first | (with_reducible exact Below.refl _ _) | (with_reducible assumption) | (with_reducible refine Below.drew ?_) | (with_reducible refine below_drewN ?_ _) | (with_reducible refine Below.setCell ?_ ?_ _) | (with_reducible refine Below.alloc ?_ ?_ _) | go_size | omega))
    generalize ((((((v3.setCell ⟨w.heap.size + 1 + 1 + 1, 0, none⟩ (.int .i64 (cmpL tl th x L L))).setCell ⟨w.heap.size + 1 + 1 + 1, 1, none⟩ (.int .i64 (cmpH tl th x L L))).setCell ⟨w.heap.size + 1 + 1 + 1, 2, none⟩ (.int .i64 (cmpL tl th y L L))).setCell ⟨w.heap.size + 1 + 1 + 1, 3, none⟩ (.int .i64 (cmpH tl th y L L))).setCell ⟨w.heap.size + 1 + 1 + 1, 4, none⟩ (.int .i64 (cmpL tl th z L L))).setCell ⟨w.heap.size + 1 + 1 + 1, 5, none⟩ (.int .i64 (cmpH tl th z L L))) = v at *
    have s0 := RV.cell 0; have s1 := RV.cell 1; have s2 := RV.cell 2; have s3 := RV.cell 3; have s4 := RV.cell 4; have s5 := RV.cell 5
    simp at s0 s1 s2 s3 s4 s5
    go_wp2_with fail
    refine bodyPost_ret (v := .tuple #[.agg #[.int .i64 (cmpL tl th x L L), .int .i64 (cmpH tl th x L L), .int .i64 (cmpL tl th y L L), .int .i64 (cmpH tl th y L L), .int .i64 (cmpL tl th z L L), .int .i64 (cmpH tl th z L L)], .int .i64 0]) (by simp [results, Try.results13, go_sem, s0, s1, s2, s3, s4, s5]) rfl ⟨rfl, BV⟩
end Go.Proofs.Ytgmiimpimoipcaa
