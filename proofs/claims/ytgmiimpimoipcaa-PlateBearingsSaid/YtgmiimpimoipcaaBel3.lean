/-
  The law PlateBearings.
-/
import Derived.Test.YtgmiimpimoipcaaAwk3
import Derived.Test.YtgmiimpimoipcaaRbe
namespace Go.Proofs.Ytgmiimpimoipcaa
open Go.RowKit
set_option maxRecDepth 100000 in
set_option maxHeartbeats 3200000 in
theorem bear_A (f br bk ah bh t : Int) (w : World) (h : okB f br bk ah bh = false) :
    Calls Try.prog 8 #[brg f br bk ah bh, .int .i64 t] w fun e w' => e = .returned (.bool true) ∧ Below w.heap.size w w' := by
  have CD := Lib.hid (fun u => downBearing_any f br bk ah bh t u)
  have CR := Lib.hid (fun u => rchkBr_any f br bk ah bh u)
  have CK := Lib.hid (fun u => chkBr_any f br bk ah bh u)
  rw [show dbN f br bk ah bh t = 0 by unfold dbN; rw [h]; rfl, show dbD f br bk ah bh t = 0 by unfold dbD; rw [h]; rfl, show dbE f br bk ah bh t = 2 by unfold dbE; rw [h]; rfl] at CD
  have hc : chkBr f br bk ah bh = 2 := by unfold chkBr; rw [h]; rfl
  rw [hc] at CR CK
  clear hc h
  go_enter Try.func8, Try.ntmps8
  go_wp2_with fail
  refine (awake3_any _).mono ?_
  rintro e w1 ⟨rfl, h⟩
  have B1 : Below w.heap.size w w1 := below_via (by (repeat' (first | (with_reducible exact Below.refl _ _) | (with_reducible assumption) | (with_reducible refine Below.drew ?_) | (with_reducible refine below_drewN ?_ _) | (with_reducible refine Below.setCell ?_ ?_ _) | (with_reducible refine Below.alloc ?_ ?_ _) | go_size | omega))) h
  have zz1 := B1.size
  have b1 := Lib.hid ((Box.new w #[.int .i64 f, .int .i64 br, .int .i64 bk, .int .i64 ah, .int .i64 bh] 61 rfl).keep h)
  have strict : w.heap.size < w1.heap.size := b1.out.lt
  clear h
  have a0 := b1.out.cell 0; have a1 := b1.out.cell 1; have a2 := b1.out.cell 2; have a3 := b1.out.cell 3; have a4 := b1.out.cell 4; have lb := b1.out.lt
  simp at a0 a1 a2 a3 a4
  go_wp2_with fail
  refine (CD.out _).mono ?_
  rintro e w2 ⟨rfl, h⟩
  have B2 : Below w.heap.size w w2 := below_via B1 h
  have zz2 := B2.size
  have z2 := h.size
  have b2 := Lib.hid ((b1.out.keep h).alloc (.cells #[.int .i64 0, .int .i64 0] 63)); have x2 := Lib.hid (Box.new w2 #[.int .i64 0, .int .i64 0] 63 (n := w2.heap.size) rfl)
  clear h a0 a1 a2 a3 a4 lb b1 CD
  have a0 := b2.out.cell 0; have a1 := b2.out.cell 1; have a2 := b2.out.cell 2; have a3 := b2.out.cell 3; have a4 := b2.out.cell 4; have lb := b2.out.lt
  simp at a0 a1 a2 a3 a4
  go_wp2_with fail
  refine (CR.out _).mono ?_
  rintro e w3 ⟨rfl, h⟩
  have B3 : Below w.heap.size w w3 := below_via (by (repeat' (first | (with_reducible exact Below.refl _ _) | (with_reducible assumption) | (with_reducible refine Below.drew ?_) | (with_reducible refine below_drewN ?_ _) | (with_reducible refine Below.setCell ?_ ?_ _) | (with_reducible refine Below.alloc ?_ ?_ _) | go_size | omega))) h
  have zz3 := B3.size
  have z3 := h.size
  simp at z3
  have b3 := Lib.hid (b2.out.keep h); have x3 := Lib.hid (x2.out.keep h)
  clear h a0 a1 a2 a3 a4 lb b2 x2 CR
  have a0 := b3.out.cell 0; have a1 := b3.out.cell 1; have a2 := b3.out.cell 2; have a3 := b3.out.cell 3; have a4 := b3.out.cell 4; have lb := b3.out.lt
  simp at a0 a1 a2 a3 a4
  go_wp2_with fail
  refine (CK.out _).mono ?_
  rintro e w4 ⟨rfl, h⟩
  have B4 : Below w.heap.size w w4 := below_via B3 h
  have zz4 := B4.size
  have z4 := h.size
  have b4 := Lib.hid (b3.out.keep h); have x4 := Lib.hid (x3.out.keep h)
  clear h a0 a1 a2 a3 a4 lb b3 x3 CK
  have a0 := b4.out.cell 0; have a1 := b4.out.cell 1; have a2 := b4.out.cell 2; have a3 := b4.out.cell 3; have a4 := b4.out.cell 4; have lb := b4.out.lt
  simp at a0 a1 a2 a3 a4
  obtain ⟨x0, x1, -⟩ := x4.out.two
  have lx := x4.out.lt
  go_wp2_with (go_at_call 30; refine (Within_any _ _ _ _).mono ?_; rintro e w4 ⟨rfl, rfl⟩)
  go_ret
  exact ⟨ret_bool (by simp), by assumption⟩
set_option maxRecDepth 100000 in
set_option maxHeartbeats 3200000 in
theorem bear_B (f br bk ah bh t : Int) (w : World) (h : okB f br bk ah bh = true) (ht : inR t 0 10000000 = false) :
    Calls Try.prog 8 #[brg f br bk ah bh, .int .i64 t] w fun e w' => e = .returned (.bool true) ∧ Below w.heap.size w w' := by
  have CD := Lib.hid (fun u => downBearing_any f br bk ah bh t u)
  have CR := Lib.hid (fun u => rchkBr_any f br bk ah bh u)
  have CK := Lib.hid (fun u => chkBr_any f br bk ah bh u)
  rw [show dbN f br bk ah bh t = 0 by unfold dbN; rw [h, ht]; rfl, show dbD f br bk ah bh t = 0 by unfold dbD; rw [h, ht]; rfl, show dbE f br bk ah bh t = 2 by unfold dbE; rw [h, ht]; rfl] at CD
  have hc : chkBr f br bk ah bh = 0 := by unfold chkBr; rw [h]; rfl
  rw [hc] at CR CK
  clear hc h
  go_enter Try.func8, Try.ntmps8
  go_wp2_with fail
  refine (awake3_any _).mono ?_
  rintro e w1 ⟨rfl, h⟩
  have B1 : Below w.heap.size w w1 := below_via (by (repeat' (first | (with_reducible exact Below.refl _ _) | (with_reducible assumption) | (with_reducible refine Below.drew ?_) | (with_reducible refine below_drewN ?_ _) | (with_reducible refine Below.setCell ?_ ?_ _) | (with_reducible refine Below.alloc ?_ ?_ _) | go_size | omega))) h
  have zz1 := B1.size
  have b1 := Lib.hid ((Box.new w #[.int .i64 f, .int .i64 br, .int .i64 bk, .int .i64 ah, .int .i64 bh] 61 rfl).keep h)
  have strict : w.heap.size < w1.heap.size := b1.out.lt
  clear h
  have a0 := b1.out.cell 0; have a1 := b1.out.cell 1; have a2 := b1.out.cell 2; have a3 := b1.out.cell 3; have a4 := b1.out.cell 4; have lb := b1.out.lt
  simp at a0 a1 a2 a3 a4
  go_wp2_with fail
  refine (CD.out _).mono ?_
  rintro e w2 ⟨rfl, h⟩
  have B2 : Below w.heap.size w w2 := below_via B1 h
  have zz2 := B2.size
  have z2 := h.size
  have b2 := Lib.hid ((b1.out.keep h).alloc (.cells #[.int .i64 0, .int .i64 0] 63)); have x2 := Lib.hid (Box.new w2 #[.int .i64 0, .int .i64 0] 63 (n := w2.heap.size) rfl)
  clear h a0 a1 a2 a3 a4 lb b1 CD
  have a0 := b2.out.cell 0; have a1 := b2.out.cell 1; have a2 := b2.out.cell 2; have a3 := b2.out.cell 3; have a4 := b2.out.cell 4; have lb := b2.out.lt
  simp at a0 a1 a2 a3 a4
  go_wp2_with fail
  refine (CR.out _).mono ?_
  rintro e w3 ⟨rfl, h⟩
  have B3 : Below w.heap.size w w3 := below_via (by (repeat' (first | (with_reducible exact Below.refl _ _) | (with_reducible assumption) | (with_reducible refine Below.drew ?_) | (with_reducible refine below_drewN ?_ _) | (with_reducible refine Below.setCell ?_ ?_ _) | (with_reducible refine Below.alloc ?_ ?_ _) | go_size | omega))) h
  have zz3 := B3.size
  have z3 := h.size
  simp at z3
  have b3 := Lib.hid (b2.out.keep h); have x3 := Lib.hid (x2.out.keep h)
  clear h a0 a1 a2 a3 a4 lb b2 x2 CR
  have a0 := b3.out.cell 0; have a1 := b3.out.cell 1; have a2 := b3.out.cell 2; have a3 := b3.out.cell 3; have a4 := b3.out.cell 4; have lb := b3.out.lt
  simp at a0 a1 a2 a3 a4
  go_wp2_with fail
  refine (CK.out _).mono ?_
  rintro e w4 ⟨rfl, h⟩
  have B4 : Below w.heap.size w w4 := below_via B3 h
  have zz4 := B4.size
  have z4 := h.size
  have b4 := Lib.hid (b3.out.keep h); have x4 := Lib.hid (x3.out.keep h)
  clear h a0 a1 a2 a3 a4 lb b3 x3 CK
  have a0 := b4.out.cell 0; have a1 := b4.out.cell 1; have a2 := b4.out.cell 2; have a3 := b4.out.cell 3; have a4 := b4.out.cell 4; have lb := b4.out.lt
  simp at a0 a1 a2 a3 a4
  obtain ⟨x0, x1, -⟩ := x4.out.two
  have lx := x4.out.lt
  go_wp2_with (go_at_call 30; refine (Within_any _ _ _ _).mono ?_; rintro e w4 ⟨rfl, rfl⟩)
  go_ret
  exact ⟨ret_bool (by simp), by assumption⟩
set_option maxRecDepth 100000 in
set_option maxHeartbeats 3200000 in
theorem bear_C (f br bk ah bh t : Int) (w : World) (h : okB f br bk ah bh = true) (ht : inR t 0 10000000 = true) :
    Calls Try.prog 8 #[brg f br bk ah bh, .int .i64 t] w fun e w' => e = .returned (.bool true) ∧ Below w.heap.size w w' := by
  have CD := Lib.hid (fun u => downBearing_any f br bk ah bh t u)
  have CR := Lib.hid (fun u => rchkBr_any f br bk ah bh u)
  have CK := Lib.hid (fun u => chkBr_any f br bk ah bh u)
  have ht' := of_decide_eq_true ht
  have CX := Lib.hid (fun u => rdown_any f br bk ah bh t u h ht')
  rw [show dbN f br bk ah bh t = redN (t * stN f br bk ah bh) (ah * bh) by unfold dbN; rw [h, ht]; rfl, show dbD f br bk ah bh t = redD (t * stN f br bk ah bh) (ah * bh) by unfold dbD; rw [h, ht]; rfl, show dbE f br bk ah bh t = 0 by unfold dbE; rw [h, ht]; rfl] at CD
  have hc : chkBr f br bk ah bh = 0 := by unfold chkBr; rw [h]; rfl
  rw [hc] at CR CK
  obtain ⟨⟨f0, f1⟩, ⟨b0, b1⟩, ⟨k0, k1⟩, ⟨g0, g1⟩, c0, c1⟩ := okB_bd h
  obtain ⟨⟨m0, m1⟩, ⟨m2, m3⟩, m4, m5⟩ := stN_bd h
  clear hc
  by_cases hbr : br = 10000
  · have hb1 : (br == 10000) = true := by simpa using hbr
    clear hbr h m0 m1 m2 m3
    generalize redN (t * stN f br bk ah bh) (ah * bh) = X at *
    generalize redD (t * stN f br bk ah bh) (ah * bh) = Y at *
    go_enter Try.func8, Try.ntmps8
    go_wp2_with fail
    refine (awake3_any _).mono ?_
    rintro e w1 ⟨rfl, h⟩
    have B1 : Below w.heap.size w w1 := below_via (by (repeat' (first | (with_reducible exact Below.refl _ _) | (with_reducible assumption) | (with_reducible refine Below.drew ?_) | (with_reducible refine below_drewN ?_ _) | (with_reducible refine Below.setCell ?_ ?_ _) | (with_reducible refine Below.alloc ?_ ?_ _) | go_size | omega))) h
    have zz1 := B1.size
    have b1 := Lib.hid ((Box.new w #[.int .i64 f, .int .i64 br, .int .i64 bk, .int .i64 ah, .int .i64 bh] 61 rfl).keep h)
    have strict : w.heap.size < w1.heap.size := b1.out.lt
    clear h
    have a0 := b1.out.cell 0; have a1 := b1.out.cell 1; have a2 := b1.out.cell 2; have a3 := b1.out.cell 3; have a4 := b1.out.cell 4; have lb := b1.out.lt
    simp at a0 a1 a2 a3 a4
    go_wp2_with fail
    refine (CD.out _).mono ?_
    rintro e w2 ⟨rfl, h⟩
    have B2 : Below w.heap.size w w2 := below_via B1 h
    have zz2 := B2.size
    have z2 := h.size
    have b2 := Lib.hid ((b1.out.keep h).alloc (.cells #[.int .i64 X, .int .i64 Y] 63)); have x2 := Lib.hid (Box.new w2 #[.int .i64 X, .int .i64 Y] 63 (n := w2.heap.size) rfl)
    clear h a0 a1 a2 a3 a4 lb b1 CD
    have a0 := b2.out.cell 0; have a1 := b2.out.cell 1; have a2 := b2.out.cell 2; have a3 := b2.out.cell 3; have a4 := b2.out.cell 4; have lb := b2.out.lt
    simp at a0 a1 a2 a3 a4
    go_wp2_with fail
    refine (CR.out _).mono ?_
    rintro e w3 ⟨rfl, h⟩
    have B3 : Below w.heap.size w w3 := below_via (by (repeat' (first | (with_reducible exact Below.refl _ _) | (with_reducible assumption) | (with_reducible refine Below.drew ?_) | (with_reducible refine below_drewN ?_ _) | (with_reducible refine Below.setCell ?_ ?_ _) | (with_reducible refine Below.alloc ?_ ?_ _) | go_size | omega))) h
    have zz3 := B3.size
    have z3 := h.size
    simp at z3
    have b3 := Lib.hid (b2.out.keep h); have x3 := Lib.hid (x2.out.keep h)
    clear h a0 a1 a2 a3 a4 lb b2 x2 CR
    have a0 := b3.out.cell 0; have a1 := b3.out.cell 1; have a2 := b3.out.cell 2; have a3 := b3.out.cell 3; have a4 := b3.out.cell 4; have lb := b3.out.lt
    simp at a0 a1 a2 a3 a4
    go_wp2_with fail
    refine (CK.out _).mono ?_
    rintro e w4 ⟨rfl, h⟩
    have B4 : Below w.heap.size w w4 := below_via B3 h
    have zz4 := B4.size
    have z4 := h.size
    have b4 := Lib.hid (b3.out.keep h); have x4 := Lib.hid (x3.out.keep h)
    clear h a0 a1 a2 a3 a4 lb b3 x3 CK
    have a0 := b4.out.cell 0; have a1 := b4.out.cell 1; have a2 := b4.out.cell 2; have a3 := b4.out.cell 3; have a4 := b4.out.cell 4; have lb := b4.out.lt
    simp at a0 a1 a2 a3 a4
    obtain ⟨x0, x1, -⟩ := x4.out.two
    have lx := x4.out.lt
    go_wp2_with (go_at_call 30; refine (Within_any _ _ _ _).mono ?_; rintro e w4 ⟨rfl, rfl⟩)
    have K := Lib.hid (fun (w' : World) (hw : Below w4.heap.size w4 w') => show (w'.cell? ⟨w2.heap.size, 0, none⟩ = some (.int .i64 X) ∧ w'.cell? ⟨w2.heap.size, 1, none⟩ = some (.int .i64 Y)) ∧ (w'.cell? ⟨w.heap.size, 0, none⟩ = some (.int .i64 f) ∧ w'.cell? ⟨w.heap.size, 1, none⟩ = some (.int .i64 br) ∧ w'.cell? ⟨w.heap.size, 2, none⟩ = some (.int .i64 bk) ∧ w'.cell? ⟨w.heap.size, 3, none⟩ = some (.int .i64 ah) ∧ w'.cell? ⟨w.heap.size, 4, none⟩ = some (.int .i64 bh)) from ⟨⟨(Box.keepB (by omega) (x4.out) hw).cell 0, (Box.keepB (by omega) (x4.out) hw).cell 1⟩, ⟨(Box.keepB (by omega) (b4.out) hw).cell 0, (Box.keepB (by omega) (b4.out) hw).cell 1, (Box.keepB (by omega) (b4.out) hw).cell 2, (Box.keepB (by omega) (b4.out) hw).cell 3, (Box.keepB (by omega) (b4.out) hw).cell 4⟩⟩)
    go_region_held3 (fun w' => (w'.cell? ⟨w2.heap.size, 0, none⟩ = some (.int .i64 X) ∧ w'.cell? ⟨w2.heap.size, 1, none⟩ = some (.int .i64 Y)) ∧ (w'.cell? ⟨w.heap.size, 0, none⟩ = some (.int .i64 f) ∧ w'.cell? ⟨w.heap.size, 1, none⟩ = some (.int .i64 br) ∧ w'.cell? ⟨w.heap.size, 2, none⟩ = some (.int .i64 bk) ∧ w'.cell? ⟨w.heap.size, 3, none⟩ = some (.int .i64 ah) ∧ w'.cell? ⟨w.heap.size, 4, none⟩ = some (.int .i64 bh)))
      ((refine K.out _ ?_; (repeat' (first | (with_reducible exact Below.refl _ _) | (with_reducible assumption) | (with_reducible refine Below.drew ?_) | (with_reducible refine below_drewN ?_ _) | (with_reducible refine Below.setCell ?_ ?_ _) | (with_reducible refine Below.alloc ?_ ?_ _) | go_size | omega)); done))
      (first | (go_at_call 35; refine (CX.out _).mono ?_; rintro e w5 ⟨rfl, h⟩; have hB : Below w4.heap.size w4 w5 := below_via (by (repeat' (first | (with_reducible exact Below.refl _ _) | (with_reducible assumption) | (with_reducible refine Below.drew ?_) | (with_reducible refine below_drewN ?_ _) | (with_reducible refine Below.setCell ?_ ?_ _) | (with_reducible refine Below.alloc ?_ ?_ _) | go_size | omega))) h; clear h; have hz := hB.size; obtain ⟨⟨k0_0, k0_1⟩, k1_0, k1_1, k1_2, k1_3, k1_4⟩ := K.out w5 hB))
    have B5 : Below w.heap.size w w5 := below_via B4 hB
    go_wp2_with fail
    go_ret
    exact ⟨ret_bool (by simp), by (repeat' (first | (with_reducible exact Below.refl _ _) | (with_reducible assumption) | (with_reducible refine Below.drew ?_) | (with_reducible refine below_drewN ?_ _) | (with_reducible refine Below.setCell ?_ ?_ _) | (with_reducible refine Below.alloc ?_ ?_ _) | go_size | omega))⟩
  · have hb1 : (br == 10000) = false := by simpa using hbr
    have h2 : okB f (br + 1) bk ah bh = true := by
      unfold okB inB inR at h ⊢; simp at h ⊢; omega
    have CD2 := Lib.hid (fun u => downBearing_any f (br + 1) bk ah bh t u)
    have CX2 := Lib.hid (fun u => rdown_any f (br + 1) bk ah bh t u h2 ht')
    rw [show dbN f (br + 1) bk ah bh t = redN (t * stN f (br + 1) bk ah bh) (ah * bh) by unfold dbN; rw [h2, ht]; rfl, show dbD f (br + 1) bk ah bh t = redD (t * stN f (br + 1) bk ah bh) (ah * bh) by unfold dbD; rw [h2, ht]; rfl, show dbE f (br + 1) bk ah bh t = 0 by unfold dbE; rw [h2, ht]; rfl] at CD2
    have sN : -12000000000 ≤ stN f br bk ah bh ∧ stN f br bk ah bh ≤ 12000000000 := by unfold stN; omega
    obtain ⟨⟨m0', m1'⟩, ⟨m2', m3'⟩, -⟩ := stN_bd h2
    have sN2 : -12000000000 ≤ stN f (br + 1) bk ah bh ∧ stN f (br + 1) bk ah bh ≤ 12000000000 := by unfold stN; omega
    have hup : stN f br bk ah bh ≤ stN f (br + 1) bk ah bh := by
      unfold stN
      have e1 : (br + 1 - f) * bh = (br - f) * bh + bh := by rw [show br + 1 - f = (br - f) + 1 by omega, Int.add_mul, Int.one_mul]
      have e2 : (br + 1 - bk) * ah = (br - bk) * ah + ah := by rw [show br + 1 - bk = (br - bk) + 1 by omega, Int.add_mul, Int.one_mul]
      rw [e1, e2]; omega
    have hP : t * stN f br bk ah bh ≤ t * stN f (br + 1) bk ah bh := Int.mul_le_mul_of_nonneg_left hup ht'.1
    have P1 := mul_bd (show -10000000 ≤ t by omega) ht'.2 sN.1 sN.2
    have P2 := mul_bd (show -10000000 ≤ t by omega) ht'.2 sN2.1 sN2.2
    clear hbr h h2 m0 m1 m2 m3 m0' m1' m2' m3' sN sN2 hup
    generalize t * stN f br bk ah bh = P at *
    generalize t * stN f (br + 1) bk ah bh = Q at *
    generalize hDD : ah * bh = D at *
    have HDD := Lib.hid hDD; clear hDD
    obtain ⟨gx0, ex, dx, rx⟩ := red_back (n := P) m4
    obtain ⟨gy0, ey, dy, ry⟩ := red_back (n := Q) m4
    have qx : D / redD P D = gcdI P D := by
      have := Int.mul_ediv_cancel (gcdI P D) (show redD P D ≠ 0 by omega)
      rw [← dx] at this; exact this
    have qy : D / redD Q D = gcdI Q D := by
      have := Int.mul_ediv_cancel (gcdI Q D) (show redD Q D ≠ 0 by omega)
      rw [← dy] at this; exact this
    have px : redN P D * gcdI P D = P := by rw [Int.mul_comm]; exact ex.symm
    have py : redN Q D * gcdI Q D = Q := by rw [Int.mul_comm]; exact ey.symm
    have tx : D.tdiv (redD P D) = gcdI P D := by rw [Int.tdiv_eq_ediv_of_nonneg (by omega)]; exact qx
    have ty : D.tdiv (redD Q D) = gcdI Q D := by rw [Int.tdiv_eq_ediv_of_nonneg (by omega)]; exact qy
    have lx1 : redD P D ≤ D := (red_size (n := P) m4 (M := 120000000000000000) (by omega) (by omega)).2.2
    have ly1 : redD Q D ≤ D := (red_size (n := Q) m4 (M := 120000000000000000) (by omega) (by omega)).2.2
    have gxl := gcdI_le (x := D) (y := P) m4
    have gyl := gcdI_le (x := D) (y := Q) m4
    have egx : gcdI D P = gcdI P D := by unfold gcdI; rw [Int.gcd_comm]
    have egy : gcdI D Q = gcdI Q D := by unfold gcdI; rw [Int.gcd_comm]
    rw [egx] at gxl; rw [egy] at gyl
    clear ex ey dx dy egx egy
    generalize gcdI P D = G1 at *
    generalize gcdI Q D = G2 at *
    generalize redN P D = X at *
    generalize redD P D = Y at *
    generalize redN Q D = X' at *
    generalize redD Q D = Y' at *
    have EQ := Lib.hid (And.intro qx (And.intro qy (And.intro px (And.intro py (And.intro tx ty)))))
    clear qx qy px py tx ty
    go_enter Try.func8, Try.ntmps8
    go_wp2_with fail
    refine (awake3_any _).mono ?_
    rintro e w1 ⟨rfl, h⟩
    have B1 : Below w.heap.size w w1 := below_via (by (repeat' (first | (with_reducible exact Below.refl _ _) | (with_reducible assumption) | (with_reducible refine Below.drew ?_) | (with_reducible refine below_drewN ?_ _) | (with_reducible refine Below.setCell ?_ ?_ _) | (with_reducible refine Below.alloc ?_ ?_ _) | go_size | omega))) h
    have zz1 := B1.size
    have b1 := Lib.hid ((Box.new w #[.int .i64 f, .int .i64 br, .int .i64 bk, .int .i64 ah, .int .i64 bh] 61 rfl).keep h)
    have strict : w.heap.size < w1.heap.size := b1.out.lt
    clear h
    have a0 := b1.out.cell 0; have a1 := b1.out.cell 1; have a2 := b1.out.cell 2; have a3 := b1.out.cell 3; have a4 := b1.out.cell 4; have lb := b1.out.lt
    simp at a0 a1 a2 a3 a4
    go_wp2_with fail
    refine (CD.out _).mono ?_
    rintro e w2 ⟨rfl, h⟩
    have B2 : Below w.heap.size w w2 := below_via B1 h
    have zz2 := B2.size
    have z2 := h.size
    have b2 := Lib.hid ((b1.out.keep h).alloc (.cells #[.int .i64 X, .int .i64 Y] 63)); have x2 := Lib.hid (Box.new w2 #[.int .i64 X, .int .i64 Y] 63 (n := w2.heap.size) rfl)
    clear h a0 a1 a2 a3 a4 lb b1 CD
    have a0 := b2.out.cell 0; have a1 := b2.out.cell 1; have a2 := b2.out.cell 2; have a3 := b2.out.cell 3; have a4 := b2.out.cell 4; have lb := b2.out.lt
    simp at a0 a1 a2 a3 a4
    go_wp2_with fail
    refine (CR.out _).mono ?_
    rintro e w3 ⟨rfl, h⟩
    have B3 : Below w.heap.size w w3 := below_via (by (repeat' (first | (with_reducible exact Below.refl _ _) | (with_reducible assumption) | (with_reducible refine Below.drew ?_) | (with_reducible refine below_drewN ?_ _) | (with_reducible refine Below.setCell ?_ ?_ _) | (with_reducible refine Below.alloc ?_ ?_ _) | go_size | omega))) h
    have zz3 := B3.size
    have z3 := h.size
    simp at z3
    have b3 := Lib.hid (b2.out.keep h); have x3 := Lib.hid (x2.out.keep h)
    clear h a0 a1 a2 a3 a4 lb b2 x2 CR
    have a0 := b3.out.cell 0; have a1 := b3.out.cell 1; have a2 := b3.out.cell 2; have a3 := b3.out.cell 3; have a4 := b3.out.cell 4; have lb := b3.out.lt
    simp at a0 a1 a2 a3 a4
    go_wp2_with fail
    refine (CK.out _).mono ?_
    rintro e w4 ⟨rfl, h⟩
    have B4 : Below w.heap.size w w4 := below_via B3 h
    have zz4 := B4.size
    have z4 := h.size
    have b4 := Lib.hid (b3.out.keep h); have x4 := Lib.hid (x3.out.keep h)
    clear h a0 a1 a2 a3 a4 lb b3 x3 CK
    have a0 := b4.out.cell 0; have a1 := b4.out.cell 1; have a2 := b4.out.cell 2; have a3 := b4.out.cell 3; have a4 := b4.out.cell 4; have lb := b4.out.lt
    simp at a0 a1 a2 a3 a4
    obtain ⟨x0, x1, -⟩ := x4.out.two
    have lx := x4.out.lt
    go_wp2_with (go_at_call 30; refine (Within_any _ _ _ _).mono ?_; rintro e w4 ⟨rfl, rfl⟩)
    have K := Lib.hid (fun (w' : World) (hw : Below w4.heap.size w4 w') => show (w'.cell? ⟨w2.heap.size, 0, none⟩ = some (.int .i64 X) ∧ w'.cell? ⟨w2.heap.size, 1, none⟩ = some (.int .i64 Y)) ∧ (w'.cell? ⟨w.heap.size, 0, none⟩ = some (.int .i64 f) ∧ w'.cell? ⟨w.heap.size, 1, none⟩ = some (.int .i64 br) ∧ w'.cell? ⟨w.heap.size, 2, none⟩ = some (.int .i64 bk) ∧ w'.cell? ⟨w.heap.size, 3, none⟩ = some (.int .i64 ah) ∧ w'.cell? ⟨w.heap.size, 4, none⟩ = some (.int .i64 bh)) from ⟨⟨(Box.keepB (by omega) (x4.out) hw).cell 0, (Box.keepB (by omega) (x4.out) hw).cell 1⟩, ⟨(Box.keepB (by omega) (b4.out) hw).cell 0, (Box.keepB (by omega) (b4.out) hw).cell 1, (Box.keepB (by omega) (b4.out) hw).cell 2, (Box.keepB (by omega) (b4.out) hw).cell 3, (Box.keepB (by omega) (b4.out) hw).cell 4⟩⟩)
    go_region_held3 (fun w' => (w'.cell? ⟨w2.heap.size, 0, none⟩ = some (.int .i64 X) ∧ w'.cell? ⟨w2.heap.size, 1, none⟩ = some (.int .i64 Y)) ∧ (w'.cell? ⟨w.heap.size, 0, none⟩ = some (.int .i64 f) ∧ w'.cell? ⟨w.heap.size, 1, none⟩ = some (.int .i64 br) ∧ w'.cell? ⟨w.heap.size, 2, none⟩ = some (.int .i64 bk) ∧ w'.cell? ⟨w.heap.size, 3, none⟩ = some (.int .i64 ah) ∧ w'.cell? ⟨w.heap.size, 4, none⟩ = some (.int .i64 bh)))
      ((refine K.out _ ?_; (repeat' (first | (with_reducible exact Below.refl _ _) | (with_reducible assumption) | (with_reducible refine Below.drew ?_) | (with_reducible refine below_drewN ?_ _) | (with_reducible refine Below.setCell ?_ ?_ _) | (with_reducible refine Below.alloc ?_ ?_ _) | go_size | omega)); done))
      (first | (go_at_call 35; refine (CX.out _).mono ?_; rintro e w5 ⟨rfl, h⟩; have hB : Below w4.heap.size w4 w5 := below_via (by (repeat' (first | (with_reducible exact Below.refl _ _) | (with_reducible assumption) | (with_reducible refine Below.drew ?_) | (with_reducible refine below_drewN ?_ _) | (with_reducible refine Below.setCell ?_ ?_ _) | (with_reducible refine Below.alloc ?_ ?_ _) | go_size | omega))) h; clear h; have hz := hB.size; obtain ⟨⟨k0_0, k0_1⟩, k1_0, k1_1, k1_2, k1_3, k1_4⟩ := K.out w5 hB))
    have b5 := Lib.hid (b4.out.keep hB); have x5 := Lib.hid (x4.out.keep hB)
    have B5 : Below w.heap.size w w5 := below_via B4 hB
    have zz5 := B5.size
    clear K k0_0 k0_1 k1_0 k1_1 k1_2 k1_3 k1_4 a0 a1 a2 a3 a4 lb x0 x1 lx b4 x4 hB CX
    have a0 := b5.out.cell 0; have a1 := b5.out.cell 1; have a2 := b5.out.cell 2; have a3 := b5.out.cell 3; have a4 := b5.out.cell 4; have lb := b5.out.lt; have fb := b5.out.free 1
    simp at a0 a1 a2 a3 a4
    go_wp2_with fail
    have b6 : Hid (Box (w5.setCell ⟨w.heap.size, 1, none⟩ (.int .i64 (br + 1))) w.heap.size #[.int .i64 f, .int .i64 (br + 1), .int .i64 bk, .int .i64 ah, .int .i64 bh] 61) := Lib.hid (b5.out.set 1 _)
    have x6 : Hid (Box (w5.setCell ⟨w.heap.size, 1, none⟩ (.int .i64 (br + 1))) w2.heap.size #[.int .i64 X, .int .i64 Y] 63) := Lib.hid (x5.out.other _ _ (by simp; omega))
    have B6 : Below w.heap.size w (w5.setCell ⟨w.heap.size, 1, none⟩ (.int .i64 (br + 1))) := by (repeat' (first | (with_reducible exact Below.refl _ _) | (with_reducible assumption) | (with_reducible refine Below.drew ?_) | (with_reducible refine below_drewN ?_ _) | (with_reducible refine Below.setCell ?_ ?_ _) | (with_reducible refine Below.alloc ?_ ?_ _) | go_size | omega))
    clear a0 a1 a2 a3 a4 lb fb b5 x5 B5
    refine (CD2.out _).mono ?_
    rintro e w7 ⟨rfl, h⟩
    have B7 : Below w.heap.size w w7 := below_via B6 h
    have zz7 := B7.size
    have b7 := Lib.hid ((b6.out.keep h).alloc (.cells #[.int .i64 X', .int .i64 Y'] 63)); have x7 := Lib.hid ((x6.out.keep h).alloc (.cells #[.int .i64 X', .int .i64 Y'] 63)); have y7 := Lib.hid (Box.new w7 #[.int .i64 X', .int .i64 Y'] 63 (n := w7.heap.size) rfl)
    have BW7 : Below w.heap.size w (w7.alloc (.cells #[.int .i64 X', .int .i64 Y'] 63)) := by (repeat' (first | (with_reducible exact Below.refl _ _) | (with_reducible assumption) | (with_reducible refine Below.drew ?_) | (with_reducible refine below_drewN ?_ _) | (with_reducible refine Below.setCell ?_ ?_ _) | (with_reducible refine Below.alloc ?_ ?_ _) | go_size | omega))
    clear h b6 x6 B6 CD2
    go_wp2_with fail
    generalize (w7.alloc (.cells #[.int .i64 X', .int .i64 Y'] 63)) = u7 at *
    generalize w7.heap.size = yb at *
    have a0 := b7.out.cell 0; have a1 := b7.out.cell 1; have a2 := b7.out.cell 2; have a3 := b7.out.cell 3; have a4 := b7.out.cell 4; have lb := b7.out.lt
    simp at a0 a1 a2 a3 a4
    obtain ⟨y0, y1, -⟩ := y7.out.two
    have ly := y7.out.lt
    have K := Lib.hid (fun (w' : World) (hw : Below u7.heap.size u7 w') => show (w'.cell? ⟨yb, 0, none⟩ = some (.int .i64 X') ∧ w'.cell? ⟨yb, 1, none⟩ = some (.int .i64 Y')) ∧ (w'.cell? ⟨w.heap.size, 0, none⟩ = some (.int .i64 f) ∧ w'.cell? ⟨w.heap.size, 1, none⟩ = some (.int .i64 (br + 1)) ∧ w'.cell? ⟨w.heap.size, 2, none⟩ = some (.int .i64 bk) ∧ w'.cell? ⟨w.heap.size, 3, none⟩ = some (.int .i64 ah) ∧ w'.cell? ⟨w.heap.size, 4, none⟩ = some (.int .i64 bh)) from ⟨⟨(Box.keepB (by omega) (y7.out) hw).cell 0, (Box.keepB (by omega) (y7.out) hw).cell 1⟩, ⟨(Box.keepB (by omega) (b7.out) hw).cell 0, (Box.keepB (by omega) (b7.out) hw).cell 1, (Box.keepB (by omega) (b7.out) hw).cell 2, (Box.keepB (by omega) (b7.out) hw).cell 3, (Box.keepB (by omega) (b7.out) hw).cell 4⟩⟩)
    go_region_held3 (fun w' => (w'.cell? ⟨yb, 0, none⟩ = some (.int .i64 X') ∧ w'.cell? ⟨yb, 1, none⟩ = some (.int .i64 Y')) ∧ (w'.cell? ⟨w.heap.size, 0, none⟩ = some (.int .i64 f) ∧ w'.cell? ⟨w.heap.size, 1, none⟩ = some (.int .i64 (br + 1)) ∧ w'.cell? ⟨w.heap.size, 2, none⟩ = some (.int .i64 bk) ∧ w'.cell? ⟨w.heap.size, 3, none⟩ = some (.int .i64 ah) ∧ w'.cell? ⟨w.heap.size, 4, none⟩ = some (.int .i64 bh)))
      ((refine K.out _ ?_; (repeat' (first | (with_reducible exact Below.refl _ _) | (with_reducible assumption) | (with_reducible refine Below.drew ?_) | (with_reducible refine below_drewN ?_ _) | (with_reducible refine Below.setCell ?_ ?_ _) | (with_reducible refine Below.alloc ?_ ?_ _) | go_size | omega)); done))
      (first | (go_at_call 35; refine (CX2.out _).mono ?_; rintro e w9 ⟨rfl, h⟩; have hB : Below u7.heap.size u7 w9 := below_via (by (repeat' (first | (with_reducible exact Below.refl _ _) | (with_reducible assumption) | (with_reducible refine Below.drew ?_) | (with_reducible refine below_drewN ?_ _) | (with_reducible refine Below.setCell ?_ ?_ _) | (with_reducible refine Below.alloc ?_ ?_ _) | go_size | omega))) h; clear h; have hz := hB.size; obtain ⟨⟨k0_0, k0_1⟩, k1_0, k1_1, k1_2, k1_3, k1_4⟩ := K.out w9 hB))
    have b9 := Lib.hid (b7.out.keep hB); have x9 := Lib.hid (x7.out.keep hB); have y9 := Lib.hid (y7.out.keep hB)
    have B9 : Below w.heap.size w w9 := below_via BW7 hB
    clear K k0_0 k0_1 k1_0 k1_1 k1_2 k1_3 k1_4 a0 a1 a2 a3 a4 lb y0 y1 ly b7 x7 y7 hB CX2 BW7
    have a3 := b9.out.cell 3; have a4 := b9.out.cell 4
    simp at a3 a4
    obtain ⟨x0, x1, -⟩ := x9.out.two
    obtain ⟨y0, y1, -⟩ := y9.out.two
    go_wp2_with fail
    rw [HDD.out, show wrap64 D = D from IntWalk.wrap64_in D (by omega)]
    obtain ⟨qx, qy, px, py, tx, ty⟩ := EQ.out
    have wP : IntKind.i64.wrap P = P := IntWalk.i64_in _ (by omega)
    have wQ : IntKind.i64.wrap Q = Q := IntWalk.i64_in _ (by omega)
    have hPQ : decide (P ≤ Q) = true := by simpa using hP
    go_quiet (fail)
    go_wp2_with fail
    go_ret
    exact ⟨ret_bool (by simp [hPQ]), by (repeat' (first | (with_reducible exact Below.refl _ _) | (with_reducible assumption) | (with_reducible refine Below.drew ?_) | (with_reducible refine below_drewN ?_ _) | (with_reducible refine Below.setCell ?_ ?_ _) | (with_reducible refine Below.alloc ?_ ?_ _) | go_size | omega))⟩
theorem lawBearings (f br bk ah bh t : Int) (w : World) :
    Calls Try.prog 8 #[brg f br bk ah bh, .int .i64 t] w fun e w' => e = .returned (.bool true) ∧ Below w.heap.size w w' := by
  cases h : okB f br bk ah bh
  · exact bear_A f br bk ah bh t w h
  · cases ht : inR t 0 10000000
    · exact bear_B f br bk ah bh t w h ht
    · exact bear_C f br bk ah bh t w h ht
theorem lawBearingsA (f br bk ah bh t : Int) (w : World) (_ : -9223372036854775808 ≤ f ∧ f ≤ 9223372036854775807) (_ : -9223372036854775808 ≤ br ∧ br ≤ 9223372036854775807) (_ : -9223372036854775808 ≤ bk ∧ bk ≤ 9223372036854775807) (_ : -9223372036854775808 ≤ ah ∧ ah ≤ 9223372036854775807) (_ : -9223372036854775808 ≤ bh ∧ bh ≤ 9223372036854775807) (_ : -9223372036854775808 ≤ t ∧ t ≤ 9223372036854775807) :
    Calls Try.prog 8 #[brg f br bk ah bh, .int .i64 t] w fun e w' => e = .returned (.bool true) ∧ Below w.heap.size w w' := lawBearings f br bk ah bh t w
end Go.Proofs.Ytgmiimpimoipcaa
