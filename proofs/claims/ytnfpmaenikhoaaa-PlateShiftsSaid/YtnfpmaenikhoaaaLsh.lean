/-
  The law PlateShifts.
-/
import Derived.Test.YtnfpmaenikhoaaaFap
import Derived.Test.YtnfpmaenikhoaaaAwk3
import Derived.Deep.RegionWith
import Derived.Deep.DeepCutAuto
namespace Go.Proofs.Ytnfpmaenikhoaaa
open Go.RowKit
set_option maxRecDepth 100000 in
set_option maxHeartbeats 3200000 in
theorem shift_A (l : List Pf) (a : Option Addr) (cap : Nat) (t0 t1 t2 : Int) (w : World) (hl : l.length ≤ 9223372036854775807) (hp : PlAt w a l) (h1 : (20 : Int) < l.length) :
    Calls Try.prog 4 #[.slice a l.length cap, vec t0 t1 t2] w fun e w' => e = .returned (.bool true) ∧ Below w.heap.size w w' := by
  have AW := Lib.hid (fun u => awake3_any u)
  have HP := Lib.hid hp; clear hp
  go_enter Try.func4, Try.ntmps4
  go_wp2_with fail
  refine (AW.out _).mono ?_
  rintro e w1 ⟨rfl, h⟩
  have B1 : Below w.heap.size w w1 := below_via (by (repeat' (first | (with_reducible exact Below.refl _ _) | (with_reducible assumption) | (with_reducible refine Below.drew ?_) | (with_reducible refine below_drewN ?_ _) | (with_reducible refine Below.setCell ?_ ?_ _) | (with_reducible refine Below.alloc ?_ ?_ _) | go_size | omega))) h
  have T1 := Lib.hid ((Box.new w #[.int .i64 t0, .int .i64 t1, .int .i64 t2] 23 (n := w.heap.size) rfl).keep h)
  have z1 := B1.size
  clear h AW
  go_wp2_with fail
  go_ret
  exact ⟨rfl, B1⟩
set_option maxRecDepth 100000 in
set_option maxHeartbeats 3200000 in
theorem shift_B (l : List Pf) (a : Option Addr) (cap : Nat) (t0 t1 t2 : Int) (w : World) (hl : l.length ≤ 9223372036854775807) (hp : PlAt w a l) (h1 : (l.length : Int) ≤ 20) (h2 : chkP l ≠ 0) :
    Calls Try.prog 4 #[.slice a l.length cap, vec t0 t1 t2] w fun e w' => e = .returned (.bool true) ∧ Below w.heap.size w w' := by
  have AW := Lib.hid (fun u => awake3_any u)
  have HP := Lib.hid hp; clear hp
  have CK := Lib.hid (fun (u : World) (h : PlAt u a l) => rchkP_any l a cap u hl h)
  have hne : (chkP l == 0) = false := by simpa using h2
  generalize chkP l = E at *
  go_enter Try.func4, Try.ntmps4
  go_wp2_with fail
  refine (AW.out _).mono ?_
  rintro e w1 ⟨rfl, h⟩
  have B1 : Below w.heap.size w w1 := below_via (by (repeat' (first | (with_reducible exact Below.refl _ _) | (with_reducible assumption) | (with_reducible refine Below.drew ?_) | (with_reducible refine below_drewN ?_ _) | (with_reducible refine Below.setCell ?_ ?_ _) | (with_reducible refine Below.alloc ?_ ?_ _) | go_size | omega))) h
  have T1 := Lib.hid ((Box.new w #[.int .i64 t0, .int .i64 t1, .int .i64 t2] 23 (n := w.heap.size) rfl).keep h)
  have z1 := B1.size
  clear h AW
  go_wp2_with fail
  refine (CK.out _ (HP.out.keep B1)).mono ?_
  rintro e w2 ⟨rfl, h⟩
  have B2 : Below w.heap.size w w2 := below_via B1 h
  have T2 := Lib.hid (T1.out.keep h)
  have z2 := h.size
  clear h T1 CK
  go_wp2_with fail
  go_ret
  exact ⟨rfl, B2⟩
set_option maxRecDepth 100000 in
set_option maxHeartbeats 3200000 in
theorem shift_C (l : List Pf) (a : Option Addr) (cap : Nat) (t0 t1 t2 : Int) (w : World) (hl : l.length ≤ 9223372036854775807) (hp : PlAt w a l) (h1 : (l.length : Int) ≤ 20) (h2 : chkP l = 0) (h3 : beyV 1000000 t0 t1 t2 = true) :
    Calls Try.prog 4 #[.slice a l.length cap, vec t0 t1 t2] w fun e w' => e = .returned (.bool true) ∧ Below w.heap.size w w' := by
  have AW := Lib.hid (fun u => awake3_any u)
  have HP := Lib.hid hp; clear hp
  have CK := Lib.hid (fun (u : World) (h : PlAt u a l) => rchkP_any l a cap u hl h)
  rw [h2] at CK
  have CI := Lib.hid (fun u => risPlace_any t0 t1 t2 u)
  rw [szB_bey, h3] at CI
  go_enter Try.func4, Try.ntmps4
  go_wp2_with fail
  refine (AW.out _).mono ?_
  rintro e w1 ⟨rfl, h⟩
  have B1 : Below w.heap.size w w1 := below_via (by (repeat' (first | (with_reducible exact Below.refl _ _) | (with_reducible assumption) | (with_reducible refine Below.drew ?_) | (with_reducible refine below_drewN ?_ _) | (with_reducible refine Below.setCell ?_ ?_ _) | (with_reducible refine Below.alloc ?_ ?_ _) | go_size | omega))) h
  have T1 := Lib.hid ((Box.new w #[.int .i64 t0, .int .i64 t1, .int .i64 t2] 23 (n := w.heap.size) rfl).keep h)
  have z1 := B1.size
  clear h AW
  go_wp2_with fail
  refine (CK.out _ (HP.out.keep B1)).mono ?_
  rintro e w2 ⟨rfl, h⟩
  have B2 : Below w.heap.size w w2 := below_via B1 h
  have T2 := Lib.hid (T1.out.keep h)
  have z2 := h.size
  clear h T1 CK
  obtain ⟨t0', t1', t2', -⟩ := T2.out.three
  have lt2 := T2.out.lt
  go_wp2_with fail
  clear t0' t1' t2'
  refine (CI.out _).mono ?_
  rintro e w3 ⟨rfl, h⟩
  have B3 : Below w.heap.size w w3 := below_via B2 h
  have T3 := Lib.hid (T2.out.keep h)
  have z3 := h.size
  clear h T2 CI lt2
  go_wp2_with fail
  go_ret
  exact ⟨rfl, B3⟩
set_option maxRecDepth 100000 in
set_option maxHeartbeats 6400000 in
theorem shift_D (l : List Pf) (a : Option Addr) (cap : Nat) (t0 t1 t2 : Int) (w : World) (hl : l.length ≤ 9223372036854775807) (hp : PlAt w a l) (h1 : (l.length : Int) ≤ 20) (h2 : chkP l = 0) (h3 : beyV 1000000 t0 t1 t2 = false) (S0 S1 S2 M0 M1 M2 N0 N1 N2 : Int) (E1 : sA Pf.p l l.length = S0) (E2 : sA Pf.q l l.length = S1) (E3 : sA Pf.r l l.length = S2) (E4 : sA (mX 0 0) l l.length = M0) (E5 : sA (mY 0 0) l l.length = M1) (E6 : sA (mZ 0 0) l l.length = M2) (E7 : sA (mX t1 t2) l l.length = N0) (E8 : sA (mY t0 t2) l l.length = N1) (E9 : sA (mZ t0 t1) l l.length = N2)
    (X0 X1 X2 : Int) (x0 : t1 * S2 - t2 * S1 = X0) (x1 : t2 * S0 - t0 * S2 = X1) (x2 : t0 * S1 - t1 * S0 = X2) (e0 : M0 - X0 = N0) (e1 : M1 - X1 = N1) (e2 : M2 - X2 = N2) (bs : Big 30000000000 S0 S1 S2) (bm : Big 1200000000000000000 M0 M1 M2) :
    Calls Try.prog 4 #[.slice a l.length cap, vec t0 t1 t2] w fun e w' => e = .returned (.bool true) ∧ Below w.heap.size w w' := by
  have AW := Lib.hid (fun u => awake3_any u)
  have HP := Lib.hid hp; clear hp
  have CK := Lib.hid (fun (u : World) (h : PlAt u a l) => rchkP_any l a cap u hl h)
  rw [h2] at CK
  have CI := Lib.hid (fun u => risPlace_any t0 t1 t2 u)
  rw [szB_bey, h3] at CI
  have ht := beyV_no h3
  have CC := Lib.hid (fun (u : World) (h : PlAt u a l) => copied_any l a cap u (by omega) h)
  have CS := Lib.hid (fun (a : Option Addr) (cap : Nat) (u : World) (h : PlAt u a l) => sumOk_any l a cap u h2 h)
  have CM := Lib.hid (fun (a : Option Addr) (cap : Nat) (u : World) (h : PlAt u a l) => momentOk_any 0 0 0 l a cap u h2 h (by unfold Big; omega))
  have CN := Lib.hid (fun (a : Option Addr) (cap : Nat) (u : World) (h : PlAt u a l) => momentOk_any t0 t1 t2 l a cap u h2 h ht)
  have CB := Lib.hid (fun (a : Option Addr) (cap : Nat) (u : World) (h : PlAt u a l) => balOk_any l a cap u h2 h)
  rw [E1, E2, E3] at CS
  rw [E4, E5, E6] at CM
  rw [E7, E8, E9] at CN
  rw [E1, E2, E3, E4, E5, E6] at CB
  have bx : Big 4000000000000000000 X0 X1 X2 := by
    obtain ⟨⟨u0, u1⟩, ⟨u2, u3⟩, u4, u5⟩ := ht
    obtain ⟨⟨v0, v1⟩, ⟨v2, v3⟩, v4, v5⟩ := bs
    have p1 := mul_bd (A := 1000000) (B := 30000000000) (a := t1) (b := S2) (by omega) (by omega) (by omega) (by omega)
    have p2 := mul_bd (A := 1000000) (B := 30000000000) (a := t2) (b := S1) (by omega) (by omega) (by omega) (by omega)
    have p3 := mul_bd (A := 1000000) (B := 30000000000) (a := t2) (b := S0) (by omega) (by omega) (by omega) (by omega)
    have p4 := mul_bd (A := 1000000) (B := 30000000000) (a := t0) (b := S2) (by omega) (by omega) (by omega) (by omega)
    have p5 := mul_bd (A := 1000000) (B := 30000000000) (a := t0) (b := S1) (by omega) (by omega) (by omega) (by omega)
    have p6 := mul_bd (A := 1000000) (B := 30000000000) (a := t1) (b := S0) (by omega) (by omega) (by omega) (by omega)
    unfold Big; omega
  have CX' := fun (u : World) => rcross2_any t0 t1 t2 S0 S1 S2 u ht (bs.up (by omega))
  rw [x0, x1, x2] at CX'
  have CY' := fun (u : World) => rminus_any M0 M1 M2 X0 X1 X2 u (bm.up (by omega)) bx
  rw [e0, e1, e2] at CY'
  have CX := Lib.hid CX'; have CY := Lib.hid CY'; clear CX' CY'
  obtain ⟨bv, hbv⟩ : ∃ bv : Bool, ((S0 == 0 && (S1 == 0 && S2 == 0)) && (M0 == 0 && (M1 == 0 && M2 == 0))) = bv := ⟨_, rfl⟩
  rw [hbv] at CB
  have EN := Lib.hid (show bv = true → N0 = 0 ∧ N1 = 0 ∧ N2 = 0 by
    intro hb
    rw [hb] at hbv
    simp at hbv
    obtain ⟨⟨h0, h1, h2⟩, h3, h4, h5⟩ := hbv
    subst h0; subst h1; subst h2; subst h3; subst h4; subst h5
    simp at x0 x1 x2
    omega)
  clear hbv bx x0 x1 x2
  clear E1 E2 E3 E4 E5 E6 E7 E8 E9 h3 e0 e1 e2
  go_enter Try.func4, Try.ntmps4
  go_wp2_with fail
  refine (AW.out _).mono ?_
  rintro e w1 ⟨rfl, h⟩
  have B1 : Below w.heap.size w w1 := below_via (by (repeat' (first | (with_reducible exact Below.refl _ _) | (with_reducible assumption) | (with_reducible refine Below.drew ?_) | (with_reducible refine below_drewN ?_ _) | (with_reducible refine Below.setCell ?_ ?_ _) | (with_reducible refine Below.alloc ?_ ?_ _) | go_size | omega))) h
  have T1 := Lib.hid ((Box.new w #[.int .i64 t0, .int .i64 t1, .int .i64 t2] 23 (n := w.heap.size) rfl).keep h)
  have z1 := B1.size
  clear h AW
  go_wp2_with fail
  refine (CK.out _ (HP.out.keep B1)).mono ?_
  rintro e w2 ⟨rfl, h⟩
  have B2 : Below w.heap.size w w2 := below_via B1 h
  have T2 := Lib.hid (T1.out.keep h)
  have z2 := h.size
  clear h T1 CK
  obtain ⟨t0', t1', t2', -⟩ := T2.out.three
  have lt2 := T2.out.lt
  go_wp2_with fail
  clear t0' t1' t2'
  refine (CI.out _).mono ?_
  rintro e w3 ⟨rfl, h⟩
  have B3 : Below w.heap.size w w3 := below_via B2 h
  have T3 := Lib.hid (T2.out.keep h)
  have z3 := h.size
  clear h T2 CI lt2
  go_wp2_with fail
  refine (CC.out _ (HP.out.keep B3)).mono ?_
  rintro e w4 ⟨⟨a4, c4, rfl, hq4⟩, h⟩
  have B4 : Below w.heap.size w w4 := below_via B3 h
  have z4 := h.size
  have T4 := Lib.hid (T3.out.keep h)
  have HQ4 := Lib.hid hq4
  clear h hq4 T3
  go_wp2_with fail
  refine (CS.out _ _ _ HQ4.out).mono ?_
  rintro e w5 ⟨rfl, h⟩
  have B5 : Below w.heap.size w w5 := below_via B4 h
  have z5 := h.size
  have T5 := Lib.hid (T4.out.keep h)
  clear h T4 HQ4
  go_wp2_with fail
  have S5p := Lib.hid (Box.new w5 #[.int .i64 S0, .int .i64 S1, .int .i64 S2] 23 (n := w5.heap.size) rfl)
  have T5p := Lib.hid (T5.out.alloc (.cells #[.int .i64 S0, .int .i64 S1, .int .i64 S2] 23))
  have B5p : Below w.heap.size w (w5.alloc (.cells #[.int .i64 S0, .int .i64 S1, .int .i64 S2] 23)) := by (repeat' (first | (with_reducible exact Below.refl _ _) | (with_reducible assumption) | (with_reducible refine Below.drew ?_) | (with_reducible refine below_drewN ?_ _) | (with_reducible refine Below.setCell ?_ ?_ _) | (with_reducible refine Below.alloc ?_ ?_ _) | go_size | omega))
  clear T5
  generalize hw5 : (w5.alloc (.cells #[.int .i64 S0, .int .i64 S1, .int .i64 S2] 23)) = w5p at *
  have z5p : w5.heap.size + 1 ≤ w5p.heap.size := by rw [← hw5]; simp
  clear hw5
  generalize w5.heap.size = sb at *
  refine (CC.out _ (HP.out.keep B5p)).mono ?_
  rintro e w6 ⟨⟨a6, c6, rfl, hq6⟩, h⟩
  have B6 : Below w.heap.size w w6 := below_via B5p h
  have z6 := h.size
  have T6 := Lib.hid (T5p.out.keep h)
  have S6 := Lib.hid (S5p.out.keep h)
  have HQ6 := Lib.hid hq6
  clear h hq6 T5p S5p
  go_wp2_with fail
  refine (CM.out _ _ _ HQ6.out).mono ?_
  rintro e w7 ⟨rfl, h⟩
  have B7 : Below w.heap.size w w7 := below_via B6 h
  have z7 := h.size
  have T7 := Lib.hid (T6.out.keep h)
  have S7 := Lib.hid (S6.out.keep h)
  clear h T6 S6 HQ6
  go_upto_region 7 with fail
  have M7p := Lib.hid (Box.new w7 #[.int .i64 M0, .int .i64 M1, .int .i64 M2] 23 (n := w7.heap.size) rfl)
  have T7p := Lib.hid (T7.out.alloc (.cells #[.int .i64 M0, .int .i64 M1, .int .i64 M2] 23))
  have S7p := Lib.hid (S7.out.alloc (.cells #[.int .i64 M0, .int .i64 M1, .int .i64 M2] 23))
  have B7p : Below w.heap.size w (w7.alloc (.cells #[.int .i64 M0, .int .i64 M1, .int .i64 M2] 23)) := by (repeat' (first | (with_reducible exact Below.refl _ _) | (with_reducible assumption) | (with_reducible refine Below.drew ?_) | (with_reducible refine below_drewN ?_ _) | (with_reducible refine Below.setCell ?_ ?_ _) | (with_reducible refine Below.alloc ?_ ?_ _) | go_size | omega))
  clear T7 S7
  generalize hw7 : (w7.alloc (.cells #[.int .i64 M0, .int .i64 M1, .int .i64 M2] 23)) = w7p at *
  have z7p : w7.heap.size + 1 ≤ w7p.heap.size := by rw [← hw7]; simp
  clear hw7
  generalize w7.heap.size = mb at *
  have ltt := T7p.out.lt
  go_cut [9, 10] (fun s9 s10 wx => ∃ nb : Nat, s9 = .pointer (some ⟨nb, 0, none⟩) ∧ s10 = .int .i64 0 ∧ Box wx nb #[.int .i64 N0, .int .i64 N1, .int .i64 N2] 23 ∧ Below w7p.heap.size w7p wx)
  case first =>
    have K := Lib.hid (fun (w' : World) (hw : Below w7p.heap.size w7p w') => show (w'.cell? ⟨w.heap.size, 0, none⟩ = some (.int .i64 t0) ∧ w'.cell? ⟨w.heap.size, 1, none⟩ = some (.int .i64 t1) ∧ w'.cell? ⟨w.heap.size, 2, none⟩ = some (.int .i64 t2)) from ⟨(T7p.out.keep hw).cell 0, (T7p.out.keep hw).cell 1, (T7p.out.keep hw).cell 2⟩)
    go_region_held3 (fun w' => (w'.cell? ⟨w.heap.size, 0, none⟩ = some (.int .i64 t0) ∧ w'.cell? ⟨w.heap.size, 1, none⟩ = some (.int .i64 t1) ∧ w'.cell? ⟨w.heap.size, 2, none⟩ = some (.int .i64 t2)))
      ((refine K.out _ ?_; (repeat' (first | (with_reducible exact Below.refl _ _) | (with_reducible assumption) | (with_reducible refine Below.drew ?_) | (with_reducible refine below_drewN ?_ _) | (with_reducible refine Below.setCell ?_ ?_ _) | (with_reducible refine Below.alloc ?_ ?_ _) | go_size | omega)); done))
      (first | (go_at_call 16; refine (CC.out _ (HP.out.keep (below_via B7p (by (repeat' (first | (with_reducible exact Below.refl _ _) | (with_reducible assumption) | (with_reducible refine Below.drew ?_) | (with_reducible refine below_drewN ?_ _) | (with_reducible refine Below.setCell ?_ ?_ _) | (with_reducible refine Below.alloc ?_ ?_ _) | go_size | omega)))))).mono ?_; rintro e w8 ⟨⟨a8, c8, rfl, hq8⟩, h8⟩; have HQ8 := Lib.hid hq8; (first | have NB := Lib.hid ((Box.new w7p #[.int .i64 0, .int .i64 0, .int .i64 0] 23 (n := w7p.heap.size) rfl).keep h8) | have NB := Lib.hid ((Box.new w7p.drew #[.int .i64 0, .int .i64 0, .int .i64 0] 23 (n := w7p.heap.size) rfl).keep h8) | skip); have hB8 : Below w7p.heap.size w7p w8 := below_via (by (repeat' (first | (with_reducible exact Below.refl _ _) | (with_reducible assumption) | (with_reducible refine Below.drew ?_) | (with_reducible refine below_drewN ?_ _) | (with_reducible refine Below.setCell ?_ ?_ _) | (with_reducible refine Below.alloc ?_ ?_ _) | go_size | omega))) h8; clear h8 hq8; have hz8 := hB8.size; obtain ⟨k0, k1, k2⟩ := K.out w8 hB8) | (go_at_call 17; refine (CN.out _ _ _ (HQ8.out.keep (by (repeat' (first | (with_reducible exact Below.refl _ _) | (with_reducible assumption) | (with_reducible refine Below.drew ?_) | (with_reducible refine below_drewN ?_ _) | (with_reducible refine Below.setCell ?_ ?_ _) | (with_reducible refine Below.alloc ?_ ?_ _) | go_size | omega))))).mono ?_; rintro e w9 ⟨rfl, h9⟩; (first | have NB9 := Lib.hid (NB.out.keep h9) | have NB9 := Lib.hid ((Box.new w8 #[.int .i64 0, .int .i64 0, .int .i64 0] 23 (n := w8.heap.size) rfl).keep h9) | skip); have hB9 : Below w7p.heap.size w7p w9 := below_via (by (repeat' (first | (with_reducible exact Below.refl _ _) | (with_reducible assumption) | (with_reducible refine Below.drew ?_) | (with_reducible refine below_drewN ?_ _) | (with_reducible refine Below.setCell ?_ ?_ _) | (with_reducible refine Below.alloc ?_ ?_ _) | go_size | omega))) h9; clear h9; have hz9 := hB9.size; obtain ⟨k0', k1', k2'⟩ := K.out w9 hB9; (first | (obtain ⟨o0, o1, o2, f0, f1, f2⟩ := NB9.out.three; have lo := NB9.out.lt) | skip)))
    all_goals
      go_wp2_with fail
      go_meet
      first
        | exact ⟨_, rfl, rfl, Box.new _ _ _ rfl, by (repeat' (first | (with_reducible exact Below.refl _ _) | (with_reducible assumption) | (with_reducible refine Below.drew ?_) | (with_reducible refine below_drewN ?_ _) | (with_reducible refine Below.setCell ?_ ?_ _) | (with_reducible refine Below.alloc ?_ ?_ _) | go_size | omega))⟩
        | exact ⟨_, rfl, rfl, ((NB9.out.set 0 _).set 1 _).set 2 _, by (repeat' (first | (with_reducible exact Below.refl _ _) | (with_reducible assumption) | (with_reducible refine Below.drew ?_) | (with_reducible refine below_drewN ?_ _) | (with_reducible refine Below.setCell ?_ ?_ _) | (with_reducible refine Below.alloc ?_ ?_ _) | go_size | omega))⟩
  obtain ⟨nb, rfl, rfl, hnb, hB9⟩ := hcut
  obtain ⟨w9, rfl⟩ : ∃ x : World, x = wc := ⟨_, rfl⟩
  have B9 : Below w.heap.size w w9 := below_via B7p hB9
  have T9 := Lib.hid (T7p.out.keep hB9); have S9 := Lib.hid (S7p.out.keep hB9); have M9 := Lib.hid (M7p.out.keep hB9); have N9 := Lib.hid hnb
  have z9 := hB9.size
  clear hB9 hnb T7p S7p M7p ltt B7p
  go_wp2_with fail
  refine (CC.out _ (HP.out.keep B9)).mono ?_
  rintro e w10 ⟨⟨a10, c10, rfl, hq10⟩, h⟩
  have B10 : Below w.heap.size w w10 := below_via B9 h
  have z10 := h.size
  have T10 := Lib.hid (T9.out.keep h)
  have S10 := Lib.hid (S9.out.keep h)
  have M10 := Lib.hid (M9.out.keep h)
  have N10 := Lib.hid (N9.out.keep h)
  have HQ10 := Lib.hid hq10
  clear h hq10 T9 S9 M9 N9
  go_wp2_with fail
  refine (CB.out _ _ _ HQ10.out).mono ?_
  rintro e w11 ⟨rfl, h⟩
  have B11 : Below w.heap.size w w11 := below_via B10 h
  have z11 := h.size
  have T11 := Lib.hid (T10.out.keep h)
  have S11 := Lib.hid (S10.out.keep h)
  have M11 := Lib.hid (M10.out.keep h)
  have N11 := Lib.hid (N10.out.keep h)
  clear h T10 S10 M10 N10 HQ10
  clear CC CS CM CN CB
  have i0 : inR S0 (-30000000000) 30000000000 = true := decide_eq_true bs.1
  have i1 : inR S1 (-30000000000) 30000000000 = true := decide_eq_true bs.2.1
  have i2 : inR S2 (-30000000000) 30000000000 = true := decide_eq_true bs.2.2
  have ls := S11.out.lt
  obtain ⟨s0, s1, s2, -⟩ := S11.out.three
  go_wp2_with fail
  refine wp_loop_rounds 4 ?_
  iterate 3 (rw [rounds_succ]; go_wp2_with (go_at_call 25; refine (Within_any _ _ _ _).mono ?_; rintro e w11 ⟨rfl, rfl⟩))
  rw [rounds_succ]
  go_wp2_with fail
  clear s0 s1 s2 i0 i1 i2 bs
  have ltt := T11.out.lt; have lm := M11.out.lt; have ln := N11.out.lt
  cases bv
  · clear EN
    have EQ1 := fun v => eqArr3 N0 N1 N2 N0 N1 N2 v
    simp only [beq_self_eq_true, Bool.and_self] at EQ1
    have K := Lib.hid (fun (w' : World) (hw : Below w11.heap.size w11 w') => show (w'.cell? ⟨w.heap.size, 0, none⟩ = some (.int .i64 t0) ∧ w'.cell? ⟨w.heap.size, 1, none⟩ = some (.int .i64 t1) ∧ w'.cell? ⟨w.heap.size, 2, none⟩ = some (.int .i64 t2)) ∧ (w'.cell? ⟨sb, 0, none⟩ = some (.int .i64 S0) ∧ w'.cell? ⟨sb, 1, none⟩ = some (.int .i64 S1) ∧ w'.cell? ⟨sb, 2, none⟩ = some (.int .i64 S2)) ∧ (w'.cell? ⟨mb, 0, none⟩ = some (.int .i64 M0) ∧ w'.cell? ⟨mb, 1, none⟩ = some (.int .i64 M1) ∧ w'.cell? ⟨mb, 2, none⟩ = some (.int .i64 M2)) ∧ (w'.cell? ⟨nb, 0, none⟩ = some (.int .i64 N0) ∧ w'.cell? ⟨nb, 1, none⟩ = some (.int .i64 N1) ∧ w'.cell? ⟨nb, 2, none⟩ = some (.int .i64 N2)) from ⟨⟨(T11.out.keep hw).cell 0, (T11.out.keep hw).cell 1, (T11.out.keep hw).cell 2⟩, ⟨(S11.out.keep hw).cell 0, (S11.out.keep hw).cell 1, (S11.out.keep hw).cell 2⟩, ⟨(M11.out.keep hw).cell 0, (M11.out.keep hw).cell 1, (M11.out.keep hw).cell 2⟩, (N11.out.keep hw).cell 0, (N11.out.keep hw).cell 1, (N11.out.keep hw).cell 2⟩)
    refine wp_region_held_drew (S := (fun w' => (w'.cell? ⟨w.heap.size, 0, none⟩ = some (.int .i64 t0) ∧ w'.cell? ⟨w.heap.size, 1, none⟩ = some (.int .i64 t1) ∧ w'.cell? ⟨w.heap.size, 2, none⟩ = some (.int .i64 t2)) ∧ (w'.cell? ⟨sb, 0, none⟩ = some (.int .i64 S0) ∧ w'.cell? ⟨sb, 1, none⟩ = some (.int .i64 S1) ∧ w'.cell? ⟨sb, 2, none⟩ = some (.int .i64 S2)) ∧ (w'.cell? ⟨mb, 0, none⟩ = some (.int .i64 M0) ∧ w'.cell? ⟨mb, 1, none⟩ = some (.int .i64 M1) ∧ w'.cell? ⟨mb, 2, none⟩ = some (.int .i64 M2)) ∧ (w'.cell? ⟨nb, 0, none⟩ = some (.int .i64 N0) ∧ w'.cell? ⟨nb, 1, none⟩ = some (.int .i64 N1) ∧ w'.cell? ⟨nb, 2, none⟩ = some (.int .i64 N2)))) (by kernel_rfl) (by ((try dsimp only); (refine K.out _ ?_; (repeat' (first | (with_reducible exact Below.refl _ _) | (with_reducible assumption) | (with_reducible refine Below.drew ?_) | (with_reducible refine below_drewN ?_ _) | (with_reducible refine Below.setCell ?_ ?_ _) | (with_reducible refine Below.alloc ?_ ?_ _) | go_size | omega)); done))) (fun hHeld => ?_)
    refine wpAnyH_take (i := 0) (oi := { dst := some 64, op := Op.move (Operand.tmp 6), type := 26, pos := "law.go:162", after := #[], guard := none }) (v := ?_) rfl (by kernel_rfl) (by kernel_rfl) (by kernel_rfl) (fun _ _ _ h => h) (Or.inl ⟨by rfl, ?_⟩) (by assumption) ?_
    rotate_left 1
    · ((intro w' hSw; try dsimp only at hSw); (go_simp <;> with_reducible rfl))
    try simp only [Act.put, List.setIfInBounds_toArray, List.set_cons_zero, List.set_cons_succ]
    refine wpAnyH_take (i := 1) (oi := { dst := some 65, op := Op.binOp BinOp.eql 26 (Operand.tmp 64) (Operand.const (Value.int IntKind.i64 0)) 26, type := 4, pos := "law.go:162", after := #[{ on := 0, ground := Ground.data }], guard := none }) (v := ?_) rfl (by kernel_rfl) (by kernel_rfl) (by kernel_rfl) (fun _ _ _ h => h) (Or.inl ⟨by rfl, ?_⟩) (by assumption) ?_
    rotate_left 1
    · ((intro w' hSw; try dsimp only at hSw); (go_simp <;> with_reducible rfl))
    try simp only [Act.put, List.setIfInBounds_toArray, List.set_cons_zero, List.set_cons_succ]
    refine wpAnyH_take (i := 2) (oi := { dst := some 66, op := Op.move (Operand.tmp 65), type := 4, pos := "law.go:162", after := #[{ on := 1, ground := Ground.data }], guard := none }) (v := ?_) rfl (by kernel_rfl) (by kernel_rfl) (by kernel_rfl) (fun _ _ _ h => h) (Or.inl ⟨by rfl, ?_⟩) (by assumption) ?_
    rotate_left 1
    · ((intro w' hSw; try dsimp only at hSw); (go_simp <;> with_reducible rfl))
    try simp only [Act.put, List.setIfInBounds_toArray, List.set_cons_zero, List.set_cons_succ]
    refine wpAnyH_take (i := 3) (oi := { dst := some 67, op := Op.move (Operand.tmp 8), type := 26, pos := "law.go:162", after := #[{ on := 2, ground := Ground.guard }], guard := some (2, true) }) (v := ?_) rfl (by kernel_rfl) (by kernel_rfl) (by kernel_rfl) (fun _ _ _ h => h) (Or.inl ⟨by rfl, ?_⟩) (by assumption) ?_
    rotate_left 1
    · ((intro w' hSw; try dsimp only at hSw); (go_simp <;> with_reducible rfl))
    try simp only [Act.put, List.setIfInBounds_toArray, List.set_cons_zero, List.set_cons_succ]
    refine wpAnyH_take (i := 4) (oi := { dst := some 68, op := Op.binOp BinOp.eql 26 (Operand.tmp 67) (Operand.const (Value.int IntKind.i64 0)) 26, type := 4, pos := "law.go:162", after := #[{ on := 3, ground := Ground.data }, { on := 2, ground := Ground.guard }], guard := some (2, true) }) (v := ?_) rfl (by kernel_rfl) (by kernel_rfl) (by kernel_rfl) (fun _ _ _ h => h) (Or.inl ⟨by rfl, ?_⟩) (by assumption) ?_
    rotate_left 1
    · ((intro w' hSw; try dsimp only at hSw); (go_simp <;> with_reducible rfl))
    try simp only [Act.put, List.setIfInBounds_toArray, List.set_cons_zero, List.set_cons_succ]
    refine wpAnyH_take (i := 5) (oi := { dst := some 69, op := Op.pick (Operand.tmp 66) (Operand.tmp 68) (Operand.const (Value.bool false)), type := 4, pos := "law.go:162", after := #[{ on := 2, ground := Ground.data }, { on := 4, ground := Ground.data }], guard := none }) (v := ?_) rfl (by kernel_rfl) (by kernel_rfl) (by kernel_rfl) (fun _ _ _ h => h) (Or.inl ⟨by rfl, ?_⟩) (by assumption) ?_
    rotate_left 1
    · ((intro w' hSw; try dsimp only at hSw); (go_simp <;> with_reducible rfl))
    try simp only [Act.put, List.setIfInBounds_toArray, List.set_cons_zero, List.set_cons_succ]
    refine wpAnyH_take (i := 6) (oi := { dst := some 70, op := Op.move (Operand.tmp 69), type := 4, pos := "law.go:162", after := #[{ on := 5, ground := Ground.data }, { on := 2, ground := Ground.chain }], guard := none }) (v := ?_) rfl (by kernel_rfl) (by kernel_rfl) (by kernel_rfl) (fun _ _ _ h => h) (Or.inl ⟨by rfl, ?_⟩) (by assumption) ?_
    rotate_left 1
    · ((intro w' hSw; try dsimp only at hSw); (go_simp <;> with_reducible rfl))
    try simp only [Act.put, List.setIfInBounds_toArray, List.set_cons_zero, List.set_cons_succ]
    refine wpAnyH_take (i := 7) (oi := { dst := some 71, op := Op.move (Operand.tmp 10), type := 26, pos := "law.go:162", after := #[{ on := 6, ground := Ground.guard }], guard := some (6, true) }) (v := ?_) rfl (by kernel_rfl) (by kernel_rfl) (by kernel_rfl) (fun _ _ _ h => h) (Or.inl ⟨by rfl, ?_⟩) (by assumption) ?_
    rotate_left 1
    · ((intro w' hSw; try dsimp only at hSw); (go_simp <;> with_reducible rfl))
    try simp only [Act.put, List.setIfInBounds_toArray, List.set_cons_zero, List.set_cons_succ]
    refine wpAnyH_take (i := 8) (oi := { dst := some 72, op := Op.binOp BinOp.eql 26 (Operand.tmp 71) (Operand.const (Value.int IntKind.i64 0)) 26, type := 4, pos := "law.go:162", after := #[{ on := 7, ground := Ground.data }, { on := 6, ground := Ground.guard }], guard := some (6, true) }) (v := ?_) rfl (by kernel_rfl) (by kernel_rfl) (by kernel_rfl) (fun _ _ _ h => h) (Or.inl ⟨by rfl, ?_⟩) (by assumption) ?_
    rotate_left 1
    · ((intro w' hSw; try dsimp only at hSw); (go_simp <;> with_reducible rfl))
    try simp only [Act.put, List.setIfInBounds_toArray, List.set_cons_zero, List.set_cons_succ]
    refine wpAnyH_take (i := 9) (oi := { dst := some 73, op := Op.pick (Operand.tmp 70) (Operand.tmp 72) (Operand.const (Value.bool false)), type := 4, pos := "law.go:162", after := #[{ on := 6, ground := Ground.data }, { on := 8, ground := Ground.data }], guard := none }) (v := ?_) rfl (by kernel_rfl) (by kernel_rfl) (by kernel_rfl) (fun _ _ _ h => h) (Or.inl ⟨by rfl, ?_⟩) (by assumption) ?_
    rotate_left 1
    · ((intro w' hSw; try dsimp only at hSw); (go_simp <;> with_reducible rfl))
    try simp only [Act.put, List.setIfInBounds_toArray, List.set_cons_zero, List.set_cons_succ]
    refine wpAnyH_take (i := 10) (oi := { dst := some 74, op := Op.move (Operand.tmp 73), type := 4, pos := "law.go:162", after := #[{ on := 9, ground := Ground.data }, { on := 6, ground := Ground.chain }], guard := none }) (v := ?_) rfl (by kernel_rfl) (by kernel_rfl) (by kernel_rfl) (fun _ _ _ h => h) (Or.inl ⟨by rfl, ?_⟩) (by assumption) ?_
    rotate_left 1
    · ((intro w' hSw; try dsimp only at hSw); (go_simp <;> with_reducible rfl))
    try simp only [Act.put, List.setIfInBounds_toArray, List.set_cons_zero, List.set_cons_succ]
    refine wpAnyH_take (i := 11) (oi := { dst := some 75, op := Op.move (Operand.tmp 12), type := 26, pos := "law.go:162", after := #[{ on := 10, ground := Ground.guard }], guard := some (10, true) }) (v := ?_) rfl (by kernel_rfl) (by kernel_rfl) (by kernel_rfl) (fun _ _ _ h => h) (Or.inl ⟨by rfl, ?_⟩) (by assumption) ?_
    rotate_left 1
    · ((intro w' hSw; try dsimp only at hSw); (go_simp <;> with_reducible rfl))
    try simp only [Act.put, List.setIfInBounds_toArray, List.set_cons_zero, List.set_cons_succ]
    refine wpAnyH_take (i := 12) (oi := { dst := some 76, op := Op.binOp BinOp.eql 26 (Operand.tmp 75) (Operand.const (Value.int IntKind.i64 0)) 26, type := 4, pos := "law.go:162", after := #[{ on := 11, ground := Ground.data }, { on := 10, ground := Ground.guard }], guard := some (10, true) }) (v := ?_) rfl (by kernel_rfl) (by kernel_rfl) (by kernel_rfl) (fun _ _ _ h => h) (Or.inl ⟨by rfl, ?_⟩) (by assumption) ?_
    rotate_left 1
    · ((intro w' hSw; try dsimp only at hSw); (go_simp <;> with_reducible rfl))
    try simp only [Act.put, List.setIfInBounds_toArray, List.set_cons_zero, List.set_cons_succ]
    refine wpAnyH_take (i := 13) (oi := { dst := some 77, op := Op.pick (Operand.tmp 74) (Operand.tmp 76) (Operand.const (Value.bool false)), type := 4, pos := "law.go:162", after := #[{ on := 10, ground := Ground.data }, { on := 12, ground := Ground.data }], guard := none }) (v := ?_) rfl (by kernel_rfl) (by kernel_rfl) (by kernel_rfl) (fun _ _ _ h => h) (Or.inl ⟨by rfl, ?_⟩) (by assumption) ?_
    rotate_left 1
    · ((intro w' hSw; try dsimp only at hSw); (go_simp <;> with_reducible rfl))
    try simp only [Act.put, List.setIfInBounds_toArray, List.set_cons_zero, List.set_cons_succ]
    refine wpAnyH_take (i := 14) (oi := { dst := some 78, op := Op.move (Operand.tmp 77), type := 4, pos := "law.go:162", after := #[{ on := 13, ground := Ground.data }, { on := 10, ground := Ground.chain }], guard := none }) (v := ?_) rfl (by kernel_rfl) (by kernel_rfl) (by kernel_rfl) (fun _ _ _ h => h) (Or.inl ⟨by rfl, ?_⟩) (by assumption) ?_
    rotate_left 1
    · ((intro w' hSw; try dsimp only at hSw); (go_simp <;> with_reducible rfl))
    try simp only [Act.put, List.setIfInBounds_toArray, List.set_cons_zero, List.set_cons_succ]
    refine wpAnyH_take (i := 15) (oi := { dst := some 79, op := Op.load 23 (Operand.tmp 9), type := 23, pos := "law.go:162", after := #[{ on := 14, ground := Ground.guard }], guard := some (14, true) }) (v := ?_) rfl (by kernel_rfl) (by kernel_rfl) (by kernel_rfl) (fun _ _ _ h => h) (Or.inl ⟨by rfl, ?_⟩) (by assumption) ?_
    rotate_left 1
    · ((intro w' hSw; try dsimp only at hSw); (go_simp <;> with_reducible rfl))
    try simp only [Act.put, List.setIfInBounds_toArray, List.set_cons_zero, List.set_cons_succ]
    refine wpAnyH_take (i := 16) (oi := { dst := some 80, op := Op.load 23 (Operand.tmp 7), type := 23, pos := "law.go:162", after := #[{ on := 14, ground := Ground.guard }], guard := some (14, true) }) (v := ?_) rfl (by kernel_rfl) (by kernel_rfl) (by kernel_rfl) (fun _ _ _ h => h) (Or.inl ⟨by rfl, ?_⟩) (by assumption) ?_
    rotate_left 1
    · ((intro w' hSw; try dsimp only at hSw); (go_simp <;> with_reducible rfl))
    try simp only [Act.put, List.setIfInBounds_toArray, List.set_cons_zero, List.set_cons_succ]
    refine wpAnyH_take (i := 17) (oi := { dst := some 81, op := Op.load 23 (Operand.tmp 3), type := 23, pos := "law.go:162", after := #[{ on := 14, ground := Ground.guard }], guard := some (14, true) }) (v := ?_) rfl (by kernel_rfl) (by kernel_rfl) (by kernel_rfl) (fun _ _ _ h => h) (Or.inl ⟨by rfl, ?_⟩) (by assumption) ?_
    rotate_left 1
    · ((intro w' hSw; try dsimp only at hSw); (go_simp <;> with_reducible rfl))
    try simp only [Act.put, List.setIfInBounds_toArray, List.set_cons_zero, List.set_cons_succ]
    refine wpAnyH_take (i := 18) (oi := { dst := some 82, op := Op.load 23 (Operand.tmp 5), type := 23, pos := "law.go:162", after := #[{ on := 14, ground := Ground.guard }], guard := some (14, true) }) (v := ?_) rfl (by kernel_rfl) (by kernel_rfl) (by kernel_rfl) (fun _ _ _ h => h) (Or.inl ⟨by rfl, ?_⟩) (by assumption) ?_
    rotate_left 1
    · ((intro w' hSw; try dsimp only at hSw); (go_simp <;> with_reducible rfl))
    try simp only [Act.put, List.setIfInBounds_toArray, List.set_cons_zero, List.set_cons_succ]
    refine wpAnyH_ready (rs := [19]) (by kernel_rfl) (by simp) ?_
    refine AllReadyH.cons (o := { dst := some 83, op := Op.call { callee := Callee.value (Operand.func 27), args := #[Operand.tmp 81, Operand.tmp 82], argTypes := #[23, 23] }, type := 23, pos := "law.go:162", after := #[{ on := 17, ground := Ground.data }, { on := 18, ground := Ground.data }, { on := 14, ground := Ground.chain }, { on := 14, ground := Ground.guard }], guard := some (14, true) }) rfl (fun K' hK => ?_) AllReadyH.nil
    go_simp
    go_at_call 27; refine (CX.out _).mono ?_; rintro e w12 ⟨rfl, h⟩; have hB12 : Below w11.heap.size w11 w12 := below_via (by (repeat' (first | (with_reducible exact Below.refl _ _) | (with_reducible assumption) | (with_reducible refine Below.drew ?_) | (with_reducible refine below_drewN ?_ _) | (with_reducible refine Below.setCell ?_ ?_ _) | (with_reducible refine Below.alloc ?_ ?_ _) | go_size | omega))) h; clear h; have hz12 := hB12.size; obtain ⟨⟨a0, a1, a2⟩, ⟨b0, b1, b2⟩, ⟨c0, c1, c2⟩, d0, d1, d2⟩ := K.out w12 hB12
    refine hK.out _ _ (by ((try dsimp only); (refine K.out _ ?_; (repeat' (first | (with_reducible exact Below.refl _ _) | (with_reducible assumption) | (with_reducible refine Below.drew ?_) | (with_reducible refine below_drewN ?_ _) | (with_reducible refine Below.setCell ?_ ?_ _) | (with_reducible refine Below.alloc ?_ ?_ _) | go_size | omega)); done))) (fun hHeld => ?_)
    clear hK K'
    try simp only [Act.put, List.setIfInBounds_toArray, List.set_cons_zero, List.set_cons_succ]
    refine wpAnyH_ready (rs := [20]) (by kernel_rfl) (by simp) ?_
    refine AllReadyH.cons (o := { dst := some 84, op := Op.call { callee := Callee.value (Operand.func 26), args := #[Operand.tmp 80, Operand.tmp 83], argTypes := #[23, 23] }, type := 23, pos := "law.go:162", after := #[{ on := 16, ground := Ground.data }, { on := 19, ground := Ground.data }, { on := 19, ground := Ground.chain }, { on := 14, ground := Ground.guard }], guard := some (14, true) }) rfl (fun K' hK => ?_) AllReadyH.nil
    go_simp
    go_at_call 26; refine (CY.out _).mono ?_; rintro e w13 ⟨rfl, h⟩; have hB13 : Below w11.heap.size w11 w13 := below_via (by (repeat' (first | (with_reducible exact Below.refl _ _) | (with_reducible assumption) | (with_reducible refine Below.drew ?_) | (with_reducible refine below_drewN ?_ _) | (with_reducible refine Below.setCell ?_ ?_ _) | (with_reducible refine Below.alloc ?_ ?_ _) | go_size | omega))) h; clear h; have hz13 := hB13.size; obtain ⟨⟨a0', a1', a2'⟩, ⟨b0', b1', b2'⟩, ⟨c0', c1', c2'⟩, d0', d1', d2'⟩ := K.out w13 hB13
    refine hK.out _ _ (by ((try dsimp only); (refine K.out _ ?_; (repeat' (first | (with_reducible exact Below.refl _ _) | (with_reducible assumption) | (with_reducible refine Below.drew ?_) | (with_reducible refine below_drewN ?_ _) | (with_reducible refine Below.setCell ?_ ?_ _) | (with_reducible refine Below.alloc ?_ ?_ _) | go_size | omega)); done))) (fun hHeld => ?_)
    clear hK K'
    try simp only [Act.put, List.setIfInBounds_toArray, List.set_cons_zero, List.set_cons_succ]
    refine wpAnyH_take (i := 21) (oi := { dst := some 85, op := Op.binOp BinOp.eql 23 (Operand.tmp 79) (Operand.tmp 84) 23, type := 4, pos := "law.go:162", after := #[{ on := 15, ground := Ground.data }, { on := 20, ground := Ground.data }, { on := 14, ground := Ground.guard }], guard := some (14, true) }) (v := ?_) rfl (by kernel_rfl) (by kernel_rfl) (by kernel_rfl) (fun _ _ _ h => h) (Or.inl ⟨by rfl, ?_⟩) (by assumption) ?_
    rotate_left 1
    · ((intro w' hSw; try dsimp only at hSw); (go_simp <;> with_reducible rfl))
    try simp only [Act.put, List.setIfInBounds_toArray, List.set_cons_zero, List.set_cons_succ]
    refine wpAnyH_take (i := 22) (oi := { dst := some 86, op := Op.pick (Operand.tmp 78) (Operand.tmp 85) (Operand.const (Value.bool false)), type := 4, pos := "law.go:162", after := #[{ on := 14, ground := Ground.data }, { on := 21, ground := Ground.data }], guard := none }) (v := ?_) rfl (by kernel_rfl) (by kernel_rfl) (by kernel_rfl) (fun _ _ _ h => h) (Or.inl ⟨by rfl, ?_⟩) (by assumption) ?_
    rotate_left 1
    · ((intro w' hSw; try dsimp only at hSw); (go_simp <;> with_reducible rfl))
    try simp only [Act.put, List.setIfInBounds_toArray, List.set_cons_zero, List.set_cons_succ]
    refine wpAnyH_take (i := 23) (oi := { dst := some 87, op := Op.move (Operand.tmp 86), type := 4, pos := "law.go:162", after := #[{ on := 22, ground := Ground.data }, { on := 20, ground := Ground.chain }], guard := none }) (v := ?_) rfl (by kernel_rfl) (by kernel_rfl) (by kernel_rfl) (fun _ _ _ h => h) (Or.inl ⟨by rfl, ?_⟩) (by assumption) ?_
    rotate_left 1
    · ((intro w' hSw; try dsimp only at hSw); (go_simp <;> with_reducible rfl))
    try simp only [Act.put, List.setIfInBounds_toArray, List.set_cons_zero, List.set_cons_succ]
    refine wpAnyH_take (i := 24) (oi := { dst := some 88, op := Op.move (Operand.tmp 11), type := 4, pos := "law.go:162", after := #[{ on := 23, ground := Ground.guard }], guard := some (23, true) }) (v := ?_) rfl (by kernel_rfl) (by kernel_rfl) (by kernel_rfl) (fun _ _ _ h => h) (Or.inl ⟨by rfl, ?_⟩) (by assumption) ?_
    rotate_left 1
    · ((intro w' hSw; try dsimp only at hSw); (go_simp <;> with_reducible rfl))
    try simp only [Act.put, List.setIfInBounds_toArray, List.set_cons_zero, List.set_cons_succ]
    refine wpAnyH_take (i := 25) (oi := { dst := some 89, op := Op.unOp UnOp.not 4 (Operand.tmp 88), type := 4, pos := "law.go:162", after := #[{ on := 24, ground := Ground.data }, { on := 23, ground := Ground.guard }], guard := some (23, true) }) (v := ?_) rfl (by kernel_rfl) (by kernel_rfl) (by kernel_rfl) (fun _ _ _ h => h) (Or.inl ⟨by rfl, ?_⟩) (by assumption) ?_
    rotate_left 1
    · ((intro w' hSw; try dsimp only at hSw); (go_simp <;> with_reducible rfl))
    try simp only [Act.put, List.setIfInBounds_toArray, List.set_cons_zero, List.set_cons_succ]
    refine wpAnyH_take (i := 26) (oi := { dst := some 90, op := Op.move (Operand.tmp 89), type := 4, pos := "law.go:162", after := #[{ on := 25, ground := Ground.data }, { on := 23, ground := Ground.chain }, { on := 23, ground := Ground.guard }], guard := some (23, true) }) (v := ?_) rfl (by kernel_rfl) (by kernel_rfl) (by kernel_rfl) (fun _ _ _ h => h) (Or.inl ⟨by rfl, ?_⟩) (by assumption) ?_
    rotate_left 1
    · ((intro w' hSw; try dsimp only at hSw); (go_simp <;> with_reducible rfl))
    try simp only [Act.put, List.setIfInBounds_toArray, List.set_cons_zero, List.set_cons_succ]
    refine wpAnyH_take (i := 27) (oi := { dst := some 91, op := Op.load 23 (Operand.tmp 9), type := 23, pos := "law.go:162", after := #[{ on := 26, ground := Ground.guard }], guard := some (26, false) }) (v := undef) rfl (by kernel_rfl) (by kernel_rfl) (by kernel_rfl) (fun _ _ _ h => h) (Or.inr ⟨by rfl, rfl⟩) (by assumption) ?_
    try simp only [Act.put, List.setIfInBounds_toArray, List.set_cons_zero, List.set_cons_succ]
    refine wpAnyH_take (i := 28) (oi := { dst := some 92, op := Op.build 23 #[], type := 23, pos := "law.go:162", after := #[{ on := 26, ground := Ground.guard }], guard := some (26, false) }) (v := undef) rfl (by kernel_rfl) (by kernel_rfl) (by kernel_rfl) (fun _ _ _ h => h) (Or.inr ⟨by rfl, rfl⟩) (by assumption) ?_
    try simp only [Act.put, List.setIfInBounds_toArray, List.set_cons_zero, List.set_cons_succ]
    refine wpAnyH_take (i := 29) (oi := { dst := some 93, op := Op.binOp BinOp.eql 23 (Operand.tmp 91) (Operand.tmp 92) 23, type := 4, pos := "law.go:162", after := #[{ on := 27, ground := Ground.data }, { on := 28, ground := Ground.data }, { on := 26, ground := Ground.guard }], guard := some (26, false) }) (v := undef) rfl (by kernel_rfl) (by kernel_rfl) (by kernel_rfl) (fun _ _ _ h => h) (Or.inr ⟨by rfl, rfl⟩) (by assumption) ?_
    try simp only [Act.put, List.setIfInBounds_toArray, List.set_cons_zero, List.set_cons_succ]
    refine wpAnyH_take (i := 30) (oi := { dst := some 94, op := Op.pick (Operand.tmp 90) (Operand.const (Value.bool true)) (Operand.tmp 93), type := 4, pos := "law.go:162", after := #[{ on := 26, ground := Ground.data }, { on := 29, ground := Ground.data }, { on := 23, ground := Ground.guard }], guard := some (23, true) }) (v := ?_) rfl (by kernel_rfl) (by kernel_rfl) (by kernel_rfl) (fun _ _ _ h => h) (Or.inl ⟨by rfl, ?_⟩) (by assumption) ?_
    rotate_left 1
    · ((intro w' hSw; try dsimp only at hSw); (go_simp <;> with_reducible rfl))
    try simp only [Act.put, List.setIfInBounds_toArray, List.set_cons_zero, List.set_cons_succ]
    refine wpAnyH_take (i := 31) (oi := { dst := some 95, op := Op.pick (Operand.tmp 87) (Operand.tmp 94) (Operand.const (Value.bool false)), type := 4, pos := "law.go:162", after := #[{ on := 23, ground := Ground.data }, { on := 30, ground := Ground.data }], guard := none }) (v := ?_) rfl (by kernel_rfl) (by kernel_rfl) (by kernel_rfl) (fun _ _ _ h => h) (Or.inl ⟨by rfl, ?_⟩) (by assumption) ?_
    rotate_left 1
    · ((intro w' hSw; try dsimp only at hSw); (go_simp <;> with_reducible rfl))
    try simp only [Act.put, List.setIfInBounds_toArray, List.set_cons_zero, List.set_cons_succ]
    refine wpAnyH_take (i := 32) (oi := { dst := some 4, op := Op.assign (Operand.tmp 95), type := 4, pos := "law.go:162", after := #[{ on := 31, ground := Ground.data }, { on := 26, ground := Ground.chain }, { on := 0, ground := Ground.phase }, { on := 1, ground := Ground.phase }, { on := 2, ground := Ground.phase }, { on := 3, ground := Ground.phase }, { on := 4, ground := Ground.phase }, { on := 5, ground := Ground.phase }, { on := 6, ground := Ground.phase }, { on := 7, ground := Ground.phase }, { on := 8, ground := Ground.phase }, { on := 9, ground := Ground.phase }, { on := 10, ground := Ground.phase }, { on := 11, ground := Ground.phase }, { on := 12, ground := Ground.phase }, { on := 13, ground := Ground.phase }, { on := 14, ground := Ground.phase }, { on := 15, ground := Ground.phase }, { on := 16, ground := Ground.phase }, { on := 17, ground := Ground.phase }, { on := 18, ground := Ground.phase }, { on := 19, ground := Ground.phase }, { on := 20, ground := Ground.phase }, { on := 21, ground := Ground.phase }, { on := 22, ground := Ground.phase }, { on := 23, ground := Ground.phase }, { on := 24, ground := Ground.phase }, { on := 25, ground := Ground.phase }, { on := 26, ground := Ground.phase }, { on := 27, ground := Ground.phase }, { on := 28, ground := Ground.phase }, { on := 29, ground := Ground.phase }, { on := 30, ground := Ground.phase }, { on := 31, ground := Ground.phase }], guard := none }) (v := ?_) rfl (by kernel_rfl) (by kernel_rfl) (by kernel_rfl) (fun _ _ _ h => h) (Or.inl ⟨by rfl, ?_⟩) (by assumption) ?_
    rotate_left 1
    · ((intro w' hSw; try dsimp only at hSw); (go_simp <;> with_reducible rfl))
    try simp only [Act.put, List.setIfInBounds_toArray, List.set_cons_zero, List.set_cons_succ]
    refine wpAnyH_done (by kernel_rfl) ?_ _
    all_goals
      have B13 := below_via B11 hB13
      go_wp2_with fail
      go_ret
      exact ⟨by simp [Act.put], B13⟩
  · obtain ⟨rfl, rfl, rfl⟩ := EN.out rfl
    clear EN
    have EQ1 := fun v => eqArr3 0 0 0 0 0 0 v
    simp only [beq_self_eq_true, Bool.and_self] at EQ1
    have K := Lib.hid (fun (w' : World) (hw : Below w11.heap.size w11 w') => show (w'.cell? ⟨w.heap.size, 0, none⟩ = some (.int .i64 t0) ∧ w'.cell? ⟨w.heap.size, 1, none⟩ = some (.int .i64 t1) ∧ w'.cell? ⟨w.heap.size, 2, none⟩ = some (.int .i64 t2)) ∧ (w'.cell? ⟨sb, 0, none⟩ = some (.int .i64 S0) ∧ w'.cell? ⟨sb, 1, none⟩ = some (.int .i64 S1) ∧ w'.cell? ⟨sb, 2, none⟩ = some (.int .i64 S2)) ∧ (w'.cell? ⟨mb, 0, none⟩ = some (.int .i64 M0) ∧ w'.cell? ⟨mb, 1, none⟩ = some (.int .i64 M1) ∧ w'.cell? ⟨mb, 2, none⟩ = some (.int .i64 M2)) ∧ (w'.cell? ⟨nb, 0, none⟩ = some (.int .i64 0) ∧ w'.cell? ⟨nb, 1, none⟩ = some (.int .i64 0) ∧ w'.cell? ⟨nb, 2, none⟩ = some (.int .i64 0)) from ⟨⟨(T11.out.keep hw).cell 0, (T11.out.keep hw).cell 1, (T11.out.keep hw).cell 2⟩, ⟨(S11.out.keep hw).cell 0, (S11.out.keep hw).cell 1, (S11.out.keep hw).cell 2⟩, ⟨(M11.out.keep hw).cell 0, (M11.out.keep hw).cell 1, (M11.out.keep hw).cell 2⟩, (N11.out.keep hw).cell 0, (N11.out.keep hw).cell 1, (N11.out.keep hw).cell 2⟩)
    go_region_held3 (fun w' => (w'.cell? ⟨w.heap.size, 0, none⟩ = some (.int .i64 t0) ∧ w'.cell? ⟨w.heap.size, 1, none⟩ = some (.int .i64 t1) ∧ w'.cell? ⟨w.heap.size, 2, none⟩ = some (.int .i64 t2)) ∧ (w'.cell? ⟨sb, 0, none⟩ = some (.int .i64 S0) ∧ w'.cell? ⟨sb, 1, none⟩ = some (.int .i64 S1) ∧ w'.cell? ⟨sb, 2, none⟩ = some (.int .i64 S2)) ∧ (w'.cell? ⟨mb, 0, none⟩ = some (.int .i64 M0) ∧ w'.cell? ⟨mb, 1, none⟩ = some (.int .i64 M1) ∧ w'.cell? ⟨mb, 2, none⟩ = some (.int .i64 M2)) ∧ (w'.cell? ⟨nb, 0, none⟩ = some (.int .i64 0) ∧ w'.cell? ⟨nb, 1, none⟩ = some (.int .i64 0) ∧ w'.cell? ⟨nb, 2, none⟩ = some (.int .i64 0)))
      ((refine K.out _ ?_; (repeat' (first | (with_reducible exact Below.refl _ _) | (with_reducible assumption) | (with_reducible refine Below.drew ?_) | (with_reducible refine below_drewN ?_ _) | (with_reducible refine Below.setCell ?_ ?_ _) | (with_reducible refine Below.alloc ?_ ?_ _) | go_size | omega)); done))
      (first | (go_at_call 27; refine (CX.out _).mono ?_; rintro e w12 ⟨rfl, h⟩; have hB12 : Below w11.heap.size w11 w12 := below_via (by (repeat' (first | (with_reducible exact Below.refl _ _) | (with_reducible assumption) | (with_reducible refine Below.drew ?_) | (with_reducible refine below_drewN ?_ _) | (with_reducible refine Below.setCell ?_ ?_ _) | (with_reducible refine Below.alloc ?_ ?_ _) | go_size | omega))) h; clear h; have hz12 := hB12.size; obtain ⟨⟨a0, a1, a2⟩, ⟨b0, b1, b2⟩, ⟨c0, c1, c2⟩, d0, d1, d2⟩ := K.out w12 hB12) | (go_at_call 26; refine (CY.out _).mono ?_; rintro e w13 ⟨rfl, h⟩; have hB13 : Below w11.heap.size w11 w13 := below_via (by (repeat' (first | (with_reducible exact Below.refl _ _) | (with_reducible assumption) | (with_reducible refine Below.drew ?_) | (with_reducible refine below_drewN ?_ _) | (with_reducible refine Below.setCell ?_ ?_ _) | (with_reducible refine Below.alloc ?_ ?_ _) | go_size | omega))) h; clear h; have hz13 := hB13.size; obtain ⟨⟨a0', a1', a2'⟩, ⟨b0', b1', b2'⟩, ⟨c0', c1', c2'⟩, d0', d1', d2'⟩ := K.out w13 hB13))
    all_goals
      have B13 := below_via B11 hB13
      go_wp2_with fail
      go_ret
      exact ⟨rfl, B13⟩
end Go.Proofs.Ytnfpmaenikhoaaa
