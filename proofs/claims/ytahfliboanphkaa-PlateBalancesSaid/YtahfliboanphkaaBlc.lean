/-
  The force that balances: plate.Balance.
-/
import Derived.Test.YtahfliboanphkaaFap
import Derived.Test.YtahfliboanphkaaFbd
namespace Go.Proofs.Ytahfliboanphkaa
open Go.RowKit
abbrev pul (a b c d e f : Int) : Value := .agg #[.int .i64 a, .int .i64 b, .int .i64 c, .int .i64 d, .int .i64 e, .int .i64 f]
theorem box9 {w : World} {b : Nat} {x0 x1 x2 x3 x4 x5 : Value} {t : TypeId} (h : Box w b #[x0, x1, x2, x3, x4, x5] t) : (w.cell? ⟨b, 0, none⟩ = some x0 ∧ w.cell? ⟨b, 1, none⟩ = some x1 ∧ w.cell? ⟨b, 2, none⟩ = some x2 ∧ w.cell? ⟨b, 3, none⟩ = some x3 ∧ w.cell? ⟨b, 4, none⟩ = some x4 ∧ w.cell? ⟨b, 5, none⟩ = some x5) ∧ w.frozen? ⟨b, 0, none⟩ = false ∧ w.frozen? ⟨b, 1, none⟩ = false ∧ w.frozen? ⟨b, 2, none⟩ = false ∧ w.frozen? ⟨b, 3, none⟩ = false ∧ w.frozen? ⟨b, 4, none⟩ = false ∧ w.frozen? ⟨b, 5, none⟩ = false :=
  ⟨⟨h.cell 0, h.cell 1, h.cell 2, h.cell 3, h.cell 4, h.cell 5⟩, h.free 0, h.free 1, h.free 2, h.free 3, h.free 4, h.free 5⟩
set_option maxRecDepth 100000 in
set_option maxHeartbeats 3200000 in
theorem balanceBad_any (E : Int) (l : List Pf) (a : Option Addr) (cap : Nat) (t0 t1 t2 : Int) (w : World) (hne : E ≠ 0) (hp : PlAt w a l)
    (CK : Hid (∀ u : World, PlAt u a l → Calls Try.prog 44 #[.slice a l.length cap, vec t0 t1 t2] u fun e w' => e = .returned (.int .i64 E) ∧ Below u.heap.size u w')) :
    Calls Try.prog 10 #[.slice a l.length cap, vec t0 t1 t2] w fun e w' => e = .returned (.tuple #[pul 0 0 0 0 0 0, vec 0 0 0, .int .i64 E]) ∧ Below w.heap.size w w' := by
  have HP := Lib.hid hp
  have hb : (E == 0) = false := by simpa using hne
  clear hp hne
  go_enter Try.func10, Try.ntmps10
  go_wp2_with fail
  refine (CK.out _ (HP.out.keep (by (repeat' (first | (with_reducible exact Below.refl _ _) | (with_reducible assumption) | (with_reducible refine Below.drew ?_) | (with_reducible refine below_drewN ?_ _) | (with_reducible refine Below.setCell ?_ ?_ _) | (with_reducible refine Below.alloc ?_ ?_ _) | go_size | omega))))).mono ?_
  rintro e w1 ⟨rfl, h⟩
  have B1 : Below w.heap.size w w1 := below_via (by (repeat' (first | (with_reducible exact Below.refl _ _) | (with_reducible assumption) | (with_reducible refine Below.drew ?_) | (with_reducible refine below_drewN ?_ _) | (with_reducible refine Below.setCell ?_ ?_ _) | (with_reducible refine Below.alloc ?_ ?_ _) | go_size | omega))) h
  have RT := Lib.hid ((((Box.new w #[.int .i64 t0, .int .i64 t1, .int .i64 t2] 23 (n := w.heap.size) rfl).alloc (.cells #[.int .i64 0, .int .i64 0, .int .i64 0, .int .i64 0, .int .i64 0, .int .i64 0] 27)).alloc (.cells #[.int .i64 0, .int .i64 0, .int .i64 0] 23)).keep h)
  have R1 := Lib.hid (((Box.new (w.alloc (.cells #[.int .i64 t0, .int .i64 t1, .int .i64 t2] 23)) #[.int .i64 0, .int .i64 0, .int .i64 0, .int .i64 0, .int .i64 0, .int .i64 0] 27 (n := w.heap.size + 1) (by simp)).alloc (.cells #[.int .i64 0, .int .i64 0, .int .i64 0] 23)).keep h)
  have R2 := Lib.hid ((Box.new ((w.alloc (.cells #[.int .i64 t0, .int .i64 t1, .int .i64 t2] 23)).alloc (.cells #[.int .i64 0, .int .i64 0, .int .i64 0, .int .i64 0, .int .i64 0, .int .i64 0] 27)) #[.int .i64 0, .int .i64 0, .int .i64 0] 23 (n := w.heap.size + 1 + 1) (by simp)).keep h)
  have z1 := h.size
  simp at z1
  clear h CK
  obtain ⟨⟨n0, n1, n2, n3, n4, n5⟩, f0, f1, f2, f3, f4, f5⟩ := box9 R1.out
  obtain ⟨m0, m1, m2, g0, g1, g2⟩ := R2.out.three
  have l1 := R1.out.lt; have l2 := R2.out.lt
  go_wp2_with fail
  clear n0 n1 n2 n3 n4 n5 f0 f1 f2 f3 f4 f5 m0 m1 m2 g0 g1 g2
  have RV1 : Box (((((((((w1.setCell ⟨w.heap.size + 1, 0, none⟩ (.int .i64 0)).setCell ⟨w.heap.size + 1, 1, none⟩ (.int .i64 0)).setCell ⟨w.heap.size + 1, 2, none⟩ (.int .i64 0)).setCell ⟨w.heap.size + 1, 3, none⟩ (.int .i64 0)).setCell ⟨w.heap.size + 1, 4, none⟩ (.int .i64 0)).setCell ⟨w.heap.size + 1, 5, none⟩ (.int .i64 0)).setCell ⟨w.heap.size + 1 + 1, 0, none⟩ (.int .i64 0)).setCell ⟨w.heap.size + 1 + 1, 1, none⟩ (.int .i64 0)).setCell ⟨w.heap.size + 1 + 1, 2, none⟩ (.int .i64 0)) (w.heap.size + 1) #[.int .i64 0, .int .i64 0, .int .i64 0, .int .i64 0, .int .i64 0, .int .i64 0] 27 := (((((((((R1.out.set 0 _).set 1 _).set 2 _).set 3 _).set 4 _).set 5 _).other ⟨w.heap.size + 1 + 1, 0, none⟩ (.int .i64 0) (by simp)).other ⟨w.heap.size + 1 + 1, 1, none⟩ (.int .i64 0) (by simp)).other ⟨w.heap.size + 1 + 1, 2, none⟩ (.int .i64 0) (by simp))
  have RV2 : Box (((((((((w1.setCell ⟨w.heap.size + 1, 0, none⟩ (.int .i64 0)).setCell ⟨w.heap.size + 1, 1, none⟩ (.int .i64 0)).setCell ⟨w.heap.size + 1, 2, none⟩ (.int .i64 0)).setCell ⟨w.heap.size + 1, 3, none⟩ (.int .i64 0)).setCell ⟨w.heap.size + 1, 4, none⟩ (.int .i64 0)).setCell ⟨w.heap.size + 1, 5, none⟩ (.int .i64 0)).setCell ⟨w.heap.size + 1 + 1, 0, none⟩ (.int .i64 0)).setCell ⟨w.heap.size + 1 + 1, 1, none⟩ (.int .i64 0)).setCell ⟨w.heap.size + 1 + 1, 2, none⟩ (.int .i64 0)) (w.heap.size + 1 + 1) #[.int .i64 0, .int .i64 0, .int .i64 0] 23 := (((((((((R2.out.other ⟨w.heap.size + 1, 0, none⟩ (.int .i64 0) (by simp)).other ⟨w.heap.size + 1, 1, none⟩ (.int .i64 0) (by simp)).other ⟨w.heap.size + 1, 2, none⟩ (.int .i64 0) (by simp)).other ⟨w.heap.size + 1, 3, none⟩ (.int .i64 0) (by simp)).other ⟨w.heap.size + 1, 4, none⟩ (.int .i64 0) (by simp)).other ⟨w.heap.size + 1, 5, none⟩ (.int .i64 0) (by simp)).set 0 _).set 1 _).set 2 _)
  have BL : Below w.heap.size w w1 := B1
  have BV : Below w.heap.size w (((((((((w1.setCell ⟨w.heap.size + 1, 0, none⟩ (.int .i64 0)).setCell ⟨w.heap.size + 1, 1, none⟩ (.int .i64 0)).setCell ⟨w.heap.size + 1, 2, none⟩ (.int .i64 0)).setCell ⟨w.heap.size + 1, 3, none⟩ (.int .i64 0)).setCell ⟨w.heap.size + 1, 4, none⟩ (.int .i64 0)).setCell ⟨w.heap.size + 1, 5, none⟩ (.int .i64 0)).setCell ⟨w.heap.size + 1 + 1, 0, none⟩ (.int .i64 0)).setCell ⟨w.heap.size + 1 + 1, 1, none⟩ (.int .i64 0)).setCell ⟨w.heap.size + 1 + 1, 2, none⟩ (.int .i64 0)) := by (repeat' (first | (with_reducible exact Below.refl _ _) | (with_reducible assumption) | (with_reducible refine Below.drew ?_) | (with_reducible refine below_drewN ?_ _) | (with_reducible refine Below.setCell ?_ ?_ _) | (with_reducible refine Below.alloc ?_ ?_ _) | go_size | omega))
  generalize (((((((((w1.setCell ⟨w.heap.size + 1, 0, none⟩ (.int .i64 0)).setCell ⟨w.heap.size + 1, 1, none⟩ (.int .i64 0)).setCell ⟨w.heap.size + 1, 2, none⟩ (.int .i64 0)).setCell ⟨w.heap.size + 1, 3, none⟩ (.int .i64 0)).setCell ⟨w.heap.size + 1, 4, none⟩ (.int .i64 0)).setCell ⟨w.heap.size + 1, 5, none⟩ (.int .i64 0)).setCell ⟨w.heap.size + 1 + 1, 0, none⟩ (.int .i64 0)).setCell ⟨w.heap.size + 1 + 1, 1, none⟩ (.int .i64 0)).setCell ⟨w.heap.size + 1 + 1, 2, none⟩ (.int .i64 0)) = v at *
  have s0 := RV1.cell 0
  have s1 := RV1.cell 1
  have s2 := RV1.cell 2
  have s3 := RV1.cell 3
  have s4 := RV1.cell 4
  have s5 := RV1.cell 5
  have u0 := RV2.cell 0
  have u1 := RV2.cell 1
  have u2 := RV2.cell 2
  simp at s0 s1 s2 s3 s4 s5 u0 u1 u2
  go_wp2_with fail
  refine bodyPost_ret (v := .tuple #[pul 0 0 0 0 0 0, vec 0 0 0, .int .i64 E]) (by simp [results, Try.results10, go_sem, s0, s1, s2, s3, s4, s5, u0, u1, u2]) rfl ⟨rfl, BV⟩
set_option maxRecDepth 100000 in
set_option maxHeartbeats 3200000 in
theorem balanceOk_any (l : List Pf) (a : Option Addr) (cap : Nat) (t0 t1 t2 : Int) (w : World) (hc : chkP l = 0) (hp : PlAt w a l) (ht : Big 1000000 t0 t1 t2) (S0 S1 S2 M0 M1 M2 : Int) (E1 : sA Pf.p l l.length = S0) (E2 : sA Pf.q l l.length = S1) (E3 : sA Pf.r l l.length = S2) (E4 : sA (mX t1 t2) l l.length = M0) (E5 : sA (mY t0 t2) l l.length = M1) (E6 : sA (mZ t0 t1) l l.length = M2) :
    Calls Try.prog 10 #[.slice a l.length cap, vec t0 t1 t2] w fun e w' => e = .returned (.tuple #[pul t0 t1 t2 (-S0) (-S1) (-S2), vec (-M0) (-M1) (-M2), .int .i64 0]) ∧ Below w.heap.size w w' := by
  have ho := okL_of hc
  have CK := Lib.hid (fun (u : World) (h : PlAt u a l) => forcesAt_any t0 t1 t2 l a cap u hc h ht)
  have CS := Lib.hid (fun (u : World) (h : PlAt u a l) => sumOf_any l a cap u ho h)
  have CM := Lib.hid (fun (u : World) (h : PlAt u a l) => momentAbout_any l t0 t1 t2 a cap u ho ht h)
  have sb := sum_bd ho (Nat.le_refl l.length)
  have mb := mom_bd ho ht (Nat.le_refl l.length)
  rw [E1, E2, E3] at CS sb
  rw [E4, E5, E6] at CM mb
  have CO := Lib.hid (fun u => vopp_any S0 S1 S2 u (sb.up (by omega)))
  have CN := Lib.hid (fun u => vopp_any M0 M1 M2 u (mb.up (by omega)))
  have HP := Lib.hid hp
  clear hp hc ho sb mb E1 E2 E3 E4 E5 E6
  go_enter Try.func10, Try.ntmps10
  go_wp2_with fail
  refine (CK.out _ (HP.out.keep (by (repeat' (first | (with_reducible exact Below.refl _ _) | (with_reducible assumption) | (with_reducible refine Below.drew ?_) | (with_reducible refine below_drewN ?_ _) | (with_reducible refine Below.setCell ?_ ?_ _) | (with_reducible refine Below.alloc ?_ ?_ _) | go_size | omega))))).mono ?_
  rintro e w1 ⟨rfl, h⟩
  have B1 : Below w.heap.size w w1 := below_via (by (repeat' (first | (with_reducible exact Below.refl _ _) | (with_reducible assumption) | (with_reducible refine Below.drew ?_) | (with_reducible refine below_drewN ?_ _) | (with_reducible refine Below.setCell ?_ ?_ _) | (with_reducible refine Below.alloc ?_ ?_ _) | go_size | omega))) h
  have RT := Lib.hid ((((Box.new w #[.int .i64 t0, .int .i64 t1, .int .i64 t2] 23 (n := w.heap.size) rfl).alloc (.cells #[.int .i64 0, .int .i64 0, .int .i64 0, .int .i64 0, .int .i64 0, .int .i64 0] 27)).alloc (.cells #[.int .i64 0, .int .i64 0, .int .i64 0] 23)).keep h)
  have R1 := Lib.hid (((Box.new (w.alloc (.cells #[.int .i64 t0, .int .i64 t1, .int .i64 t2] 23)) #[.int .i64 0, .int .i64 0, .int .i64 0, .int .i64 0, .int .i64 0, .int .i64 0] 27 (n := w.heap.size + 1) (by simp)).alloc (.cells #[.int .i64 0, .int .i64 0, .int .i64 0] 23)).keep h)
  have R2 := Lib.hid ((Box.new ((w.alloc (.cells #[.int .i64 t0, .int .i64 t1, .int .i64 t2] 23)).alloc (.cells #[.int .i64 0, .int .i64 0, .int .i64 0, .int .i64 0, .int .i64 0, .int .i64 0] 27)) #[.int .i64 0, .int .i64 0, .int .i64 0] 23 (n := w.heap.size + 1 + 1) (by simp)).keep h)
  have z1 := h.size
  simp at z1
  clear h CK
  have lt := RT.out.lt
  go_wp2_with fail
  have K := Lib.hid (fun (w' : World) (hw : Below (w.heap.size + 1) w1 w') => show (w'.cell? ⟨w.heap.size, 0, none⟩ = some (.int .i64 t0) ∧ w'.cell? ⟨w.heap.size, 1, none⟩ = some (.int .i64 t1) ∧ w'.cell? ⟨w.heap.size, 2, none⟩ = some (.int .i64 t2)) from ⟨(Box.keepB (by omega) (RT.out) hw).cell 0, (Box.keepB (by omega) (RT.out) hw).cell 1, (Box.keepB (by omega) (RT.out) hw).cell 2⟩)
  go_region_held3 (fun w' => (w'.cell? ⟨w.heap.size, 0, none⟩ = some (.int .i64 t0) ∧ w'.cell? ⟨w.heap.size, 1, none⟩ = some (.int .i64 t1) ∧ w'.cell? ⟨w.heap.size, 2, none⟩ = some (.int .i64 t2)))
    ((refine K.out _ ?_; (repeat' (first | (with_reducible exact Below.refl _ _) | (with_reducible assumption) | (with_reducible refine Below.drew ?_) | (with_reducible refine below_drewN ?_ _) | (with_reducible refine Below.setCell ?_ ?_ _) | (with_reducible refine Below.alloc ?_ ?_ _) | go_size | omega)); done))
    (first | (go_at_call 45; refine (CS.out _ (HP.out.keep (below_via B1 (by (repeat' (first | (with_reducible exact Below.refl _ _) | (with_reducible assumption) | (with_reducible refine Below.drew ?_) | (with_reducible refine below_drewN ?_ _) | (with_reducible refine Below.setCell ?_ ?_ _) | (with_reducible refine Below.alloc ?_ ?_ _) | go_size | omega)))))).mono ?_; rintro e w6 ⟨rfl, h6⟩; have hB6 : Below w1.heap.size w1 w6 := below_via (by (repeat' (first | (with_reducible exact Below.refl _ _) | (with_reducible assumption) | (with_reducible refine Below.drew ?_) | (with_reducible refine below_drewN ?_ _) | (with_reducible refine Below.setCell ?_ ?_ _) | (with_reducible refine Below.alloc ?_ ?_ _) | go_size | omega))) h6; clear h6; have hz6 := hB6.size; have hW6 : Below (w.heap.size + 1) w1 w6 := hB6.mono (by omega); obtain ⟨k0_0, k0_1, k0_2⟩ := K.out w6 hW6) | (go_at_call 47; refine (CM.out _ (HP.out.keep (below_via B1 (by (repeat' (first | (with_reducible exact Below.refl _ _) | (with_reducible assumption) | (with_reducible refine Below.drew ?_) | (with_reducible refine below_drewN ?_ _) | (with_reducible refine Below.setCell ?_ ?_ _) | (with_reducible refine Below.alloc ?_ ?_ _) | go_size | omega)))))).mono ?_; rintro e w7 ⟨rfl, h7⟩; have hB7 : Below w1.heap.size w1 w7 := below_via (by (repeat' (first | (with_reducible exact Below.refl _ _) | (with_reducible assumption) | (with_reducible refine Below.drew ?_) | (with_reducible refine below_drewN ?_ _) | (with_reducible refine Below.setCell ?_ ?_ _) | (with_reducible refine Below.alloc ?_ ?_ _) | go_size | omega))) h7; clear h7; have hz7 := hB7.size; have hW7 : Below (w.heap.size + 1) w1 w7 := hB7.mono (by omega); obtain ⟨k0_0, k0_1, k0_2⟩ := K.out w7 hW7) | (go_at_call 46; (with_reducible refine (CO.out _).mono ?_); rintro e w8 ⟨rfl, h8⟩; have hB8 : Below w1.heap.size w1 w8 := below_via (by (repeat' (first | (with_reducible exact Below.refl _ _) | (with_reducible assumption) | (with_reducible refine Below.drew ?_) | (with_reducible refine below_drewN ?_ _) | (with_reducible refine Below.setCell ?_ ?_ _) | (with_reducible refine Below.alloc ?_ ?_ _) | go_size | omega))) h8; clear h8; have hz8 := hB8.size; have hW8 : Below (w.heap.size + 1) w1 w8 := hB8.mono (by omega); obtain ⟨k0_0, k0_1, k0_2⟩ := K.out w8 hW8) | (go_at_call 46; (with_reducible refine (CN.out _).mono ?_); rintro e w9 ⟨rfl, h9⟩; have hB9 : Below w1.heap.size w1 w9 := below_via (by (repeat' (first | (with_reducible exact Below.refl _ _) | (with_reducible assumption) | (with_reducible refine Below.drew ?_) | (with_reducible refine below_drewN ?_ _) | (with_reducible refine Below.setCell ?_ ?_ _) | (with_reducible refine Below.alloc ?_ ?_ _) | go_size | omega))) h9; clear h9; have hz9 := hB9.size; have hW9 : Below (w.heap.size + 1) w1 w9 := hB9.mono (by omega); obtain ⟨k0_0, k0_1, k0_2⟩ := K.out w9 hW9; obtain ⟨⟨n0, n1, n2, n3, n4, n5⟩, f0, f1, f2, f3, f4, f5⟩ := box9 (R1.out.keep hB9); obtain ⟨m0, m1, m2, g0, g1, g2⟩ := (R2.out.keep hB9).three; have l1 := (R1.out.keep hB9).lt; have l2 := (R2.out.keep hB9).lt))
  all_goals
    have RV1 : Box (((((((((w9.setCell ⟨w.heap.size + 1, 0, none⟩ (.int .i64 t0)).setCell ⟨w.heap.size + 1, 1, none⟩ (.int .i64 t1)).setCell ⟨w.heap.size + 1, 2, none⟩ (.int .i64 t2)).setCell ⟨w.heap.size + 1, 3, none⟩ (.int .i64 (-S0))).setCell ⟨w.heap.size + 1, 4, none⟩ (.int .i64 (-S1))).setCell ⟨w.heap.size + 1, 5, none⟩ (.int .i64 (-S2))).setCell ⟨w.heap.size + 1 + 1, 0, none⟩ (.int .i64 (-M0))).setCell ⟨w.heap.size + 1 + 1, 1, none⟩ (.int .i64 (-M1))).setCell ⟨w.heap.size + 1 + 1, 2, none⟩ (.int .i64 (-M2))) (w.heap.size + 1) #[.int .i64 t0, .int .i64 t1, .int .i64 t2, .int .i64 (-S0), .int .i64 (-S1), .int .i64 (-S2)] 27 := ((((((((((R1.out.keep hB9).set 0 _).set 1 _).set 2 _).set 3 _).set 4 _).set 5 _).other ⟨w.heap.size + 1 + 1, 0, none⟩ (.int .i64 (-M0)) (by simp)).other ⟨w.heap.size + 1 + 1, 1, none⟩ (.int .i64 (-M1)) (by simp)).other ⟨w.heap.size + 1 + 1, 2, none⟩ (.int .i64 (-M2)) (by simp))
    have RV2 : Box (((((((((w9.setCell ⟨w.heap.size + 1, 0, none⟩ (.int .i64 t0)).setCell ⟨w.heap.size + 1, 1, none⟩ (.int .i64 t1)).setCell ⟨w.heap.size + 1, 2, none⟩ (.int .i64 t2)).setCell ⟨w.heap.size + 1, 3, none⟩ (.int .i64 (-S0))).setCell ⟨w.heap.size + 1, 4, none⟩ (.int .i64 (-S1))).setCell ⟨w.heap.size + 1, 5, none⟩ (.int .i64 (-S2))).setCell ⟨w.heap.size + 1 + 1, 0, none⟩ (.int .i64 (-M0))).setCell ⟨w.heap.size + 1 + 1, 1, none⟩ (.int .i64 (-M1))).setCell ⟨w.heap.size + 1 + 1, 2, none⟩ (.int .i64 (-M2))) (w.heap.size + 1 + 1) #[.int .i64 (-M0), .int .i64 (-M1), .int .i64 (-M2)] 23 := ((((((((((R2.out.keep hB9).other ⟨w.heap.size + 1, 0, none⟩ (.int .i64 t0) (by simp)).other ⟨w.heap.size + 1, 1, none⟩ (.int .i64 t1) (by simp)).other ⟨w.heap.size + 1, 2, none⟩ (.int .i64 t2) (by simp)).other ⟨w.heap.size + 1, 3, none⟩ (.int .i64 (-S0)) (by simp)).other ⟨w.heap.size + 1, 4, none⟩ (.int .i64 (-S1)) (by simp)).other ⟨w.heap.size + 1, 5, none⟩ (.int .i64 (-S2)) (by simp)).set 0 _).set 1 _).set 2 _)
    have BL : Below w.heap.size w w9 := below_via B1 hB9
    have BV : Below w.heap.size w (((((((((w9.setCell ⟨w.heap.size + 1, 0, none⟩ (.int .i64 t0)).setCell ⟨w.heap.size + 1, 1, none⟩ (.int .i64 t1)).setCell ⟨w.heap.size + 1, 2, none⟩ (.int .i64 t2)).setCell ⟨w.heap.size + 1, 3, none⟩ (.int .i64 (-S0))).setCell ⟨w.heap.size + 1, 4, none⟩ (.int .i64 (-S1))).setCell ⟨w.heap.size + 1, 5, none⟩ (.int .i64 (-S2))).setCell ⟨w.heap.size + 1 + 1, 0, none⟩ (.int .i64 (-M0))).setCell ⟨w.heap.size + 1 + 1, 1, none⟩ (.int .i64 (-M1))).setCell ⟨w.heap.size + 1 + 1, 2, none⟩ (.int .i64 (-M2))) := by (repeat' (first | (with_reducible exact Below.refl _ _) | (with_reducible assumption) | (with_reducible refine Below.drew ?_) | (with_reducible refine below_drewN ?_ _) | (with_reducible refine Below.setCell ?_ ?_ _) | (with_reducible refine Below.alloc ?_ ?_ _) | go_size | omega))
    generalize (((((((((w9.setCell ⟨w.heap.size + 1, 0, none⟩ (.int .i64 t0)).setCell ⟨w.heap.size + 1, 1, none⟩ (.int .i64 t1)).setCell ⟨w.heap.size + 1, 2, none⟩ (.int .i64 t2)).setCell ⟨w.heap.size + 1, 3, none⟩ (.int .i64 (-S0))).setCell ⟨w.heap.size + 1, 4, none⟩ (.int .i64 (-S1))).setCell ⟨w.heap.size + 1, 5, none⟩ (.int .i64 (-S2))).setCell ⟨w.heap.size + 1 + 1, 0, none⟩ (.int .i64 (-M0))).setCell ⟨w.heap.size + 1 + 1, 1, none⟩ (.int .i64 (-M1))).setCell ⟨w.heap.size + 1 + 1, 2, none⟩ (.int .i64 (-M2))) = v at *
    have s0 := RV1.cell 0
    have s1 := RV1.cell 1
    have s2 := RV1.cell 2
    have s3 := RV1.cell 3
    have s4 := RV1.cell 4
    have s5 := RV1.cell 5
    have u0 := RV2.cell 0
    have u1 := RV2.cell 1
    have u2 := RV2.cell 2
    simp at s0 s1 s2 s3 s4 s5 u0 u1 u2
    go_wp2_with fail
    refine bodyPost_ret (v := .tuple #[pul t0 t1 t2 (-S0) (-S1) (-S2), vec (-M0) (-M1) (-M2), .int .i64 0]) (by simp [results, Try.results10, go_sem, s0, s1, s2, s3, s4, s5, u0, u1, u2]) rfl ⟨rfl, BV⟩
end Go.Proofs.Ytahfliboanphkaa
