/-
  The walk of PullOf, its last ways.
-/
import Derived.Test.YtahfliboanphkaaPu3
import Derived.Test.YtahfliboanphkaaAeq
namespace Go.Proofs.Ytahfliboanphkaa
open Go.RowKit
theorem len_bd {a b c : Int} (h : Big 1000000 a b c) (hn : ¬ (a = 0 ∧ b = 0 ∧ c = 0)) : 1 ≤ lenL a b c ∧ lenL a b c ≤ 1000000000000 ∧ 1 ≤ lenH a b c ∧ lenH a b c ≤ 1000000000000 := by
  obtain ⟨s0, s1, s2⟩ := sqV_bd h
  have s3 := s2 hn
  obtain ⟨r0, r1, r2, r3⟩ := rooV_sq (s := sqV a b c) s0 (by omega)
  have r4 := r3 s3
  unfold lenH lenL
  split <;> omega
theorem box6 {w : World} {b : Nat} {x0 x1 x2 x3 x4 x5 : Value} {t : TypeId} (h : Box w b #[x0, x1, x2, x3, x4, x5] t) : w.cell? ⟨b, 0, none⟩ = some x0 ∧ w.cell? ⟨b, 1, none⟩ = some x1 ∧ w.cell? ⟨b, 2, none⟩ = some x2 ∧ w.cell? ⟨b, 3, none⟩ = some x3 ∧ w.cell? ⟨b, 4, none⟩ = some x4 ∧ w.cell? ⟨b, 5, none⟩ = some x5 :=
  ⟨h.cell 0, h.cell 1, h.cell 2, h.cell 3, h.cell 4, h.cell 5⟩
theorem beyV_of {m a b c : Int} (h : Big m a b c) : beyV m a b c = false := by
  unfold beyV inB; unfold Big at h; simp; omega
set_option maxRecDepth 100000 in
set_option maxHeartbeats 2000000 in
theorem pullOf_bad2 (tl th a0 a1 a2 b0 b1 b2 : Int) (w : World) (h : 0 ≤ tl ∧ tl ≤ th ∧ th ≤ 10000000000) (ha : Big 1000000 a0 a1 a2) (hb : Big 1000000 b0 b1 b2) (hd : beyV 1000000 (b0 + -a0) (b1 + -a1) (b2 + -a2) = true) :
    Calls Try.prog 42 #[.agg #[.int .i64 tl, .int .i64 th], vec a0 a1 a2, vec b0 b1 b2] w fun e w' => e = .returned (.tuple #[.agg #[.int .i64 0, .int .i64 0, .int .i64 0, .int .i64 0, .int .i64 0, .int .i64 0], .int .i64 2]) ∧ Below w.heap.size w w' := by
  have IN := Lib.hid (fun u => inside_any tl th 0 10000000000 u)
  rw [decide_eq_true h] at IN
  have HP := Lib.hid (show plErr [⟨a0, a1, a2⟩, ⟨b0, b1, b2⟩] = 0 by unfold plErr; simp only []; rw [beyV_of ha]; unfold plErr; simp only []; rw [beyV_of hb]; rfl)
  have CF := Lib.hid (fun u => vfrom_any b0 b1 b2 a0 a1 a2 u (hb.up (by omega)) (ha.up (by omega)))
  obtain ⟨t0, tt, t1⟩ := h
  have HD := Lib.hid hd
  clear ha hb hd
  go_enter Try.func42, Try.ntmps42
  go_wp2_with fail
  refine (IN.out _).mono ?_
  rintro e w1 ⟨rfl, h1⟩
  have B1 : Below w.heap.size w w1 := below_via (by go_grown) h1
  have z1' := h1.size
  simp at z1'
  have L1 := Lib.hid ((((Box.new w #[.int .i64 tl, .int .i64 th] 83 (n := w.heap.size) rfl).alloc (.cells #[.int .i64 a0, .int .i64 a1, .int .i64 a2] 23)).alloc (.cells #[.int .i64 b0, .int .i64 b1, .int .i64 b2] 23)).alloc (.cells #[.int .i64 0, .int .i64 0, .int .i64 0, .int .i64 0, .int .i64 0, .int .i64 0] 84) |>.keep h1)
  have A1 := Lib.hid (((Box.new (w.alloc (.cells #[.int .i64 tl, .int .i64 th] 83)) #[.int .i64 a0, .int .i64 a1, .int .i64 a2] 23 (n := w.heap.size + 1) (by simp)).alloc (.cells #[.int .i64 b0, .int .i64 b1, .int .i64 b2] 23)).alloc (.cells #[.int .i64 0, .int .i64 0, .int .i64 0, .int .i64 0, .int .i64 0, .int .i64 0] 84) |>.keep h1)
  have A2 := Lib.hid ((Box.new ((w.alloc (.cells #[.int .i64 tl, .int .i64 th] 83)).alloc (.cells #[.int .i64 a0, .int .i64 a1, .int .i64 a2] 23)) #[.int .i64 b0, .int .i64 b1, .int .i64 b2] 23 (n := w.heap.size + 1 + 1) (by simp)).alloc (.cells #[.int .i64 0, .int .i64 0, .int .i64 0, .int .i64 0, .int .i64 0, .int .i64 0] 84) |>.keep h1)
  have R1 := Lib.hid ((Box.new (((w.alloc (.cells #[.int .i64 tl, .int .i64 th] 83)).alloc (.cells #[.int .i64 a0, .int .i64 a1, .int .i64 a2] 23)).alloc (.cells #[.int .i64 b0, .int .i64 b1, .int .i64 b2] 23)) #[.int .i64 0, .int .i64 0, .int .i64 0, .int .i64 0, .int .i64 0, .int .i64 0] 84 (n := w.heap.size + 1 + 1 + 1) (by simp)).keep h1)
  clear h1 IN
  obtain ⟨p0, p1, p2, -⟩ := A1.out.three
  obtain ⟨q0, q1, q2, -⟩ := A2.out.three
  go_wp2_with fail
  have VA : VecsAt (w1.alloc (.cells #[.int .i64 a0, .int .i64 a1, .int .i64 a2, .int .i64 b0, .int .i64 b1, .int .i64 b2] 91)) w1.heap.size 0 [⟨a0, a1, a2⟩, ⟨b0, b1, b2⟩] := vecs_two _ _ _ _ _ _ _
  refine (placeError_any w1.heap.size 0 2 [⟨a0, a1, a2⟩, ⟨b0, b1, b2⟩] _ VA (by simp)).mono ?_
  rw [HP.out]
  rintro e w2 ⟨rfl, h2⟩
  have B2 : Below w.heap.size w w2 := below_via (by (repeat' (first | (with_reducible exact Below.refl _ _) | (with_reducible assumption) | (with_reducible refine Below.drew ?_) | (with_reducible refine below_drewN ?_ _) | (with_reducible refine Below.setCell ?_ ?_ _) | (with_reducible refine Below.alloc ?_ ?_ _) | go_size | omega))) h2
  have z2' := h2.size
  simp at z2'
  have K2 : Below w1.heap.size w1 w2 := below_via (by (repeat' (first | (with_reducible exact Below.refl _ _) | (with_reducible assumption) | (with_reducible refine Below.drew ?_) | (with_reducible refine below_drewN ?_ _) | (with_reducible refine Below.setCell ?_ ?_ _) | (with_reducible refine Below.alloc ?_ ?_ _) | go_size | omega))) h2
  have L2 := Lib.hid (L1.out.keep K2); have A1' := Lib.hid (A1.out.keep K2); have A2' := Lib.hid (A2.out.keep K2); have R2 := Lib.hid (R1.out.keep K2)
  clear h2 p0 p1 p2 q0 q1 q2 VA HP A1 A2 R1 L1 K2
  obtain ⟨p0, p1, p2, -⟩ := A1'.out.three
  obtain ⟨q0, q1, q2, -⟩ := A2'.out.three
  go_wp2_with fail
  refine (CF.out _).mono ?_
  rintro e w3 ⟨rfl, h3⟩
  have B3 : Below w.heap.size w w3 := below_via (by (repeat' (first | (with_reducible exact Below.refl _ _) | (with_reducible assumption) | (with_reducible refine Below.drew ?_) | (with_reducible refine below_drewN ?_ _) | (with_reducible refine Below.setCell ?_ ?_ _) | (with_reducible refine Below.alloc ?_ ?_ _) | go_size | omega))) h3
  have z3' := h3.size
  have L3 := Lib.hid ((L2.out.keep h3).alloc (.cells #[.int .i64 (b0 + -a0), .int .i64 (b1 + -a1), .int .i64 (b2 + -a2)] 91)); have A13 := Lib.hid ((A1'.out.keep h3).alloc (.cells #[.int .i64 (b0 + -a0), .int .i64 (b1 + -a1), .int .i64 (b2 + -a2)] 91)); have A23 := Lib.hid ((A2'.out.keep h3).alloc (.cells #[.int .i64 (b0 + -a0), .int .i64 (b1 + -a1), .int .i64 (b2 + -a2)] 91)); have R3 := Lib.hid ((R2.out.keep h3).alloc (.cells #[.int .i64 (b0 + -a0), .int .i64 (b1 + -a1), .int .i64 (b2 + -a2)] 91))
  clear h3 p0 p1 p2 q0 q1 q2 A1' A2' R2 L2 CF
  go_wp2_with fail
  have HX0 := Lib.hid (Box.new w3 #[.int .i64 (b0 + -a0), .int .i64 (b1 + -a1), .int .i64 (b2 + -a2)] 91 (n := w3.heap.size) rfl)
  have l0 := HX0.out.lt
  have BW : Below w.heap.size w (w3.alloc (.cells #[.int .i64 (b0 + -a0), .int .i64 (b1 + -a1), .int .i64 (b2 + -a2)] 91)) := by (repeat' (first | (with_reducible exact Below.refl _ _) | (with_reducible assumption) | (with_reducible refine Below.drew ?_) | (with_reducible refine below_drewN ?_ _) | (with_reducible refine Below.setCell ?_ ?_ _) | (with_reducible refine Below.alloc ?_ ?_ _) | go_size | omega))
  generalize (w3.alloc (.cells #[.int .i64 (b0 + -a0), .int .i64 (b1 + -a1), .int .i64 (b2 + -a2)] 91)) = u at *
  have zu := BW.size
  have C2 := Lib.hid (fun (c : Nat) (v : World) (hcl : c < v.heap.size) (hc : v.cell? ⟨c, 0, none⟩ = some (.int .i64 1000000)) => hasOne_any 1000000 (b0 + -a0) (b1 + -a1) (b2 + -a2) c v (by omega) (by omega) hcl hc)
  rw [HD.out] at C2
  have K := Lib.hid (fun (w' : World) (hw : Below u.heap.size u w') => show (w'.cell? ⟨w3.heap.size, 0, none⟩ = some (.int .i64 (b0 + -a0)) ∧ w'.cell? ⟨w3.heap.size, 1, none⟩ = some (.int .i64 (b1 + -a1)) ∧ w'.cell? ⟨w3.heap.size, 2, none⟩ = some (.int .i64 (b2 + -a2))) from ⟨(Box.keepB (by omega) (HX0.out) hw).cell 0, (Box.keepB (by omega) (HX0.out) hw).cell 1, (Box.keepB (by omega) (HX0.out) hw).cell 2⟩)
  go_region_held3 (fun w' => (w'.cell? ⟨w3.heap.size, 0, none⟩ = some (.int .i64 (b0 + -a0)) ∧ w'.cell? ⟨w3.heap.size, 1, none⟩ = some (.int .i64 (b1 + -a1)) ∧ w'.cell? ⟨w3.heap.size, 2, none⟩ = some (.int .i64 (b2 + -a2))))
    ((refine K.out _ ?_; (repeat' (first | (with_reducible exact Below.refl _ _) | (with_reducible assumption) | (with_reducible refine Below.drew ?_) | (with_reducible refine below_drewN ?_ _) | (with_reducible refine Below.setCell ?_ ?_ _) | (with_reducible refine Below.alloc ?_ ?_ _) | go_size | omega)); done))
    (first | (go_at_call 74; refine (beyond_any _ _).mono ?_; rintro e w8 ⟨rfl, bx8, h8⟩; have hB8 : Below u.heap.size u w8 := below_via (by (repeat' (first | (with_reducible exact Below.refl _ _) | (with_reducible assumption) | (with_reducible refine Below.drew ?_) | (with_reducible refine below_drewN ?_ _) | (with_reducible refine Below.setCell ?_ ?_ _) | (with_reducible refine Below.alloc ?_ ?_ _) | go_size | omega))) h8; have hz8 := hB8.size; have HC8 := Lib.hid bx8; have lc8 := bx8.lt; clear h8 bx8; obtain ⟨k0_0, k0_1, k0_2⟩ := K.out w8 hB8) | (go_at_call 73; refine (C2.out _ _ lc8 (HC8.out.cell 0)).mono ?_; rintro e w9 ⟨rfl, h9⟩; have hB9 : Below u.heap.size u w9 := below_via (by (repeat' (first | (with_reducible exact Below.refl _ _) | (with_reducible assumption) | (with_reducible refine Below.drew ?_) | (with_reducible refine below_drewN ?_ _) | (with_reducible refine Below.setCell ?_ ?_ _) | (with_reducible refine Below.alloc ?_ ?_ _) | go_size | omega))) h9; clear h9; have hz9 := hB9.size; obtain ⟨k0_0, k0_1, k0_2⟩ := K.out w9 hB9))
  have B9 : Below w.heap.size w w9 := below_via BW hB9
  have L9 := Lib.hid (L3.out.keep hB9); have A19 := Lib.hid (A13.out.keep hB9); have A29 := Lib.hid (A23.out.keep hB9); have R9 := Lib.hid (R3.out.keep hB9); have X9 := Lib.hid (HX0.out.keep hB9)
  clear K k0_0 k0_1 k0_2 lc8 HC8 hz8 hB8 L3 A13 A23 R3 HX0 C2
  have lr := R9.out.lt
  have g0 := R9.out.cell 0; have g1 := R9.out.cell 1; have g2 := R9.out.cell 2; have g3 := R9.out.cell 3; have g4 := R9.out.cell 4; have g5 := R9.out.cell 5
  have f0 := R9.out.free 0; have f1 := R9.out.free 1; have f2 := R9.out.free 2; have f3 := R9.out.free 3; have f4 := R9.out.free 4; have f5 := R9.out.free 5
  simp at g0 g1 g2 g3 g4 g5
  go_wp2_with fail
  clear g0 g1 g2 g3 g4 g5 f0 f1 f2 f3 f4 f5
  have RV : Box ((((((w9.setCell ⟨w.heap.size + 1 + 1 + 1, 0, none⟩ (.int .i64 0)).setCell ⟨w.heap.size + 1 + 1 + 1, 1, none⟩ (.int .i64 0)).setCell ⟨w.heap.size + 1 + 1 + 1, 2, none⟩ (.int .i64 0)).setCell ⟨w.heap.size + 1 + 1 + 1, 3, none⟩ (.int .i64 0)).setCell ⟨w.heap.size + 1 + 1 + 1, 4, none⟩ (.int .i64 0)).setCell ⟨w.heap.size + 1 + 1 + 1, 5, none⟩ (.int .i64 0)) (w.heap.size + 1 + 1 + 1) #[.int .i64 0, .int .i64 0, .int .i64 0, .int .i64 0, .int .i64 0, .int .i64 0] 84 := ((((((R9.out.set 0 _).set 1 _).set 2 _).set 3 _).set 4 _).set 5 _)
  have BV : Below w.heap.size w ((((((w9.setCell ⟨w.heap.size + 1 + 1 + 1, 0, none⟩ (.int .i64 0)).setCell ⟨w.heap.size + 1 + 1 + 1, 1, none⟩ (.int .i64 0)).setCell ⟨w.heap.size + 1 + 1 + 1, 2, none⟩ (.int .i64 0)).setCell ⟨w.heap.size + 1 + 1 + 1, 3, none⟩ (.int .i64 0)).setCell ⟨w.heap.size + 1 + 1 + 1, 4, none⟩ (.int .i64 0)).setCell ⟨w.heap.size + 1 + 1 + 1, 5, none⟩ (.int .i64 0)) := by (repeat' (first | (with_reducible exact Below.refl _ _) | (with_reducible assumption) | (with_reducible refine Below.drew ?_) | (with_reducible refine below_drewN ?_ _) | (with_reducible refine Below.setCell ?_ ?_ _) | (with_reducible refine Below.alloc ?_ ?_ _) | go_size | omega))
  generalize ((((((w9.setCell ⟨w.heap.size + 1 + 1 + 1, 0, none⟩ (.int .i64 0)).setCell ⟨w.heap.size + 1 + 1 + 1, 1, none⟩ (.int .i64 0)).setCell ⟨w.heap.size + 1 + 1 + 1, 2, none⟩ (.int .i64 0)).setCell ⟨w.heap.size + 1 + 1 + 1, 3, none⟩ (.int .i64 0)).setCell ⟨w.heap.size + 1 + 1 + 1, 4, none⟩ (.int .i64 0)).setCell ⟨w.heap.size + 1 + 1 + 1, 5, none⟩ (.int .i64 0)) = v at *
  have s0 := RV.cell 0
  have s1 := RV.cell 1
  have s2 := RV.cell 2
  have s3 := RV.cell 3
  have s4 := RV.cell 4
  have s5 := RV.cell 5
  simp at s0 s1 s2 s3 s4 s5
  go_wp2_with fail
  refine bodyPost_ret (v := .tuple #[.agg #[.int .i64 0, .int .i64 0, .int .i64 0, .int .i64 0, .int .i64 0, .int .i64 0], .int .i64 2]) (by simp [results, Try.results42, go_sem, s0, s1, s2, s3, s4, s5]) rfl ⟨rfl, BV⟩
set_option maxRecDepth 100000 in
set_option maxHeartbeats 2000000 in
theorem pullOf_bad3 (tl th a0 a1 a2 b0 b1 b2 : Int) (w : World) (h : 0 ≤ tl ∧ tl ≤ th ∧ th ≤ 10000000000) (ha : Big 1000000 a0 a1 a2) (hb : Big 1000000 b0 b1 b2) (he : a0 = b0 ∧ a1 = b1 ∧ a2 = b2) :
    Calls Try.prog 42 #[.agg #[.int .i64 tl, .int .i64 th], vec a0 a1 a2, vec b0 b1 b2] w fun e w' => e = .returned (.tuple #[.agg #[.int .i64 0, .int .i64 0, .int .i64 0, .int .i64 0, .int .i64 0, .int .i64 0], .int .i64 11]) ∧ Below w.heap.size w w' := by
  have IN := Lib.hid (fun u => inside_any tl th 0 10000000000 u)
  rw [decide_eq_true h] at IN
  have HP := Lib.hid (show plErr [⟨a0, a1, a2⟩, ⟨b0, b1, b2⟩] = 0 by unfold plErr; simp only []; rw [beyV_of ha]; unfold plErr; simp only []; rw [beyV_of hb]; rfl)
  have CF := Lib.hid (fun u => vfrom_any b0 b1 b2 a0 a1 a2 u (hb.up (by omega)) (ha.up (by omega)))
  obtain ⟨t0, tt, t1⟩ := h
  obtain ⟨e0, e1, e2⟩ := he
  have HD := Lib.hid (show beyV 1000000 (b0 + -a0) (b1 + -a1) (b2 + -a2) = false by subst e0; subst e1; subst e2; rw [Int.add_right_neg, Int.add_right_neg, Int.add_right_neg]; decide)
  have E0 := Lib.hid e0; have E1 := Lib.hid e1; have E2 := Lib.hid e2
  clear ha hb e0 e1 e2
  go_enter Try.func42, Try.ntmps42
  go_wp2_with fail
  refine (IN.out _).mono ?_
  rintro e w1 ⟨rfl, h1⟩
  have B1 : Below w.heap.size w w1 := below_via (by go_grown) h1
  have z1' := h1.size
  simp at z1'
  have L1 := Lib.hid ((((Box.new w #[.int .i64 tl, .int .i64 th] 83 (n := w.heap.size) rfl).alloc (.cells #[.int .i64 a0, .int .i64 a1, .int .i64 a2] 23)).alloc (.cells #[.int .i64 b0, .int .i64 b1, .int .i64 b2] 23)).alloc (.cells #[.int .i64 0, .int .i64 0, .int .i64 0, .int .i64 0, .int .i64 0, .int .i64 0] 84) |>.keep h1)
  have A1 := Lib.hid (((Box.new (w.alloc (.cells #[.int .i64 tl, .int .i64 th] 83)) #[.int .i64 a0, .int .i64 a1, .int .i64 a2] 23 (n := w.heap.size + 1) (by simp)).alloc (.cells #[.int .i64 b0, .int .i64 b1, .int .i64 b2] 23)).alloc (.cells #[.int .i64 0, .int .i64 0, .int .i64 0, .int .i64 0, .int .i64 0, .int .i64 0] 84) |>.keep h1)
  have A2 := Lib.hid ((Box.new ((w.alloc (.cells #[.int .i64 tl, .int .i64 th] 83)).alloc (.cells #[.int .i64 a0, .int .i64 a1, .int .i64 a2] 23)) #[.int .i64 b0, .int .i64 b1, .int .i64 b2] 23 (n := w.heap.size + 1 + 1) (by simp)).alloc (.cells #[.int .i64 0, .int .i64 0, .int .i64 0, .int .i64 0, .int .i64 0, .int .i64 0] 84) |>.keep h1)
  have R1 := Lib.hid ((Box.new (((w.alloc (.cells #[.int .i64 tl, .int .i64 th] 83)).alloc (.cells #[.int .i64 a0, .int .i64 a1, .int .i64 a2] 23)).alloc (.cells #[.int .i64 b0, .int .i64 b1, .int .i64 b2] 23)) #[.int .i64 0, .int .i64 0, .int .i64 0, .int .i64 0, .int .i64 0, .int .i64 0] 84 (n := w.heap.size + 1 + 1 + 1) (by simp)).keep h1)
  clear h1 IN
  obtain ⟨p0, p1, p2, -⟩ := A1.out.three
  obtain ⟨q0, q1, q2, -⟩ := A2.out.three
  go_wp2_with fail
  have VA : VecsAt (w1.alloc (.cells #[.int .i64 a0, .int .i64 a1, .int .i64 a2, .int .i64 b0, .int .i64 b1, .int .i64 b2] 91)) w1.heap.size 0 [⟨a0, a1, a2⟩, ⟨b0, b1, b2⟩] := vecs_two _ _ _ _ _ _ _
  refine (placeError_any w1.heap.size 0 2 [⟨a0, a1, a2⟩, ⟨b0, b1, b2⟩] _ VA (by simp)).mono ?_
  rw [HP.out]
  rintro e w2 ⟨rfl, h2⟩
  have B2 : Below w.heap.size w w2 := below_via (by (repeat' (first | (with_reducible exact Below.refl _ _) | (with_reducible assumption) | (with_reducible refine Below.drew ?_) | (with_reducible refine below_drewN ?_ _) | (with_reducible refine Below.setCell ?_ ?_ _) | (with_reducible refine Below.alloc ?_ ?_ _) | go_size | omega))) h2
  have z2' := h2.size
  simp at z2'
  have K2 : Below w1.heap.size w1 w2 := below_via (by (repeat' (first | (with_reducible exact Below.refl _ _) | (with_reducible assumption) | (with_reducible refine Below.drew ?_) | (with_reducible refine below_drewN ?_ _) | (with_reducible refine Below.setCell ?_ ?_ _) | (with_reducible refine Below.alloc ?_ ?_ _) | go_size | omega))) h2
  have L2 := Lib.hid (L1.out.keep K2); have A1' := Lib.hid (A1.out.keep K2); have A2' := Lib.hid (A2.out.keep K2); have R2 := Lib.hid (R1.out.keep K2)
  clear h2 p0 p1 p2 q0 q1 q2 VA HP A1 A2 R1 L1 K2
  obtain ⟨p0, p1, p2, -⟩ := A1'.out.three
  obtain ⟨q0, q1, q2, -⟩ := A2'.out.three
  go_wp2_with fail
  refine (CF.out _).mono ?_
  rintro e w3 ⟨rfl, h3⟩
  have B3 : Below w.heap.size w w3 := below_via (by (repeat' (first | (with_reducible exact Below.refl _ _) | (with_reducible assumption) | (with_reducible refine Below.drew ?_) | (with_reducible refine below_drewN ?_ _) | (with_reducible refine Below.setCell ?_ ?_ _) | (with_reducible refine Below.alloc ?_ ?_ _) | go_size | omega))) h3
  have z3' := h3.size
  have L3 := Lib.hid ((L2.out.keep h3).alloc (.cells #[.int .i64 (b0 + -a0), .int .i64 (b1 + -a1), .int .i64 (b2 + -a2)] 91)); have A13 := Lib.hid ((A1'.out.keep h3).alloc (.cells #[.int .i64 (b0 + -a0), .int .i64 (b1 + -a1), .int .i64 (b2 + -a2)] 91)); have A23 := Lib.hid ((A2'.out.keep h3).alloc (.cells #[.int .i64 (b0 + -a0), .int .i64 (b1 + -a1), .int .i64 (b2 + -a2)] 91)); have R3 := Lib.hid ((R2.out.keep h3).alloc (.cells #[.int .i64 (b0 + -a0), .int .i64 (b1 + -a1), .int .i64 (b2 + -a2)] 91))
  clear h3 p0 p1 p2 q0 q1 q2 A1' A2' R2 L2 CF
  go_wp2_with fail
  have HX0 := Lib.hid (Box.new w3 #[.int .i64 (b0 + -a0), .int .i64 (b1 + -a1), .int .i64 (b2 + -a2)] 91 (n := w3.heap.size) rfl)
  have l0 := HX0.out.lt
  have BW : Below w.heap.size w (w3.alloc (.cells #[.int .i64 (b0 + -a0), .int .i64 (b1 + -a1), .int .i64 (b2 + -a2)] 91)) := by (repeat' (first | (with_reducible exact Below.refl _ _) | (with_reducible assumption) | (with_reducible refine Below.drew ?_) | (with_reducible refine below_drewN ?_ _) | (with_reducible refine Below.setCell ?_ ?_ _) | (with_reducible refine Below.alloc ?_ ?_ _) | go_size | omega))
  generalize (w3.alloc (.cells #[.int .i64 (b0 + -a0), .int .i64 (b1 + -a1), .int .i64 (b2 + -a2)] 91)) = u at *
  have zu := BW.size
  have C2 := Lib.hid (fun (c : Nat) (v : World) (hcl : c < v.heap.size) (hc : v.cell? ⟨c, 0, none⟩ = some (.int .i64 1000000)) => hasOne_any 1000000 (b0 + -a0) (b1 + -a1) (b2 + -a2) c v (by omega) (by omega) hcl hc)
  rw [HD.out] at C2
  have K := Lib.hid (fun (w' : World) (hw : Below u.heap.size u w') => show (w'.cell? ⟨w3.heap.size, 0, none⟩ = some (.int .i64 (b0 + -a0)) ∧ w'.cell? ⟨w3.heap.size, 1, none⟩ = some (.int .i64 (b1 + -a1)) ∧ w'.cell? ⟨w3.heap.size, 2, none⟩ = some (.int .i64 (b2 + -a2))) from ⟨(Box.keepB (by omega) (HX0.out) hw).cell 0, (Box.keepB (by omega) (HX0.out) hw).cell 1, (Box.keepB (by omega) (HX0.out) hw).cell 2⟩)
  go_region_held3 (fun w' => (w'.cell? ⟨w3.heap.size, 0, none⟩ = some (.int .i64 (b0 + -a0)) ∧ w'.cell? ⟨w3.heap.size, 1, none⟩ = some (.int .i64 (b1 + -a1)) ∧ w'.cell? ⟨w3.heap.size, 2, none⟩ = some (.int .i64 (b2 + -a2))))
    ((refine K.out _ ?_; (repeat' (first | (with_reducible exact Below.refl _ _) | (with_reducible assumption) | (with_reducible refine Below.drew ?_) | (with_reducible refine below_drewN ?_ _) | (with_reducible refine Below.setCell ?_ ?_ _) | (with_reducible refine Below.alloc ?_ ?_ _) | go_size | omega)); done))
    (first | (go_at_call 74; refine (beyond_any _ _).mono ?_; rintro e w8 ⟨rfl, bx8, h8⟩; have hB8 : Below u.heap.size u w8 := below_via (by (repeat' (first | (with_reducible exact Below.refl _ _) | (with_reducible assumption) | (with_reducible refine Below.drew ?_) | (with_reducible refine below_drewN ?_ _) | (with_reducible refine Below.setCell ?_ ?_ _) | (with_reducible refine Below.alloc ?_ ?_ _) | go_size | omega))) h8; have hz8 := hB8.size; have HC8 := Lib.hid bx8; have lc8 := bx8.lt; clear h8 bx8; obtain ⟨k0_0, k0_1, k0_2⟩ := K.out w8 hB8) | (go_at_call 73; refine (C2.out _ _ lc8 (HC8.out.cell 0)).mono ?_; rintro e w9 ⟨rfl, h9⟩; have hB9 : Below u.heap.size u w9 := below_via (by (repeat' (first | (with_reducible exact Below.refl _ _) | (with_reducible assumption) | (with_reducible refine Below.drew ?_) | (with_reducible refine below_drewN ?_ _) | (with_reducible refine Below.setCell ?_ ?_ _) | (with_reducible refine Below.alloc ?_ ?_ _) | go_size | omega))) h9; clear h9; have hz9 := hB9.size; obtain ⟨k0_0, k0_1, k0_2⟩ := K.out w9 hB9))
  have B9 : Below w.heap.size w w9 := below_via BW hB9
  have L9 := Lib.hid (L3.out.keep hB9); have A19 := Lib.hid (A13.out.keep hB9); have A29 := Lib.hid (A23.out.keep hB9); have R9 := Lib.hid (R3.out.keep hB9); have X9 := Lib.hid (HX0.out.keep hB9)
  clear K k0_0 k0_1 k0_2 lc8 HC8 hz8 hB8 L3 A13 A23 R3 HX0 C2
  obtain ⟨p0, p1, p2, -⟩ := A19.out.three
  obtain ⟨q0, q1, q2, -⟩ := A29.out.three
  have lr := R9.out.lt
  have g0 := R9.out.cell 0; have g1 := R9.out.cell 1; have g2 := R9.out.cell 2; have g3 := R9.out.cell 3; have g4 := R9.out.cell 4; have g5 := R9.out.cell 5
  have f0 := R9.out.free 0; have f1 := R9.out.free 1; have f2 := R9.out.free 2; have f3 := R9.out.free 3; have f4 := R9.out.free 4; have f5 := R9.out.free 5
  simp at g0 g1 g2 g3 g4 g5
  have heq : ∀ v : World, (Op.equalIn 10000 23 (.agg #[.int .i64 a0, .int .i64 a1, .int .i64 a2]) (.agg #[.int .i64 b0, .int .i64 b1, .int .i64 b2])).run Try.prog v = .ok true v := fun v => by rw [eqArr3, E0.out, E1.out, E2.out]; simp
  go_wp2_with fail
  clear g0 g1 g2 g3 g4 g5 f0 f1 f2 f3 f4 f5 p0 p1 p2 q0 q1 q2
  have RV : Box ((((((w9.setCell ⟨w.heap.size + 1 + 1 + 1, 0, none⟩ (.int .i64 0)).setCell ⟨w.heap.size + 1 + 1 + 1, 1, none⟩ (.int .i64 0)).setCell ⟨w.heap.size + 1 + 1 + 1, 2, none⟩ (.int .i64 0)).setCell ⟨w.heap.size + 1 + 1 + 1, 3, none⟩ (.int .i64 0)).setCell ⟨w.heap.size + 1 + 1 + 1, 4, none⟩ (.int .i64 0)).setCell ⟨w.heap.size + 1 + 1 + 1, 5, none⟩ (.int .i64 0)) (w.heap.size + 1 + 1 + 1) #[.int .i64 0, .int .i64 0, .int .i64 0, .int .i64 0, .int .i64 0, .int .i64 0] 84 := ((((((R9.out.set 0 _).set 1 _).set 2 _).set 3 _).set 4 _).set 5 _)
  have BV : Below w.heap.size w ((((((w9.setCell ⟨w.heap.size + 1 + 1 + 1, 0, none⟩ (.int .i64 0)).setCell ⟨w.heap.size + 1 + 1 + 1, 1, none⟩ (.int .i64 0)).setCell ⟨w.heap.size + 1 + 1 + 1, 2, none⟩ (.int .i64 0)).setCell ⟨w.heap.size + 1 + 1 + 1, 3, none⟩ (.int .i64 0)).setCell ⟨w.heap.size + 1 + 1 + 1, 4, none⟩ (.int .i64 0)).setCell ⟨w.heap.size + 1 + 1 + 1, 5, none⟩ (.int .i64 0)) := by (repeat' (first | (with_reducible exact Below.refl _ _) | (with_reducible assumption) | (with_reducible refine Below.drew ?_) | (with_reducible refine below_drewN ?_ _) | (with_reducible refine Below.setCell ?_ ?_ _) | (with_reducible refine Below.alloc ?_ ?_ _) | go_size | omega))
  generalize ((((((w9.setCell ⟨w.heap.size + 1 + 1 + 1, 0, none⟩ (.int .i64 0)).setCell ⟨w.heap.size + 1 + 1 + 1, 1, none⟩ (.int .i64 0)).setCell ⟨w.heap.size + 1 + 1 + 1, 2, none⟩ (.int .i64 0)).setCell ⟨w.heap.size + 1 + 1 + 1, 3, none⟩ (.int .i64 0)).setCell ⟨w.heap.size + 1 + 1 + 1, 4, none⟩ (.int .i64 0)).setCell ⟨w.heap.size + 1 + 1 + 1, 5, none⟩ (.int .i64 0)) = v at *
  have s0 := RV.cell 0
  have s1 := RV.cell 1
  have s2 := RV.cell 2
  have s3 := RV.cell 3
  have s4 := RV.cell 4
  have s5 := RV.cell 5
  simp at s0 s1 s2 s3 s4 s5
  go_wp2_with fail
  refine bodyPost_ret (v := .tuple #[.agg #[.int .i64 0, .int .i64 0, .int .i64 0, .int .i64 0, .int .i64 0, .int .i64 0], .int .i64 11]) (by simp [results, Try.results42, go_sem, s0, s1, s2, s3, s4, s5]) rfl ⟨rfl, BV⟩
set_option maxRecDepth 100000 in
set_option maxHeartbeats 2000000 in
theorem pullOf_ok (tl th a0 a1 a2 b0 b1 b2 : Int) (w : World) (h : 0 ≤ tl ∧ tl ≤ th ∧ th ≤ 10000000000) (ha : Big 1000000 a0 a1 a2) (hb : Big 1000000 b0 b1 b2) (hd : Big 1000000 (b0 + -a0) (b1 + -a1) (b2 + -a2)) (he : ¬ (a0 = b0 ∧ a1 = b1 ∧ a2 = b2)) :
    Calls Try.prog 42 #[.agg #[.int .i64 tl, .int .i64 th], vec a0 a1 a2, vec b0 b1 b2] w fun e w' => e = .returned (.tuple #[.agg #[.int .i64 (cmpL tl th (b0 + -a0) (lenL (b0 + -a0) (b1 + -a1) (b2 + -a2)) (lenH (b0 + -a0) (b1 + -a1) (b2 + -a2))), .int .i64 (cmpH tl th (b0 + -a0) (lenL (b0 + -a0) (b1 + -a1) (b2 + -a2)) (lenH (b0 + -a0) (b1 + -a1) (b2 + -a2))), .int .i64 (cmpL tl th (b1 + -a1) (lenL (b0 + -a0) (b1 + -a1) (b2 + -a2)) (lenH (b0 + -a0) (b1 + -a1) (b2 + -a2))), .int .i64 (cmpH tl th (b1 + -a1) (lenL (b0 + -a0) (b1 + -a1) (b2 + -a2)) (lenH (b0 + -a0) (b1 + -a1) (b2 + -a2))), .int .i64 (cmpL tl th (b2 + -a2) (lenL (b0 + -a0) (b1 + -a1) (b2 + -a2)) (lenH (b0 + -a0) (b1 + -a1) (b2 + -a2))), .int .i64 (cmpH tl th (b2 + -a2) (lenL (b0 + -a0) (b1 + -a1) (b2 + -a2)) (lenH (b0 + -a0) (b1 + -a1) (b2 + -a2)))], .int .i64 0]) ∧ Below w.heap.size w w' := by
  have IN := Lib.hid (fun u => inside_any tl th 0 10000000000 u)
  rw [decide_eq_true h] at IN
  have HP := Lib.hid (show plErr [⟨a0, a1, a2⟩, ⟨b0, b1, b2⟩] = 0 by unfold plErr; simp only []; rw [beyV_of ha]; unfold plErr; simp only []; rw [beyV_of hb]; rfl)
  have CF := Lib.hid (fun u => vfrom_any b0 b1 b2 a0 a1 a2 u (hb.up (by omega)) (ha.up (by omega)))
  obtain ⟨t0, tt, t1⟩ := h
  have HD := Lib.hid (show beyV 1000000 (b0 + -a0) (b1 + -a1) (b2 + -a2) = false from beyV_of hd)
  have heq : ∀ v : World, (Op.equalIn 10000 23 (.agg #[.int .i64 a0, .int .i64 a1, .int .i64 a2]) (.agg #[.int .i64 b0, .int .i64 b1, .int .i64 b2])).run Try.prog v = .ok false v := fun v => by
    rw [eqArr3]
    have : (a0 == b0 && (a1 == b1 && a2 == b2)) = false := by
      cases hx : (a0 == b0 && (a1 == b1 && a2 == b2))
      · rfl
      · simp at hx; exact absurd hx he
    rw [this]
  have CLN := Lib.hid (fun u => lengthOf_any (b0 + -a0) (b1 + -a1) (b2 + -a2) u hd)
  obtain ⟨l0a, l1a, l2a, l3a⟩ := len_bd hd (by omega)
  have CC := Lib.hid (fun (i : Int) (u : World) (hi : -1000000 ≤ i ∧ i ≤ 1000000) => component_any tl th i (lenL (b0 + -a0) (b1 + -a1) (b2 + -a2)) (lenH (b0 + -a0) (b1 + -a1) (b2 + -a2)) u t0 (by omega) (by omega) t1 hi.1 hi.2 l0a l1a l2a l3a)
  have BD := Lib.hid hd
  clear ha hb hd he l0a l1a l2a l3a
  go_enter Try.func42, Try.ntmps42
  go_wp2_with fail
  refine (IN.out _).mono ?_
  rintro e w1 ⟨rfl, h1⟩
  have B1 : Below w.heap.size w w1 := below_via (by go_grown) h1
  have z1' := h1.size
  simp at z1'
  have L1 := Lib.hid ((((Box.new w #[.int .i64 tl, .int .i64 th] 83 (n := w.heap.size) rfl).alloc (.cells #[.int .i64 a0, .int .i64 a1, .int .i64 a2] 23)).alloc (.cells #[.int .i64 b0, .int .i64 b1, .int .i64 b2] 23)).alloc (.cells #[.int .i64 0, .int .i64 0, .int .i64 0, .int .i64 0, .int .i64 0, .int .i64 0] 84) |>.keep h1)
  have A1 := Lib.hid (((Box.new (w.alloc (.cells #[.int .i64 tl, .int .i64 th] 83)) #[.int .i64 a0, .int .i64 a1, .int .i64 a2] 23 (n := w.heap.size + 1) (by simp)).alloc (.cells #[.int .i64 b0, .int .i64 b1, .int .i64 b2] 23)).alloc (.cells #[.int .i64 0, .int .i64 0, .int .i64 0, .int .i64 0, .int .i64 0, .int .i64 0] 84) |>.keep h1)
  have A2 := Lib.hid ((Box.new ((w.alloc (.cells #[.int .i64 tl, .int .i64 th] 83)).alloc (.cells #[.int .i64 a0, .int .i64 a1, .int .i64 a2] 23)) #[.int .i64 b0, .int .i64 b1, .int .i64 b2] 23 (n := w.heap.size + 1 + 1) (by simp)).alloc (.cells #[.int .i64 0, .int .i64 0, .int .i64 0, .int .i64 0, .int .i64 0, .int .i64 0] 84) |>.keep h1)
  have R1 := Lib.hid ((Box.new (((w.alloc (.cells #[.int .i64 tl, .int .i64 th] 83)).alloc (.cells #[.int .i64 a0, .int .i64 a1, .int .i64 a2] 23)).alloc (.cells #[.int .i64 b0, .int .i64 b1, .int .i64 b2] 23)) #[.int .i64 0, .int .i64 0, .int .i64 0, .int .i64 0, .int .i64 0, .int .i64 0] 84 (n := w.heap.size + 1 + 1 + 1) (by simp)).keep h1)
  clear h1 IN
  obtain ⟨p0, p1, p2, -⟩ := A1.out.three
  obtain ⟨q0, q1, q2, -⟩ := A2.out.three
  go_wp2_with fail
  have VA : VecsAt (w1.alloc (.cells #[.int .i64 a0, .int .i64 a1, .int .i64 a2, .int .i64 b0, .int .i64 b1, .int .i64 b2] 91)) w1.heap.size 0 [⟨a0, a1, a2⟩, ⟨b0, b1, b2⟩] := vecs_two _ _ _ _ _ _ _
  refine (placeError_any w1.heap.size 0 2 [⟨a0, a1, a2⟩, ⟨b0, b1, b2⟩] _ VA (by simp)).mono ?_
  rw [HP.out]
  rintro e w2 ⟨rfl, h2⟩
  have B2 : Below w.heap.size w w2 := below_via (by (repeat' (first | (with_reducible exact Below.refl _ _) | (with_reducible assumption) | (with_reducible refine Below.drew ?_) | (with_reducible refine below_drewN ?_ _) | (with_reducible refine Below.setCell ?_ ?_ _) | (with_reducible refine Below.alloc ?_ ?_ _) | go_size | omega))) h2
  have z2' := h2.size
  simp at z2'
  have K2 : Below w1.heap.size w1 w2 := below_via (by (repeat' (first | (with_reducible exact Below.refl _ _) | (with_reducible assumption) | (with_reducible refine Below.drew ?_) | (with_reducible refine below_drewN ?_ _) | (with_reducible refine Below.setCell ?_ ?_ _) | (with_reducible refine Below.alloc ?_ ?_ _) | go_size | omega))) h2
  have L2 := Lib.hid (L1.out.keep K2); have A1' := Lib.hid (A1.out.keep K2); have A2' := Lib.hid (A2.out.keep K2); have R2 := Lib.hid (R1.out.keep K2)
  clear h2 p0 p1 p2 q0 q1 q2 VA HP A1 A2 R1 L1 K2
  obtain ⟨p0, p1, p2, -⟩ := A1'.out.three
  obtain ⟨q0, q1, q2, -⟩ := A2'.out.three
  go_wp2_with fail
  refine (CF.out _).mono ?_
  rintro e w3 ⟨rfl, h3⟩
  have B3 : Below w.heap.size w w3 := below_via (by (repeat' (first | (with_reducible exact Below.refl _ _) | (with_reducible assumption) | (with_reducible refine Below.drew ?_) | (with_reducible refine below_drewN ?_ _) | (with_reducible refine Below.setCell ?_ ?_ _) | (with_reducible refine Below.alloc ?_ ?_ _) | go_size | omega))) h3
  have z3' := h3.size
  have L3 := Lib.hid ((L2.out.keep h3).alloc (.cells #[.int .i64 (b0 + -a0), .int .i64 (b1 + -a1), .int .i64 (b2 + -a2)] 91)); have A13 := Lib.hid ((A1'.out.keep h3).alloc (.cells #[.int .i64 (b0 + -a0), .int .i64 (b1 + -a1), .int .i64 (b2 + -a2)] 91)); have A23 := Lib.hid ((A2'.out.keep h3).alloc (.cells #[.int .i64 (b0 + -a0), .int .i64 (b1 + -a1), .int .i64 (b2 + -a2)] 91)); have R3 := Lib.hid ((R2.out.keep h3).alloc (.cells #[.int .i64 (b0 + -a0), .int .i64 (b1 + -a1), .int .i64 (b2 + -a2)] 91))
  clear h3 p0 p1 p2 q0 q1 q2 A1' A2' R2 L2 CF
  go_wp2_with fail
  have HX0 := Lib.hid (Box.new w3 #[.int .i64 (b0 + -a0), .int .i64 (b1 + -a1), .int .i64 (b2 + -a2)] 91 (n := w3.heap.size) rfl)
  have l0 := HX0.out.lt
  have BW : Below w.heap.size w (w3.alloc (.cells #[.int .i64 (b0 + -a0), .int .i64 (b1 + -a1), .int .i64 (b2 + -a2)] 91)) := by (repeat' (first | (with_reducible exact Below.refl _ _) | (with_reducible assumption) | (with_reducible refine Below.drew ?_) | (with_reducible refine below_drewN ?_ _) | (with_reducible refine Below.setCell ?_ ?_ _) | (with_reducible refine Below.alloc ?_ ?_ _) | go_size | omega))
  generalize (w3.alloc (.cells #[.int .i64 (b0 + -a0), .int .i64 (b1 + -a1), .int .i64 (b2 + -a2)] 91)) = u at *
  have zu := BW.size
  have C2 := Lib.hid (fun (c : Nat) (v : World) (hcl : c < v.heap.size) (hc : v.cell? ⟨c, 0, none⟩ = some (.int .i64 1000000)) => hasOne_any 1000000 (b0 + -a0) (b1 + -a1) (b2 + -a2) c v (by omega) (by omega) hcl hc)
  rw [HD.out] at C2
  have K := Lib.hid (fun (w' : World) (hw : Below u.heap.size u w') => show (w'.cell? ⟨w3.heap.size, 0, none⟩ = some (.int .i64 (b0 + -a0)) ∧ w'.cell? ⟨w3.heap.size, 1, none⟩ = some (.int .i64 (b1 + -a1)) ∧ w'.cell? ⟨w3.heap.size, 2, none⟩ = some (.int .i64 (b2 + -a2))) from ⟨(Box.keepB (by omega) (HX0.out) hw).cell 0, (Box.keepB (by omega) (HX0.out) hw).cell 1, (Box.keepB (by omega) (HX0.out) hw).cell 2⟩)
  go_region_held3 (fun w' => (w'.cell? ⟨w3.heap.size, 0, none⟩ = some (.int .i64 (b0 + -a0)) ∧ w'.cell? ⟨w3.heap.size, 1, none⟩ = some (.int .i64 (b1 + -a1)) ∧ w'.cell? ⟨w3.heap.size, 2, none⟩ = some (.int .i64 (b2 + -a2))))
    ((refine K.out _ ?_; (repeat' (first | (with_reducible exact Below.refl _ _) | (with_reducible assumption) | (with_reducible refine Below.drew ?_) | (with_reducible refine below_drewN ?_ _) | (with_reducible refine Below.setCell ?_ ?_ _) | (with_reducible refine Below.alloc ?_ ?_ _) | go_size | omega)); done))
    (first | (go_at_call 74; refine (beyond_any _ _).mono ?_; rintro e w8 ⟨rfl, bx8, h8⟩; have hB8 : Below u.heap.size u w8 := below_via (by (repeat' (first | (with_reducible exact Below.refl _ _) | (with_reducible assumption) | (with_reducible refine Below.drew ?_) | (with_reducible refine below_drewN ?_ _) | (with_reducible refine Below.setCell ?_ ?_ _) | (with_reducible refine Below.alloc ?_ ?_ _) | go_size | omega))) h8; have hz8 := hB8.size; have HC8 := Lib.hid bx8; have lc8 := bx8.lt; clear h8 bx8; obtain ⟨k0_0, k0_1, k0_2⟩ := K.out w8 hB8) | (go_at_call 73; refine (C2.out _ _ lc8 (HC8.out.cell 0)).mono ?_; rintro e w9 ⟨rfl, h9⟩; have hB9 : Below u.heap.size u w9 := below_via (by (repeat' (first | (with_reducible exact Below.refl _ _) | (with_reducible assumption) | (with_reducible refine Below.drew ?_) | (with_reducible refine below_drewN ?_ _) | (with_reducible refine Below.setCell ?_ ?_ _) | (with_reducible refine Below.alloc ?_ ?_ _) | go_size | omega))) h9; clear h9; have hz9 := hB9.size; obtain ⟨k0_0, k0_1, k0_2⟩ := K.out w9 hB9))
  have B9 : Below w.heap.size w w9 := below_via BW hB9
  have L9 := Lib.hid (L3.out.keep hB9); have A19 := Lib.hid (A13.out.keep hB9); have A29 := Lib.hid (A23.out.keep hB9); have R9 := Lib.hid (R3.out.keep hB9); have X9 := Lib.hid (HX0.out.keep hB9)
  clear K k0_0 k0_1 k0_2 lc8 HC8 hz8 hB8 L3 A13 A23 R3 HX0 C2
  obtain ⟨p0, p1, p2, -⟩ := A19.out.three
  obtain ⟨q0, q1, q2, -⟩ := A29.out.three
  obtain ⟨x0, x1, x2, -⟩ := X9.out.three
  go_wp2_with fail
  refine (CLN.out _).mono ?_
  rintro e w4 ⟨rfl, h4⟩
  have B4 : Below w.heap.size w w4 := below_via (by (repeat' (first | (with_reducible exact Below.refl _ _) | (with_reducible assumption) | (with_reducible refine Below.drew ?_) | (with_reducible refine below_drewN ?_ _) | (with_reducible refine Below.setCell ?_ ?_ _) | (with_reducible refine Below.alloc ?_ ?_ _) | go_size | omega))) h4
  have y4 := h4.size
  have L4 := Lib.hid (L9.out.keep h4); have R4 := Lib.hid (R9.out.keep h4); have X4 := Lib.hid (X9.out.keep h4)
  clear h4 p0 p1 p2 q0 q1 q2 x0 x1 x2 L9 A19 A29 R9 X9 CLN heq
  obtain ⟨x0, x1, x2, -⟩ := X4.out.three
  have lx := X4.out.lt; have ll := L4.out.lt; have lr4 := R4.out.lt
  generalize hL0 : (lenL (b0 + -a0) (b1 + -a1) (b2 + -a2)) = L at *
  generalize hH0 : (lenH (b0 + -a0) (b1 + -a1) (b2 + -a2)) = H at *
  go_wp2_with fail
  have LU := Lib.hid ((L4.out.alloc (.cells #[.int .i64 L, .int .i64 H] 83)).alloc (.cells #[.int .i64 0, .int .i64 0, .int .i64 0, .int .i64 0, .int .i64 0, .int .i64 0] 84))
  have RU := Lib.hid ((R4.out.alloc (.cells #[.int .i64 L, .int .i64 H] 83)).alloc (.cells #[.int .i64 0, .int .i64 0, .int .i64 0, .int .i64 0, .int .i64 0, .int .i64 0] 84))
  have TU := Lib.hid ((Box.new w4 #[.int .i64 L, .int .i64 H] 83 (n := w4.heap.size) rfl).alloc (.cells #[.int .i64 0, .int .i64 0, .int .i64 0, .int .i64 0, .int .i64 0, .int .i64 0] 84))
  have OU := Lib.hid (Box.new (w4.alloc (.cells #[.int .i64 L, .int .i64 H] 83)) #[.int .i64 0, .int .i64 0, .int .i64 0, .int .i64 0, .int .i64 0, .int .i64 0] 84 (n := w4.heap.size + 1) (by simp))
  have BU : Below w.heap.size w ((w4.alloc (.cells #[.int .i64 L, .int .i64 H] 83)).alloc (.cells #[.int .i64 0, .int .i64 0, .int .i64 0, .int .i64 0, .int .i64 0, .int .i64 0] 84)) := by (repeat' (first | (with_reducible exact Below.refl _ _) | (with_reducible assumption) | (with_reducible refine Below.drew ?_) | (with_reducible refine below_drewN ?_ _) | (with_reducible refine Below.setCell ?_ ?_ _) | (with_reducible refine Below.alloc ?_ ?_ _) | go_size | omega))
  have zu0 : w4.heap.size + 1 + 1 ≤ (((w4.alloc (.cells #[.int .i64 L, .int .i64 H] 83)).alloc (.cells #[.int .i64 0, .int .i64 0, .int .i64 0, .int .i64 0, .int .i64 0, .int .i64 0] 84))).heap.size := by simp
  generalize ((w4.alloc (.cells #[.int .i64 L, .int .i64 H] 83)).alloc (.cells #[.int .i64 0, .int .i64 0, .int .i64 0, .int .i64 0, .int .i64 0, .int .i64 0] 84)) = u0 at *
  clear x0 x1 x2 L4 R4 X4
  refine wp_loop_rounds 4 ?_
  have ix0 : ∀ v : World, (Instr.index 91 (.agg #[.int .i64 (b0 + -a0), .int .i64 (b1 + -a1), .int .i64 (b2 + -a2)]) (.int .i64 0)).run Try.prog v = .ok (.int .i64 (b0 + -a0)) v := fun _ => by kernel_rfl
  obtain ⟨a0', a1', -⟩ := LU.out.two
  obtain ⟨t0', t1', -⟩ := TU.out.two
  have ll' := LU.out.lt; have lt' := TU.out.lt
  rw [rounds_succ]
  go_wp2_with fail
  refine (CC.out (b0 + -a0) _ (by have := BD.out; unfold Big at this; omega)).mono ?_
  rintro e v0 ⟨rfl, h⟩
  have y0 := h.size
  have LV := Lib.hid (LU.out.keep h); have TV := Lib.hid (TU.out.keep h); have RV0 := Lib.hid (RU.out.keep h); have OV := Lib.hid (OU.out.keep h)
  have BV0 : Below w.heap.size w v0 := below_via BU h
  clear h a0' a1' t0' t1' ll' lt' LU TU RU OU BU
  have o0 := OV.out.cell 0; have o1 := OV.out.cell 1; have e0 := OV.out.free 0; have e1 := OV.out.free 1
  simp at o0 o1
  have lo := OV.out.lt
  go_wp2_with fail
  have LU := Lib.hid ((LV.out.other ⟨w4.heap.size + 1, 0, none⟩ (.int .i64 (cmpL tl th (b0 + -a0) L H)) (by simp; omega)).other ⟨w4.heap.size + 1, 1, none⟩ (.int .i64 (cmpH tl th (b0 + -a0) L H)) (by simp; omega))
  have TU := Lib.hid ((TV.out.other ⟨w4.heap.size + 1, 0, none⟩ (.int .i64 (cmpL tl th (b0 + -a0) L H)) (by simp)).other ⟨w4.heap.size + 1, 1, none⟩ (.int .i64 (cmpH tl th (b0 + -a0) L H)) (by simp))
  have RU := Lib.hid ((RV0.out.other ⟨w4.heap.size + 1, 0, none⟩ (.int .i64 (cmpL tl th (b0 + -a0) L H)) (by simp; omega)).other ⟨w4.heap.size + 1, 1, none⟩ (.int .i64 (cmpH tl th (b0 + -a0) L H)) (by simp; omega))
  have OU : Hid (Box ((v0.setCell ⟨w4.heap.size + 1, 0, none⟩ (.int .i64 (cmpL tl th (b0 + -a0) L H))).setCell ⟨w4.heap.size + 1, 1, none⟩ (.int .i64 (cmpH tl th (b0 + -a0) L H))) (w4.heap.size + 1) #[.int .i64 (cmpL tl th (b0 + -a0) L H), .int .i64 (cmpH tl th (b0 + -a0) L H), .int .i64 0, .int .i64 0, .int .i64 0, .int .i64 0] 84) := Lib.hid ((OV.out.set 0 (.int .i64 (cmpL tl th (b0 + -a0) L H))).set 1 (.int .i64 (cmpH tl th (b0 + -a0) L H)))
  have BU : Below w.heap.size w ((v0.setCell ⟨w4.heap.size + 1, 0, none⟩ (.int .i64 (cmpL tl th (b0 + -a0) L H))).setCell ⟨w4.heap.size + 1, 1, none⟩ (.int .i64 (cmpH tl th (b0 + -a0) L H))) := by (repeat' (first | (with_reducible exact Below.refl _ _) | (with_reducible assumption) | (with_reducible refine Below.drew ?_) | (with_reducible refine below_drewN ?_ _) | (with_reducible refine Below.setCell ?_ ?_ _) | (with_reducible refine Below.alloc ?_ ?_ _) | go_size | omega))
  clear o0 o1 e0 e1 lo LV TV RV0 OV BV0
  generalize ((v0.setCell ⟨w4.heap.size + 1, 0, none⟩ (.int .i64 (cmpL tl th (b0 + -a0) L H))).setCell ⟨w4.heap.size + 1, 1, none⟩ (.int .i64 (cmpH tl th (b0 + -a0) L H))) = u1 at *
  have ix1 : ∀ v : World, (Instr.index 91 (.agg #[.int .i64 (b0 + -a0), .int .i64 (b1 + -a1), .int .i64 (b2 + -a2)]) (.int .i64 1)).run Try.prog v = .ok (.int .i64 (b1 + -a1)) v := fun _ => by kernel_rfl
  obtain ⟨a0', a1', -⟩ := LU.out.two
  obtain ⟨t0', t1', -⟩ := TU.out.two
  have ll' := LU.out.lt; have lt' := TU.out.lt
  rw [rounds_succ]
  go_wp2_with fail
  refine (CC.out (b1 + -a1) _ (by have := BD.out; unfold Big at this; omega)).mono ?_
  rintro e v1 ⟨rfl, h⟩
  have y1 := h.size
  have LV := Lib.hid (LU.out.keep h); have TV := Lib.hid (TU.out.keep h); have RV0 := Lib.hid (RU.out.keep h); have OV := Lib.hid (OU.out.keep h)
  have BV1 : Below w.heap.size w v1 := below_via BU h
  clear h a0' a1' t0' t1' ll' lt' LU TU RU OU BU
  have o0 := OV.out.cell 2; have o1 := OV.out.cell 3; have e0 := OV.out.free 2; have e1 := OV.out.free 3
  simp at o0 o1
  have lo := OV.out.lt
  go_wp2_with fail
  have LU := Lib.hid ((LV.out.other ⟨w4.heap.size + 1, 2, none⟩ (.int .i64 (cmpL tl th (b1 + -a1) L H)) (by simp; omega)).other ⟨w4.heap.size + 1, 3, none⟩ (.int .i64 (cmpH tl th (b1 + -a1) L H)) (by simp; omega))
  have TU := Lib.hid ((TV.out.other ⟨w4.heap.size + 1, 2, none⟩ (.int .i64 (cmpL tl th (b1 + -a1) L H)) (by simp)).other ⟨w4.heap.size + 1, 3, none⟩ (.int .i64 (cmpH tl th (b1 + -a1) L H)) (by simp))
  have RU := Lib.hid ((RV0.out.other ⟨w4.heap.size + 1, 2, none⟩ (.int .i64 (cmpL tl th (b1 + -a1) L H)) (by simp; omega)).other ⟨w4.heap.size + 1, 3, none⟩ (.int .i64 (cmpH tl th (b1 + -a1) L H)) (by simp; omega))
  have OU : Hid (Box ((v1.setCell ⟨w4.heap.size + 1, 2, none⟩ (.int .i64 (cmpL tl th (b1 + -a1) L H))).setCell ⟨w4.heap.size + 1, 3, none⟩ (.int .i64 (cmpH tl th (b1 + -a1) L H))) (w4.heap.size + 1) #[.int .i64 (cmpL tl th (b0 + -a0) L H), .int .i64 (cmpH tl th (b0 + -a0) L H), .int .i64 (cmpL tl th (b1 + -a1) L H), .int .i64 (cmpH tl th (b1 + -a1) L H), .int .i64 0, .int .i64 0] 84) := Lib.hid ((OV.out.set 2 (.int .i64 (cmpL tl th (b1 + -a1) L H))).set 3 (.int .i64 (cmpH tl th (b1 + -a1) L H)))
  have BU : Below w.heap.size w ((v1.setCell ⟨w4.heap.size + 1, 2, none⟩ (.int .i64 (cmpL tl th (b1 + -a1) L H))).setCell ⟨w4.heap.size + 1, 3, none⟩ (.int .i64 (cmpH tl th (b1 + -a1) L H))) := by (repeat' (first | (with_reducible exact Below.refl _ _) | (with_reducible assumption) | (with_reducible refine Below.drew ?_) | (with_reducible refine below_drewN ?_ _) | (with_reducible refine Below.setCell ?_ ?_ _) | (with_reducible refine Below.alloc ?_ ?_ _) | go_size | omega))
  clear o0 o1 e0 e1 lo LV TV RV0 OV BV1
  generalize ((v1.setCell ⟨w4.heap.size + 1, 2, none⟩ (.int .i64 (cmpL tl th (b1 + -a1) L H))).setCell ⟨w4.heap.size + 1, 3, none⟩ (.int .i64 (cmpH tl th (b1 + -a1) L H))) = u2 at *
  have ix2 : ∀ v : World, (Instr.index 91 (.agg #[.int .i64 (b0 + -a0), .int .i64 (b1 + -a1), .int .i64 (b2 + -a2)]) (.int .i64 2)).run Try.prog v = .ok (.int .i64 (b2 + -a2)) v := fun _ => by kernel_rfl
  obtain ⟨a0', a1', -⟩ := LU.out.two
  obtain ⟨t0', t1', -⟩ := TU.out.two
  have ll' := LU.out.lt; have lt' := TU.out.lt
  rw [rounds_succ]
  go_wp2_with fail
  refine (CC.out (b2 + -a2) _ (by have := BD.out; unfold Big at this; omega)).mono ?_
  rintro e v2 ⟨rfl, h⟩
  have y2 := h.size
  have LV := Lib.hid (LU.out.keep h); have TV := Lib.hid (TU.out.keep h); have RV0 := Lib.hid (RU.out.keep h); have OV := Lib.hid (OU.out.keep h)
  have BV2 : Below w.heap.size w v2 := below_via BU h
  clear h a0' a1' t0' t1' ll' lt' LU TU RU OU BU
  have o0 := OV.out.cell 4; have o1 := OV.out.cell 5; have e0 := OV.out.free 4; have e1 := OV.out.free 5
  simp at o0 o1
  have lo := OV.out.lt
  go_wp2_with fail
  have LU := Lib.hid ((LV.out.other ⟨w4.heap.size + 1, 4, none⟩ (.int .i64 (cmpL tl th (b2 + -a2) L H)) (by simp; omega)).other ⟨w4.heap.size + 1, 5, none⟩ (.int .i64 (cmpH tl th (b2 + -a2) L H)) (by simp; omega))
  have TU := Lib.hid ((TV.out.other ⟨w4.heap.size + 1, 4, none⟩ (.int .i64 (cmpL tl th (b2 + -a2) L H)) (by simp)).other ⟨w4.heap.size + 1, 5, none⟩ (.int .i64 (cmpH tl th (b2 + -a2) L H)) (by simp))
  have RU := Lib.hid ((RV0.out.other ⟨w4.heap.size + 1, 4, none⟩ (.int .i64 (cmpL tl th (b2 + -a2) L H)) (by simp; omega)).other ⟨w4.heap.size + 1, 5, none⟩ (.int .i64 (cmpH tl th (b2 + -a2) L H)) (by simp; omega))
  have OU : Hid (Box ((v2.setCell ⟨w4.heap.size + 1, 4, none⟩ (.int .i64 (cmpL tl th (b2 + -a2) L H))).setCell ⟨w4.heap.size + 1, 5, none⟩ (.int .i64 (cmpH tl th (b2 + -a2) L H))) (w4.heap.size + 1) #[.int .i64 (cmpL tl th (b0 + -a0) L H), .int .i64 (cmpH tl th (b0 + -a0) L H), .int .i64 (cmpL tl th (b1 + -a1) L H), .int .i64 (cmpH tl th (b1 + -a1) L H), .int .i64 (cmpL tl th (b2 + -a2) L H), .int .i64 (cmpH tl th (b2 + -a2) L H)] 84) := Lib.hid ((OV.out.set 4 (.int .i64 (cmpL tl th (b2 + -a2) L H))).set 5 (.int .i64 (cmpH tl th (b2 + -a2) L H)))
  have BU : Below w.heap.size w ((v2.setCell ⟨w4.heap.size + 1, 4, none⟩ (.int .i64 (cmpL tl th (b2 + -a2) L H))).setCell ⟨w4.heap.size + 1, 5, none⟩ (.int .i64 (cmpH tl th (b2 + -a2) L H))) := by (repeat' (first | (with_reducible exact Below.refl _ _) | (with_reducible assumption) | (with_reducible refine Below.drew ?_) | (with_reducible refine below_drewN ?_ _) | (with_reducible refine Below.setCell ?_ ?_ _) | (with_reducible refine Below.alloc ?_ ?_ _) | go_size | omega))
  clear o0 o1 e0 e1 lo LV TV RV0 OV BV2
  generalize ((v2.setCell ⟨w4.heap.size + 1, 4, none⟩ (.int .i64 (cmpL tl th (b2 + -a2) L H))).setCell ⟨w4.heap.size + 1, 5, none⟩ (.int .i64 (cmpH tl th (b2 + -a2) L H))) = u3 at *
  rw [rounds_succ]
  obtain ⟨o0, o1, o2, o3, o4, o5⟩ := box6 OU.out
  have lr := RU.out.lt
  have g0 := RU.out.cell 0; have g1 := RU.out.cell 1; have g2 := RU.out.cell 2; have g3 := RU.out.cell 3; have g4 := RU.out.cell 4; have g5 := RU.out.cell 5
  have f0 := RU.out.free 0; have f1 := RU.out.free 1; have f2 := RU.out.free 2; have f3 := RU.out.free 3; have f4 := RU.out.free 4; have f5 := RU.out.free 5
  simp at g0 g1 g2 g3 g4 g5
  go_wp2_with fail
  clear g0 g1 g2 g3 g4 g5 f0 f1 f2 f3 f4 f5 o0 o1 o2 o3 o4 o5
  have RV : Box ((((((u3.setCell ⟨w.heap.size + 1 + 1 + 1, 0, none⟩ (.int .i64 (cmpL tl th (b0 + -a0) L H))).setCell ⟨w.heap.size + 1 + 1 + 1, 1, none⟩ (.int .i64 (cmpH tl th (b0 + -a0) L H))).setCell ⟨w.heap.size + 1 + 1 + 1, 2, none⟩ (.int .i64 (cmpL tl th (b1 + -a1) L H))).setCell ⟨w.heap.size + 1 + 1 + 1, 3, none⟩ (.int .i64 (cmpH tl th (b1 + -a1) L H))).setCell ⟨w.heap.size + 1 + 1 + 1, 4, none⟩ (.int .i64 (cmpL tl th (b2 + -a2) L H))).setCell ⟨w.heap.size + 1 + 1 + 1, 5, none⟩ (.int .i64 (cmpH tl th (b2 + -a2) L H))) (w.heap.size + 1 + 1 + 1) #[.int .i64 (cmpL tl th (b0 + -a0) L H), .int .i64 (cmpH tl th (b0 + -a0) L H), .int .i64 (cmpL tl th (b1 + -a1) L H), .int .i64 (cmpH tl th (b1 + -a1) L H), .int .i64 (cmpL tl th (b2 + -a2) L H), .int .i64 (cmpH tl th (b2 + -a2) L H)] 84 := ((((((RU.out.set 0 _).set 1 _).set 2 _).set 3 _).set 4 _).set 5 _)
  have BV : Below w.heap.size w ((((((u3.setCell ⟨w.heap.size + 1 + 1 + 1, 0, none⟩ (.int .i64 (cmpL tl th (b0 + -a0) L H))).setCell ⟨w.heap.size + 1 + 1 + 1, 1, none⟩ (.int .i64 (cmpH tl th (b0 + -a0) L H))).setCell ⟨w.heap.size + 1 + 1 + 1, 2, none⟩ (.int .i64 (cmpL tl th (b1 + -a1) L H))).setCell ⟨w.heap.size + 1 + 1 + 1, 3, none⟩ (.int .i64 (cmpH tl th (b1 + -a1) L H))).setCell ⟨w.heap.size + 1 + 1 + 1, 4, none⟩ (.int .i64 (cmpL tl th (b2 + -a2) L H))).setCell ⟨w.heap.size + 1 + 1 + 1, 5, none⟩ (.int .i64 (cmpH tl th (b2 + -a2) L H))) := by (repeat' (first | (with_reducible exact Below.refl _ _) | (with_reducible assumption) | (with_reducible refine Below.drew ?_) | (with_reducible refine below_drewN ?_ _) | (with_reducible refine Below.setCell ?_ ?_ _) | (with_reducible refine Below.alloc ?_ ?_ _) | go_size | omega))
  generalize ((((((u3.setCell ⟨w.heap.size + 1 + 1 + 1, 0, none⟩ (.int .i64 (cmpL tl th (b0 + -a0) L H))).setCell ⟨w.heap.size + 1 + 1 + 1, 1, none⟩ (.int .i64 (cmpH tl th (b0 + -a0) L H))).setCell ⟨w.heap.size + 1 + 1 + 1, 2, none⟩ (.int .i64 (cmpL tl th (b1 + -a1) L H))).setCell ⟨w.heap.size + 1 + 1 + 1, 3, none⟩ (.int .i64 (cmpH tl th (b1 + -a1) L H))).setCell ⟨w.heap.size + 1 + 1 + 1, 4, none⟩ (.int .i64 (cmpL tl th (b2 + -a2) L H))).setCell ⟨w.heap.size + 1 + 1 + 1, 5, none⟩ (.int .i64 (cmpH tl th (b2 + -a2) L H))) = v at *
  have s0 := RV.cell 0
  have s1 := RV.cell 1
  have s2 := RV.cell 2
  have s3 := RV.cell 3
  have s4 := RV.cell 4
  have s5 := RV.cell 5
  simp at s0 s1 s2 s3 s4 s5
  go_wp2_with fail
  refine bodyPost_ret (v := .tuple #[.agg #[.int .i64 (cmpL tl th (b0 + -a0) L H), .int .i64 (cmpH tl th (b0 + -a0) L H), .int .i64 (cmpL tl th (b1 + -a1) L H), .int .i64 (cmpH tl th (b1 + -a1) L H), .int .i64 (cmpL tl th (b2 + -a2) L H), .int .i64 (cmpH tl th (b2 + -a2) L H)], .int .i64 0]) (by simp [results, Try.results42, go_sem, s0, s1, s2, s3, s4, s5]) rfl ⟨by rw [hL0, hH0], BV⟩
def pullV (tl th a0 a1 a2 b0 b1 b2 : Int) : Value :=
  if pullE tl th a0 a1 a2 b0 b1 b2 = 0 then .agg #[.int .i64 (cmpL tl th (b0 + -a0) (lenL (b0 + -a0) (b1 + -a1) (b2 + -a2)) (lenH (b0 + -a0) (b1 + -a1) (b2 + -a2))), .int .i64 (cmpH tl th (b0 + -a0) (lenL (b0 + -a0) (b1 + -a1) (b2 + -a2)) (lenH (b0 + -a0) (b1 + -a1) (b2 + -a2))), .int .i64 (cmpL tl th (b1 + -a1) (lenL (b0 + -a0) (b1 + -a1) (b2 + -a2)) (lenH (b0 + -a0) (b1 + -a1) (b2 + -a2))), .int .i64 (cmpH tl th (b1 + -a1) (lenL (b0 + -a0) (b1 + -a1) (b2 + -a2)) (lenH (b0 + -a0) (b1 + -a1) (b2 + -a2))), .int .i64 (cmpL tl th (b2 + -a2) (lenL (b0 + -a0) (b1 + -a1) (b2 + -a2)) (lenH (b0 + -a0) (b1 + -a1) (b2 + -a2))), .int .i64 (cmpH tl th (b2 + -a2) (lenL (b0 + -a0) (b1 + -a1) (b2 + -a2)) (lenH (b0 + -a0) (b1 + -a1) (b2 + -a2)))] else .agg #[.int .i64 0, .int .i64 0, .int .i64 0, .int .i64 0, .int .i64 0, .int .i64 0]
theorem plErr_two {a0 a1 a2 b0 b1 b2 : Int} (h : beyV 1000000 a0 a1 a2 = true ∨ beyV 1000000 b0 b1 b2 = true) : plErr [⟨a0, a1, a2⟩, ⟨b0, b1, b2⟩] = 2 := by
  unfold plErr
  simp only []
  cases h1 : beyV 1000000 a0 a1 a2
  · have h2 : beyV 1000000 b0 b1 b2 = true := by rcases h with h | h; rw [h1] at h; cases h; exact h
    unfold plErr
    simp only []
    rw [h2]; rfl
  · rfl
theorem pullOf_any (tl th a0 a1 a2 b0 b1 b2 : Int) (w : World) :
    Calls Try.prog 42 #[.agg #[.int .i64 tl, .int .i64 th], vec a0 a1 a2, vec b0 b1 b2] w fun e w' => e = .returned (.tuple #[pullV tl th a0 a1 a2 b0 b1 b2, .int .i64 (pullE tl th a0 a1 a2 b0 b1 b2)]) ∧ Below w.heap.size w w' := by
  by_cases h : 0 ≤ tl ∧ tl ≤ th ∧ th ≤ 10000000000
  · cases h1 : beyV 1000000 a0 a1 a2
    · cases h2 : beyV 1000000 b0 b1 b2
      · cases h3 : beyV 1000000 (b0 + -a0) (b1 + -a1) (b2 + -a2)
        · by_cases h4 : a0 = b0 ∧ a1 = b1 ∧ a2 = b2
          · have e : pullE tl th a0 a1 a2 b0 b1 b2 = 11 := by unfold pullE; rw [if_neg (by omega), h1, h2, h3, if_pos h4]; rfl
            unfold pullV; rw [e, if_neg (by omega)]
            exact pullOf_bad3 tl th a0 a1 a2 b0 b1 b2 w h (beyV_no h1) (beyV_no h2) h4
          · have e : pullE tl th a0 a1 a2 b0 b1 b2 = 0 := by unfold pullE; rw [if_neg (by omega), h1, h2, h3, if_neg h4]; rfl
            unfold pullV; rw [e, if_pos rfl]
            exact pullOf_ok tl th a0 a1 a2 b0 b1 b2 w h (beyV_no h1) (beyV_no h2) (beyV_no h3) h4
        · have e : pullE tl th a0 a1 a2 b0 b1 b2 = 2 := by unfold pullE; rw [if_neg (by omega), h1, h2, h3]; rfl
          unfold pullV; rw [e, if_neg (by omega)]
          exact pullOf_bad2 tl th a0 a1 a2 b0 b1 b2 w h (beyV_no h1) (beyV_no h2) h3
      · have e : pullE tl th a0 a1 a2 b0 b1 b2 = 2 := by unfold pullE; rw [if_neg (by omega), h1, h2]; rfl
        unfold pullV; rw [e, if_neg (by omega)]
        exact pullOf_bad1 tl th a0 a1 a2 b0 b1 b2 w h (plErr_two (.inr h2))
    · have e : pullE tl th a0 a1 a2 b0 b1 b2 = 2 := by unfold pullE; rw [if_neg (by omega), h1]; rfl
      unfold pullV; rw [e, if_neg (by omega)]
      exact pullOf_bad1 tl th a0 a1 a2 b0 b1 b2 w h (plErr_two (.inl h1))
  · have e : pullE tl th a0 a1 a2 b0 b1 b2 = 2 := by unfold pullE; rw [if_pos h]
    unfold pullV; rw [e, if_neg (by omega)]
    exact pullOf_bad0 tl th a0 a1 a2 b0 b1 b2 w h
end Go.Proofs.Ytahfliboanphkaa
