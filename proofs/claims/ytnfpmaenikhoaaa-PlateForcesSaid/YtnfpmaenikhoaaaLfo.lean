/-
  The law PlateForces (under way).
-/
import Derived.Test.YtnfpmaenikhoaaaFap
import Derived.Test.YtnfpmaenikhoaaaAwk3
import Derived.Deep.RegionWith
import Derived.Deep.DeepCutAuto
namespace Go.Proofs.Ytnfpmaenikhoaaa
open Go.RowKit
set_option maxRecDepth 100000 in
set_option maxHeartbeats 3200000 in
theorem force_A (l : List Pf) (a : Option Addr) (cap : Nat) (t0 t1 t2 : Int) (w : World) (hl : l.length ≤ 9223372036854775807) (hp : PlAt w a l) (h1 : (decide (l.length ≤ 20) || (decide (300 < l.length) && decide (l.length ≤ 305))) = false) :
    Calls Try.prog 3 #[.slice a l.length cap, vec t0 t1 t2] w fun e w' => e = .returned (.bool true) ∧ Below w.heap.size w w' := by
  have AW := Lib.hid (fun u => awake3_any u)
  have HP := Lib.hid hp; clear hp
  have CF := Lib.hid (fun u => few_any l a cap u hl)
  rw [h1] at CF
  go_enter Try.func3, Try.ntmps3
  go_wp2_with fail
  refine (AW.out _).mono ?_
  rintro e w1 ⟨rfl, h⟩
  have B1 : Below w.heap.size w w1 := below_via (by (repeat' (first | (with_reducible exact Below.refl _ _) | (with_reducible assumption) | (with_reducible refine Below.drew ?_) | (with_reducible refine below_drewN ?_ _) | (with_reducible refine Below.setCell ?_ ?_ _) | (with_reducible refine Below.alloc ?_ ?_ _) | go_size | omega))) h
  have T1 := Lib.hid ((Box.new w #[.int .i64 t0, .int .i64 t1, .int .i64 t2] 23 (n := w.heap.size) rfl).keep h)
  have z1 := B1.size
  clear h AW
  go_wp2_with fail
  refine (CF.out _).mono ?_
  rintro e w2 ⟨rfl, h⟩
  have B2 : Below w.heap.size w w2 := below_via B1 h
  have T2 := Lib.hid (T1.out.keep h)
  have z2 := h.size
  clear h T1 CF
  go_wp2_with fail
  go_ret
  exact ⟨rfl, B2⟩
set_option maxRecDepth 100000 in
set_option maxHeartbeats 3200000 in
theorem force_D (l : List Pf) (a : Option Addr) (cap : Nat) (t0 t1 t2 : Int) (w : World) (hl : l.length ≤ 9223372036854775807) (hp : PlAt w a l) (h1 : (l.length : Int) ≤ 20) (h2 : chkP l = 0) (S0 S1 S2 V0 V1 V2 E : Int) (bv : Bool) (pl : Bool)
    (hpl : szB 1000000 t0 t1 t2 = pl) (hE : E = if pl then 0 else 2) (hV : pl = false → V0 = 0 ∧ V1 = 0 ∧ V2 = 0)
    (CS : Hid (∀ (a : Option Addr) (cap : Nat) (u : World), PlAt u a l → Calls Try.prog 15 #[.slice a l.length cap] u fun e w' => e = .returned (.tuple #[vec S0 S1 S2, .int .i64 0]) ∧ Below u.heap.size u w'))
    (CN : Hid (∀ (a : Option Addr) (cap : Nat) (u : World), PlAt u a l → Calls Try.prog 17 #[.slice a l.length cap, vec t0 t1 t2] u fun e w' => e = .returned (.tuple #[vec V0 V1 V2, .int .i64 E]) ∧ Below u.heap.size u w'))
    (CB : Hid (∀ (a : Option Addr) (cap : Nat) (u : World), PlAt u a l → Calls Try.prog 18 #[.slice a l.length cap] u fun e w' => e = .returned (.tuple #[.bool bv, .int .i64 0]) ∧ Below u.heap.size u w'))
    (RS : Hid (∀ u : World, PlAt u a l → Calls Try.prog 21 #[.slice a l.length cap] u fun e w' => e = .returned (vec S0 S1 S2) ∧ Below u.heap.size u w'))
    (RB : Hid (∀ u : World, PlAt u a l → Calls Try.prog 22 #[.slice a l.length cap] u fun e w' => e = .returned (.bool bv) ∧ Below u.heap.size u w'))
    (RM : Hid (∀ u : World, pl = true → PlAt u a l → Calls Try.prog 24 #[.slice a l.length cap, vec t0 t1 t2] u fun e w' => e = .returned (vec V0 V1 V2) ∧ Below u.heap.size u w')) :
    Calls Try.prog 3 #[.slice a l.length cap, vec t0 t1 t2] w fun e w' => e = .returned (.bool true) ∧ Below w.heap.size w w' := by
  have AW := Lib.hid (fun u => awake3_any u)
  have HP := Lib.hid hp; clear hp
  have CF := Lib.hid (fun u => few_any l a cap u hl)
  rw [show (decide (l.length ≤ 20) || (decide (300 < l.length) && decide (l.length ≤ 305))) = true by simp; omega] at CF
  have CK := Lib.hid (fun (u : World) (h : PlAt u a l) => rchkP_any l a cap u hl h)
  rw [h2] at CK
  have CH := Lib.hid (fun (a : Option Addr) (cap : Nat) (u : World) (h : PlAt u a l) => chkP_any l a cap u hl h)
  rw [h2] at CH
  have CI := Lib.hid (fun u => risPlace_any t0 t1 t2 u)
  rw [hpl] at CI
  have CC := Lib.hid (fun (u : World) (h : PlAt u a l) => copied_any l a cap u (by omega) h)
  have HV := Lib.hid hV; have HE := Lib.hid hE
  have iE : IntKind.i64.wrap E = E := by rw [hE]; cases pl <;> rfl
  clear hV hE hpl
  go_enter Try.func3, Try.ntmps3
  go_wp2_with fail
  refine (AW.out _).mono ?_
  rintro e w1 ⟨rfl, h⟩
  have B1 : Below w.heap.size w w1 := below_via (by (repeat' (first | (with_reducible exact Below.refl _ _) | (with_reducible assumption) | (with_reducible refine Below.drew ?_) | (with_reducible refine below_drewN ?_ _) | (with_reducible refine Below.setCell ?_ ?_ _) | (with_reducible refine Below.alloc ?_ ?_ _) | go_size | omega))) h
  have T1 := Lib.hid ((Box.new w #[.int .i64 t0, .int .i64 t1, .int .i64 t2] 23 (n := w.heap.size) rfl).keep h)
  have z1 := B1.size
  clear h AW
  go_wp2_with fail
  refine (CF.out _).mono ?_
  rintro e w2 ⟨rfl, h⟩
  have B2 : Below w.heap.size w w2 := below_via B1 h
  have T2 := Lib.hid (T1.out.keep h)
  have z2 := h.size
  clear h T1 CF
  go_wp2_with fail
  refine (CC.out _ (HP.out.keep B2)).mono ?_
  rintro e w4 ⟨⟨a4, c4, rfl, hq4⟩, h⟩
  have B4 : Below w.heap.size w w4 := below_via B2 h
  have z4 := h.size
  have T4 := Lib.hid (T2.out.keep h)
  have HQ4 := Lib.hid hq4
  clear h hq4 T2
  go_wp2_with fail
  refine (CS.out _ _ _ HQ4.out).mono ?_
  rintro e w5 ⟨rfl, h⟩
  have B5 : Below w.heap.size w w5 := below_via B4 h
  have z5 := h.size
  have T5 := Lib.hid (T4.out.keep h)
  clear h T4 HQ4
  go_upto_region 6 with fail
  have S5p := Lib.hid (Box.new w5 #[.int .i64 S0, .int .i64 S1, .int .i64 S2] 23 (n := w5.heap.size) rfl)
  have T5p := Lib.hid (T5.out.alloc (.cells #[.int .i64 S0, .int .i64 S1, .int .i64 S2] 23))
  have B5p : Below w.heap.size w (w5.alloc (.cells #[.int .i64 S0, .int .i64 S1, .int .i64 S2] 23)) := by (repeat' (first | (with_reducible exact Below.refl _ _) | (with_reducible assumption) | (with_reducible refine Below.drew ?_) | (with_reducible refine below_drewN ?_ _) | (with_reducible refine Below.setCell ?_ ?_ _) | (with_reducible refine Below.alloc ?_ ?_ _) | go_size | omega))
  clear T5
  generalize hw5 : (w5.alloc (.cells #[.int .i64 S0, .int .i64 S1, .int .i64 S2] 23)) = w5p at *
  have z5p : w5.heap.size + 1 ≤ w5p.heap.size := by rw [← hw5]; simp
  clear hw5
  generalize w5.heap.size = sb at *
  have ltt := T5p.out.lt
  go_cut [7, 8] (fun s9 s10 wx => ∃ nb : Nat, s9 = .pointer (some ⟨nb, 0, none⟩) ∧ s10 = .int .i64 E ∧ Box wx nb #[.int .i64 V0, .int .i64 V1, .int .i64 V2] 23 ∧ Below w5p.heap.size w5p wx)
  case first =>
    have K := Lib.hid (fun (w' : World) (hw : Below w5p.heap.size w5p w') => show (w'.cell? ⟨w.heap.size, 0, none⟩ = some (.int .i64 t0) ∧ w'.cell? ⟨w.heap.size, 1, none⟩ = some (.int .i64 t1) ∧ w'.cell? ⟨w.heap.size, 2, none⟩ = some (.int .i64 t2)) from ⟨(T5p.out.keep hw).cell 0, (T5p.out.keep hw).cell 1, (T5p.out.keep hw).cell 2⟩)
    go_region_held3 (fun w' => (w'.cell? ⟨w.heap.size, 0, none⟩ = some (.int .i64 t0) ∧ w'.cell? ⟨w.heap.size, 1, none⟩ = some (.int .i64 t1) ∧ w'.cell? ⟨w.heap.size, 2, none⟩ = some (.int .i64 t2)))
      ((refine K.out _ ?_; (repeat' (first | (with_reducible exact Below.refl _ _) | (with_reducible assumption) | (with_reducible refine Below.drew ?_) | (with_reducible refine below_drewN ?_ _) | (with_reducible refine Below.setCell ?_ ?_ _) | (with_reducible refine Below.alloc ?_ ?_ _) | go_size | omega)); done))
      (first | (go_at_call 16; refine (CC.out _ (HP.out.keep (below_via B5p (by (repeat' (first | (with_reducible exact Below.refl _ _) | (with_reducible assumption) | (with_reducible refine Below.drew ?_) | (with_reducible refine below_drewN ?_ _) | (with_reducible refine Below.setCell ?_ ?_ _) | (with_reducible refine Below.alloc ?_ ?_ _) | go_size | omega)))))).mono ?_; rintro e w8 ⟨⟨a8, c8, rfl, hq8⟩, h8⟩; have HQ8 := Lib.hid hq8; (first | have NB := Lib.hid ((Box.new w5p #[.int .i64 0, .int .i64 0, .int .i64 0] 23 (n := w5p.heap.size) rfl).keep h8) | have NB := Lib.hid ((Box.new w5p.drew #[.int .i64 0, .int .i64 0, .int .i64 0] 23 (n := w5p.heap.size) rfl).keep h8) | skip); have hB8 : Below w5p.heap.size w5p w8 := below_via (by (repeat' (first | (with_reducible exact Below.refl _ _) | (with_reducible assumption) | (with_reducible refine Below.drew ?_) | (with_reducible refine below_drewN ?_ _) | (with_reducible refine Below.setCell ?_ ?_ _) | (with_reducible refine Below.alloc ?_ ?_ _) | go_size | omega))) h8; clear h8 hq8; have hz8 := hB8.size; obtain ⟨k0, k1, k2⟩ := K.out w8 hB8) | (go_at_call 17; refine (CN.out _ _ _ (HQ8.out.keep (by (repeat' (first | (with_reducible exact Below.refl _ _) | (with_reducible assumption) | (with_reducible refine Below.drew ?_) | (with_reducible refine below_drewN ?_ _) | (with_reducible refine Below.setCell ?_ ?_ _) | (with_reducible refine Below.alloc ?_ ?_ _) | go_size | omega))))).mono ?_; rintro e w9 ⟨rfl, h9⟩; (first | have NB9 := Lib.hid (NB.out.keep h9) | have NB9 := Lib.hid ((Box.new w8 #[.int .i64 0, .int .i64 0, .int .i64 0] 23 (n := w8.heap.size) rfl).keep h9) | skip); have hB9 : Below w5p.heap.size w5p w9 := below_via (by (repeat' (first | (with_reducible exact Below.refl _ _) | (with_reducible assumption) | (with_reducible refine Below.drew ?_) | (with_reducible refine below_drewN ?_ _) | (with_reducible refine Below.setCell ?_ ?_ _) | (with_reducible refine Below.alloc ?_ ?_ _) | go_size | omega))) h9; clear h9; have hz9 := hB9.size; obtain ⟨k0', k1', k2'⟩ := K.out w9 hB9; (first | (obtain ⟨o0, o1, o2, f0, f1, f2⟩ := NB9.out.three; have lo := NB9.out.lt) | skip)))
    all_goals
      go_wp2_with fail
      go_meet
      first
        | exact ⟨_, rfl, rfl, Box.new _ _ _ rfl, by (repeat' (first | (with_reducible exact Below.refl _ _) | (with_reducible assumption) | (with_reducible refine Below.drew ?_) | (with_reducible refine below_drewN ?_ _) | (with_reducible refine Below.setCell ?_ ?_ _) | (with_reducible refine Below.alloc ?_ ?_ _) | go_size | omega))⟩
        | exact ⟨_, rfl, rfl, ((NB9.out.set 0 _).set 1 _).set 2 _, by (repeat' (first | (with_reducible exact Below.refl _ _) | (with_reducible assumption) | (with_reducible refine Below.drew ?_) | (with_reducible refine below_drewN ?_ _) | (with_reducible refine Below.setCell ?_ ?_ _) | (with_reducible refine Below.alloc ?_ ?_ _) | go_size | omega))⟩
  obtain ⟨mb, rfl, rfl, hnb, hB9⟩ := hcut
  obtain ⟨w9, rfl⟩ : ∃ x : World, x = wc := ⟨_, rfl⟩
  have B9 : Below w.heap.size w w9 := below_via B5p hB9
  have T9 := Lib.hid (T5p.out.keep hB9); have S9 := Lib.hid (S5p.out.keep hB9); have M9 := Lib.hid hnb
  have z9 := hB9.size
  clear hB9 hnb T5p S5p ltt B5p
  go_wp2_with fail
  refine (CC.out _ (HP.out.keep B9)).mono ?_
  rintro e w10 ⟨⟨a10, c10, rfl, hq10⟩, h⟩
  have B10 : Below w.heap.size w w10 := below_via B9 h
  have z10 := h.size
  have T10 := Lib.hid (T9.out.keep h)
  have S10 := Lib.hid (S9.out.keep h)
  have M10 := Lib.hid (M9.out.keep h)
  have HQ10 := Lib.hid hq10
  clear h hq10 T9 S9 M9
  go_wp2_with fail
  refine (CB.out _ _ _ HQ10.out).mono ?_
  rintro e w11 ⟨rfl, h⟩
  have B11 : Below w.heap.size w w11 := below_via B10 h
  have z11 := h.size
  have T11 := Lib.hid (T10.out.keep h)
  have S11 := Lib.hid (S10.out.keep h)
  have M11 := Lib.hid (M10.out.keep h)
  clear h T10 S10 M10 HQ10
  go_wp2_with fail
  refine (CK.out _ (HP.out.keep B11)).mono ?_
  rintro e w12 ⟨rfl, h⟩
  have B12 : Below w.heap.size w w12 := below_via B11 h
  have z12 := h.size
  have T12 := Lib.hid (T11.out.keep h); have S12 := Lib.hid (S11.out.keep h); have M12 := Lib.hid (M11.out.keep h)
  clear h T11 S11 M11
  go_wp2_with fail
  refine (CC.out _ (HP.out.keep B12)).mono ?_
  rintro e w13 ⟨⟨a13, c13, rfl, hq13⟩, h⟩
  have B13 : Below w.heap.size w w13 := below_via B12 h
  have z13 := h.size
  have T13 := Lib.hid (T12.out.keep h)
  have S13 := Lib.hid (S12.out.keep h)
  have M13 := Lib.hid (M12.out.keep h)
  have HQ13 := Lib.hid hq13
  clear h hq13 T12 S12 M12
  go_wp2_with fail
  refine (CH.out _ _ _ HQ13.out).mono ?_
  rintro e w14 ⟨rfl, h⟩
  have B14 : Below w.heap.size w w14 := below_via B13 h
  have z14 := h.size
  have T14 := Lib.hid (T13.out.keep h)
  have S14 := Lib.hid (S13.out.keep h)
  have M14 := Lib.hid (M13.out.keep h)
  clear h T13 S13 M13 HQ13
  go_wp2_with fail
  have lts := S14.out.lt
  have EQS := fun v => eqArr3 S0 S1 S2 S0 S1 S2 v
  simp only [beq_self_eq_true, Bool.and_self] at EQS
  have K := Lib.hid (fun (w' : World) (hw : Below w14.heap.size w14 w') => show (w'.cell? ⟨sb, 0, none⟩ = some (.int .i64 S0) ∧ w'.cell? ⟨sb, 1, none⟩ = some (.int .i64 S1) ∧ w'.cell? ⟨sb, 2, none⟩ = some (.int .i64 S2)) from ⟨(S14.out.keep hw).cell 0, (S14.out.keep hw).cell 1, (S14.out.keep hw).cell 2⟩)
  go_region_held3 (fun w' => (w'.cell? ⟨sb, 0, none⟩ = some (.int .i64 S0) ∧ w'.cell? ⟨sb, 1, none⟩ = some (.int .i64 S1) ∧ w'.cell? ⟨sb, 2, none⟩ = some (.int .i64 S2)))
    ((refine K.out _ ?_; (repeat' (first | (with_reducible exact Below.refl _ _) | (with_reducible assumption) | (with_reducible refine Below.drew ?_) | (with_reducible refine below_drewN ?_ _) | (with_reducible refine Below.setCell ?_ ?_ _) | (with_reducible refine Below.alloc ?_ ?_ _) | go_size | omega)); done))
    (first | (go_at_call 21; refine (RS.out _ (HP.out.keep (below_via B14 (by (repeat' (first | (with_reducible exact Below.refl _ _) | (with_reducible assumption) | (with_reducible refine Below.drew ?_) | (with_reducible refine below_drewN ?_ _) | (with_reducible refine Below.setCell ?_ ?_ _) | (with_reducible refine Below.alloc ?_ ?_ _) | go_size | omega)))))).mono ?_; rintro e w15 ⟨rfl, h⟩; have hB15 : Below w14.heap.size w14 w15 := below_via (by (repeat' (first | (with_reducible exact Below.refl _ _) | (with_reducible assumption) | (with_reducible refine Below.drew ?_) | (with_reducible refine below_drewN ?_ _) | (with_reducible refine Below.setCell ?_ ?_ _) | (with_reducible refine Below.alloc ?_ ?_ _) | go_size | omega))) h; clear h; have hz15 := hB15.size; obtain ⟨a0, a1, a2⟩ := K.out w15 hB15) | (go_at_call 22; refine (RB.out _ (HP.out.keep (below_via B14 (by (repeat' (first | (with_reducible exact Below.refl _ _) | (with_reducible assumption) | (with_reducible refine Below.drew ?_) | (with_reducible refine below_drewN ?_ _) | (with_reducible refine Below.setCell ?_ ?_ _) | (with_reducible refine Below.alloc ?_ ?_ _) | go_size | omega)))))).mono ?_; rintro e w16 ⟨rfl, h⟩; have hB16 : Below w14.heap.size w14 w16 := below_via (by (repeat' (first | (with_reducible exact Below.refl _ _) | (with_reducible assumption) | (with_reducible refine Below.drew ?_) | (with_reducible refine below_drewN ?_ _) | (with_reducible refine Below.setCell ?_ ?_ _) | (with_reducible refine Below.alloc ?_ ?_ _) | go_size | omega))) h; clear h; have hz16 := hB16.size; obtain ⟨b0, b1, b2⟩ := K.out w16 hB16))
  have B16 := below_via B14 hB16
  have T16 := Lib.hid (T14.out.keep hB16); have M16 := Lib.hid (M14.out.keep hB16)
  clear K a0 a1 a2 b0 b1 b2 EQS hB15 T14 M14 S14 lts
  obtain ⟨t0', t1', t2', -⟩ := T16.out.three
  have ltt := T16.out.lt
  go_wp2_with fail
  clear t0' t1' t2' ltt
  refine (CI.out _).mono ?_
  rintro e w17 ⟨rfl, h⟩
  have B17 : Below w.heap.size w w17 := below_via B16 h
  have T17 := Lib.hid (T16.out.keep h); have M17 := Lib.hid (M16.out.keep h)
  have z17 := h.size
  clear h T16 M16 CI hB16
  obtain ⟨v0, v1, v2, -⟩ := M17.out.three
  have ltm := M17.out.lt; have ltt := T17.out.lt
  cases pl
  · obtain ⟨rfl, rfl, rfl⟩ := HV.out rfl
    have hE := HE.out
    simp at hE
    subst hE
    have EQM := fun v => eqArr3 0 0 0 0 0 0 v
    simp only [beq_self_eq_true, Bool.and_self] at EQM
    clear HE HV iE
    go_wp2_with fail
    go_ret
    exact ⟨by simp, by (repeat' (first | (with_reducible exact Below.refl _ _) | (with_reducible assumption) | (with_reducible refine Below.drew ?_) | (with_reducible refine below_drewN ?_ _) | (with_reducible refine Below.setCell ?_ ?_ _) | (with_reducible refine Below.alloc ?_ ?_ _) | go_size | omega))⟩
  · have hE := HE.out
    simp at hE
    subst hE
    have EQM := fun v => eqArr3 V0 V1 V2 V0 V1 V2 v
    simp only [beq_self_eq_true, Bool.and_self] at EQM
    clear HE HV iE
    go_wp2_with fail
    clear v0 v1 v2
    have K := Lib.hid (fun (w' : World) (hw : Below w17.heap.size w17 w') => show (w'.cell? ⟨w.heap.size, 0, none⟩ = some (.int .i64 t0) ∧ w'.cell? ⟨w.heap.size, 1, none⟩ = some (.int .i64 t1) ∧ w'.cell? ⟨w.heap.size, 2, none⟩ = some (.int .i64 t2)) ∧ (w'.cell? ⟨mb, 0, none⟩ = some (.int .i64 V0) ∧ w'.cell? ⟨mb, 1, none⟩ = some (.int .i64 V1) ∧ w'.cell? ⟨mb, 2, none⟩ = some (.int .i64 V2)) from ⟨⟨(T17.out.keep hw).cell 0, (T17.out.keep hw).cell 1, (T17.out.keep hw).cell 2⟩, (M17.out.keep hw).cell 0, (M17.out.keep hw).cell 1, (M17.out.keep hw).cell 2⟩)
    go_region_held3 (fun w' => (w'.cell? ⟨w.heap.size, 0, none⟩ = some (.int .i64 t0) ∧ w'.cell? ⟨w.heap.size, 1, none⟩ = some (.int .i64 t1) ∧ w'.cell? ⟨w.heap.size, 2, none⟩ = some (.int .i64 t2)) ∧ (w'.cell? ⟨mb, 0, none⟩ = some (.int .i64 V0) ∧ w'.cell? ⟨mb, 1, none⟩ = some (.int .i64 V1) ∧ w'.cell? ⟨mb, 2, none⟩ = some (.int .i64 V2)))
      ((refine K.out _ ?_; (repeat' (first | (with_reducible exact Below.refl _ _) | (with_reducible assumption) | (with_reducible refine Below.drew ?_) | (with_reducible refine below_drewN ?_ _) | (with_reducible refine Below.setCell ?_ ?_ _) | (with_reducible refine Below.alloc ?_ ?_ _) | go_size | omega)); done))
      (first | (go_at_call 24; refine (RM.out _ trivial (HP.out.keep (below_via B17 (by (repeat' (first | (with_reducible exact Below.refl _ _) | (with_reducible assumption) | (with_reducible refine Below.drew ?_) | (with_reducible refine below_drewN ?_ _) | (with_reducible refine Below.setCell ?_ ?_ _) | (with_reducible refine Below.alloc ?_ ?_ _) | go_size | omega)))))).mono ?_; rintro e w18 ⟨rfl, h⟩; have hB18 : Below w17.heap.size w17 w18 := below_via (by (repeat' (first | (with_reducible exact Below.refl _ _) | (with_reducible assumption) | (with_reducible refine Below.drew ?_) | (with_reducible refine below_drewN ?_ _) | (with_reducible refine Below.setCell ?_ ?_ _) | (with_reducible refine Below.alloc ?_ ?_ _) | go_size | omega))) h; clear h; have hz18 := hB18.size; obtain ⟨⟨a0, a1, a2⟩, b0, b1, b2⟩ := K.out w18 hB18))
    all_goals
      have B18 := below_via B17 hB18
      go_wp2_with fail
      go_ret
      exact ⟨by simp, B18⟩
end Go.Proofs.Ytnfpmaenikhoaaa
