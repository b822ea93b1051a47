/-
  The law PlateBends.
-/
import Derived.Test.YtnfpmaenikhoaaaVat
import Derived.Test.YtnfpmaenikhoaaaRbn
import Derived.Test.YtnfpmaenikhoaaaBen
import Derived.Deep.DeepCutAuto
namespace Go.Proofs.Ytnfpmaenikhoaaa
open Go.RowKit
set_option maxRecDepth 100000 in
set_option maxHeartbeats 6400000 in
theorem bends_A (A B M x : Int) (L : List (Int × Int)) (a : Option Addr) (cap : Nat) (w : World) (hl : L.length ≤ 9223372036854775807) (hp : LdAt w a L) (hsm : smL L = false) :
    Calls Try.prog 10 #[gir A B M, .slice a L.length cap, .int .i64 x] w fun e w' => e = .returned (.bool true) ∧ Below w.heap.size w w' := by
  have AW := Lib.hid (fun u => awake3_any u)
  have CF := Lib.hid (fun u => some_any L a cap u hl)
  rw [hsm] at CF
  have HP := Lib.hid hp; clear hp hsm
  go_enter Try.func10, Try.ntmps10
  go_wp2_with fail
  refine (AW.out _).mono ?_
  rintro e w1 ⟨rfl, h⟩
  have B1 : Below w.heap.size w w1 := below_via (by (repeat' (first | (with_reducible exact Below.refl _ _) | (with_reducible assumption) | (with_reducible refine Below.drew ?_) | (with_reducible refine below_drewN ?_ _) | (with_reducible refine Below.setCell ?_ ?_ _) | (with_reducible refine Below.alloc ?_ ?_ _) | go_size | omega))) h
  have G1 := Lib.hid ((Box.new w #[.int .i64 A, .int .i64 B, .int .i64 M] 71 (n := w.heap.size) rfl).keep h)
  have z1 := h.size
  simp at z1
  clear h AW
  go_wp2_with fail
  refine (CF.out _).mono ?_
  rintro e w2 ⟨rfl, h⟩
  have B2 : Below w.heap.size w w2 := below_via B1 h
  have G2 := Lib.hid (G1.out.keep h)
  have z2 := h.size
  clear h G1 CF
  go_wp2_with fail
  go_ret
  exact ⟨rfl, B2⟩
set_option maxRecDepth 100000 in
set_option maxHeartbeats 6400000 in
theorem bends_B (A B M x E E0 : Int) (L : List (Int × Int)) (a : Option Addr) (cap : Nat) (w : World) (hl : L.length ≤ 9223372036854775807) (hp : LdAt w a L) (hsm : smL L = true) (hE : girE A B M L = E0) (hne : E ≠ 0) (hd : (E0 = E ∧ E0 ≠ 0) ∨ (E0 = 0 ∧ E = 2 ∧ inR x A B = false))
    (CS : Hid (∀ (b' cap' : Nat) (u : World), LoadsIn u.heap.size u (.slice (some ⟨b', 0, none⟩) L.length cap') L → Calls Try.prog 46 #[gir A B M, .slice (some ⟨b', 0, none⟩) L.length cap', .int .i64 x] u fun e w' => e = .returned (.tuple #[fr1 0 0, .int .i64 E]) ∧ Below u.heap.size u w'))
    (CM : Hid (∀ (b' cap' : Nat) (u : World), LoadsIn u.heap.size u (.slice (some ⟨b', 0, none⟩) L.length cap') L → Calls Try.prog 47 #[gir A B M, .slice (some ⟨b', 0, none⟩) L.length cap', .int .i64 x] u fun e w' => e = .returned (.tuple #[fr1 0 0, .int .i64 E]) ∧ Below u.heap.size u w')) :
    Calls Try.prog 10 #[gir A B M, .slice a L.length cap, .int .i64 x] w fun e w' => e = .returned (.bool true) ∧ Below w.heap.size w w' := by
  have iE : IntKind.i64.wrap E = E := by
    rcases hd with ⟨h, -⟩ | ⟨-, h, -⟩
    · rw [← h, ← hE]; exact girE_wrap A B M L
    · rw [h]; rfl
  have hbE : (E == 0) = false := by simpa using hne
  have hl4 : L.length ≤ 400 := by unfold smL at hsm; simp at hsm; omega
  have CC := Lib.hid (fun (u : World) (h : LdAt u a L) => loads_any L a cap u hl4 h)
  have CK := Lib.hid (fun (u : World) (h : LdAt u a L) => gcheck_any A B M L a cap u hl4 h)
  rw [hE] at CK
  have AW := Lib.hid (fun u => awake3_any u)
  have CF := Lib.hid (fun u => some_any L a cap u hl)
  rw [hsm] at CF
  have HP := Lib.hid hp; clear hp hsm
  go_enter Try.func10, Try.ntmps10
  go_wp2_with fail
  refine (AW.out _).mono ?_
  rintro e w1 ⟨rfl, h⟩
  have B1 : Below w.heap.size w w1 := below_via (by (repeat' (first | (with_reducible exact Below.refl _ _) | (with_reducible assumption) | (with_reducible refine Below.drew ?_) | (with_reducible refine below_drewN ?_ _) | (with_reducible refine Below.setCell ?_ ?_ _) | (with_reducible refine Below.alloc ?_ ?_ _) | go_size | omega))) h
  have G1 := Lib.hid ((Box.new w #[.int .i64 A, .int .i64 B, .int .i64 M] 71 (n := w.heap.size) rfl).keep h)
  have z1 := h.size
  simp at z1
  clear h AW
  go_wp2_with fail
  refine (CF.out _).mono ?_
  rintro e w2 ⟨rfl, h⟩
  have B2 : Below w.heap.size w w2 := below_via B1 h
  have G2 := Lib.hid (G1.out.keep h)
  have z2 := h.size
  clear h G1 CF
  go_upto_region 5 with fail
  have lg5 := G2.out.lt
  go_cut [7, 8] (fun s5 s6 wx => ∃ nb : Nat, s5 = .pointer (some ⟨nb, 0, none⟩) ∧ s6 = .int .i64 E ∧ Box wx nb #[.int .i64 0, .int .i64 0] 65 ∧ Below w2.heap.size w2 wx)
  case first =>
    have K := Lib.hid (fun (w' : World) (hw : Below w2.heap.size w2 w') => show (w'.cell? ⟨w.heap.size, 0, none⟩ = some (.int .i64 A) ∧ w'.cell? ⟨w.heap.size, 1, none⟩ = some (.int .i64 B) ∧ w'.cell? ⟨w.heap.size, 2, none⟩ = some (.int .i64 M)) from ⟨(G2.out.keep hw).cell 0, (G2.out.keep hw).cell 1, (G2.out.keep hw).cell 2⟩)
    go_region_held3 (fun w' => (w'.cell? ⟨w.heap.size, 0, none⟩ = some (.int .i64 A) ∧ w'.cell? ⟨w.heap.size, 1, none⟩ = some (.int .i64 B) ∧ w'.cell? ⟨w.heap.size, 2, none⟩ = some (.int .i64 M)))
      ((refine K.out _ ?_; (repeat' (first | (with_reducible exact Below.refl _ _) | (with_reducible assumption) | (with_reducible refine Below.drew ?_) | (with_reducible refine below_drewN ?_ _) | (with_reducible refine Below.setCell ?_ ?_ _) | (with_reducible refine Below.alloc ?_ ?_ _) | go_size | omega)); done))
      (first | (go_at_call 35; refine (CC.out _ (HP.out.keep (below_via B2 (by (repeat' (first | (with_reducible exact Below.refl _ _) | (with_reducible assumption) | (with_reducible refine Below.drew ?_) | (with_reducible refine below_drewN ?_ _) | (with_reducible refine Below.setCell ?_ ?_ _) | (with_reducible refine Below.alloc ?_ ?_ _) | go_size | omega)))))).mono ?_; rintro e w8 ⟨⟨b8, c8, rfl, hq8⟩, h8⟩; have HQ8 := Lib.hid hq8; (first | have NB := Lib.hid ((Box.new w2 #[.int .i64 0, .int .i64 0] 65 (n := w2.heap.size) rfl).keep h8) | have NB := Lib.hid ((Box.new w2.drew #[.int .i64 0, .int .i64 0] 65 (n := w2.heap.size) rfl).keep h8) | skip); have hB8 : Below w2.heap.size w2 w8 := below_via (by (repeat' (first | (with_reducible exact Below.refl _ _) | (with_reducible assumption) | (with_reducible refine Below.drew ?_) | (with_reducible refine below_drewN ?_ _) | (with_reducible refine Below.setCell ?_ ?_ _) | (with_reducible refine Below.alloc ?_ ?_ _) | go_size | omega))) h8; clear h8 hq8; have hz8 := hB8.size; obtain ⟨k0, k1, k2⟩ := K.out w8 hB8) | (go_at_call 46; refine (CS.out _ _ _ (liUp HQ8.out (by (repeat' (first | (with_reducible exact Below.refl _ _) | (with_reducible assumption) | (with_reducible refine Below.drew ?_) | (with_reducible refine below_drewN ?_ _) | (with_reducible refine Below.setCell ?_ ?_ _) | (with_reducible refine Below.alloc ?_ ?_ _) | go_size | omega))))).mono ?_; rintro e w9 ⟨rfl, h9⟩; (first | have NB9 := Lib.hid (NB.out.keep h9) | have NB9 := Lib.hid ((Box.new w8 #[.int .i64 0, .int .i64 0] 65 (n := w8.heap.size) rfl).keep h9) | skip); have hB9 : Below w2.heap.size w2 w9 := below_via (by (repeat' (first | (with_reducible exact Below.refl _ _) | (with_reducible assumption) | (with_reducible refine Below.drew ?_) | (with_reducible refine below_drewN ?_ _) | (with_reducible refine Below.setCell ?_ ?_ _) | (with_reducible refine Below.alloc ?_ ?_ _) | go_size | omega))) h9; clear h9; have hz9 := hB9.size; obtain ⟨k0', k1', k2'⟩ := K.out w9 hB9; (first | (obtain ⟨o0, o1, f0, f1⟩ := NB9.out.two; have lo := NB9.out.lt) | skip)))
    all_goals
      go_wp2_with fail
      go_meet
      refine ⟨_, rfl, rfl, ?_, by (repeat' (first | (with_reducible exact Below.refl _ _) | (with_reducible assumption) | (with_reducible refine Below.drew ?_) | (with_reducible refine below_drewN ?_ _) | (with_reducible refine Below.setCell ?_ ?_ _) | (with_reducible refine Below.alloc ?_ ?_ _) | go_size | omega))⟩
      first
        | (with_reducible exact Box.new _ _ _ rfl)
        | exact (NB9.out.set 0 _).set 1 _
  obtain ⟨nb5, rfl, rfl, hnb, hcB⟩ := hcut
  obtain ⟨v5, rfl⟩ : ∃ x : World, x = wc := ⟨_, rfl⟩
  have BB5 : Below w.heap.size w v5 := below_via B2 hcB
  have GG5 := Lib.hid (G2.out.keep hcB); have RR5 := Lib.hid hnb
  have zz5 := hcB.size
  clear hcB hnb G2 lg5 
  go_upto_region 6 with fail
  have lg6 := GG5.out.lt
  go_cut [9, 10] (fun s5 s6 wx => ∃ nb : Nat, s5 = .pointer (some ⟨nb, 0, none⟩) ∧ s6 = .int .i64 E ∧ Box wx nb #[.int .i64 0, .int .i64 0] 65 ∧ Below v5.heap.size v5 wx)
  case first =>
    have K := Lib.hid (fun (w' : World) (hw : Below v5.heap.size v5 w') => show (w'.cell? ⟨w.heap.size, 0, none⟩ = some (.int .i64 A) ∧ w'.cell? ⟨w.heap.size, 1, none⟩ = some (.int .i64 B) ∧ w'.cell? ⟨w.heap.size, 2, none⟩ = some (.int .i64 M)) from ⟨(GG5.out.keep hw).cell 0, (GG5.out.keep hw).cell 1, (GG5.out.keep hw).cell 2⟩)
    go_region_held3 (fun w' => (w'.cell? ⟨w.heap.size, 0, none⟩ = some (.int .i64 A) ∧ w'.cell? ⟨w.heap.size, 1, none⟩ = some (.int .i64 B) ∧ w'.cell? ⟨w.heap.size, 2, none⟩ = some (.int .i64 M)))
      ((refine K.out _ ?_; (repeat' (first | (with_reducible exact Below.refl _ _) | (with_reducible assumption) | (with_reducible refine Below.drew ?_) | (with_reducible refine below_drewN ?_ _) | (with_reducible refine Below.setCell ?_ ?_ _) | (with_reducible refine Below.alloc ?_ ?_ _) | go_size | omega)); done))
      (first | (go_at_call 35; refine (CC.out _ (HP.out.keep (below_via BB5 (by (repeat' (first | (with_reducible exact Below.refl _ _) | (with_reducible assumption) | (with_reducible refine Below.drew ?_) | (with_reducible refine below_drewN ?_ _) | (with_reducible refine Below.setCell ?_ ?_ _) | (with_reducible refine Below.alloc ?_ ?_ _) | go_size | omega)))))).mono ?_; rintro e w8 ⟨⟨b8, c8, rfl, hq8⟩, h8⟩; have HQ8 := Lib.hid hq8; (first | have NB := Lib.hid ((Box.new v5 #[.int .i64 0, .int .i64 0] 65 (n := v5.heap.size) rfl).keep h8) | have NB := Lib.hid ((Box.new v5.drew #[.int .i64 0, .int .i64 0] 65 (n := v5.heap.size) rfl).keep h8) | skip); have hB8 : Below v5.heap.size v5 w8 := below_via (by (repeat' (first | (with_reducible exact Below.refl _ _) | (with_reducible assumption) | (with_reducible refine Below.drew ?_) | (with_reducible refine below_drewN ?_ _) | (with_reducible refine Below.setCell ?_ ?_ _) | (with_reducible refine Below.alloc ?_ ?_ _) | go_size | omega))) h8; clear h8 hq8; have hz8 := hB8.size; obtain ⟨k0, k1, k2⟩ := K.out w8 hB8) | (go_at_call 47; refine (CM.out _ _ _ (liUp HQ8.out (by (repeat' (first | (with_reducible exact Below.refl _ _) | (with_reducible assumption) | (with_reducible refine Below.drew ?_) | (with_reducible refine below_drewN ?_ _) | (with_reducible refine Below.setCell ?_ ?_ _) | (with_reducible refine Below.alloc ?_ ?_ _) | go_size | omega))))).mono ?_; rintro e w9 ⟨rfl, h9⟩; (first | have NB9 := Lib.hid (NB.out.keep h9) | have NB9 := Lib.hid ((Box.new w8 #[.int .i64 0, .int .i64 0] 65 (n := w8.heap.size) rfl).keep h9) | skip); have hB9 : Below v5.heap.size v5 w9 := below_via (by (repeat' (first | (with_reducible exact Below.refl _ _) | (with_reducible assumption) | (with_reducible refine Below.drew ?_) | (with_reducible refine below_drewN ?_ _) | (with_reducible refine Below.setCell ?_ ?_ _) | (with_reducible refine Below.alloc ?_ ?_ _) | go_size | omega))) h9; clear h9; have hz9 := hB9.size; obtain ⟨k0', k1', k2'⟩ := K.out w9 hB9; (first | (obtain ⟨o0, o1, f0, f1⟩ := NB9.out.two; have lo := NB9.out.lt) | skip)))
    all_goals
      go_wp2_with fail
      go_meet
      refine ⟨_, rfl, rfl, ?_, by (repeat' (first | (with_reducible exact Below.refl _ _) | (with_reducible assumption) | (with_reducible refine Below.drew ?_) | (with_reducible refine below_drewN ?_ _) | (with_reducible refine Below.setCell ?_ ?_ _) | (with_reducible refine Below.alloc ?_ ?_ _) | go_size | omega))⟩
      first
        | (with_reducible exact Box.new _ _ _ rfl)
        | exact (NB9.out.set 0 _).set 1 _
  obtain ⟨nb6, rfl, rfl, hnb, hcB⟩ := hcut
  obtain ⟨v6, rfl⟩ : ∃ x : World, x = wc := ⟨_, rfl⟩
  have BB6 : Below w.heap.size w v6 := below_via BB5 hcB
  have GG6 := Lib.hid (GG5.out.keep hcB); have RR6 := Lib.hid hnb
  have RR5_6 := Lib.hid (RR5.out.keep hcB)
  have zz6 := hcB.size
  clear hcB hnb GG5 lg6 RR5
  obtain ⟨u0, u1, u2, -⟩ := GG6.out.three
  have lg6 := GG6.out.lt
  go_wp2_with fail
  clear u0 u1 u2 lg6
  refine (CK.out _ (HP.out.keep BB6)).mono ?_
  rintro e v7 ⟨rfl, h⟩
  have BB7 := below_via BB6 h
  have GG7 := Lib.hid (GG6.out.keep h); have RRa := Lib.hid (RR5_6.out.keep h); have RRb := Lib.hid (RR6.out.keep h)
  have zz7 := h.size
  clear h GG6 RR5_6 RR6 CK
  obtain ⟨g0, g1, g2, -⟩ := GG7.out.three
  obtain ⟨ra0, ra1, -⟩ := RRa.out.two
  obtain ⟨rb0, rb1, -⟩ := RRb.out.two
  have la := RRa.out.lt; have lb := RRb.out.lt; have lg := GG7.out.lt
  rcases hd with ⟨rfl, h0⟩ | ⟨rfl, rfl, hx⟩
  · have hb0 : (E0 == 0) = false := hbE
    clear hE
    go_wp2_with fail
    go_ret
    exact ⟨by simp, BB7⟩
  · go_wp2_with (go_at_call 25; refine (Within_any _ _ _ _).mono ?_; rintro e w' ⟨rfl, rfl⟩)
    go_ret
    exact ⟨by simp, BB7⟩
set_option maxRecDepth 100000 in
set_option maxHeartbeats 6400000 in
theorem bends_D (A B M x s0 s1 m0 m1 a1 b1 : Int) (L : List (Int × Int)) (a : Option Addr) (cap : Nat) (w : World) (hl : L.length ≤ 9223372036854775807) (hp : LdAt w a L) (hsm : smL L = true) (hE : girE A B M L = 0) (hx : inR x A B = true)
    (CS : Hid (∀ (b' cap' : Nat) (u : World), LoadsIn u.heap.size u (.slice (some ⟨b', 0, none⟩) L.length cap') L → Calls Try.prog 46 #[gir A B M, .slice (some ⟨b', 0, none⟩) L.length cap', .int .i64 x] u fun e w' => e = .returned (.tuple #[fr1 s0 s1, .int .i64 0]) ∧ Below u.heap.size u w'))
    (CM : Hid (∀ (b' cap' : Nat) (u : World), LoadsIn u.heap.size u (.slice (some ⟨b', 0, none⟩) L.length cap') L → Calls Try.prog 47 #[gir A B M, .slice (some ⟨b', 0, none⟩) L.length cap', .int .i64 x] u fun e w' => e = .returned (.tuple #[fr1 m0 m1, .int .i64 0]) ∧ Below u.heap.size u w'))
    (CA : Hid (∀ (b' cap' : Nat) (u : World), LoadsIn u.heap.size u (.slice (some ⟨b', 0, none⟩) L.length cap') L → Calls Try.prog 47 #[gir A B M, .slice (some ⟨b', 0, none⟩) L.length cap', .int .i64 A] u fun e w' => e = .returned (.tuple #[fr1 0 a1, .int .i64 0]) ∧ Below u.heap.size u w'))
    (CB : Hid (∀ (b' cap' : Nat) (u : World), LoadsIn u.heap.size u (.slice (some ⟨b', 0, none⟩) L.length cap') L → Calls Try.prog 47 #[gir A B M, .slice (some ⟨b', 0, none⟩) L.length cap', .int .i64 B] u fun e w' => e = .returned (.tuple #[fr1 0 b1, .int .i64 0]) ∧ Below u.heap.size u w'))
    (RS : Hid (∀ (u : World), LdAt u a L → Calls Try.prog 48 #[gir A B M, .slice a L.length cap, .int .i64 x] u fun e w' => e = .returned (fr1 s0 s1) ∧ Below u.heap.size u w'))
    (RM : Hid (∀ (u : World), LdAt u a L → Calls Try.prog 49 #[gir A B M, .slice a L.length cap, .int .i64 x] u fun e w' => e = .returned (fr1 m0 m1) ∧ Below u.heap.size u w')) :
    Calls Try.prog 10 #[gir A B M, .slice a L.length cap, .int .i64 x] w fun e w' => e = .returned (.bool true) ∧ Below w.heap.size w w' := by
  have hl4 : L.length ≤ 400 := by unfold smL at hsm; simp at hsm; omega
  have CC := Lib.hid (fun (u : World) (h : LdAt u a L) => loads_any L a cap u hl4 h)
  have CK := Lib.hid (fun (u : World) (h : LdAt u a L) => gcheck_any A B M L a cap u hl4 h)
  rw [hE] at CK
  have AW := Lib.hid (fun u => awake3_any u)
  have CF := Lib.hid (fun u => some_any L a cap u hl)
  rw [hsm] at CF
  have HP := Lib.hid hp; clear hp hsm
  go_enter Try.func10, Try.ntmps10
  go_wp2_with fail
  refine (AW.out _).mono ?_
  rintro e w1 ⟨rfl, h⟩
  have B1 : Below w.heap.size w w1 := below_via (by (repeat' (first | (with_reducible exact Below.refl _ _) | (with_reducible assumption) | (with_reducible refine Below.drew ?_) | (with_reducible refine below_drewN ?_ _) | (with_reducible refine Below.setCell ?_ ?_ _) | (with_reducible refine Below.alloc ?_ ?_ _) | go_size | omega))) h
  have G1 := Lib.hid ((Box.new w #[.int .i64 A, .int .i64 B, .int .i64 M] 71 (n := w.heap.size) rfl).keep h)
  have z1 := h.size
  simp at z1
  clear h AW
  go_wp2_with fail
  refine (CF.out _).mono ?_
  rintro e w2 ⟨rfl, h⟩
  have B2 : Below w.heap.size w w2 := below_via B1 h
  have G2 := Lib.hid (G1.out.keep h)
  have z2 := h.size
  clear h G1 CF
  go_upto_region 5 with fail
  have lg5 := G2.out.lt
  go_cut [7, 8] (fun s5 s6 wx => ∃ nb : Nat, s5 = .pointer (some ⟨nb, 0, none⟩) ∧ s6 = .int .i64 0 ∧ Box wx nb #[.int .i64 s0, .int .i64 s1] 65 ∧ Below w2.heap.size w2 wx)
  case first =>
    have K := Lib.hid (fun (w' : World) (hw : Below w2.heap.size w2 w') => show (w'.cell? ⟨w.heap.size, 0, none⟩ = some (.int .i64 A) ∧ w'.cell? ⟨w.heap.size, 1, none⟩ = some (.int .i64 B) ∧ w'.cell? ⟨w.heap.size, 2, none⟩ = some (.int .i64 M)) from ⟨(G2.out.keep hw).cell 0, (G2.out.keep hw).cell 1, (G2.out.keep hw).cell 2⟩)
    go_region_held3 (fun w' => (w'.cell? ⟨w.heap.size, 0, none⟩ = some (.int .i64 A) ∧ w'.cell? ⟨w.heap.size, 1, none⟩ = some (.int .i64 B) ∧ w'.cell? ⟨w.heap.size, 2, none⟩ = some (.int .i64 M)))
      ((refine K.out _ ?_; (repeat' (first | (with_reducible exact Below.refl _ _) | (with_reducible assumption) | (with_reducible refine Below.drew ?_) | (with_reducible refine below_drewN ?_ _) | (with_reducible refine Below.setCell ?_ ?_ _) | (with_reducible refine Below.alloc ?_ ?_ _) | go_size | omega)); done))
      (first | (go_at_call 35; refine (CC.out _ (HP.out.keep (below_via B2 (by (repeat' (first | (with_reducible exact Below.refl _ _) | (with_reducible assumption) | (with_reducible refine Below.drew ?_) | (with_reducible refine below_drewN ?_ _) | (with_reducible refine Below.setCell ?_ ?_ _) | (with_reducible refine Below.alloc ?_ ?_ _) | go_size | omega)))))).mono ?_; rintro e w8 ⟨⟨b8, c8, rfl, hq8⟩, h8⟩; have HQ8 := Lib.hid hq8; (first | have NB := Lib.hid ((Box.new w2 #[.int .i64 0, .int .i64 0] 65 (n := w2.heap.size) rfl).keep h8) | have NB := Lib.hid ((Box.new w2.drew #[.int .i64 0, .int .i64 0] 65 (n := w2.heap.size) rfl).keep h8) | skip); have hB8 : Below w2.heap.size w2 w8 := below_via (by (repeat' (first | (with_reducible exact Below.refl _ _) | (with_reducible assumption) | (with_reducible refine Below.drew ?_) | (with_reducible refine below_drewN ?_ _) | (with_reducible refine Below.setCell ?_ ?_ _) | (with_reducible refine Below.alloc ?_ ?_ _) | go_size | omega))) h8; clear h8 hq8; have hz8 := hB8.size; obtain ⟨k0, k1, k2⟩ := K.out w8 hB8) | (go_at_call 46; refine (CS.out _ _ _ (liUp HQ8.out (by (repeat' (first | (with_reducible exact Below.refl _ _) | (with_reducible assumption) | (with_reducible refine Below.drew ?_) | (with_reducible refine below_drewN ?_ _) | (with_reducible refine Below.setCell ?_ ?_ _) | (with_reducible refine Below.alloc ?_ ?_ _) | go_size | omega))))).mono ?_; rintro e w9 ⟨rfl, h9⟩; (first | have NB9 := Lib.hid (NB.out.keep h9) | have NB9 := Lib.hid ((Box.new w8 #[.int .i64 0, .int .i64 0] 65 (n := w8.heap.size) rfl).keep h9) | skip); have hB9 : Below w2.heap.size w2 w9 := below_via (by (repeat' (first | (with_reducible exact Below.refl _ _) | (with_reducible assumption) | (with_reducible refine Below.drew ?_) | (with_reducible refine below_drewN ?_ _) | (with_reducible refine Below.setCell ?_ ?_ _) | (with_reducible refine Below.alloc ?_ ?_ _) | go_size | omega))) h9; clear h9; have hz9 := hB9.size; obtain ⟨k0', k1', k2'⟩ := K.out w9 hB9; (first | (obtain ⟨o0, o1, f0, f1⟩ := NB9.out.two; have lo := NB9.out.lt) | skip)))
    all_goals
      go_wp2_with fail
      go_meet
      refine ⟨_, rfl, rfl, ?_, by (repeat' (first | (with_reducible exact Below.refl _ _) | (with_reducible assumption) | (with_reducible refine Below.drew ?_) | (with_reducible refine below_drewN ?_ _) | (with_reducible refine Below.setCell ?_ ?_ _) | (with_reducible refine Below.alloc ?_ ?_ _) | go_size | omega))⟩
      first
        | (with_reducible exact Box.new _ _ _ rfl)
        | exact (NB9.out.set 0 _).set 1 _
  obtain ⟨nb5, rfl, rfl, hnb, hcB⟩ := hcut
  obtain ⟨v5, rfl⟩ : ∃ x : World, x = wc := ⟨_, rfl⟩
  have BB5 : Below w.heap.size w v5 := below_via B2 hcB
  have GG5 := Lib.hid (G2.out.keep hcB); have RR5 := Lib.hid hnb
  have zz5 := hcB.size
  clear hcB hnb G2 lg5 
  go_upto_region 6 with fail
  have lg6 := GG5.out.lt
  go_cut [9, 10] (fun s5 s6 wx => ∃ nb : Nat, s5 = .pointer (some ⟨nb, 0, none⟩) ∧ s6 = .int .i64 0 ∧ Box wx nb #[.int .i64 m0, .int .i64 m1] 65 ∧ Below v5.heap.size v5 wx)
  case first =>
    have K := Lib.hid (fun (w' : World) (hw : Below v5.heap.size v5 w') => show (w'.cell? ⟨w.heap.size, 0, none⟩ = some (.int .i64 A) ∧ w'.cell? ⟨w.heap.size, 1, none⟩ = some (.int .i64 B) ∧ w'.cell? ⟨w.heap.size, 2, none⟩ = some (.int .i64 M)) from ⟨(GG5.out.keep hw).cell 0, (GG5.out.keep hw).cell 1, (GG5.out.keep hw).cell 2⟩)
    go_region_held3 (fun w' => (w'.cell? ⟨w.heap.size, 0, none⟩ = some (.int .i64 A) ∧ w'.cell? ⟨w.heap.size, 1, none⟩ = some (.int .i64 B) ∧ w'.cell? ⟨w.heap.size, 2, none⟩ = some (.int .i64 M)))
      ((refine K.out _ ?_; (repeat' (first | (with_reducible exact Below.refl _ _) | (with_reducible assumption) | (with_reducible refine Below.drew ?_) | (with_reducible refine below_drewN ?_ _) | (with_reducible refine Below.setCell ?_ ?_ _) | (with_reducible refine Below.alloc ?_ ?_ _) | go_size | omega)); done))
      (first | (go_at_call 35; refine (CC.out _ (HP.out.keep (below_via BB5 (by (repeat' (first | (with_reducible exact Below.refl _ _) | (with_reducible assumption) | (with_reducible refine Below.drew ?_) | (with_reducible refine below_drewN ?_ _) | (with_reducible refine Below.setCell ?_ ?_ _) | (with_reducible refine Below.alloc ?_ ?_ _) | go_size | omega)))))).mono ?_; rintro e w8 ⟨⟨b8, c8, rfl, hq8⟩, h8⟩; have HQ8 := Lib.hid hq8; (first | have NB := Lib.hid ((Box.new v5 #[.int .i64 0, .int .i64 0] 65 (n := v5.heap.size) rfl).keep h8) | have NB := Lib.hid ((Box.new v5.drew #[.int .i64 0, .int .i64 0] 65 (n := v5.heap.size) rfl).keep h8) | skip); have hB8 : Below v5.heap.size v5 w8 := below_via (by (repeat' (first | (with_reducible exact Below.refl _ _) | (with_reducible assumption) | (with_reducible refine Below.drew ?_) | (with_reducible refine below_drewN ?_ _) | (with_reducible refine Below.setCell ?_ ?_ _) | (with_reducible refine Below.alloc ?_ ?_ _) | go_size | omega))) h8; clear h8 hq8; have hz8 := hB8.size; obtain ⟨k0, k1, k2⟩ := K.out w8 hB8) | (go_at_call 47; refine (CM.out _ _ _ (liUp HQ8.out (by (repeat' (first | (with_reducible exact Below.refl _ _) | (with_reducible assumption) | (with_reducible refine Below.drew ?_) | (with_reducible refine below_drewN ?_ _) | (with_reducible refine Below.setCell ?_ ?_ _) | (with_reducible refine Below.alloc ?_ ?_ _) | go_size | omega))))).mono ?_; rintro e w9 ⟨rfl, h9⟩; (first | have NB9 := Lib.hid (NB.out.keep h9) | have NB9 := Lib.hid ((Box.new w8 #[.int .i64 0, .int .i64 0] 65 (n := w8.heap.size) rfl).keep h9) | skip); have hB9 : Below v5.heap.size v5 w9 := below_via (by (repeat' (first | (with_reducible exact Below.refl _ _) | (with_reducible assumption) | (with_reducible refine Below.drew ?_) | (with_reducible refine below_drewN ?_ _) | (with_reducible refine Below.setCell ?_ ?_ _) | (with_reducible refine Below.alloc ?_ ?_ _) | go_size | omega))) h9; clear h9; have hz9 := hB9.size; obtain ⟨k0', k1', k2'⟩ := K.out w9 hB9; (first | (obtain ⟨o0, o1, f0, f1⟩ := NB9.out.two; have lo := NB9.out.lt) | skip)))
    all_goals
      go_wp2_with fail
      go_meet
      refine ⟨_, rfl, rfl, ?_, by (repeat' (first | (with_reducible exact Below.refl _ _) | (with_reducible assumption) | (with_reducible refine Below.drew ?_) | (with_reducible refine below_drewN ?_ _) | (with_reducible refine Below.setCell ?_ ?_ _) | (with_reducible refine Below.alloc ?_ ?_ _) | go_size | omega))⟩
      first
        | (with_reducible exact Box.new _ _ _ rfl)
        | exact (NB9.out.set 0 _).set 1 _
  obtain ⟨nb6, rfl, rfl, hnb, hcB⟩ := hcut
  obtain ⟨v6, rfl⟩ : ∃ x : World, x = wc := ⟨_, rfl⟩
  have BB6 : Below w.heap.size w v6 := below_via BB5 hcB
  have GG6 := Lib.hid (GG5.out.keep hcB); have RR6 := Lib.hid hnb
  have RR5_6 := Lib.hid (RR5.out.keep hcB)
  have zz6 := hcB.size
  clear hcB hnb GG5 lg6 RR5
  obtain ⟨u0, u1, u2, -⟩ := GG6.out.three
  have lg6 := GG6.out.lt
  go_wp2_with fail
  clear u0 u1 u2 lg6
  refine (CK.out _ (HP.out.keep BB6)).mono ?_
  rintro e v7 ⟨rfl, h⟩
  have BB7 := below_via BB6 h
  have GG7 := Lib.hid (GG6.out.keep h); have RRa := Lib.hid (RR5_6.out.keep h); have RRb := Lib.hid (RR6.out.keep h)
  have zz7 := h.size
  clear h GG6 RR5_6 RR6 CK
  obtain ⟨g0, g1, g2, -⟩ := GG7.out.three
  have lg := GG7.out.lt
  go_wp2_with (go_at_call 25; refine (Within_any _ _ _ _).mono ?_; rintro e w' ⟨rfl, hww⟩; obtain rfl : v7 = w' := hww.symm)
  clear g0 g1 g2 lg
  go_upto_region 12 with fail
  have lg8 := GG7.out.lt
  go_cut [12, 13] (fun s5 s6 wx => ∃ nb : Nat, s5 = .pointer (some ⟨nb, 0, none⟩) ∧ s6 = .int .i64 0 ∧ Box wx nb #[.int .i64 0, .int .i64 a1] 65 ∧ Below v7.heap.size v7 wx)
  case first =>
    have K := Lib.hid (fun (w' : World) (hw : Below v7.heap.size v7 w') => show (w'.cell? ⟨w.heap.size, 0, none⟩ = some (.int .i64 A) ∧ w'.cell? ⟨w.heap.size, 1, none⟩ = some (.int .i64 B) ∧ w'.cell? ⟨w.heap.size, 2, none⟩ = some (.int .i64 M)) from ⟨(GG7.out.keep hw).cell 0, (GG7.out.keep hw).cell 1, (GG7.out.keep hw).cell 2⟩)
    go_region_held3 (fun w' => (w'.cell? ⟨w.heap.size, 0, none⟩ = some (.int .i64 A) ∧ w'.cell? ⟨w.heap.size, 1, none⟩ = some (.int .i64 B) ∧ w'.cell? ⟨w.heap.size, 2, none⟩ = some (.int .i64 M)))
      ((refine K.out _ ?_; (repeat' (first | (with_reducible exact Below.refl _ _) | (with_reducible assumption) | (with_reducible refine Below.drew ?_) | (with_reducible refine below_drewN ?_ _) | (with_reducible refine Below.setCell ?_ ?_ _) | (with_reducible refine Below.alloc ?_ ?_ _) | go_size | omega)); done))
      (first | (go_at_call 35; refine (CC.out _ (HP.out.keep (below_via BB7 (by (repeat' (first | (with_reducible exact Below.refl _ _) | (with_reducible assumption) | (with_reducible refine Below.drew ?_) | (with_reducible refine below_drewN ?_ _) | (with_reducible refine Below.setCell ?_ ?_ _) | (with_reducible refine Below.alloc ?_ ?_ _) | go_size | omega)))))).mono ?_; rintro e w8 ⟨⟨b8, c8, rfl, hq8⟩, h8⟩; have HQ8 := Lib.hid hq8; (first | have NB := Lib.hid ((Box.new v7 #[.int .i64 0, .int .i64 0] 65 (n := v7.heap.size) rfl).keep h8) | have NB := Lib.hid ((Box.new v7.drew #[.int .i64 0, .int .i64 0] 65 (n := v7.heap.size) rfl).keep h8) | skip); have hB8 : Below v7.heap.size v7 w8 := below_via (by (repeat' (first | (with_reducible exact Below.refl _ _) | (with_reducible assumption) | (with_reducible refine Below.drew ?_) | (with_reducible refine below_drewN ?_ _) | (with_reducible refine Below.setCell ?_ ?_ _) | (with_reducible refine Below.alloc ?_ ?_ _) | go_size | omega))) h8; clear h8 hq8; have hz8 := hB8.size; obtain ⟨k0, k1, k2⟩ := K.out w8 hB8) | (go_at_call 47; refine (CA.out _ _ _ (liUp HQ8.out (by (repeat' (first | (with_reducible exact Below.refl _ _) | (with_reducible assumption) | (with_reducible refine Below.drew ?_) | (with_reducible refine below_drewN ?_ _) | (with_reducible refine Below.setCell ?_ ?_ _) | (with_reducible refine Below.alloc ?_ ?_ _) | go_size | omega))))).mono ?_; rintro e w9 ⟨rfl, h9⟩; (first | have NB9 := Lib.hid (NB.out.keep h9) | have NB9 := Lib.hid ((Box.new w8 #[.int .i64 0, .int .i64 0] 65 (n := w8.heap.size) rfl).keep h9) | skip); have hB9 : Below v7.heap.size v7 w9 := below_via (by (repeat' (first | (with_reducible exact Below.refl _ _) | (with_reducible assumption) | (with_reducible refine Below.drew ?_) | (with_reducible refine below_drewN ?_ _) | (with_reducible refine Below.setCell ?_ ?_ _) | (with_reducible refine Below.alloc ?_ ?_ _) | go_size | omega))) h9; clear h9; have hz9 := hB9.size; obtain ⟨k0', k1', k2'⟩ := K.out w9 hB9; (first | (obtain ⟨o0, o1, f0, f1⟩ := NB9.out.two; have lo := NB9.out.lt) | skip)))
    all_goals
      go_wp2_with fail
      go_meet
      refine ⟨_, rfl, rfl, ?_, by (repeat' (first | (with_reducible exact Below.refl _ _) | (with_reducible assumption) | (with_reducible refine Below.drew ?_) | (with_reducible refine below_drewN ?_ _) | (with_reducible refine Below.setCell ?_ ?_ _) | (with_reducible refine Below.alloc ?_ ?_ _) | go_size | omega))⟩
      first
        | (with_reducible exact Box.new _ _ _ rfl)
        | exact (NB9.out.set 0 _).set 1 _
  obtain ⟨nb8, rfl, rfl, hnb, hcB⟩ := hcut
  obtain ⟨v8, rfl⟩ : ∃ x : World, x = wc := ⟨_, rfl⟩
  have BB8 : Below w.heap.size w v8 := below_via BB7 hcB
  have GG8 := Lib.hid (GG7.out.keep hcB); have RR8 := Lib.hid hnb
  have RRa_8 := Lib.hid (RRa.out.keep hcB)
  have RRb_8 := Lib.hid (RRb.out.keep hcB)
  have zz8 := hcB.size
  clear hcB hnb GG7 lg8 RRa RRb
  go_upto_region 13 with fail
  have lg9 := GG8.out.lt
  go_cut [14, 15] (fun s5 s6 wx => ∃ nb : Nat, s5 = .pointer (some ⟨nb, 0, none⟩) ∧ s6 = .int .i64 0 ∧ Box wx nb #[.int .i64 0, .int .i64 b1] 65 ∧ Below v8.heap.size v8 wx)
  case first =>
    have K := Lib.hid (fun (w' : World) (hw : Below v8.heap.size v8 w') => show (w'.cell? ⟨w.heap.size, 0, none⟩ = some (.int .i64 A) ∧ w'.cell? ⟨w.heap.size, 1, none⟩ = some (.int .i64 B) ∧ w'.cell? ⟨w.heap.size, 2, none⟩ = some (.int .i64 M)) from ⟨(GG8.out.keep hw).cell 0, (GG8.out.keep hw).cell 1, (GG8.out.keep hw).cell 2⟩)
    go_region_held3 (fun w' => (w'.cell? ⟨w.heap.size, 0, none⟩ = some (.int .i64 A) ∧ w'.cell? ⟨w.heap.size, 1, none⟩ = some (.int .i64 B) ∧ w'.cell? ⟨w.heap.size, 2, none⟩ = some (.int .i64 M)))
      ((refine K.out _ ?_; (repeat' (first | (with_reducible exact Below.refl _ _) | (with_reducible assumption) | (with_reducible refine Below.drew ?_) | (with_reducible refine below_drewN ?_ _) | (with_reducible refine Below.setCell ?_ ?_ _) | (with_reducible refine Below.alloc ?_ ?_ _) | go_size | omega)); done))
      (first | (go_at_call 35; refine (CC.out _ (HP.out.keep (below_via BB8 (by (repeat' (first | (with_reducible exact Below.refl _ _) | (with_reducible assumption) | (with_reducible refine Below.drew ?_) | (with_reducible refine below_drewN ?_ _) | (with_reducible refine Below.setCell ?_ ?_ _) | (with_reducible refine Below.alloc ?_ ?_ _) | go_size | omega)))))).mono ?_; rintro e w8 ⟨⟨b8, c8, rfl, hq8⟩, h8⟩; have HQ8 := Lib.hid hq8; (first | have NB := Lib.hid ((Box.new v8 #[.int .i64 0, .int .i64 0] 65 (n := v8.heap.size) rfl).keep h8) | have NB := Lib.hid ((Box.new v8.drew #[.int .i64 0, .int .i64 0] 65 (n := v8.heap.size) rfl).keep h8) | skip); have hB8 : Below v8.heap.size v8 w8 := below_via (by (repeat' (first | (with_reducible exact Below.refl _ _) | (with_reducible assumption) | (with_reducible refine Below.drew ?_) | (with_reducible refine below_drewN ?_ _) | (with_reducible refine Below.setCell ?_ ?_ _) | (with_reducible refine Below.alloc ?_ ?_ _) | go_size | omega))) h8; clear h8 hq8; have hz8 := hB8.size; obtain ⟨k0, k1, k2⟩ := K.out w8 hB8) | (go_at_call 47; refine (CB.out _ _ _ (liUp HQ8.out (by (repeat' (first | (with_reducible exact Below.refl _ _) | (with_reducible assumption) | (with_reducible refine Below.drew ?_) | (with_reducible refine below_drewN ?_ _) | (with_reducible refine Below.setCell ?_ ?_ _) | (with_reducible refine Below.alloc ?_ ?_ _) | go_size | omega))))).mono ?_; rintro e w9 ⟨rfl, h9⟩; (first | have NB9 := Lib.hid (NB.out.keep h9) | have NB9 := Lib.hid ((Box.new w8 #[.int .i64 0, .int .i64 0] 65 (n := w8.heap.size) rfl).keep h9) | skip); have hB9 : Below v8.heap.size v8 w9 := below_via (by (repeat' (first | (with_reducible exact Below.refl _ _) | (with_reducible assumption) | (with_reducible refine Below.drew ?_) | (with_reducible refine below_drewN ?_ _) | (with_reducible refine Below.setCell ?_ ?_ _) | (with_reducible refine Below.alloc ?_ ?_ _) | go_size | omega))) h9; clear h9; have hz9 := hB9.size; obtain ⟨k0', k1', k2'⟩ := K.out w9 hB9; (first | (obtain ⟨o0, o1, f0, f1⟩ := NB9.out.two; have lo := NB9.out.lt) | skip)))
    all_goals
      go_wp2_with fail
      go_meet
      refine ⟨_, rfl, rfl, ?_, by (repeat' (first | (with_reducible exact Below.refl _ _) | (with_reducible assumption) | (with_reducible refine Below.drew ?_) | (with_reducible refine below_drewN ?_ _) | (with_reducible refine Below.setCell ?_ ?_ _) | (with_reducible refine Below.alloc ?_ ?_ _) | go_size | omega))⟩
      first
        | (with_reducible exact Box.new _ _ _ rfl)
        | exact (NB9.out.set 0 _).set 1 _
  obtain ⟨nb9, rfl, rfl, hnb, hcB⟩ := hcut
  obtain ⟨v9, rfl⟩ : ∃ x : World, x = wc := ⟨_, rfl⟩
  have BB9 : Below w.heap.size w v9 := below_via BB8 hcB
  have GG9 := Lib.hid (GG8.out.keep hcB); have RR9 := Lib.hid hnb
  have RRa_9 := Lib.hid (RRa_8.out.keep hcB)
  have RRb_9 := Lib.hid (RRb_8.out.keep hcB)
  have RR8_9 := Lib.hid (RR8.out.keep hcB)
  have zz9 := hcB.size
  clear hcB hnb GG8 lg9 RRa_8 RRb_8 RR8
  have l1 := RRa_9.out.lt; have l2 := RRb_9.out.lt; have l3 := RR8_9.out.lt; have l4 := RR9.out.lt; have l5 := GG9.out.lt
  go_wp2_with fail
  have K := Lib.hid (fun (w' : World) (hw : Below (v9.heap.size) v9 w') => show (w'.cell? ⟨nb5, 0, none⟩ = some (.int .i64 s0) ∧ w'.cell? ⟨nb5, 1, none⟩ = some (.int .i64 s1)) ∧ (w'.cell? ⟨nb6, 0, none⟩ = some (.int .i64 m0) ∧ w'.cell? ⟨nb6, 1, none⟩ = some (.int .i64 m1)) ∧ (w'.cell? ⟨nb8, 0, none⟩ = some (.int .i64 0) ∧ w'.cell? ⟨nb8, 1, none⟩ = some (.int .i64 a1)) ∧ (w'.cell? ⟨nb9, 0, none⟩ = some (.int .i64 0) ∧ w'.cell? ⟨nb9, 1, none⟩ = some (.int .i64 b1)) ∧ (w'.cell? ⟨w.heap.size, 0, none⟩ = some (.int .i64 A) ∧ w'.cell? ⟨w.heap.size, 1, none⟩ = some (.int .i64 B) ∧ w'.cell? ⟨w.heap.size, 2, none⟩ = some (.int .i64 M)) from ⟨⟨(Box.keepB (by omega) (RRa_9.out) hw).cell 0, (Box.keepB (by omega) (RRa_9.out) hw).cell 1⟩, ⟨(Box.keepB (by omega) (RRb_9.out) hw).cell 0, (Box.keepB (by omega) (RRb_9.out) hw).cell 1⟩, ⟨(Box.keepB (by omega) (RR8_9.out) hw).cell 0, (Box.keepB (by omega) (RR8_9.out) hw).cell 1⟩, ⟨(Box.keepB (by omega) (RR9.out) hw).cell 0, (Box.keepB (by omega) (RR9.out) hw).cell 1⟩, ⟨(Box.keepB (by omega) (GG9.out) hw).cell 0, (Box.keepB (by omega) (GG9.out) hw).cell 1, (Box.keepB (by omega) (GG9.out) hw).cell 2⟩⟩)
  go_region_held3 (fun w' => (w'.cell? ⟨nb5, 0, none⟩ = some (.int .i64 s0) ∧ w'.cell? ⟨nb5, 1, none⟩ = some (.int .i64 s1)) ∧ (w'.cell? ⟨nb6, 0, none⟩ = some (.int .i64 m0) ∧ w'.cell? ⟨nb6, 1, none⟩ = some (.int .i64 m1)) ∧ (w'.cell? ⟨nb8, 0, none⟩ = some (.int .i64 0) ∧ w'.cell? ⟨nb8, 1, none⟩ = some (.int .i64 a1)) ∧ (w'.cell? ⟨nb9, 0, none⟩ = some (.int .i64 0) ∧ w'.cell? ⟨nb9, 1, none⟩ = some (.int .i64 b1)) ∧ (w'.cell? ⟨w.heap.size, 0, none⟩ = some (.int .i64 A) ∧ w'.cell? ⟨w.heap.size, 1, none⟩ = some (.int .i64 B) ∧ w'.cell? ⟨w.heap.size, 2, none⟩ = some (.int .i64 M)))
    ((refine K.out _ ?_; (repeat' (first | (with_reducible exact Below.refl _ _) | (with_reducible assumption) | (with_reducible refine Below.drew ?_) | (with_reducible refine below_drewN ?_ _) | (with_reducible refine Below.setCell ?_ ?_ _) | (with_reducible refine Below.alloc ?_ ?_ _) | go_size | omega)); done))
    (first | (go_at_call 48; refine (RS.out _ (HP.out.keep (below_via BB9 (by (repeat' (first | (with_reducible exact Below.refl _ _) | (with_reducible assumption) | (with_reducible refine Below.drew ?_) | (with_reducible refine below_drewN ?_ _) | (with_reducible refine Below.setCell ?_ ?_ _) | (with_reducible refine Below.alloc ?_ ?_ _) | go_size | omega)))))).mono ?_; rintro e w20 ⟨rfl, h20⟩; have hB20 : Below v9.heap.size v9 w20 := below_via (by (repeat' (first | (with_reducible exact Below.refl _ _) | (with_reducible assumption) | (with_reducible refine Below.drew ?_) | (with_reducible refine below_drewN ?_ _) | (with_reducible refine Below.setCell ?_ ?_ _) | (with_reducible refine Below.alloc ?_ ?_ _) | go_size | omega))) h20; clear h20; have hz20 := hB20.size; have hW20 : Below (v9.heap.size) v9 w20 := hB20.mono (by omega); obtain ⟨⟨k0_0, k0_1⟩, ⟨k1_0, k1_1⟩, ⟨k2_0, k2_1⟩, ⟨k3_0, k3_1⟩, ⟨k4_0, k4_1, k4_2⟩⟩ := K.out w20 hW20) | (go_at_call 49; refine (RM.out _ (HP.out.keep (below_via BB9 (by (repeat' (first | (with_reducible exact Below.refl _ _) | (with_reducible assumption) | (with_reducible refine Below.drew ?_) | (with_reducible refine below_drewN ?_ _) | (with_reducible refine Below.setCell ?_ ?_ _) | (with_reducible refine Below.alloc ?_ ?_ _) | go_size | omega)))))).mono ?_; rintro e w21 ⟨rfl, h21⟩; have hB21 : Below v9.heap.size v9 w21 := below_via (by (repeat' (first | (with_reducible exact Below.refl _ _) | (with_reducible assumption) | (with_reducible refine Below.drew ?_) | (with_reducible refine below_drewN ?_ _) | (with_reducible refine Below.setCell ?_ ?_ _) | (with_reducible refine Below.alloc ?_ ?_ _) | go_size | omega))) h21; clear h21; have hz21 := hB21.size; have hW21 : Below (v9.heap.size) v9 w21 := hB21.mono (by omega); obtain ⟨⟨k0_0, k0_1⟩, ⟨k1_0, k1_1⟩, ⟨k2_0, k2_1⟩, ⟨k3_0, k3_1⟩, ⟨k4_0, k4_1, k4_2⟩⟩ := K.out w21 hW21))
  all_goals
    have B21 := below_via BB9 hB21
    go_wp2_with fail
    go_ret
    exact ⟨by simp, B21⟩
theorem shearV (A B M x : Int) (L : List (Int × Int)) (a : Option Addr) (cap : Nat) (w : World) (hw : Wid A B) (ho : okY A B L) (hp : LoadsIn w.heap.size w (.slice a L.length cap) L) :
    Calls Try.prog 84 #[lad A B M (.slice a L.length cap), .int .i64 x] w fun e w' => e = .returned (.int .i64 (sL (fA B) L L.length - sC x (fS A B) L L.length)) ∧ Below w.heap.size w w' := by
  have h := callsIn_wide.1 (shear_in Fence.wide 4 trivial trivial trivial trivial trivial rfl (by omega) A B M x a L.length cap L (by have := ho.1; omega) w hp hw.1 hw.2.1 _ (sumA_eq hw ho) _ (sumB_eq hw ho))
  rwa [foS_eq hw ho (sA_in hw ho (Nat.le_refl _))] at h
theorem bendV (A B M x : Int) (L : List (Int × Int)) (a : Option Addr) (cap : Nat) (w : World) (hw : Wid A B) (ho : okY A B L) (hx : A ≤ x ∧ x ≤ B) (hp : LoadsIn w.heap.size w (.slice a L.length cap) L) :
    Calls Try.prog 85 #[lad A B M (.slice a L.length cap), .int .i64 x] w fun e w' => e = .returned (.int .i64 (sL (fA B) L L.length * (x - A) - sC x (fM A B x) L L.length)) ∧ Below w.heap.size w w' := by
  have ra := sA_in hw ho (k := L.length) (Nat.le_refl _)
  have h := callsIn_wide.1 (bending_in Fence.wide 4 trivial trivial trivial trivial trivial rfl (by omega) A B M x a L.length cap L (by have := ho.1; omega) w hp hw.1 hw.2.1 _ (sumA_eq hw ho) hx ra _ (sumB_eq hw ho))
  have rm := mul_bd ra.1 ra.2 (show -40000 ≤ x - A by have := hw; unfold Wid at this; omega) (show x - A ≤ 40000 by have := hw; unfold Wid at this; omega)
  rwa [foM_eq hw ho hx (by omega)] at h
theorem red0 (d : Int) : redN 0 d = 0 := by unfold redN; simp
theorem bendN {A B x : Int} {L : List (Int × Int)} (hw : Wid A B) (ho : okY A B L) (hx : A ≤ x ∧ x ≤ B) : -4000000000000000000 ≤ sL (fA B) L L.length * (x - A) - sC x (fM A B x) L L.length ∧ sL (fA B) L L.length * (x - A) - sC x (fM A B x) L L.length ≤ 4000000000000000000 := by
  have ra := sA_in hw ho (k := L.length) (Nat.le_refl _)
  have sm := sM_in hw ho hx (k := L.length) (Nat.le_refl _)
  have rm := mul_bd ra.1 ra.2 (show -40000 ≤ x - A by have := hw; unfold Wid at this; omega) (show x - A ≤ 40000 by have := hw; unfold Wid at this; omega)
  omega
theorem vbad (A B M x E : Int) (fv : Nat) (L : List (Int × Int)) (a : Option Addr) (cap : Nat) (w : World) (hl : L.length ≤ 400) (hE : girE A B M L = E) (hne : E ≠ 0) (hp : LoadsIn w.heap.size w (.slice a L.length cap) L) :
    Calls Try.prog 83 #[gir A B M, .slice a L.length cap, .int .i64 x, .func (.func fv) #[] #[]] w fun e w' => e = .returned (.tuple #[fr1 0 0, .int .i64 E]) ∧ Below w.heap.size w w' := by
  by_cases h1 : chkG A B M = 0
  · have h2 : chkL A B L = E := by unfold girE at hE; rwa [if_neg (by simpa using h1)] at hE
    refine vatBad_any E A B M x A B M fv a L.length cap a L.length cap w hne (Lib.hid fun u hu => ?_)
    have := ladenOk_any A B M L a cap u (by omega) h1 ((LoadsIn.toAt hp (Nat.le_refl _)).1.keep hu)
    rwa [h2] at this
  · have h2 : chkG A B M = E := by unfold girE at hE; rwa [if_pos h1] at hE
    exact vatBad_any E A B M x 0 0 0 fv none 0 0 a L.length cap w hne (Lib.hid fun u _ => ladenBad_any E A B M a L.length cap u h2 hne)
theorem vout (A B M x : Int) (fv : Nat) (L : List (Int × Int)) (a : Option Addr) (cap : Nat) (w : World) (hl : L.length ≤ 400) (hG : chkG A B M = 0) (hL : chkL A B L = 0) (hx : inR x A B = false) (hp : LoadsIn w.heap.size w (.slice a L.length cap) L) :
    Calls Try.prog 83 #[gir A B M, .slice a L.length cap, .int .i64 x, .func (.func fv) #[] #[]] w fun e w' => e = .returned (.tuple #[fr1 0 0, .int .i64 2]) ∧ Below w.heap.size w w' := by
  refine vatOut_any A B M x A B M fv a L.length cap a L.length cap w hx (Lib.hid fun u hu => ?_)
  have := ladenOk_any A B M L a cap u (by omega) hG ((LoadsIn.toAt hp (Nat.le_refl _)).1.keep hu)
  rwa [hL] at this
theorem lawBendsA (A B M : Int) (L : List (Int × Int)) (a : Option Addr) (cap : Nat) (x : Int) (w : World) (_ : I64 A) (_ : I64 B) (_ : I64 M) (hp : LdAt w a L) (hl : L.length ≤ 9223372036854775807) (_ : ∀ y ∈ L, I64 y.1 ∧ I64 y.2) (_ : -9223372036854775808 ≤ x ∧ x ≤ 9223372036854775807) :
    Calls Try.prog 10 #[gir A B M, .slice a L.length cap, .int .i64 x] w fun e w' => e = .returned (.bool true) ∧ Below w.heap.size w w' := by
  cases hsm : smL L
  · exact bends_A A B M x L a cap w hl hp hsm
  · have hl4 : L.length ≤ 400 := by unfold smL at hsm; simp at hsm; omega
    by_cases hE : girE A B M L = 0
    · have hG : chkG A B M = 0 := by
        unfold girE at hE; split at hE
        · contradiction
        · rename_i h; simpa using h
      have hL : chkL A B L = 0 := by unfold girE at hE; rwa [if_neg (by simpa using hG)] at hE
      cases hx : inR x A B
      · exact bends_B A B M x 2 0 L a cap w hl hp hsm hE (by decide) (.inr ⟨rfl, rfl, hx⟩)
          (Lib.hid fun b' c' u h => Shear_via A B M x 2 0 0 _ _ _ u (Lib.hid fun v hv => vout A B M x _ L _ c' v hl4 hG hL hx (liUp h hv)))
          (Lib.hid fun b' c' u h => Bending_via A B M x 2 0 0 _ _ _ u (Lib.hid fun v hv => vout A B M x _ L _ c' v hl4 hG hL hx (liUp h hv)))
      · obtain ⟨g0, g1, g2, -⟩ := chkG_ok hG
        have hw : Wid A B := ⟨g0, g1, g2⟩
        have ho := okY_of hL
        have hxx : A ≤ x ∧ x ≤ B := by unfold inR at hx; simpa using hx
        have ra := sA_in hw ho (k := L.length) (Nat.le_refl _)
        have ss := sS_in (x := x) hw ho (k := L.length) (Nat.le_refl _)
        have hA : inR A A B = true := by unfold inR; simp; omega
        have hB : inR B A B = true := by unfold inR; simp; omega
        have za : sL (fA B) L L.length * (A - A) - sC A (fM A B A) L L.length = 0 := by rw [bend_A ho _ (Nat.le_refl _), Int.sub_self]; simp
        have zb : sL (fA B) L L.length * (B - A) - sC B (fM A B B) L L.length = 0 := by rw [bend_B ho _ (Nat.le_refl _)]; omega
        exact bends_D A B M x _ _ _ _ _ _ L a cap w hl hp hsm hE hx
          (Lib.hid fun b' c' u h => Shear_via A B M x 0 _ _ _ _ _ u (Lib.hid fun v hv => vatS_any A B M x _ L _ c' v hl hG hL hx (by omega) (liUp h hv) (Lib.hid fun z hz => shearV A B M x L _ c' z hw ho hz)))
          (Lib.hid fun b' c' u h => Bending_via A B M x 0 _ _ _ _ _ u (Lib.hid fun v hv => vatM_any A B M x _ L _ c' v hl hG hL hx (bendN hw ho hxx) (liUp h hv) (Lib.hid fun z hz => bendV A B M x L _ c' z hw ho hxx hz)))
          (Lib.hid fun b' c' u h => by
            have := Bending_via A B M A 0 _ _ _ _ _ u (Lib.hid fun v hv => vatM_any A B M A 0 L _ c' v hl hG hL hA (by omega) (liUp h hv) (Lib.hid fun z hz => by
              have := bendV A B M A L _ c' z hw ho ⟨Int.le_refl _, by omega⟩ hz
              rwa [za] at this))
            rwa [red0] at this)
          (Lib.hid fun b' c' u h => by
            have := Bending_via A B M B 0 _ _ _ _ _ u (Lib.hid fun v hv => vatM_any A B M B 0 L _ c' v hl hG hL hB (by omega) (liUp h hv) (Lib.hid fun z hz => by
              have := bendV A B M B L _ c' z hw ho ⟨by omega, Int.le_refl _⟩ hz
              rwa [zb] at this))
            rwa [red0] at this)
          (Lib.hid fun u h => rshear_any A B M x L a cap u hw ho h)
          (Lib.hid fun u h => rBend_any A B M x L a cap u hw ho hxx h)
    · exact bends_B A B M x _ _ L a cap w hl hp hsm rfl hE (.inl ⟨rfl, hE⟩)
        (Lib.hid fun b' c' u h => Shear_via A B M x _ 0 0 _ _ _ u (Lib.hid fun v hv => vbad A B M x _ _ L _ c' v hl4 rfl hE (liUp h hv)))
        (Lib.hid fun b' c' u h => Bending_via A B M x _ 0 0 _ _ _ u (Lib.hid fun v hv => vbad A B M x _ _ L _ c' v hl4 rfl hE (liUp h hv)))
end Go.Proofs.Ytnfpmaenikhoaaa
