/-
  Girders: a girder with its loads; its reactions.
-/
import Derived.Test.YtnfpmaenikhoaaaGsm
import Derived.Test.YtnfpmaenikhoaaaDi3
import Derived.Test.YtnfpmaenikhoaaaDi4
namespace Go.Proofs.Ytnfpmaenikhoaaa
open Go.RowKit
theorem LoadsIn.toAt {n : Nat} {w : World} {a : Option Addr} {len cap : Nat} {L : List (Int × Int)} (h : LoadsIn n w (.slice a len cap) L) (hn : n ≤ w.heap.size) : LdAt w a L ∧ len = L.length := by
  rcases h with ⟨e, rfl⟩ | ⟨b, off, c, e, hb, hc⟩
  · cases e; exact ⟨.inl rfl, rfl⟩
  · cases e; exact ⟨.inr ⟨b, off, rfl, by omega, hc⟩, rfl⟩
set_option maxRecDepth 100000 in
set_option maxHeartbeats 1600000 in
theorem ladenBad_any (E A B M : Int) (a : Option Addr) (len cap : Nat) (w : World) (hE : chkG A B M = E) (hne : E ≠ 0) :
    Calls Try.prog 80 #[gir A B M, .slice a len cap] w fun e w' => e = .returned (.tuple #[lad 0 0 0 (.slice none 0 0), .int .i64 E]) ∧ Below w.heap.size w w' := by
  have CK := Lib.hid (fun (u : World) => chkG_any A B M u)
  rw [hE] at CK
  have hb : (E == 0) = false := by simpa using hne
  clear hE hne
  go_enter Try.func80, Try.ntmps80
  go_wp2_with fail
  refine (CK.out _).mono ?_
  rintro e w1 ⟨rfl, h⟩
  have B1 : Below w.heap.size w w1 := below_via (by (repeat' (first | (with_reducible exact Below.refl _ _) | (with_reducible assumption) | (with_reducible refine Below.drew ?_) | (with_reducible refine below_drewN ?_ _) | (with_reducible refine Below.setCell ?_ ?_ _) | (with_reducible refine Below.alloc ?_ ?_ _) | go_size | omega))) h
  have R1 := Lib.hid ((Box.new (w.alloc (.cells #[.int .i64 A, .int .i64 B, .int .i64 M] 71)) #[.int .i64 0, .int .i64 0, .int .i64 0, .slice none 0 0] 119 (n := w.heap.size + 1) (by simp)).keep h)
  clear h CK
  obtain ⟨n0, n1, n2, n3, f0, f1, f2, f3⟩ := R1.out.four
  have l0 := R1.out.lt
  go_wp2_with fail
  clear n0 n1 n2 n3 f0 f1 f2 f3
  have RV : Box ((((w1.setCell ⟨w.heap.size + 1, 0, none⟩ (.int .i64 0)).setCell ⟨w.heap.size + 1, 1, none⟩ (.int .i64 0)).setCell ⟨w.heap.size + 1, 2, none⟩ (.int .i64 0)).setCell ⟨w.heap.size + 1, 3, none⟩ (.slice none 0 0)) (w.heap.size + 1) #[.int .i64 0, .int .i64 0, .int .i64 0, .slice none 0 0] 119 := (((R1.out.set 0 _).set 1 _).set 2 _).set 3 _
  have BV : Below w.heap.size w ((((w1.setCell ⟨w.heap.size + 1, 0, none⟩ (.int .i64 0)).setCell ⟨w.heap.size + 1, 1, none⟩ (.int .i64 0)).setCell ⟨w.heap.size + 1, 2, none⟩ (.int .i64 0)).setCell ⟨w.heap.size + 1, 3, none⟩ (.slice none 0 0)) := by (repeat' (first | (with_reducible exact Below.refl _ _) | (with_reducible assumption) | (with_reducible refine Below.drew ?_) | (with_reducible refine below_drewN ?_ _) | (with_reducible refine Below.setCell ?_ ?_ _) | (with_reducible refine Below.alloc ?_ ?_ _) | go_size | omega))
  generalize ((((w1.setCell ⟨w.heap.size + 1, 0, none⟩ (.int .i64 0)).setCell ⟨w.heap.size + 1, 1, none⟩ (.int .i64 0)).setCell ⟨w.heap.size + 1, 2, none⟩ (.int .i64 0)).setCell ⟨w.heap.size + 1, 3, none⟩ (.slice none 0 0)) = v at *
  have s0 := RV.cell 0; have s1 := RV.cell 1; have s2 := RV.cell 2; have s3 := RV.cell 3
  simp at s0 s1 s2 s3
  refine bodyPost_ret (v := .tuple #[lad 0 0 0 (.slice none 0 0), .int .i64 E]) (by simp [results, Try.results80, go_sem, s0, s1, s2, s3]) rfl ⟨rfl, BV⟩
set_option maxRecDepth 100000 in
set_option maxHeartbeats 1600000 in
theorem ladenOk_any (A B M : Int) (L : List (Int × Int)) (a : Option Addr) (cap : Nat) (w : World) (hl : L.length ≤ 9223372036854775807) (hE : chkG A B M = 0) (hp : LdAt w a L) :
    Calls Try.prog 80 #[gir A B M, .slice a L.length cap] w fun e w' => e = .returned (.tuple #[lad A B M (.slice a L.length cap), .int .i64 (chkL A B L)]) ∧ Below w.heap.size w w' := by
  have CK := Lib.hid (fun (u : World) => chkG_any A B M u)
  rw [hE] at CK
  have CL := Lib.hid (fun (u : World) (h : LdAt u a L) => chkL_any A B L a cap u hl h)
  have HP := Lib.hid hp
  clear hE hp
  generalize chkL A B L = E at *
  go_enter Try.func80, Try.ntmps80
  go_wp2_with fail
  refine (CK.out _).mono ?_
  rintro e w1 ⟨rfl, h⟩
  have B1 : Below w.heap.size w w1 := below_via (by (repeat' (first | (with_reducible exact Below.refl _ _) | (with_reducible assumption) | (with_reducible refine Below.drew ?_) | (with_reducible refine below_drewN ?_ _) | (with_reducible refine Below.setCell ?_ ?_ _) | (with_reducible refine Below.alloc ?_ ?_ _) | go_size | omega))) h
  have R0 := Lib.hid (((Box.new w #[.int .i64 A, .int .i64 B, .int .i64 M] 71 (n := w.heap.size) rfl).alloc (.cells #[.int .i64 0, .int .i64 0, .int .i64 0, .slice none 0 0] 119)).keep h)
  have R1 := Lib.hid ((Box.new (w.alloc (.cells #[.int .i64 A, .int .i64 B, .int .i64 M] 71)) #[.int .i64 0, .int .i64 0, .int .i64 0, .slice none 0 0] 119 (n := w.heap.size + 1) (by simp)).keep h)
  have z1 := h.size
  simp at z1
  clear h CK
  have l0 := R0.out.lt
  have l1 := R1.out.lt
  go_wp2_with fail
  have K := Lib.hid (fun (w' : World) (hw : Below (w.heap.size + 1) w1 w') => show (w'.cell? ⟨w.heap.size, 0, none⟩ = some (.int .i64 A) ∧ w'.cell? ⟨w.heap.size, 1, none⟩ = some (.int .i64 B) ∧ w'.cell? ⟨w.heap.size, 2, none⟩ = some (.int .i64 M)) from ⟨(Box.keepB (by omega) (R0.out) hw).cell 0, (Box.keepB (by omega) (R0.out) hw).cell 1, (Box.keepB (by omega) (R0.out) hw).cell 2⟩)
  go_region_held3 (fun w' => (w'.cell? ⟨w.heap.size, 0, none⟩ = some (.int .i64 A) ∧ w'.cell? ⟨w.heap.size, 1, none⟩ = some (.int .i64 B) ∧ w'.cell? ⟨w.heap.size, 2, none⟩ = some (.int .i64 M)))
    ((refine K.out _ ?_; (repeat' (first | (with_reducible exact Below.refl _ _) | (with_reducible assumption) | (with_reducible refine Below.drew ?_) | (with_reducible refine below_drewN ?_ _) | (with_reducible refine Below.setCell ?_ ?_ _) | (with_reducible refine Below.alloc ?_ ?_ _) | go_size | omega)); done))
    (first | (go_at_call 72; refine (CL.out _ (HP.out.keep (below_via B1 (by (repeat' (first | (with_reducible exact Below.refl _ _) | (with_reducible assumption) | (with_reducible refine Below.drew ?_) | (with_reducible refine below_drewN ?_ _) | (with_reducible refine Below.setCell ?_ ?_ _) | (with_reducible refine Below.alloc ?_ ?_ _) | go_size | omega)))))).mono ?_; rintro e w8 ⟨rfl, h8⟩; have hB8 : Below w1.heap.size w1 w8 := below_via (by (repeat' (first | (with_reducible exact Below.refl _ _) | (with_reducible assumption) | (with_reducible refine Below.drew ?_) | (with_reducible refine below_drewN ?_ _) | (with_reducible refine Below.setCell ?_ ?_ _) | (with_reducible refine Below.alloc ?_ ?_ _) | go_size | omega))) h8; clear h8; have hz8 := hB8.size; have hW8 : Below (w.heap.size + 1) w1 w8 := hB8.mono (by omega); obtain ⟨k0_0, k0_1, k0_2⟩ := K.out w8 hW8; obtain ⟨o0, o1, o2, o3, f0, f1, f2, f3⟩ := (R1.out.keep hB8).four; have lo := (R1.out.keep hB8).lt))
  all_goals
    have BW := B1
    have RV : Box ((((w8.setCell ⟨w.heap.size + 1, 0, none⟩ (.int .i64 A)).setCell ⟨w.heap.size + 1, 1, none⟩ (.int .i64 B)).setCell ⟨w.heap.size + 1, 2, none⟩ (.int .i64 M)).setCell ⟨w.heap.size + 1, 3, none⟩ (.slice a L.length cap)) (w.heap.size + 1) #[.int .i64 A, .int .i64 B, .int .i64 M, .slice a L.length cap] 119 := (((((R1.out.keep hB8).set 0 _).set 1 _).set 2 _).set 3 _)
    have BL : Below w.heap.size w w8 := below_via BW hB8
    have BV : Below w.heap.size w ((((w8.setCell ⟨w.heap.size + 1, 0, none⟩ (.int .i64 A)).setCell ⟨w.heap.size + 1, 1, none⟩ (.int .i64 B)).setCell ⟨w.heap.size + 1, 2, none⟩ (.int .i64 M)).setCell ⟨w.heap.size + 1, 3, none⟩ (.slice a L.length cap)) := by (repeat' (first | (with_reducible exact Below.refl _ _) | (with_reducible assumption) | (with_reducible refine Below.drew ?_) | (with_reducible refine below_drewN ?_ _) | (with_reducible refine Below.setCell ?_ ?_ _) | (with_reducible refine Below.alloc ?_ ?_ _) | go_size | omega))
    generalize ((((w8.setCell ⟨w.heap.size + 1, 0, none⟩ (.int .i64 A)).setCell ⟨w.heap.size + 1, 1, none⟩ (.int .i64 B)).setCell ⟨w.heap.size + 1, 2, none⟩ (.int .i64 M)).setCell ⟨w.heap.size + 1, 3, none⟩ (.slice a L.length cap)) = v at *
    have s0 := RV.cell 0
    have s1 := RV.cell 1
    have s2 := RV.cell 2
    have s3 := RV.cell 3
    simp at s0 s1 s2 s3
    go_wp2_with fail
    refine bodyPost_ret (v := .tuple #[lad A B M (.slice a L.length cap), .int .i64 E]) (by simp [results, Try.results80, go_sem, s0, s1, s2, s3]) rfl ⟨rfl, BV⟩
abbrev fr2 (a b c d : Int) : Value := .agg #[.int .i64 a, .int .i64 b, .int .i64 c, .int .i64 d]
set_option maxRecDepth 100000 in
set_option maxHeartbeats 1600000 in
theorem reaBad_any (E A B M c0 c1 c2 : Int) (a' : Option Addr) (len' cap' : Nat) (a : Option Addr) (len cap : Nat) (w : World) (hne : E ≠ 0)
    (CK : Hid (∀ u : World, Below w.heap.size w u → Calls Try.prog 80 #[gir A B M, .slice a len cap] u fun e w' => e = .returned (.tuple #[lad c0 c1 c2 (.slice a' len' cap'), .int .i64 E]) ∧ Below u.heap.size u w')) :
    Calls Try.prog 41 #[gir A B M, .slice a len cap] w fun e w' => e = .returned (.tuple #[fr2 0 0 0 0, .int .i64 E]) ∧ Below w.heap.size w w' := by
  have hb : (E == 0) = false := by simpa using hne
  clear hne
  go_enter Try.func41, Try.ntmps41
  go_wp2_with fail
  refine (CK.out _ (by (repeat' (first | (with_reducible exact Below.refl _ _) | (with_reducible assumption) | (with_reducible refine Below.drew ?_) | (with_reducible refine below_drewN ?_ _) | (with_reducible refine Below.setCell ?_ ?_ _) | (with_reducible refine Below.alloc ?_ ?_ _) | go_size | omega)))).mono ?_
  rintro e w1 ⟨rfl, h⟩
  have B1 : Below w.heap.size w w1 := below_via (by (repeat' (first | (with_reducible exact Below.refl _ _) | (with_reducible assumption) | (with_reducible refine Below.drew ?_) | (with_reducible refine below_drewN ?_ _) | (with_reducible refine Below.setCell ?_ ?_ _) | (with_reducible refine Below.alloc ?_ ?_ _) | go_size | omega))) h
  have R1 := Lib.hid ((Box.new (w.alloc (.cells #[.int .i64 A, .int .i64 B, .int .i64 M] 71)) #[.int .i64 0, .int .i64 0, .int .i64 0, .int .i64 0] 67 (n := w.heap.size + 1) (by simp)).keep h)
  have z1 := h.size
  simp at z1
  clear h CK
  obtain ⟨n0, n1, n2, n3, f0, f1, f2, f3⟩ := R1.out.four
  have l0 := R1.out.lt
  go_wp2_with fail
  clear n0 n1 n2 n3 f0 f1 f2 f3
  have RV : Box (((((w1.setCell ⟨w.heap.size + 1, 0, none⟩ (.int .i64 0)).setCell ⟨w.heap.size + 1, 1, none⟩ (.int .i64 0)).setCell ⟨w.heap.size + 1, 2, none⟩ (.int .i64 0)).setCell ⟨w.heap.size + 1, 3, none⟩ (.int .i64 0)).alloc (.cells #[.int .i64 c0, .int .i64 c1, .int .i64 c2, .slice a' len' cap'] 119)) (w.heap.size + 1) #[.int .i64 0, .int .i64 0, .int .i64 0, .int .i64 0] 67 := (((((R1.out.set 0 _).set 1 _).set 2 _).set 3 _).alloc _)
  have BV : Below w.heap.size w (((((w1.setCell ⟨w.heap.size + 1, 0, none⟩ (.int .i64 0)).setCell ⟨w.heap.size + 1, 1, none⟩ (.int .i64 0)).setCell ⟨w.heap.size + 1, 2, none⟩ (.int .i64 0)).setCell ⟨w.heap.size + 1, 3, none⟩ (.int .i64 0)).alloc (.cells #[.int .i64 c0, .int .i64 c1, .int .i64 c2, .slice a' len' cap'] 119)) := by (repeat' (first | (with_reducible exact Below.refl _ _) | (with_reducible assumption) | (with_reducible refine Below.drew ?_) | (with_reducible refine below_drewN ?_ _) | (with_reducible refine Below.setCell ?_ ?_ _) | (with_reducible refine Below.alloc ?_ ?_ _) | go_size | omega))
  generalize (((((w1.setCell ⟨w.heap.size + 1, 0, none⟩ (.int .i64 0)).setCell ⟨w.heap.size + 1, 1, none⟩ (.int .i64 0)).setCell ⟨w.heap.size + 1, 2, none⟩ (.int .i64 0)).setCell ⟨w.heap.size + 1, 3, none⟩ (.int .i64 0)).alloc (.cells #[.int .i64 c0, .int .i64 c1, .int .i64 c2, .slice a' len' cap'] 119)) = v at *
  have s0 := RV.cell 0
  have s1 := RV.cell 1
  have s2 := RV.cell 2
  have s3 := RV.cell 3
  simp at s0 s1 s2 s3
  go_wp2_with fail
  refine bodyPost_ret (v := .tuple #[fr2 0 0 0 0, .int .i64 E]) (by simp [results, Try.results41, go_sem, s0, s1, s2, s3]) rfl ⟨rfl, BV⟩
set_option maxRecDepth 100000 in
set_option maxHeartbeats 1600000 in
theorem reaOk_any (A B M RA RB : Int) (L : List (Int × Int)) (a : Option Addr) (cap : Nat) (w : World) (hl : L.length ≤ 9223372036854775807) (hG : chkG A B M = 0) (hL : chkL A B L = 0) (hp : LoadsIn w.heap.size w (.slice a L.length cap) L) (hA : sL (fA B) L L.length = RA) (hB : sL (fB A) L L.length = RB) :
    Calls Try.prog 41 #[gir A B M, .slice a L.length cap] w fun e w' => e = .returned (.tuple #[fr2 (redN RA (B - A)) (redD RA (B - A)) (redN RB (B - A)) (redD RB (B - A)), .int .i64 0]) ∧ Below w.heap.size w w' := by
  obtain ⟨g0, g1, g2, -⟩ := chkG_ok hG
  have hw : Wid A B := ⟨g0, g1, g2⟩
  have ho := okY_of hL
  have ra := sA_in hw ho (k := L.length) (Nat.le_refl _)
  have rb := sB_in hw ho (k := L.length) (Nat.le_refl _)
  have CK := Lib.hid (fun (u : World) (h : LdAt u a L) => ladenOk_any A B M L a cap u hl hG h)
  rw [hL] at CK
  have hlen := ho.1
  have CR := Lib.hid (fun (u : World) (h : LoadsIn u.heap.size u (.slice a L.length cap) L) => reactions_any A B M a L.length cap L (by omega) u h)
  rw [sumA_eq hw ho, sumB_eq hw ho, hA, hB] at CR
  rw [hA] at ra; rw [hB] at rb
  have CA := Lib.hid (fun (u : World) => over_any A B M RA a L.length cap u g0 g1 g2 (by omega) (by omega))
  have CB := Lib.hid (fun (u : World) => over_any A B M RB a L.length cap u g0 g1 g2 (by omega) (by omega))
  have HP := Lib.hid hp
  have HPa := Lib.hid (LoadsIn.toAt hp (Nat.le_refl _)).1
  clear hG hL hp hA hB ra rb ho hw g0 g1 g2
  go_enter Try.func41, Try.ntmps41
  go_wp2_with fail
  refine (CK.out _ (HPa.out.keep (by (repeat' (first | (with_reducible exact Below.refl _ _) | (with_reducible assumption) | (with_reducible refine Below.drew ?_) | (with_reducible refine below_drewN ?_ _) | (with_reducible refine Below.setCell ?_ ?_ _) | (with_reducible refine Below.alloc ?_ ?_ _) | go_size | omega))))).mono ?_
  rintro e w1 ⟨rfl, h⟩
  have B1 : Below w.heap.size w w1 := below_via (by (repeat' (first | (with_reducible exact Below.refl _ _) | (with_reducible assumption) | (with_reducible refine Below.drew ?_) | (with_reducible refine below_drewN ?_ _) | (with_reducible refine Below.setCell ?_ ?_ _) | (with_reducible refine Below.alloc ?_ ?_ _) | go_size | omega))) h
  have R1 := Lib.hid ((Box.new (w.alloc (.cells #[.int .i64 A, .int .i64 B, .int .i64 M] 71)) #[.int .i64 0, .int .i64 0, .int .i64 0, .int .i64 0] 67 (n := w.heap.size + 1) (by simp)).keep h)
  have z1 := h.size
  simp at z1
  clear h CK
  go_wp2_with fail
  refine (CR.out _ (by
    have e := HP.out.below (show Below w.heap.size w (w1.alloc (.cells #[.int .i64 A, .int .i64 B, .int .i64 M, .slice a L.length cap] 119)) by (repeat' (first | (with_reducible exact Below.refl _ _) | (with_reducible assumption) | (with_reducible refine Below.drew ?_) | (with_reducible refine below_drewN ?_ _) | (with_reducible refine Below.setCell ?_ ?_ _) | (with_reducible refine Below.alloc ?_ ?_ _) | go_size | omega)))
    rcases e with h | ⟨b, o, c, e1, e2, e3⟩
    · exact .inl h
    · exact .inr ⟨b, o, c, e1, by simp; omega, e3⟩)).mono ?_
  rintro e w3 ⟨rfl, h⟩
  have B3 : Below w.heap.size w w3 := below_via (by (repeat' (first | (with_reducible exact Below.refl _ _) | (with_reducible assumption) | (with_reducible refine Below.drew ?_) | (with_reducible refine below_drewN ?_ _) | (with_reducible refine Below.setCell ?_ ?_ _) | (with_reducible refine Below.alloc ?_ ?_ _) | go_size | omega))) h
  have R3 := Lib.hid ((R1.out.alloc (.cells #[.int .i64 A, .int .i64 B, .int .i64 M, .slice a L.length cap] 119)).keep h)
  have D3 := Lib.hid ((Box.new w1 #[.int .i64 A, .int .i64 B, .int .i64 M, .slice a L.length cap] 119 (n := w1.heap.size) rfl).keep h)
  have z3 := h.size
  simp at z3
  clear h CR R1 HP HPa
  have lr := R3.out.lt
  have ld := D3.out.lt
  go_wp2_with fail
  have K := Lib.hid (fun (w' : World) (hw : Below (w3.heap.size) w3 w') => show (w'.cell? ⟨w1.heap.size, 0, none⟩ = some (.int .i64 A) ∧ w'.cell? ⟨w1.heap.size, 1, none⟩ = some (.int .i64 B) ∧ w'.cell? ⟨w1.heap.size, 2, none⟩ = some (.int .i64 M) ∧ w'.cell? ⟨w1.heap.size, 3, none⟩ = some (.slice a L.length cap)) from ⟨(Box.keepB (by omega) (D3.out) hw).cell 0, (Box.keepB (by omega) (D3.out) hw).cell 1, (Box.keepB (by omega) (D3.out) hw).cell 2, (Box.keepB (by omega) (D3.out) hw).cell 3⟩)
  go_region_held3 (fun w' => (w'.cell? ⟨w1.heap.size, 0, none⟩ = some (.int .i64 A) ∧ w'.cell? ⟨w1.heap.size, 1, none⟩ = some (.int .i64 B) ∧ w'.cell? ⟨w1.heap.size, 2, none⟩ = some (.int .i64 M) ∧ w'.cell? ⟨w1.heap.size, 3, none⟩ = some (.slice a L.length cap)))
    ((first | (refine K.out _ ?_; (repeat' (first | (with_reducible exact Below.refl _ _) | (with_reducible assumption) | (with_reducible refine Below.drew ?_) | (with_reducible refine below_drewN ?_ _) | (with_reducible refine Below.setCell ?_ ?_ _) | (with_reducible refine Below.alloc ?_ ?_ _) | go_size | omega)); done) | (refine ⟨?_, ?_, ?_, ?_⟩ <;> (rw [World.cell?_setCell_far _ _ _ _ (by simp; omega), World.cell?_setCell_far _ _ _ _ (by simp; omega), World.cell?_setCell_far _ _ _ _ (by simp; omega), World.cell?_setCell_far _ _ _ _ (by simp; omega)]; assumption))))
    (first | (go_at_call 76; (with_reducible refine (CA.out _).mono ?_); rintro e w8 ⟨rfl, h8⟩; have hB8 : Below w3.heap.size w3 w8 := below_via (by (repeat' (first | (with_reducible exact Below.refl _ _) | (with_reducible assumption) | (with_reducible refine Below.drew ?_) | (with_reducible refine below_drewN ?_ _) | (with_reducible refine Below.setCell ?_ ?_ _) | (with_reducible refine Below.alloc ?_ ?_ _) | go_size | omega))) h8; clear h8; have hz8 := hB8.size; have hW8 : Below (w3.heap.size) w3 w8 := hB8.mono (by omega); obtain ⟨k0_0, k0_1, k0_2, k0_3⟩ := K.out w8 hW8) | (go_at_call 76; (with_reducible refine (CB.out _).mono ?_); rintro e w9 ⟨rfl, h9⟩; have hB9 : Below w3.heap.size w3 w9 := below_via (by (repeat' (first | (with_reducible exact Below.refl _ _) | (with_reducible assumption) | (with_reducible refine Below.drew ?_) | (with_reducible refine below_drewN ?_ _) | (with_reducible refine Below.setCell ?_ ?_ _) | (with_reducible refine Below.alloc ?_ ?_ _) | go_size | omega))) h9; clear h9; have hz9 := hB9.size; have hW9 : Below (w3.heap.size) w3 w9 := hB9.mono (by omega); obtain ⟨k0_0, k0_1, k0_2, k0_3⟩ := K.out w9 hW9; obtain ⟨o0, o1, o2, o3, f0, f1, f2, f3⟩ := (R3.out.keep hB9).four; have lo := (R3.out.keep hB9).lt))
  all_goals
    have BW := B3
    have RV : Box ((((w9.setCell ⟨w.heap.size + 1, 0, none⟩ (.int .i64 (redN RA (B - A)))).setCell ⟨w.heap.size + 1, 1, none⟩ (.int .i64 (redD RA (B - A)))).setCell ⟨w.heap.size + 1, 2, none⟩ (.int .i64 (redN RB (B - A)))).setCell ⟨w.heap.size + 1, 3, none⟩ (.int .i64 (redD RB (B - A)))) (w.heap.size + 1) #[.int .i64 (redN RA (B - A)), .int .i64 (redD RA (B - A)), .int .i64 (redN RB (B - A)), .int .i64 (redD RB (B - A))] 67 := (((((R3.out.keep hB9).set 0 _).set 1 _).set 2 _).set 3 _)
    have BL : Below w.heap.size w w9 := below_via BW hB9
    have BV : Below w.heap.size w ((((w9.setCell ⟨w.heap.size + 1, 0, none⟩ (.int .i64 (redN RA (B - A)))).setCell ⟨w.heap.size + 1, 1, none⟩ (.int .i64 (redD RA (B - A)))).setCell ⟨w.heap.size + 1, 2, none⟩ (.int .i64 (redN RB (B - A)))).setCell ⟨w.heap.size + 1, 3, none⟩ (.int .i64 (redD RB (B - A)))) := by (repeat' (first | (with_reducible exact Below.refl _ _) | (with_reducible assumption) | (with_reducible refine Below.drew ?_) | (with_reducible refine below_drewN ?_ _) | (with_reducible refine Below.setCell ?_ ?_ _) | (with_reducible refine Below.alloc ?_ ?_ _) | go_size | omega))
    generalize ((((w9.setCell ⟨w.heap.size + 1, 0, none⟩ (.int .i64 (redN RA (B - A)))).setCell ⟨w.heap.size + 1, 1, none⟩ (.int .i64 (redD RA (B - A)))).setCell ⟨w.heap.size + 1, 2, none⟩ (.int .i64 (redN RB (B - A)))).setCell ⟨w.heap.size + 1, 3, none⟩ (.int .i64 (redD RB (B - A)))) = v at *
    have s0 := RV.cell 0
    have s1 := RV.cell 1
    have s2 := RV.cell 2
    have s3 := RV.cell 3
    simp at s0 s1 s2 s3
    go_wp2_with fail
    refine bodyPost_ret (v := .tuple #[fr2 (redN RA (B - A)) (redD RA (B - A)) (redN RB (B - A)) (redD RB (B - A)), .int .i64 0]) (by simp [results, Try.results41, go_sem, s0, s1, s2, s3]) rfl ⟨rfl, BV⟩
end Go.Proofs.Ytnfpmaenikhoaaa
