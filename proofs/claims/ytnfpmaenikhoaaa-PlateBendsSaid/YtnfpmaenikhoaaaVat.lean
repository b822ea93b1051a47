/-
  Values along a girder: what valueAt returns.
-/
import Derived.Test.YtnfpmaenikhoaaaLgi
namespace Go.Proofs.Ytnfpmaenikhoaaa
open Go.RowKit
abbrev fr1 (a b : Int) : Value := .agg #[.int .i64 a, .int .i64 b]
set_option maxRecDepth 100000 in
set_option maxHeartbeats 1600000 in
theorem vatBad_any (E A B M x c0 c1 c2 : Int) (fv : Nat) (a' : Option Addr) (len' cap' : Nat) (a : Option Addr) (len cap : Nat) (w : World) (hne : E ≠ 0)
    (CK : Hid (∀ u : World, Below w.heap.size w u → Calls Try.prog 80 #[gir A B M, .slice a len cap] u fun e w' => e = .returned (.tuple #[lad c0 c1 c2 (.slice a' len' cap'), .int .i64 E]) ∧ Below u.heap.size u w')) :
    Calls Try.prog 83 #[gir A B M, .slice a len cap, .int .i64 x, .func (.func fv) #[] #[]] w fun e w' => e = .returned (.tuple #[fr1 0 0, .int .i64 E]) ∧ Below w.heap.size w w' := by
  have hb : (E == 0) = false := by simpa using hne
  clear hne
  go_enter Try.func83, Try.ntmps83
  go_wp2_with fail
  refine (CK.out _ (by (repeat' (first | (with_reducible exact Below.refl _ _) | (with_reducible assumption) | (with_reducible refine Below.drew ?_) | (with_reducible refine below_drewN ?_ _) | (with_reducible refine Below.setCell ?_ ?_ _) | (with_reducible refine Below.alloc ?_ ?_ _) | go_size | omega)))).mono ?_
  rintro e w1 ⟨rfl, h⟩
  have B1 : Below w.heap.size w w1 := below_via (by (repeat' (first | (with_reducible exact Below.refl _ _) | (with_reducible assumption) | (with_reducible refine Below.drew ?_) | (with_reducible refine below_drewN ?_ _) | (with_reducible refine Below.setCell ?_ ?_ _) | (with_reducible refine Below.alloc ?_ ?_ _) | go_size | omega))) h
  have G1 := Lib.hid (((Box.new w #[.int .i64 A, .int .i64 B, .int .i64 M] 71 (n := w.heap.size) rfl).alloc (.cells #[.int .i64 0, .int .i64 0] 65)).keep h)
  have R1 := Lib.hid ((Box.new (w.alloc (.cells #[.int .i64 A, .int .i64 B, .int .i64 M] 71)) #[.int .i64 0, .int .i64 0] 65 (n := w.heap.size + 1) (by simp)).keep h)
  have z1 := h.size
  simp at z1
  clear h CK
  obtain ⟨n0, n1, f0, f1⟩ := R1.out.two
  have l0 := R1.out.lt
  go_wp2_with fail
  clear n0 n1 f0 f1
  have RV : Box (((w1.setCell ⟨w.heap.size + 1, 0, none⟩ (.int .i64 0)).setCell ⟨w.heap.size + 1, 1, none⟩ (.int .i64 0)).alloc (.cells #[.int .i64 c0, .int .i64 c1, .int .i64 c2, .slice a' len' cap'] 119)) (w.heap.size + 1) #[.int .i64 0, .int .i64 0] 65 := (((R1.out.set 0 _).set 1 _).alloc _)
  have BV : Below w.heap.size w (((w1.setCell ⟨w.heap.size + 1, 0, none⟩ (.int .i64 0)).setCell ⟨w.heap.size + 1, 1, none⟩ (.int .i64 0)).alloc (.cells #[.int .i64 c0, .int .i64 c1, .int .i64 c2, .slice a' len' cap'] 119)) := by (repeat' (first | (with_reducible exact Below.refl _ _) | (with_reducible assumption) | (with_reducible refine Below.drew ?_) | (with_reducible refine below_drewN ?_ _) | (with_reducible refine Below.setCell ?_ ?_ _) | (with_reducible refine Below.alloc ?_ ?_ _) | go_size | omega))
  generalize (((w1.setCell ⟨w.heap.size + 1, 0, none⟩ (.int .i64 0)).setCell ⟨w.heap.size + 1, 1, none⟩ (.int .i64 0)).alloc (.cells #[.int .i64 c0, .int .i64 c1, .int .i64 c2, .slice a' len' cap'] 119)) = v at *
  have s0 := RV.cell 0
  have s1 := RV.cell 1
  simp at s0 s1
  go_wp2_with fail
  refine bodyPost_ret (v := .tuple #[fr1 0 0, .int .i64 E]) (by simp [results, Try.results83, go_sem, s0, s1]) rfl ⟨rfl, BV⟩
set_option maxRecDepth 100000 in
set_option maxHeartbeats 1600000 in
theorem vatOut_any (A B M x c0 c1 c2 : Int) (fv : Nat) (a' : Option Addr) (len' cap' : Nat) (a : Option Addr) (len cap : Nat) (w : World) (hx : inR x A B = false)
    (CK : Hid (∀ u : World, Below w.heap.size w u → Calls Try.prog 80 #[gir A B M, .slice a len cap] u fun e w' => e = .returned (.tuple #[lad c0 c1 c2 (.slice a' len' cap'), .int .i64 0]) ∧ Below u.heap.size u w')) :
    Calls Try.prog 83 #[gir A B M, .slice a len cap, .int .i64 x, .func (.func fv) #[] #[]] w fun e w' => e = .returned (.tuple #[fr1 0 0, .int .i64 2]) ∧ Below w.heap.size w w' := by
  go_enter Try.func83, Try.ntmps83
  go_wp2_with fail
  refine (CK.out _ (by (repeat' (first | (with_reducible exact Below.refl _ _) | (with_reducible assumption) | (with_reducible refine Below.drew ?_) | (with_reducible refine below_drewN ?_ _) | (with_reducible refine Below.setCell ?_ ?_ _) | (with_reducible refine Below.alloc ?_ ?_ _) | go_size | omega)))).mono ?_
  rintro e w1 ⟨rfl, h⟩
  have B1 : Below w.heap.size w w1 := below_via (by (repeat' (first | (with_reducible exact Below.refl _ _) | (with_reducible assumption) | (with_reducible refine Below.drew ?_) | (with_reducible refine below_drewN ?_ _) | (with_reducible refine Below.setCell ?_ ?_ _) | (with_reducible refine Below.alloc ?_ ?_ _) | go_size | omega))) h
  have G1 := Lib.hid (((Box.new w #[.int .i64 A, .int .i64 B, .int .i64 M] 71 (n := w.heap.size) rfl).alloc (.cells #[.int .i64 0, .int .i64 0] 65)).keep h)
  have R1 := Lib.hid ((Box.new (w.alloc (.cells #[.int .i64 A, .int .i64 B, .int .i64 M] 71)) #[.int .i64 0, .int .i64 0] 65 (n := w.heap.size + 1) (by simp)).keep h)
  have z1 := h.size
  simp at z1
  clear h CK
  obtain ⟨n0, n1, f0, f1⟩ := R1.out.two
  have l0 := R1.out.lt
  obtain ⟨g0, g1, g2, -⟩ := G1.out.three
  have lg := G1.out.lt
  go_wp2_with (go_at_call 77; refine (between_any _ _ _ _).mono ?_; rintro e w' ⟨rfl, rfl⟩)
  clear n0 n1 f0 f1
  have RV : Box (((w1.setCell ⟨w.heap.size + 1, 0, none⟩ (.int .i64 0)).setCell ⟨w.heap.size + 1, 1, none⟩ (.int .i64 0)).alloc (.cells #[.int .i64 c0, .int .i64 c1, .int .i64 c2, .slice a' len' cap'] 119)) (w.heap.size + 1) #[.int .i64 0, .int .i64 0] 65 := (((R1.out.set 0 _).set 1 _).alloc _)
  have BV : Below w.heap.size w (((w1.setCell ⟨w.heap.size + 1, 0, none⟩ (.int .i64 0)).setCell ⟨w.heap.size + 1, 1, none⟩ (.int .i64 0)).alloc (.cells #[.int .i64 c0, .int .i64 c1, .int .i64 c2, .slice a' len' cap'] 119)) := by (repeat' (first | (with_reducible exact Below.refl _ _) | (with_reducible assumption) | (with_reducible refine Below.drew ?_) | (with_reducible refine below_drewN ?_ _) | (with_reducible refine Below.setCell ?_ ?_ _) | (with_reducible refine Below.alloc ?_ ?_ _) | go_size | omega))
  generalize (((w1.setCell ⟨w.heap.size + 1, 0, none⟩ (.int .i64 0)).setCell ⟨w.heap.size + 1, 1, none⟩ (.int .i64 0)).alloc (.cells #[.int .i64 c0, .int .i64 c1, .int .i64 c2, .slice a' len' cap'] 119)) = v at *
  have s0 := RV.cell 0
  have s1 := RV.cell 1
  simp at s0 s1
  go_wp2_with fail
  refine bodyPost_ret (v := .tuple #[fr1 0 0, .int .i64 2]) (by simp [results, Try.results83, go_sem, s0, s1]) rfl ⟨rfl, BV⟩
set_option maxRecDepth 100000 in
set_option maxHeartbeats 1600000 in
theorem vatS_any (A B M x N : Int) (L : List (Int × Int)) (a : Option Addr) (cap : Nat) (w : World) (hl : L.length ≤ 9223372036854775807) (hG : chkG A B M = 0) (hL : chkL A B L = 0) (hx : inR x A B = true) (hN : -4000000000000000000 ≤ N ∧ N ≤ 4000000000000000000) (hp : LoadsIn w.heap.size w (.slice a L.length cap) L)
    (CV : Hid (∀ u : World, LoadsIn u.heap.size u (.slice a L.length cap) L → Calls Try.prog 84 #[lad A B M (.slice a L.length cap), .int .i64 x] u fun e w' => e = .returned (.int .i64 N) ∧ Below u.heap.size u w')) :
    Calls Try.prog 83 #[gir A B M, .slice a L.length cap, .int .i64 x, .func (.func 84) #[] #[]] w fun e w' => e = .returned (.tuple #[fr1 (redN N (B - A)) (redD N (B - A)), .int .i64 0]) ∧ Below w.heap.size w w' := by
  obtain ⟨g0, g1, g2, -⟩ := chkG_ok hG
  have CK := Lib.hid (fun (u : World) (h : Below w.heap.size w u) => ladenOk_any A B M L a cap u hl hG ((LoadsIn.toAt hp (Nat.le_refl _)).1.keep h))
  rw [hL] at CK
  have CA := Lib.hid (fun (u : World) => over_any A B M N a L.length cap u g0 g1 g2 hN.1 hN.2)
  have HP := Lib.hid hp
  clear hG hL hp hN g0 g1 g2
  go_enter Try.func83, Try.ntmps83
  go_wp2_with fail
  refine (CK.out _ (by (repeat' (first | (with_reducible exact Below.refl _ _) | (with_reducible assumption) | (with_reducible refine Below.drew ?_) | (with_reducible refine below_drewN ?_ _) | (with_reducible refine Below.setCell ?_ ?_ _) | (with_reducible refine Below.alloc ?_ ?_ _) | go_size | omega)))).mono ?_
  rintro e w1 ⟨rfl, h⟩
  have B1 : Below w.heap.size w w1 := below_via (by (repeat' (first | (with_reducible exact Below.refl _ _) | (with_reducible assumption) | (with_reducible refine Below.drew ?_) | (with_reducible refine below_drewN ?_ _) | (with_reducible refine Below.setCell ?_ ?_ _) | (with_reducible refine Below.alloc ?_ ?_ _) | go_size | omega))) h
  have G1 := Lib.hid (((Box.new w #[.int .i64 A, .int .i64 B, .int .i64 M] 71 (n := w.heap.size) rfl).alloc (.cells #[.int .i64 0, .int .i64 0] 65)).keep h)
  have R1 := Lib.hid ((Box.new (w.alloc (.cells #[.int .i64 A, .int .i64 B, .int .i64 M] 71)) #[.int .i64 0, .int .i64 0] 65 (n := w.heap.size + 1) (by simp)).keep h)
  have z1 := h.size
  simp at z1
  clear h CK
  obtain ⟨g0, g1, g2, -⟩ := G1.out.three
  have lg := G1.out.lt
  go_wp2_with (go_at_call 77; refine (between_any _ _ _ _).mono ?_; rintro e w' ⟨rfl, rfl⟩)
  have R3 := Lib.hid (R1.out.alloc (.cells #[.int .i64 A, .int .i64 B, .int .i64 M, .slice a L.length cap] 119))
  have D3 := Lib.hid (Box.new w1 #[.int .i64 A, .int .i64 B, .int .i64 M, .slice a L.length cap] 119 (n := w1.heap.size) rfl)
  have B3 : Below w.heap.size w (w1.alloc (.cells #[.int .i64 A, .int .i64 B, .int .i64 M, .slice a L.length cap] 119)) := by (repeat' (first | (with_reducible exact Below.refl _ _) | (with_reducible assumption) | (with_reducible refine Below.drew ?_) | (with_reducible refine below_drewN ?_ _) | (with_reducible refine Below.setCell ?_ ?_ _) | (with_reducible refine Below.alloc ?_ ?_ _) | go_size | omega))
  have z3 : (w1.alloc (.cells #[.int .i64 A, .int .i64 B, .int .i64 M, .slice a L.length cap] 119)).heap.size = w1.heap.size + 1 := by simp
  clear g0 g1 g2 lg G1 R1 hx
  generalize (w1.alloc (.cells #[.int .i64 A, .int .i64 B, .int .i64 M, .slice a L.length cap] 119)) = w3 at *
  have lr := R3.out.lt
  have ld := D3.out.lt
  have K := Lib.hid (fun (w' : World) (hw : Below (w3.heap.size) w3 w') => show (w'.cell? ⟨w1.heap.size, 0, none⟩ = some (.int .i64 A) ∧ w'.cell? ⟨w1.heap.size, 1, none⟩ = some (.int .i64 B) ∧ w'.cell? ⟨w1.heap.size, 2, none⟩ = some (.int .i64 M) ∧ w'.cell? ⟨w1.heap.size, 3, none⟩ = some (.slice a L.length cap)) from ⟨(Box.keepB (by omega) (D3.out) hw).cell 0, (Box.keepB (by omega) (D3.out) hw).cell 1, (Box.keepB (by omega) (D3.out) hw).cell 2, (Box.keepB (by omega) (D3.out) hw).cell 3⟩)
  go_region_held3 (fun w' => (w'.cell? ⟨w1.heap.size, 0, none⟩ = some (.int .i64 A) ∧ w'.cell? ⟨w1.heap.size, 1, none⟩ = some (.int .i64 B) ∧ w'.cell? ⟨w1.heap.size, 2, none⟩ = some (.int .i64 M) ∧ w'.cell? ⟨w1.heap.size, 3, none⟩ = some (.slice a L.length cap)))
    ((first | (refine K.out _ ?_; (repeat' (first | (with_reducible exact Below.refl _ _) | (with_reducible assumption) | (with_reducible refine Below.drew ?_) | (with_reducible refine below_drewN ?_ _) | (with_reducible refine Below.setCell ?_ ?_ _) | (with_reducible refine Below.alloc ?_ ?_ _) | go_size | omega)); done) | (refine ⟨?_, ?_, ?_, ?_⟩ <;> (rw [World.cell?_setCell_far _ _ _ _ (by simp; omega), World.cell?_setCell_far _ _ _ _ (by simp; omega)]; assumption))))
    (first | (go_at_call 84; refine (CV.out _ (liUp HP.out (below_via B3 (by (repeat' (first | (with_reducible exact Below.refl _ _) | (with_reducible assumption) | (with_reducible refine Below.drew ?_) | (with_reducible refine below_drewN ?_ _) | (with_reducible refine Below.setCell ?_ ?_ _) | (with_reducible refine Below.alloc ?_ ?_ _) | go_size | omega)))))).mono ?_; rintro e w8 ⟨rfl, h8⟩; have hB8 : Below w3.heap.size w3 w8 := below_via (by (repeat' (first | (with_reducible exact Below.refl _ _) | (with_reducible assumption) | (with_reducible refine Below.drew ?_) | (with_reducible refine below_drewN ?_ _) | (with_reducible refine Below.setCell ?_ ?_ _) | (with_reducible refine Below.alloc ?_ ?_ _) | go_size | omega))) h8; clear h8; have hz8 := hB8.size; have hW8 : Below (w3.heap.size) w3 w8 := hB8.mono (by omega); obtain ⟨k0_0, k0_1, k0_2, k0_3⟩ := K.out w8 hW8) | (go_at_call 76; refine (CA.out _).mono ?_; rintro e w9 ⟨rfl, h9⟩; have hB9 : Below w3.heap.size w3 w9 := below_via (by (repeat' (first | (with_reducible exact Below.refl _ _) | (with_reducible assumption) | (with_reducible refine Below.drew ?_) | (with_reducible refine below_drewN ?_ _) | (with_reducible refine Below.setCell ?_ ?_ _) | (with_reducible refine Below.alloc ?_ ?_ _) | go_size | omega))) h9; clear h9; have hz9 := hB9.size; have hW9 : Below (w3.heap.size) w3 w9 := hB9.mono (by omega); obtain ⟨k0_0, k0_1, k0_2, k0_3⟩ := K.out w9 hW9; obtain ⟨o0, o1, f0, f1⟩ := (R3.out.keep hB9).two; have lo := (R3.out.keep hB9).lt))
  all_goals
    have BW := B3
    have RV : Box ((w9.setCell ⟨w.heap.size + 1, 0, none⟩ (.int .i64 (redN N (B - A)))).setCell ⟨w.heap.size + 1, 1, none⟩ (.int .i64 (redD N (B - A)))) (w.heap.size + 1) #[.int .i64 (redN N (B - A)), .int .i64 (redD N (B - A))] 65 := (((R3.out.keep hB9).set 0 _).set 1 _)
    have BL : Below w.heap.size w w9 := below_via BW hB9
    have BV : Below w.heap.size w ((w9.setCell ⟨w.heap.size + 1, 0, none⟩ (.int .i64 (redN N (B - A)))).setCell ⟨w.heap.size + 1, 1, none⟩ (.int .i64 (redD N (B - A)))) := by (repeat' (first | (with_reducible exact Below.refl _ _) | (with_reducible assumption) | (with_reducible refine Below.drew ?_) | (with_reducible refine below_drewN ?_ _) | (with_reducible refine Below.setCell ?_ ?_ _) | (with_reducible refine Below.alloc ?_ ?_ _) | go_size | omega))
    generalize ((w9.setCell ⟨w.heap.size + 1, 0, none⟩ (.int .i64 (redN N (B - A)))).setCell ⟨w.heap.size + 1, 1, none⟩ (.int .i64 (redD N (B - A)))) = v at *
    have s0 := RV.cell 0
    have s1 := RV.cell 1
    simp at s0 s1
    go_wp2_with fail
    refine bodyPost_ret (v := .tuple #[fr1 (redN N (B - A)) (redD N (B - A)), .int .i64 0]) (by simp [results, Try.results83, go_sem, s0, s1]) rfl ⟨rfl, BV⟩
set_option maxRecDepth 100000 in
set_option maxHeartbeats 1600000 in
theorem vatM_any (A B M x N : Int) (L : List (Int × Int)) (a : Option Addr) (cap : Nat) (w : World) (hl : L.length ≤ 9223372036854775807) (hG : chkG A B M = 0) (hL : chkL A B L = 0) (hx : inR x A B = true) (hN : -4000000000000000000 ≤ N ∧ N ≤ 4000000000000000000) (hp : LoadsIn w.heap.size w (.slice a L.length cap) L)
    (CV : Hid (∀ u : World, LoadsIn u.heap.size u (.slice a L.length cap) L → Calls Try.prog 85 #[lad A B M (.slice a L.length cap), .int .i64 x] u fun e w' => e = .returned (.int .i64 N) ∧ Below u.heap.size u w')) :
    Calls Try.prog 83 #[gir A B M, .slice a L.length cap, .int .i64 x, .func (.func 85) #[] #[]] w fun e w' => e = .returned (.tuple #[fr1 (redN N (B - A)) (redD N (B - A)), .int .i64 0]) ∧ Below w.heap.size w w' := by
  obtain ⟨g0, g1, g2, -⟩ := chkG_ok hG
  have CK := Lib.hid (fun (u : World) (h : Below w.heap.size w u) => ladenOk_any A B M L a cap u hl hG ((LoadsIn.toAt hp (Nat.le_refl _)).1.keep h))
  rw [hL] at CK
  have CA := Lib.hid (fun (u : World) => over_any A B M N a L.length cap u g0 g1 g2 hN.1 hN.2)
  have HP := Lib.hid hp
  clear hG hL hp hN g0 g1 g2
  go_enter Try.func83, Try.ntmps83
  go_wp2_with fail
  refine (CK.out _ (by (repeat' (first | (with_reducible exact Below.refl _ _) | (with_reducible assumption) | (with_reducible refine Below.drew ?_) | (with_reducible refine below_drewN ?_ _) | (with_reducible refine Below.setCell ?_ ?_ _) | (with_reducible refine Below.alloc ?_ ?_ _) | go_size | omega)))).mono ?_
  rintro e w1 ⟨rfl, h⟩
  have B1 : Below w.heap.size w w1 := below_via (by (repeat' (first | (with_reducible exact Below.refl _ _) | (with_reducible assumption) | (with_reducible refine Below.drew ?_) | (with_reducible refine below_drewN ?_ _) | (with_reducible refine Below.setCell ?_ ?_ _) | (with_reducible refine Below.alloc ?_ ?_ _) | go_size | omega))) h
  have G1 := Lib.hid (((Box.new w #[.int .i64 A, .int .i64 B, .int .i64 M] 71 (n := w.heap.size) rfl).alloc (.cells #[.int .i64 0, .int .i64 0] 65)).keep h)
  have R1 := Lib.hid ((Box.new (w.alloc (.cells #[.int .i64 A, .int .i64 B, .int .i64 M] 71)) #[.int .i64 0, .int .i64 0] 65 (n := w.heap.size + 1) (by simp)).keep h)
  have z1 := h.size
  simp at z1
  clear h CK
  obtain ⟨g0, g1, g2, -⟩ := G1.out.three
  have lg := G1.out.lt
  go_wp2_with (go_at_call 77; refine (between_any _ _ _ _).mono ?_; rintro e w' ⟨rfl, rfl⟩)
  have R3 := Lib.hid (R1.out.alloc (.cells #[.int .i64 A, .int .i64 B, .int .i64 M, .slice a L.length cap] 119))
  have D3 := Lib.hid (Box.new w1 #[.int .i64 A, .int .i64 B, .int .i64 M, .slice a L.length cap] 119 (n := w1.heap.size) rfl)
  have B3 : Below w.heap.size w (w1.alloc (.cells #[.int .i64 A, .int .i64 B, .int .i64 M, .slice a L.length cap] 119)) := by (repeat' (first | (with_reducible exact Below.refl _ _) | (with_reducible assumption) | (with_reducible refine Below.drew ?_) | (with_reducible refine below_drewN ?_ _) | (with_reducible refine Below.setCell ?_ ?_ _) | (with_reducible refine Below.alloc ?_ ?_ _) | go_size | omega))
  have z3 : (w1.alloc (.cells #[.int .i64 A, .int .i64 B, .int .i64 M, .slice a L.length cap] 119)).heap.size = w1.heap.size + 1 := by simp
  clear g0 g1 g2 lg G1 R1 hx
  generalize (w1.alloc (.cells #[.int .i64 A, .int .i64 B, .int .i64 M, .slice a L.length cap] 119)) = w3 at *
  have lr := R3.out.lt
  have ld := D3.out.lt
  have K := Lib.hid (fun (w' : World) (hw : Below (w3.heap.size) w3 w') => show (w'.cell? ⟨w1.heap.size, 0, none⟩ = some (.int .i64 A) ∧ w'.cell? ⟨w1.heap.size, 1, none⟩ = some (.int .i64 B) ∧ w'.cell? ⟨w1.heap.size, 2, none⟩ = some (.int .i64 M) ∧ w'.cell? ⟨w1.heap.size, 3, none⟩ = some (.slice a L.length cap)) from ⟨(Box.keepB (by omega) (D3.out) hw).cell 0, (Box.keepB (by omega) (D3.out) hw).cell 1, (Box.keepB (by omega) (D3.out) hw).cell 2, (Box.keepB (by omega) (D3.out) hw).cell 3⟩)
  go_region_held3 (fun w' => (w'.cell? ⟨w1.heap.size, 0, none⟩ = some (.int .i64 A) ∧ w'.cell? ⟨w1.heap.size, 1, none⟩ = some (.int .i64 B) ∧ w'.cell? ⟨w1.heap.size, 2, none⟩ = some (.int .i64 M) ∧ w'.cell? ⟨w1.heap.size, 3, none⟩ = some (.slice a L.length cap)))
    ((first | (refine K.out _ ?_; (repeat' (first | (with_reducible exact Below.refl _ _) | (with_reducible assumption) | (with_reducible refine Below.drew ?_) | (with_reducible refine below_drewN ?_ _) | (with_reducible refine Below.setCell ?_ ?_ _) | (with_reducible refine Below.alloc ?_ ?_ _) | go_size | omega)); done) | (refine ⟨?_, ?_, ?_, ?_⟩ <;> (rw [World.cell?_setCell_far _ _ _ _ (by simp; omega), World.cell?_setCell_far _ _ _ _ (by simp; omega)]; assumption))))
    (first | (go_at_call 85; refine (CV.out _ (liUp HP.out (below_via B3 (by (repeat' (first | (with_reducible exact Below.refl _ _) | (with_reducible assumption) | (with_reducible refine Below.drew ?_) | (with_reducible refine below_drewN ?_ _) | (with_reducible refine Below.setCell ?_ ?_ _) | (with_reducible refine Below.alloc ?_ ?_ _) | go_size | omega)))))).mono ?_; rintro e w8 ⟨rfl, h8⟩; have hB8 : Below w3.heap.size w3 w8 := below_via (by (repeat' (first | (with_reducible exact Below.refl _ _) | (with_reducible assumption) | (with_reducible refine Below.drew ?_) | (with_reducible refine below_drewN ?_ _) | (with_reducible refine Below.setCell ?_ ?_ _) | (with_reducible refine Below.alloc ?_ ?_ _) | go_size | omega))) h8; clear h8; have hz8 := hB8.size; have hW8 : Below (w3.heap.size) w3 w8 := hB8.mono (by omega); obtain ⟨k0_0, k0_1, k0_2, k0_3⟩ := K.out w8 hW8) | (go_at_call 76; refine (CA.out _).mono ?_; rintro e w9 ⟨rfl, h9⟩; have hB9 : Below w3.heap.size w3 w9 := below_via (by (repeat' (first | (with_reducible exact Below.refl _ _) | (with_reducible assumption) | (with_reducible refine Below.drew ?_) | (with_reducible refine below_drewN ?_ _) | (with_reducible refine Below.setCell ?_ ?_ _) | (with_reducible refine Below.alloc ?_ ?_ _) | go_size | omega))) h9; clear h9; have hz9 := hB9.size; have hW9 : Below (w3.heap.size) w3 w9 := hB9.mono (by omega); obtain ⟨k0_0, k0_1, k0_2, k0_3⟩ := K.out w9 hW9; obtain ⟨o0, o1, f0, f1⟩ := (R3.out.keep hB9).two; have lo := (R3.out.keep hB9).lt))
  all_goals
    have BW := B3
    have RV : Box ((w9.setCell ⟨w.heap.size + 1, 0, none⟩ (.int .i64 (redN N (B - A)))).setCell ⟨w.heap.size + 1, 1, none⟩ (.int .i64 (redD N (B - A)))) (w.heap.size + 1) #[.int .i64 (redN N (B - A)), .int .i64 (redD N (B - A))] 65 := (((R3.out.keep hB9).set 0 _).set 1 _)
    have BL : Below w.heap.size w w9 := below_via BW hB9
    have BV : Below w.heap.size w ((w9.setCell ⟨w.heap.size + 1, 0, none⟩ (.int .i64 (redN N (B - A)))).setCell ⟨w.heap.size + 1, 1, none⟩ (.int .i64 (redD N (B - A)))) := by (repeat' (first | (with_reducible exact Below.refl _ _) | (with_reducible assumption) | (with_reducible refine Below.drew ?_) | (with_reducible refine below_drewN ?_ _) | (with_reducible refine Below.setCell ?_ ?_ _) | (with_reducible refine Below.alloc ?_ ?_ _) | go_size | omega))
    generalize ((w9.setCell ⟨w.heap.size + 1, 0, none⟩ (.int .i64 (redN N (B - A)))).setCell ⟨w.heap.size + 1, 1, none⟩ (.int .i64 (redD N (B - A)))) = v at *
    have s0 := RV.cell 0
    have s1 := RV.cell 1
    simp at s0 s1
    go_wp2_with fail
    refine bodyPost_ret (v := .tuple #[fr1 (redN N (B - A)) (redD N (B - A)), .int .i64 0]) (by simp [results, Try.results83, go_sem, s0, s1]) rfl ⟨rfl, BV⟩
set_option maxRecDepth 100000 in
set_option maxHeartbeats 1600000 in
theorem Shear_via (A B M x E v0 v1 : Int) (a : Option Addr) (len cap : Nat) (w : World)
    (CV : Hid (∀ u : World, Below w.heap.size w u → Calls Try.prog 83 #[gir A B M, .slice a len cap, .int .i64 x, .func (.func 84) #[] #[]] u fun e w' => e = .returned (.tuple #[fr1 v0 v1, .int .i64 E]) ∧ Below u.heap.size u w')) :
    Calls Try.prog 46 #[gir A B M, .slice a len cap, .int .i64 x] w fun e w' => e = .returned (.tuple #[fr1 v0 v1, .int .i64 E]) ∧ Below w.heap.size w w' := by
  go_enter Try.func46, Try.ntmps46
  go_wp2_with fail
  refine (CV.out _ (by (repeat' (first | (with_reducible exact Below.refl _ _) | (with_reducible assumption) | (with_reducible refine Below.drew ?_) | (with_reducible refine below_drewN ?_ _) | (with_reducible refine Below.setCell ?_ ?_ _) | (with_reducible refine Below.alloc ?_ ?_ _) | go_size | omega)))).mono ?_
  rintro e w1 ⟨rfl, h⟩
  have B1 : Below w.heap.size w w1 := below_via (by (repeat' (first | (with_reducible exact Below.refl _ _) | (with_reducible assumption) | (with_reducible refine Below.drew ?_) | (with_reducible refine below_drewN ?_ _) | (with_reducible refine Below.setCell ?_ ?_ _) | (with_reducible refine Below.alloc ?_ ?_ _) | go_size | omega))) h
  have R1 := Lib.hid ((Box.new (w.alloc (.cells #[.int .i64 A, .int .i64 B, .int .i64 M] 71)) #[.int .i64 0, .int .i64 0] 65 (n := w.heap.size + 1) (by simp)).keep h)
  clear h CV
  obtain ⟨n0, n1, f0, f1⟩ := R1.out.two
  have l0 := R1.out.lt
  go_wp2_with fail
  clear n0 n1 f0 f1
  have RV : Box ((w1.setCell ⟨w.heap.size + 1, 0, none⟩ (.int .i64 v0)).setCell ⟨w.heap.size + 1, 1, none⟩ (.int .i64 v1)) (w.heap.size + 1) #[.int .i64 v0, .int .i64 v1] 65 := ((R1.out.set 0 _).set 1 _)
  have BV : Below w.heap.size w ((w1.setCell ⟨w.heap.size + 1, 0, none⟩ (.int .i64 v0)).setCell ⟨w.heap.size + 1, 1, none⟩ (.int .i64 v1)) := by (repeat' (first | (with_reducible exact Below.refl _ _) | (with_reducible assumption) | (with_reducible refine Below.drew ?_) | (with_reducible refine below_drewN ?_ _) | (with_reducible refine Below.setCell ?_ ?_ _) | (with_reducible refine Below.alloc ?_ ?_ _) | go_size | omega))
  generalize ((w1.setCell ⟨w.heap.size + 1, 0, none⟩ (.int .i64 v0)).setCell ⟨w.heap.size + 1, 1, none⟩ (.int .i64 v1)) = v at *
  have s0 := RV.cell 0
  have s1 := RV.cell 1
  simp at s0 s1
  go_wp2_with fail
  refine bodyPost_ret (v := .tuple #[fr1 v0 v1, .int .i64 E]) (by simp [results, Try.results46, go_sem, s0, s1]) rfl ⟨rfl, BV⟩
set_option maxRecDepth 100000 in
set_option maxHeartbeats 1600000 in
theorem Bending_via (A B M x E v0 v1 : Int) (a : Option Addr) (len cap : Nat) (w : World)
    (CV : Hid (∀ u : World, Below w.heap.size w u → Calls Try.prog 83 #[gir A B M, .slice a len cap, .int .i64 x, .func (.func 85) #[] #[]] u fun e w' => e = .returned (.tuple #[fr1 v0 v1, .int .i64 E]) ∧ Below u.heap.size u w')) :
    Calls Try.prog 47 #[gir A B M, .slice a len cap, .int .i64 x] w fun e w' => e = .returned (.tuple #[fr1 v0 v1, .int .i64 E]) ∧ Below w.heap.size w w' := by
  go_enter Try.func47, Try.ntmps47
  go_wp2_with fail
  refine (CV.out _ (by (repeat' (first | (with_reducible exact Below.refl _ _) | (with_reducible assumption) | (with_reducible refine Below.drew ?_) | (with_reducible refine below_drewN ?_ _) | (with_reducible refine Below.setCell ?_ ?_ _) | (with_reducible refine Below.alloc ?_ ?_ _) | go_size | omega)))).mono ?_
  rintro e w1 ⟨rfl, h⟩
  have B1 : Below w.heap.size w w1 := below_via (by (repeat' (first | (with_reducible exact Below.refl _ _) | (with_reducible assumption) | (with_reducible refine Below.drew ?_) | (with_reducible refine below_drewN ?_ _) | (with_reducible refine Below.setCell ?_ ?_ _) | (with_reducible refine Below.alloc ?_ ?_ _) | go_size | omega))) h
  have R1 := Lib.hid ((Box.new (w.alloc (.cells #[.int .i64 A, .int .i64 B, .int .i64 M] 71)) #[.int .i64 0, .int .i64 0] 65 (n := w.heap.size + 1) (by simp)).keep h)
  clear h CV
  obtain ⟨n0, n1, f0, f1⟩ := R1.out.two
  have l0 := R1.out.lt
  go_wp2_with fail
  clear n0 n1 f0 f1
  have RV : Box ((w1.setCell ⟨w.heap.size + 1, 0, none⟩ (.int .i64 v0)).setCell ⟨w.heap.size + 1, 1, none⟩ (.int .i64 v1)) (w.heap.size + 1) #[.int .i64 v0, .int .i64 v1] 65 := ((R1.out.set 0 _).set 1 _)
  have BV : Below w.heap.size w ((w1.setCell ⟨w.heap.size + 1, 0, none⟩ (.int .i64 v0)).setCell ⟨w.heap.size + 1, 1, none⟩ (.int .i64 v1)) := by (repeat' (first | (with_reducible exact Below.refl _ _) | (with_reducible assumption) | (with_reducible refine Below.drew ?_) | (with_reducible refine below_drewN ?_ _) | (with_reducible refine Below.setCell ?_ ?_ _) | (with_reducible refine Below.alloc ?_ ?_ _) | go_size | omega))
  generalize ((w1.setCell ⟨w.heap.size + 1, 0, none⟩ (.int .i64 v0)).setCell ⟨w.heap.size + 1, 1, none⟩ (.int .i64 v1)) = v at *
  have s0 := RV.cell 0
  have s1 := RV.cell 1
  simp at s0 s1
  go_wp2_with fail
  refine bodyPost_ret (v := .tuple #[fr1 v0 v1, .int .i64 E]) (by simp [results, Try.results47, go_sem, s0, s1]) rfl ⟨rfl, BV⟩
end Go.Proofs.Ytnfpmaenikhoaaa
