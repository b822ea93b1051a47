/-
  Girders: the reference's shear and bending.
-/
import Derived.Test.YtnfpmaenikhoaaaGrf
import Derived.Test.YtnfpmaenikhoaaaBsm
namespace Go.Proofs.Ytnfpmaenikhoaaa
open Go.RowKit
def ShRel (s x A B : Int) (L : List (Int × Int)) (G R : Array Value) (T T2 : TypeId) (w : World) (v7 v8 : Value) (wr : World) : Prop :=
  ∃ k : Nat, k ≤ L.length ∧ v8 = .int .i64 (k : Int) ∧ v7 = .int .i64 (s - sC x (fS A B) L k) ∧ Box wr w.heap.size G T ∧ Box wr (w.heap.size + 1) R T2 ∧ Below w.heap.size w wr
def BdRel (s x A B : Int) (L : List (Int × Int)) (G : Array Value) (T : TypeId) (w : World) (v7 v8 : Value) (wr : World) : Prop :=
  ∃ k : Nat, k ≤ L.length ∧ v8 = .int .i64 (k : Int) ∧ v7 = .int .i64 (s - sC x (fM A B x) L k) ∧ Box wr w.heap.size G T ∧ Below w.heap.size w wr
set_option maxRecDepth 100000 in
set_option maxHeartbeats 1600000 in
theorem rshear_any (A B M x : Int) (L : List (Int × Int)) (a : Option Addr) (cap : Nat) (w : World) (hw : Wid A B) (ho : okY A B L) (hp : LdAt w a L) :
    Calls Try.prog 48 #[gir A B M, .slice a L.length cap, .int .i64 x] w fun e w' => e = .returned (.agg #[.int .i64 (redN (sL (fA B) L L.length - sC x (fS A B) L L.length) (B - A)), .int .i64 (redD (sL (fA B) L L.length - sC x (fS A B) L L.length) (B - A))]) ∧ Below w.heap.size w w' := by
  have CF := Lib.hid (fun (u : World) (h : LdAt u a L) => first_any A B M L a cap u hw ho h)
  have HP := Lib.hid hp; have HO := Lib.hid ho; have HW := Lib.hid hw
  have hl := ho.1
  have ra := sA_in hw ho (k := L.length) (Nat.le_refl _)
  have sn := sS_in (x := x) hw ho (k := L.length) (Nat.le_refl _)
  obtain ⟨⟨v0, v1⟩, ⟨v2, v3⟩, v4⟩ := hw
  have CL := Lib.hid (fun u => lowest_any (sL (fA B) L L.length - sC x (fS A B) L L.length) (B - A) u (by omega) (by omega) (by omega) (by omega))
  clear hp ho sn
  obtain ⟨ra0, ra1⟩ := ra
  generalize sL (fA B) L L.length = s at *
  go_enter Try.func48, Try.ntmps48
  go_wp2_with fail
  refine (CF.out _ (HP.out.keep (by (repeat' (first | (with_reducible exact Below.refl _ _) | (with_reducible assumption) | (with_reducible refine Below.drew ?_) | (with_reducible refine below_drewN ?_ _) | (with_reducible refine Below.setCell ?_ ?_ _) | (with_reducible refine Below.alloc ?_ ?_ _) | go_size | omega))))).mono ?_
  rintro e w1 ⟨rfl, h⟩
  have B1 : Below w.heap.size w w1 := below_via (by (repeat' (first | (with_reducible exact Below.refl _ _) | (with_reducible assumption) | (with_reducible refine Below.drew ?_) | (with_reducible refine below_drewN ?_ _) | (with_reducible refine Below.setCell ?_ ?_ _) | (with_reducible refine Below.alloc ?_ ?_ _) | go_size | omega))) h
  have G1 := Lib.hid (((Box.new w #[.int .i64 A, .int .i64 B, .int .i64 M] 71 (n := w.heap.size) rfl).alloc (.cells #[.int .i64 0, .int .i64 0] 65)).keep h)
  have R1 := Lib.hid ((Box.new (w.alloc (.cells #[.int .i64 A, .int .i64 B, .int .i64 M] 71)) #[.int .i64 0, .int .i64 0] 65 (n := w.heap.size + 1) (by simp)).keep h)
  clear h CF
  go_wp2_with fail
  go_loopw [7, 8] (ShRel s x A B L #[.int .i64 A, .int .i64 B, .int .i64 M] #[.int .i64 0, .int .i64 0] 71 65 w) (fun _ i _ => L.length - (intOf i).toNat)
  case atStart => exact ⟨0, by omega, rfl, by simp [sC], G1.out, R1.out, B1⟩
  case round =>
    clear B1 G1 R1
    obtain ⟨k, hk, rfl, rfl, hb0, hb1, hB⟩ := hrel
    have G9 := Lib.hid hb0; have R9 := Lib.hid hb1; clear hb0 hb1
    have zr := hB.size
    have l0 := G9.out.lt; have l1 := R9.out.lt
    by_cases hkl : k < L.length
    · rcases HP.out.keep hB with h0 | ⟨b, o, rfl, hbl, hc⟩
      · rw [h0] at hkl; simp at hkl
      obtain ⟨c0, c1⟩ := hc k hkl
      clear hc
      have GY := Lib.hid (fun h => sC_yes (x := x) (g := fS A B) hkl rfl h)
      have GN := Lib.hid (fun h => sC_no (x := x) (g := fS A B) hkl rfl h)
      have sb := sS_in (x := x) HW.out HO.out (k := k) hk
      have fb := fS_bd HW.out HO.out _ (List.getElem_mem hkl)
      obtain ⟨⟨y0, y1⟩, y2, y3⟩ := HO.out.2 _ (List.getElem_mem hkl)
      rcases hlk : L[k] with ⟨p, q⟩
      rw [hlk] at c0 c1 y0 y1 y2 y3 GY GN fb
      clear hlk
      dsimp only at c0 c1 y0 y1 y2 y3 GY GN fb
      obtain ⟨sb0, sb1⟩ := sb
      generalize hS : sC x (fS A B) L k = S at *
      by_cases hpx : p ≤ x
      · have GO := Lib.hid (GY.out hpx)
        clear GY GN
        unfold fS at fb
        dsimp only at fb
        obtain ⟨fb0, fb1⟩ := fb
        obtain ⟨m0, m1, m2, -⟩ := G9.out.three
        go_wp2_with fail
        go_region
        all_goals
          go_wp2_with fail
          go_roundw
          case rel => exact ⟨k + 1, by omega, by simp, by rw [GO.out]; exact congrArg _ (show _ = s - (S + q * (B - A)) by omega), G9.out.drew, R9.out.drew, by (repeat' (first | (with_reducible exact Below.refl _ _) | (with_reducible assumption) | (with_reducible refine Below.drew ?_) | (with_reducible refine below_drewN ?_ _) | (with_reducible refine Below.setCell ?_ ?_ _) | (with_reducible refine Below.alloc ?_ ?_ _) | go_size | omega))⟩
          case measure => simp [intOf]; omega
      · have GO := Lib.hid (GN.out hpx)
        clear GY GN fb
        go_wp2_with fail
        go_roundw
        case rel => exact ⟨k + 1, by omega, by simp, by rw [GO.out], G9.out, R9.out, by (repeat' (first | (with_reducible exact Below.refl _ _) | (with_reducible assumption) | (with_reducible refine Below.drew ?_) | (with_reducible refine below_drewN ?_ _) | (with_reducible refine Below.setCell ?_ ?_ _) | (with_reducible refine Below.alloc ?_ ?_ _) | go_size | omega))⟩
        case measure => simp [intOf]; omega
    · obtain rfl : k = L.length := by omega
      clear hkl hk
      obtain ⟨ss0, ss1⟩ := sS_in (x := x) HW.out HO.out (k := L.length) (Nat.le_refl _)
      generalize hS : sC x (fS A B) L L.length = S at *
      have HS := Lib.hid hS
      clear hS
      obtain ⟨m0, m1, m2, -⟩ := G9.out.three
      go_wp2_with fail
      refine (CL.out _).mono ?_
      rintro e w2 ⟨rfl, h⟩
      have B2 : Below w.heap.size w w2 := below_via hB h
      have R2 := Lib.hid (R9.out.keep h)
      clear h m0 m1 m2
      obtain ⟨r0, r1, f0, f1⟩ := R2.out.two
      have lr := R2.out.lt
      go_wp2_with fail
      clear r0 r1 f0 f1
      have RV : Box ((w2.setCell ⟨w.heap.size + 1, 0, none⟩ (.int .i64 (redN (s - S) (B - A)))).setCell ⟨w.heap.size + 1, 1, none⟩ (.int .i64 (redD (s - S) (B - A)))) (w.heap.size + 1) #[.int .i64 (redN (s - S) (B - A)), .int .i64 (redD (s - S) (B - A))] 65 := ((R2.out.set 0 _).set 1 _)
      have BV : Below w.heap.size w ((w2.setCell ⟨w.heap.size + 1, 0, none⟩ (.int .i64 (redN (s - S) (B - A)))).setCell ⟨w.heap.size + 1, 1, none⟩ (.int .i64 (redD (s - S) (B - A)))) := by (repeat' (first | (with_reducible exact Below.refl _ _) | (with_reducible assumption) | (with_reducible refine Below.drew ?_) | (with_reducible refine below_drewN ?_ _) | (with_reducible refine Below.setCell ?_ ?_ _) | (with_reducible refine Below.alloc ?_ ?_ _) | go_size | omega))
      generalize ((w2.setCell ⟨w.heap.size + 1, 0, none⟩ (.int .i64 (redN (s - S) (B - A)))).setCell ⟨w.heap.size + 1, 1, none⟩ (.int .i64 (redD (s - S) (B - A)))) = v at *
      have s0 := RV.cell 0
      have s1 := RV.cell 1
      simp at s0 s1
      go_wp2_with fail
      refine bodyPost_ret (v := .agg #[.int .i64 (redN (s - S) (B - A)), .int .i64 (redD (s - S) (B - A))]) (by simp [results, Try.results48, go_sem, s0, s1]) rfl ⟨by rw [HS.out], BV⟩
set_option maxRecDepth 100000 in
set_option maxHeartbeats 1600000 in
theorem rbend_any (A B M x : Int) (L : List (Int × Int)) (a : Option Addr) (cap : Nat) (w : World) (hw : Wid A B) (ho : okY A B L) (hx : A ≤ x ∧ x ≤ B) (hp : LdAt w a L) :
    Calls Try.prog 86 #[gir A B M, .slice a L.length cap, .int .i64 x] w fun e w' => e = .returned (.int .i64 (sL (fA B) L L.length * (x - A) - sC x (fM A B x) L L.length)) ∧ Below w.heap.size w w' := by
  have CF := Lib.hid (fun (u : World) (h : LdAt u a L) => first_any A B M L a cap u hw ho h)
  have HP := Lib.hid hp; have HO := Lib.hid ho; have HW := Lib.hid hw; have HX := Lib.hid hx
  have hl := ho.1
  have ra := sA_in hw ho (k := L.length) (Nat.le_refl _)
  obtain ⟨⟨v0, v1⟩, ⟨v2, v3⟩, v4⟩ := hw
  obtain ⟨x0, x1⟩ := hx
  have rm := mul_bd ra.1 ra.2 (show -40000 ≤ x - A by omega) (show x - A ≤ 40000 by omega)
  obtain ⟨rm0, rm1⟩ := rm
  have w1 : IntKind.i64.wrap (x - A) = x - A := IntWalk.i64_in _ (by omega)
  have w2 : IntKind.i64.wrap (sL (fA B) L L.length * (x - A)) = sL (fA B) L L.length * (x - A) := IntWalk.i64_in _ (by omega)
  clear hp ho ra
  generalize sL (fA B) L L.length = s0 at *
  generalize hs : s0 * (x - A) = s at *
  go_enter Try.func86, Try.ntmps86
  go_wp2_with fail
  have G0 := Lib.hid (Box.new w #[.int .i64 A, .int .i64 B, .int .i64 M] 71 (n := w.heap.size) rfl)
  have BW : Below w.heap.size w (w.alloc (.cells #[.int .i64 A, .int .i64 B, .int .i64 M] 71)) := by (repeat' (first | (with_reducible exact Below.refl _ _) | (with_reducible assumption) | (with_reducible refine Below.drew ?_) | (with_reducible refine below_drewN ?_ _) | (with_reducible refine Below.setCell ?_ ?_ _) | (with_reducible refine Below.alloc ?_ ?_ _) | go_size | omega))
  have zz : (w.alloc (.cells #[.int .i64 A, .int .i64 B, .int .i64 M] 71)).heap.size = w.heap.size + 1 := by simp
  generalize (w.alloc (.cells #[.int .i64 A, .int .i64 B, .int .i64 M] 71)) = u at *
  have K := Lib.hid (fun (w' : World) (hw : Below (w.heap.size + 1) u w') => show (w'.cell? ⟨w.heap.size, 0, none⟩ = some (.int .i64 A) ∧ w'.cell? ⟨w.heap.size, 1, none⟩ = some (.int .i64 B) ∧ w'.cell? ⟨w.heap.size, 2, none⟩ = some (.int .i64 M)) from ⟨(Box.keepB (by omega) (G0.out) hw).cell 0, (Box.keepB (by omega) (G0.out) hw).cell 1, (Box.keepB (by omega) (G0.out) hw).cell 2⟩)
  go_region_held3 (fun w' => (w'.cell? ⟨w.heap.size, 0, none⟩ = some (.int .i64 A) ∧ w'.cell? ⟨w.heap.size, 1, none⟩ = some (.int .i64 B) ∧ w'.cell? ⟨w.heap.size, 2, none⟩ = some (.int .i64 M)))
    ((refine K.out _ ?_; (repeat' (first | (with_reducible exact Below.refl _ _) | (with_reducible assumption) | (with_reducible refine Below.drew ?_) | (with_reducible refine below_drewN ?_ _) | (with_reducible refine Below.setCell ?_ ?_ _) | (with_reducible refine Below.alloc ?_ ?_ _) | go_size | omega)); done))
    (first | (go_at_call 82; refine (CF.out _ (HP.out.keep (below_via BW (by (repeat' (first | (with_reducible exact Below.refl _ _) | (with_reducible assumption) | (with_reducible refine Below.drew ?_) | (with_reducible refine below_drewN ?_ _) | (with_reducible refine Below.setCell ?_ ?_ _) | (with_reducible refine Below.alloc ?_ ?_ _) | go_size | omega)))))).mono ?_; rintro e w8 ⟨rfl, h8⟩; have hB8 : Below u.heap.size u w8 := below_via (by (repeat' (first | (with_reducible exact Below.refl _ _) | (with_reducible assumption) | (with_reducible refine Below.drew ?_) | (with_reducible refine below_drewN ?_ _) | (with_reducible refine Below.setCell ?_ ?_ _) | (with_reducible refine Below.alloc ?_ ?_ _) | go_size | omega))) h8; clear h8; have hz8 := hB8.size; have hW8 : Below (w.heap.size + 1) u w8 := hB8.mono (by omega); obtain ⟨k0_0, k0_1, k0_2⟩ := K.out w8 hW8))
  have B8 := below_via BW hB8
  have G8 := Lib.hid (G0.out.keep hB8)
  clear K k0_0 k0_1 k0_2 w1 w2 hW8 hB8 G0 BW zz hz8
  go_wp2_with fail
  go_loopw [7, 8] (BdRel s x A B L #[.int .i64 A, .int .i64 B, .int .i64 M] 71 w) (fun _ i _ => L.length - (intOf i).toNat)
  case atStart => exact ⟨0, by omega, rfl, by simp [sC], G8.out, B8⟩
  case round =>
    clear B8 G8
    obtain ⟨k, hk, rfl, rfl, hb0, hB⟩ := hrel
    have G9 := Lib.hid hb0; clear hb0
    have zr := hB.size
    have l0 := G9.out.lt
    by_cases hkl : k < L.length
    · rcases HP.out.keep hB with h0 | ⟨b, o, rfl, hbl, hc⟩
      · rw [h0] at hkl; simp at hkl
      obtain ⟨c0, c1⟩ := hc k hkl
      clear hc
      have GY := Lib.hid (fun h => sC_yes (x := x) (g := fM A B x) hkl rfl h)
      have GN := Lib.hid (fun h => sC_no (x := x) (g := fM A B x) hkl rfl h)
      have sb := sM_in HW.out HO.out HX.out (k := k) hk
      have fb := And.intro (fM1_bd HW.out HO.out HX.out _ (List.getElem_mem hkl)) (fM_bd HW.out HO.out HX.out _ (List.getElem_mem hkl))
      obtain ⟨⟨y0, y1⟩, y2, y3⟩ := HO.out.2 _ (List.getElem_mem hkl)
      rcases hlk : L[k] with ⟨p, q⟩
      rw [hlk] at c0 c1 y0 y1 y2 y3 GY GN fb
      clear hlk
      dsimp only at c0 c1 y0 y1 y2 y3 GY GN fb
      obtain ⟨sb0, sb1⟩ := sb
      generalize hS : sC x (fM A B x) L k = S at *
      by_cases hpx : p ≤ x
      · have GO := Lib.hid (GY.out hpx)
        clear GY GN
        obtain ⟨fc, fd⟩ := fb
        obtain ⟨fc0, fc1⟩ := fc hpx
        obtain ⟨fd0, fd1⟩ := fd hpx
        clear fc fd
        unfold fM at fd0 fd1
        dsimp only at fd0 fd1
        obtain ⟨m0, m1, m2, -⟩ := G9.out.three
        go_wp2_with fail
        go_region
        all_goals
          go_wp2_with fail
          go_roundw
          case rel => exact ⟨k + 1, by omega, by simp, by rw [GO.out]; exact congrArg _ (show _ = s - (S + q * (x - p) * (B - A)) by omega), G9.out.drew, by (repeat' (first | (with_reducible exact Below.refl _ _) | (with_reducible assumption) | (with_reducible refine Below.drew ?_) | (with_reducible refine below_drewN ?_ _) | (with_reducible refine Below.setCell ?_ ?_ _) | (with_reducible refine Below.alloc ?_ ?_ _) | go_size | omega))⟩
          case measure => simp [intOf]; omega
      · have GO := Lib.hid (GN.out hpx)
        clear GY GN fb
        go_wp2_with fail
        go_roundw
        case rel => exact ⟨k + 1, by omega, by simp, by rw [GO.out], G9.out, by (repeat' (first | (with_reducible exact Below.refl _ _) | (with_reducible assumption) | (with_reducible refine Below.drew ?_) | (with_reducible refine below_drewN ?_ _) | (with_reducible refine Below.setCell ?_ ?_ _) | (with_reducible refine Below.alloc ?_ ?_ _) | go_size | omega))⟩
        case measure => simp [intOf]; omega
    · obtain rfl : k = L.length := by omega
      go_wp2_with fail
      go_ret
      exact ⟨rfl, hB⟩
set_option maxRecDepth 100000 in
set_option maxHeartbeats 1600000 in
theorem rBend_any (A B M x : Int) (L : List (Int × Int)) (a : Option Addr) (cap : Nat) (w : World) (hw : Wid A B) (ho : okY A B L) (hx : A ≤ x ∧ x ≤ B) (hp : LdAt w a L) :
    Calls Try.prog 49 #[gir A B M, .slice a L.length cap, .int .i64 x] w fun e w' => e = .returned (.agg #[.int .i64 (redN (sL (fA B) L L.length * (x - A) - sC x (fM A B x) L L.length) (B - A)), .int .i64 (redD (sL (fA B) L L.length * (x - A) - sC x (fM A B x) L L.length) (B - A))]) ∧ Below w.heap.size w w' := by
  have CF := Lib.hid (fun (u : World) (h : LdAt u a L) => rbend_any A B M x L a cap u hw ho hx h)
  have HP := Lib.hid hp
  have ra := sA_in hw ho (k := L.length) (Nat.le_refl _)
  have sm := sM_in hw ho hx (k := L.length) (Nat.le_refl _)
  obtain ⟨⟨v0, v1⟩, ⟨v2, v3⟩, v4⟩ := hw
  obtain ⟨x0, x1⟩ := hx
  have rm := mul_bd ra.1 ra.2 (show -40000 ≤ x - A by omega) (show x - A ≤ 40000 by omega)
  have CL := Lib.hid (fun u => lowest_any (sL (fA B) L L.length * (x - A) - sC x (fM A B x) L L.length) (B - A) u (by omega) (by omega) (by omega) (by omega))
  have w1 : IntKind.i64.wrap (B - A) = B - A := IntWalk.i64_in _ (by omega)
  clear hp ho ra sm rm
  generalize sL (fA B) L L.length * (x - A) - sC x (fM A B x) L L.length = N at *
  go_enter Try.func49, Try.ntmps49
  go_wp2_with fail
  have G0 := Lib.hid ((Box.new w #[.int .i64 A, .int .i64 B, .int .i64 M] 71 (n := w.heap.size) rfl).alloc (.cells #[.int .i64 0, .int .i64 0] 65))
  have R0 := Lib.hid (Box.new (w.alloc (.cells #[.int .i64 A, .int .i64 B, .int .i64 M] 71)) #[.int .i64 0, .int .i64 0] 65 (n := w.heap.size + 1) (by simp))
  have BW : Below w.heap.size w ((w.alloc (.cells #[.int .i64 A, .int .i64 B, .int .i64 M] 71)).alloc (.cells #[.int .i64 0, .int .i64 0] 65)) := by (repeat' (first | (with_reducible exact Below.refl _ _) | (with_reducible assumption) | (with_reducible refine Below.drew ?_) | (with_reducible refine below_drewN ?_ _) | (with_reducible refine Below.setCell ?_ ?_ _) | (with_reducible refine Below.alloc ?_ ?_ _) | go_size | omega))
  have zz : ((w.alloc (.cells #[.int .i64 A, .int .i64 B, .int .i64 M] 71)).alloc (.cells #[.int .i64 0, .int .i64 0] 65)).heap.size = w.heap.size + 1 + 1 := by simp
  generalize ((w.alloc (.cells #[.int .i64 A, .int .i64 B, .int .i64 M] 71)).alloc (.cells #[.int .i64 0, .int .i64 0] 65)) = u at *
  have K := Lib.hid (fun (w' : World) (hw : Below (w.heap.size + 1) u w') => show (w'.cell? ⟨w.heap.size, 0, none⟩ = some (.int .i64 A) ∧ w'.cell? ⟨w.heap.size, 1, none⟩ = some (.int .i64 B) ∧ w'.cell? ⟨w.heap.size, 2, none⟩ = some (.int .i64 M)) from ⟨(Box.keepB (by omega) (G0.out) hw).cell 0, (Box.keepB (by omega) (G0.out) hw).cell 1, (Box.keepB (by omega) (G0.out) hw).cell 2⟩)
  go_region_held3 (fun w' => (w'.cell? ⟨w.heap.size, 0, none⟩ = some (.int .i64 A) ∧ w'.cell? ⟨w.heap.size, 1, none⟩ = some (.int .i64 B) ∧ w'.cell? ⟨w.heap.size, 2, none⟩ = some (.int .i64 M)))
    ((refine K.out _ ?_; (repeat' (first | (with_reducible exact Below.refl _ _) | (with_reducible assumption) | (with_reducible refine Below.drew ?_) | (with_reducible refine below_drewN ?_ _) | (with_reducible refine Below.setCell ?_ ?_ _) | (with_reducible refine Below.alloc ?_ ?_ _) | go_size | omega)); done))
    (first | (go_at_call 86; refine (CF.out _ (HP.out.keep (below_via BW (by (repeat' (first | (with_reducible exact Below.refl _ _) | (with_reducible assumption) | (with_reducible refine Below.drew ?_) | (with_reducible refine below_drewN ?_ _) | (with_reducible refine Below.setCell ?_ ?_ _) | (with_reducible refine Below.alloc ?_ ?_ _) | go_size | omega)))))).mono ?_; rintro e w8 ⟨rfl, h8⟩; have hB8 : Below u.heap.size u w8 := below_via (by (repeat' (first | (with_reducible exact Below.refl _ _) | (with_reducible assumption) | (with_reducible refine Below.drew ?_) | (with_reducible refine below_drewN ?_ _) | (with_reducible refine Below.setCell ?_ ?_ _) | (with_reducible refine Below.alloc ?_ ?_ _) | go_size | omega))) h8; clear h8; have hz8 := hB8.size; have hW8 : Below (w.heap.size + 1) u w8 := hB8.mono (by omega); obtain ⟨k0_0, k0_1, k0_2⟩ := K.out w8 hW8) | (go_at_call 79; refine (CL.out _).mono ?_; rintro e w9 ⟨rfl, h9⟩; have hB9 : Below u.heap.size u w9 := below_via (by (repeat' (first | (with_reducible exact Below.refl _ _) | (with_reducible assumption) | (with_reducible refine Below.drew ?_) | (with_reducible refine below_drewN ?_ _) | (with_reducible refine Below.setCell ?_ ?_ _) | (with_reducible refine Below.alloc ?_ ?_ _) | go_size | omega))) h9; clear h9; have hz9 := hB9.size; have hW9 : Below (w.heap.size + 1) u w9 := hB9.mono (by omega); obtain ⟨k0_0, k0_1, k0_2⟩ := K.out w9 hW9; obtain ⟨o0, o1, f0, f1⟩ := (R0.out.keep hB9).two; have lo := (R0.out.keep hB9).lt))
  all_goals
    have RV : Box ((w9.setCell ⟨w.heap.size + 1, 0, none⟩ (.int .i64 (redN N (B - A)))).setCell ⟨w.heap.size + 1, 1, none⟩ (.int .i64 (redD N (B - A)))) (w.heap.size + 1) #[.int .i64 (redN N (B - A)), .int .i64 (redD N (B - A))] 65 := (((R0.out.keep hB9).set 0 _).set 1 _)
    have BL : Below w.heap.size w w9 := below_via BW hB9
    have BV : Below w.heap.size w ((w9.setCell ⟨w.heap.size + 1, 0, none⟩ (.int .i64 (redN N (B - A)))).setCell ⟨w.heap.size + 1, 1, none⟩ (.int .i64 (redD N (B - A)))) := by (repeat' (first | (with_reducible exact Below.refl _ _) | (with_reducible assumption) | (with_reducible refine Below.drew ?_) | (with_reducible refine below_drewN ?_ _) | (with_reducible refine Below.setCell ?_ ?_ _) | (with_reducible refine Below.alloc ?_ ?_ _) | go_size | omega))
    generalize ((w9.setCell ⟨w.heap.size + 1, 0, none⟩ (.int .i64 (redN N (B - A)))).setCell ⟨w.heap.size + 1, 1, none⟩ (.int .i64 (redD N (B - A)))) = v at *
    have s0 := RV.cell 0
    have s1 := RV.cell 1
    simp at s0 s1
    go_wp2_with fail
    refine bodyPost_ret (v := .agg #[.int .i64 (redN N (B - A)), .int .i64 (redD N (B - A))]) (by simp [results, Try.results49, go_sem, s0, s1]) rfl ⟨rfl, BV⟩
end Go.Proofs.Ytnfpmaenikhoaaa
