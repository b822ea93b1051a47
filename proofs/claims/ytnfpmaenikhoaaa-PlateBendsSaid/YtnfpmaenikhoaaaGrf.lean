/-
  Girders: the reference's reactions.
-/
import Derived.Test.YtnfpmaenikhoaaaGfr
import Derived.StillTailTactics
namespace Go.Proofs.Ytnfpmaenikhoaaa
open Go.RowKit
def FiRel (B : Int) (L : List (Int × Int)) (C : Array Value) (T : TypeId) (w : World) (v5 v6 : Value) (wr : World) : Prop :=
  ∃ k : Nat, k ≤ L.length ∧ v6 = .int .i64 (k : Int) ∧ v5 = .int .i64 (sL (fA B) L k) ∧ Box wr w.heap.size C T ∧ Below w.heap.size w wr
set_option maxRecDepth 100000 in
set_option maxHeartbeats 1600000 in
theorem first_any (A B M : Int) (L : List (Int × Int)) (a : Option Addr) (cap : Nat) (w : World) (hw : Wid A B) (ho : okY A B L) (hp : LdAt w a L) :
    Calls Try.prog 82 #[gir A B M, .slice a L.length cap] w fun e w' => e = .returned (.int .i64 (sL (fA B) L L.length)) ∧ Below w.heap.size w w' := by
  have HP := Lib.hid hp; have HO := Lib.hid ho; have HW := Lib.hid hw
  have hl := ho.1
  clear hp ho hw
  go_enter Try.func82, Try.ntmps82
  go_wp2_with fail
  go_loopw [5, 6] (FiRel B L #[.int .i64 A, .int .i64 B, .int .i64 M] 71 w) (fun _ i _ => L.length - (intOf i).toNat)
  case atStart => exact ⟨0, by omega, rfl, rfl, Box.new _ _ _ rfl, by (repeat' (first | (with_reducible exact Below.refl _ _) | (with_reducible assumption) | (with_reducible refine Below.drew ?_) | (with_reducible refine below_drewN ?_ _) | (with_reducible refine Below.setCell ?_ ?_ _) | (with_reducible refine Below.alloc ?_ ?_ _) | go_size | omega))⟩
  case round =>
    obtain ⟨k, hk, rfl, rfl, hb0, hB⟩ := hrel
    have R0 := Lib.hid hb0; clear hb0
    have zr := hB.size
    have l0 := R0.out.lt
    by_cases hkl : k < L.length
    · rcases HP.out.keep hB with h0 | ⟨b, o, rfl, hbl, hc⟩
      · rw [h0] at hkl; simp at hkl
      obtain ⟨c0, c1⟩ := hc k hkl
      clear hc
      have GO := Lib.hid (sL_go (g := fA B) hkl rfl)
      have fb := fA_bd HW.out HO.out _ (List.getElem_mem hkl)
      have sb := sA_in HW.out HO.out (k := k) hk
      obtain ⟨⟨y0, y1⟩, y2, y3⟩ := HO.out.2 _ (List.getElem_mem hkl)
      obtain ⟨⟨v0, v1⟩, ⟨v2, v3⟩, v4⟩ := HW.out
      rcases hlk : L[k] with ⟨x, y⟩
      rw [hlk] at c0 c1 fb y0 y1 y2 y3 GO
      clear hlk
      dsimp only at c0 c1 y0 y1 y2 y3
      unfold fA at fb
      dsimp only at fb
      obtain ⟨fb0, fb1⟩ := fb
      obtain ⟨sb0, sb1⟩ := sb
      generalize hS : sL (fA B) L k = s at *
      obtain ⟨m0, m1, m2, -⟩ := R0.out.three
      go_wp2_with fail
      go_region
      all_goals
        go_wp2_with fail
        go_roundw
        case rel => exact ⟨k + 1, by omega, by simp, by rw [GO.out]; rfl, R0.out.drew, by (repeat' (first | (with_reducible exact Below.refl _ _) | (with_reducible assumption) | (with_reducible refine Below.drew ?_) | (with_reducible refine below_drewN ?_ _) | (with_reducible refine Below.setCell ?_ ?_ _) | (with_reducible refine Below.alloc ?_ ?_ _) | go_size | omega))⟩
        case measure => simp [intOf]; omega
    · obtain rfl : k = L.length := by omega
      go_wp2_with fail
      go_ret
      exact ⟨rfl, hB⟩
def AlRel (L : List (Int × Int)) (G R : Array Value) (T T2 : TypeId) (w : World) (v6 v7 : Value) (wr : World) : Prop :=
  ∃ k : Nat, k ≤ L.length ∧ v7 = .int .i64 (k : Int) ∧ v6 = .int .i64 (sL fW L k) ∧ Box wr w.heap.size G T ∧ Box wr (w.heap.size + 1) R T2 ∧ Below w.heap.size w wr
set_option maxRecDepth 100000 in
set_option maxHeartbeats 1600000 in
theorem rrea_any (A B M RA RB : Int) (L : List (Int × Int)) (a : Option Addr) (cap : Nat) (w : World) (hw : Wid A B) (ho : okY A B L) (hp : LdAt w a L) (hA : sL (fA B) L L.length = RA) (hB : sL (fB A) L L.length = RB) :
    Calls Try.prog 45 #[gir A B M, .slice a L.length cap] w fun e w' => e = .returned (fr2 (redN RA (B - A)) (redD RA (B - A)) (redN RB (B - A)) (redD RB (B - A))) ∧ Below w.heap.size w w' := by
  have CF := Lib.hid (fun (u : World) (h : LdAt u a L) => first_any A B M L a cap u hw ho h)
  rw [hA] at CF
  have ra := sA_in hw ho (k := L.length) (Nat.le_refl _)
  have rb := sB_in hw ho (k := L.length) (Nat.le_refl _)
  have rw' := sW_in ho (k := L.length) (Nat.le_refl _)
  have hbo := sL_both A B L L.length
  rw [hA] at ra hbo; rw [hB] at rb hbo
  obtain ⟨⟨v0, v1⟩, ⟨v2, v3⟩, v4⟩ := hw
  have CA := Lib.hid (fun (u : World) => lowest_any RA (B - A) u (by omega) (by omega) (by omega) (by omega))
  have CB := Lib.hid (fun (u : World) => lowest_any RB (B - A) u (by omega) (by omega) (by omega) (by omega))
  have HP := Lib.hid hp; have HO := Lib.hid ho; have HBO := Lib.hid hbo
  have hl := ho.1
  have pb := mul_bd rw'.1 rw'.2 (show -40000 ≤ B - A by omega) (show B - A ≤ 40000 by omega)
  have w1 : IntKind.i64.wrap (B - A) = B - A := IntWalk.i64_in _ (by omega)
  have w2 : IntKind.i64.wrap (sL fW L L.length * (B - A)) = sL fW L L.length * (B - A) := IntWalk.i64_in _ (by omega)
  have w3 : IntKind.i64.wrap (sL fW L L.length * (B - A) - RA) = RB := by rw [hbo]; exact IntWalk.i64_in _ (by omega)
  have W1 := Lib.hid w1; have W2 := Lib.hid w2; have W3 := Lib.hid w3
  clear hp ho hA hB hbo pb w1 w2 w3
  go_enter Try.func45, Try.ntmps45
  go_wp2_with fail
  refine (CF.out _ (HP.out.keep (by (repeat' (first | (with_reducible exact Below.refl _ _) | (with_reducible assumption) | (with_reducible refine Below.drew ?_) | (with_reducible refine below_drewN ?_ _) | (with_reducible refine Below.setCell ?_ ?_ _) | (with_reducible refine Below.alloc ?_ ?_ _) | go_size | omega))))).mono ?_
  rintro e w1 ⟨rfl, h⟩
  have B1 : Below w.heap.size w w1 := below_via (by (repeat' (first | (with_reducible exact Below.refl _ _) | (with_reducible assumption) | (with_reducible refine Below.drew ?_) | (with_reducible refine below_drewN ?_ _) | (with_reducible refine Below.setCell ?_ ?_ _) | (with_reducible refine Below.alloc ?_ ?_ _) | go_size | omega))) h
  have G1 := Lib.hid (((Box.new w #[.int .i64 A, .int .i64 B, .int .i64 M] 71 (n := w.heap.size) rfl).alloc (.cells #[.int .i64 0, .int .i64 0, .int .i64 0, .int .i64 0] 67)).keep h)
  have R1 := Lib.hid ((Box.new (w.alloc (.cells #[.int .i64 A, .int .i64 B, .int .i64 M] 71)) #[.int .i64 0, .int .i64 0, .int .i64 0, .int .i64 0] 67 (n := w.heap.size + 1) (by simp)).keep h)
  clear h CF
  go_wp2_with fail
  go_loopw [6, 7] (AlRel L #[.int .i64 A, .int .i64 B, .int .i64 M] #[.int .i64 0, .int .i64 0, .int .i64 0, .int .i64 0] 71 67 w) (fun _ i _ => L.length - (intOf i).toNat)
  case atStart => exact ⟨0, by omega, rfl, rfl, G1.out, R1.out, B1⟩
  case round =>
    clear B1 G1 R1
    obtain ⟨k, hk, rfl, rfl, hb0, hb1, hB⟩ := hrel
    have G9 := Lib.hid hb0; have R9 := Lib.hid hb1; clear hb0 hb1
    have zr := hB.size
    have l0 := G9.out.lt; have l1 := R9.out.lt
    by_cases hkl : k < L.length
    · rcases HP.out.keep hB with h0 | ⟨b, o, rfl, hbl, hc⟩
      · rw [h0] at hkl; simp at hkl
      obtain ⟨c0, c1⟩ := hc k hkl
      clear hc
      have GO := Lib.hid (sL_go (g := fW) hkl rfl)
      have sb := sW_in HO.out (k := k) hk
      obtain ⟨-, y2, y3⟩ := HO.out.2 _ (List.getElem_mem hkl)
      rcases hlk : L[k] with ⟨x, y⟩
      rw [hlk] at c0 c1 y2 y3 GO
      clear hlk
      dsimp only at c0 c1 y2 y3
      obtain ⟨sb0, sb1⟩ := sb
      generalize hS : sL fW L k = s at *
      go_wp2_with fail
      go_roundw
      case rel => exact ⟨k + 1, by omega, by simp, by rw [GO.out]; rfl, G9.out, R9.out, by (repeat' (first | (with_reducible exact Below.refl _ _) | (with_reducible assumption) | (with_reducible refine Below.drew ?_) | (with_reducible refine below_drewN ?_ _) | (with_reducible refine Below.setCell ?_ ?_ _) | (with_reducible refine Below.alloc ?_ ?_ _) | go_size | omega))⟩
      case measure => simp [intOf]; omega
    · obtain rfl : k = L.length := by omega
      clear hkl hk ra rb rw'
      generalize sL fW L L.length = s at *
      have w1 := W1.out; have w2 := W2.out; have w3 := W3.out
      go_wp2_with fail
      have K := Lib.hid (fun (w' : World) (hw : Below (w.heap.size + 1) wr w') => show (w'.cell? ⟨w.heap.size, 0, none⟩ = some (.int .i64 A) ∧ w'.cell? ⟨w.heap.size, 1, none⟩ = some (.int .i64 B) ∧ w'.cell? ⟨w.heap.size, 2, none⟩ = some (.int .i64 M)) from ⟨(Box.keepB (by omega) (G9.out) hw).cell 0, (Box.keepB (by omega) (G9.out) hw).cell 1, (Box.keepB (by omega) (G9.out) hw).cell 2⟩)
      go_region_held3 (fun w' => (w'.cell? ⟨w.heap.size, 0, none⟩ = some (.int .i64 A) ∧ w'.cell? ⟨w.heap.size, 1, none⟩ = some (.int .i64 B) ∧ w'.cell? ⟨w.heap.size, 2, none⟩ = some (.int .i64 M)))
        ((refine K.out _ ?_; (repeat' (first | (with_reducible exact Below.refl _ _) | (with_reducible assumption) | (with_reducible refine Below.drew ?_) | (with_reducible refine below_drewN ?_ _) | (with_reducible refine Below.setCell ?_ ?_ _) | (with_reducible refine Below.alloc ?_ ?_ _) | go_size | omega)); done))
        (first | (go_at_call 79; (with_reducible refine (CA.out _).mono ?_); rintro e w10 ⟨rfl, h10⟩; have hB10 : Below wr.heap.size wr w10 := below_via (by (repeat' (first | (with_reducible exact Below.refl _ _) | (with_reducible assumption) | (with_reducible refine Below.drew ?_) | (with_reducible refine below_drewN ?_ _) | (with_reducible refine Below.setCell ?_ ?_ _) | (with_reducible refine Below.alloc ?_ ?_ _) | go_size | omega))) h10; clear h10; have hz10 := hB10.size; have hW10 : Below (w.heap.size + 1) wr w10 := hB10.mono (by omega); obtain ⟨k0_0, k0_1, k0_2⟩ := K.out w10 hW10) | (go_at_call 79; (with_reducible refine (CB.out _).mono ?_); rintro e w11 ⟨rfl, h11⟩; have hB11 : Below wr.heap.size wr w11 := below_via (by (repeat' (first | (with_reducible exact Below.refl _ _) | (with_reducible assumption) | (with_reducible refine Below.drew ?_) | (with_reducible refine below_drewN ?_ _) | (with_reducible refine Below.setCell ?_ ?_ _) | (with_reducible refine Below.alloc ?_ ?_ _) | go_size | omega))) h11; clear h11; have hz11 := hB11.size; have hW11 : Below (w.heap.size + 1) wr w11 := hB11.mono (by omega); obtain ⟨k0_0, k0_1, k0_2⟩ := K.out w11 hW11; obtain ⟨o0, o1, o2, o3, f0, f1, f2, f3⟩ := (R9.out.keep hB11).four; have lo := (R9.out.keep hB11).lt))
      all_goals
        have BW := hB
        have RV : Box ((((w11.setCell ⟨w.heap.size + 1, 0, none⟩ (.int .i64 (redN RA (B - A)))).setCell ⟨w.heap.size + 1, 1, none⟩ (.int .i64 (redD RA (B - A)))).setCell ⟨w.heap.size + 1, 2, none⟩ (.int .i64 (redN RB (B - A)))).setCell ⟨w.heap.size + 1, 3, none⟩ (.int .i64 (redD RB (B - A)))) (w.heap.size + 1) #[.int .i64 (redN RA (B - A)), .int .i64 (redD RA (B - A)), .int .i64 (redN RB (B - A)), .int .i64 (redD RB (B - A))] 67 := (((((R9.out.keep hB11).set 0 _).set 1 _).set 2 _).set 3 _)
        have BL : Below w.heap.size w w11 := below_via BW hB11
        have BV : Below w.heap.size w ((((w11.setCell ⟨w.heap.size + 1, 0, none⟩ (.int .i64 (redN RA (B - A)))).setCell ⟨w.heap.size + 1, 1, none⟩ (.int .i64 (redD RA (B - A)))).setCell ⟨w.heap.size + 1, 2, none⟩ (.int .i64 (redN RB (B - A)))).setCell ⟨w.heap.size + 1, 3, none⟩ (.int .i64 (redD RB (B - A)))) := by (repeat' (first | (with_reducible exact Below.refl _ _) | (with_reducible assumption) | (with_reducible refine Below.drew ?_) | (with_reducible refine below_drewN ?_ _) | (with_reducible refine Below.setCell ?_ ?_ _) | (with_reducible refine Below.alloc ?_ ?_ _) | go_size | omega))
        generalize ((((w11.setCell ⟨w.heap.size + 1, 0, none⟩ (.int .i64 (redN RA (B - A)))).setCell ⟨w.heap.size + 1, 1, none⟩ (.int .i64 (redD RA (B - A)))).setCell ⟨w.heap.size + 1, 2, none⟩ (.int .i64 (redN RB (B - A)))).setCell ⟨w.heap.size + 1, 3, none⟩ (.int .i64 (redD RB (B - A)))) = v at *
        have s0 := RV.cell 0
        have s1 := RV.cell 1
        have s2 := RV.cell 2
        have s3 := RV.cell 3
        simp at s0 s1 s2 s3
        go_wp2_with fail
        refine bodyPost_ret (v := fr2 (redN RA (B - A)) (redD RA (B - A)) (redN RB (B - A)) (redD RB (B - A))) (by simp [results, Try.results45, go_sem, s0, s1, s2, s3]) rfl ⟨rfl, BV⟩
end Go.Proofs.Ytnfpmaenikhoaaa
