/-
  The walk of the reference's Enclose on right arguments.
-/
import Derived.Test.YtbagmfnedgjndaaDoorRpa
import Derived.Test.YtbagmfnedgjndaaDoorEnr
namespace Go.Proofs.YtbagmfnedgjndaaDoor
open Go.RowKit
def RencRel (P : Int → Bool) (w4 : World) (vl vh : Value) (wr : World) : Prop :=
  ∃ l h : Int, 0 ≤ l ∧ l ≤ h ∧ h ≤ 1000000000000001 ∧ vl = .int .i64 l ∧ vh = .int .i64 h ∧ half P l h = half P 0 1000000000000001 ∧ Below w4.heap.size w4 wr
theorem rofI_any (n : Int) (w : World) (h0 : 0 ≤ n) (h1 : n ≤ 1152921504606846976) : Calls Tryd.prog 101 #[.int .i64 n] w (RnPost n.toNat 5 w) := by
  obtain ⟨k, rfl⟩ := Int.eq_ofNat_of_zero_le h0
  exact rof_any k w (by omega)
set_option maxRecDepth 100000 in
set_option maxHeartbeats 3200000 in
theorem renclose_any (a b c d t : Int) (w : World) (hk : okP a b c d = true) (t0 : 1 ≤ t) (t1 : t ≤ 1000000000) :
    Calls Tryd.prog 46 #[.agg #[.int .i64 a, .int .i64 b, .int .i64 c, .int .i64 d], .int .i64 t] w fun e w' =>
      e = .returned (.tuple #[.agg #[.int .i64 (encL a b c d t), .int .i64 (encH a b c d t)], .int .i64 (encE a b c d t)]) ∧ Below w.heap.size w w' := by
  obtain ⟨⟨d0, d1⟩, ⟨a0, a1⟩, ⟨b0, b1⟩, c0, c1⟩ := okP_bd hk
  have HE := Lib.hid (enc_ref hk t0 t1)
  clear hk
  go_enter Tryd.func46, Tryd.ntmps46
  go_wp2_with fail
  refine (rparts_any a b c _ (by omega) (by omega) (by omega) (by omega) (by omega) (by omega)).mono ?_
  rintro e w1 ⟨ao, bo, ca, cb, xs, ys, rfl, rx, ry, cx, cy, vx, vy, lx, ly, h1⟩
  have B1 : Below w.heap.size w w1 := below_via (by go_grown) h1
  have z1 := B1.size
  have RX := Lib.hid rx; have RY := Lib.hid ry; have CX := Lib.hid cx; have CY := Lib.hid cy; have VX := Lib.hid vx; have VY := Lib.hid vy
  have hP := ((Box.new w #[.int .i64 a, .int .i64 b, .int .i64 c, .int .i64 d] 47 rfl).alloc (.cells #[.int .i64 0, .int .i64 0] 37)).keep h1
  have hR := (Box.new (w.alloc (.cells #[.int .i64 a, .int .i64 b, .int .i64 c, .int .i64 d] 47)) #[.int .i64 0, .int .i64 0] 37 (n := w.heap.size + 1) (by simp)).keep h1
  have HP1 := Lib.hid hP; have HR1 := Lib.hid hR
  clear rx ry cx cy vx vy h1 hP hR
  have lP := HP1.out.lt
  obtain ⟨p0, p1, p2, p3, _⟩ := HP1.out.four
  go_wp2_with fail
  have K := Lib.hid (fun (w' : World) (hw : Below w1.heap.size w1 w') => show w'.cell? ⟨w.heap.size, 3, none⟩ = some (.int .i64 d) from (HP1.out.keep hw).cell 3)
  go_region_held3 (fun w' => w'.cell? ⟨w.heap.size, 3, none⟩ = some (.int .i64 d))
    ((refine K.out _ ?_; go_grown; done))
    (first | (go_at_call 101; refine (rofI_any _ _ (by omega) (by omega)).mono ?_; rintro e w2 ⟨a2, c2, ps, rfl, r2, n2, v2, l2, b2⟩; have hB2 : Below w1.heap.size w1 w2 := below_via (by go_grown) b2; have R2 := Lib.hid r2; have N2 := Lib.hid n2; have V2 := Lib.hid v2; clear r2 n2 v2 b2; have z2 := hB2.size; have k3 := K.out w2 hB2; have hpl := pow_len (l := ps.length) (e := d.toNat) l2 (by omega)) | (go_at_call 100; refine (rpowI_any _ _ _ _ _ (R2.out.keep (by first | exact Below.refl _ _ | go_grown)) N2.out (by omega) (by omega) (by omega)).mono ?_; rintro e w3 ⟨a3, c3, qs, rfl, r3, n3, v3, l3, b3⟩; have hB3 : Below w1.heap.size w1 w3 := below_via (by go_grown) b3; have R3 := Lib.hid r3; have N3 := Lib.hid n3; have V3 := Lib.hid v3; clear r3 n3 v3 b3; have z3 := hB3.size; have k3 := K.out w3 hB3) | (go_at_call 99; refine (rmul_any _ _ _ _ _ _ _ (RX.out.keep (by go_grown)) (R3.out.keep (by first | exact Below.refl _ _ | go_grown)) CX.out N3.out (by omega) (by omega)).mono ?_; rintro e w4 ⟨a4, c4, zs, rfl, r4, n4, v4, l4, b4⟩; have hB4 : Below w1.heap.size w1 w4 := below_via (by go_grown) b4; have R4 := Lib.hid r4; have N4 := Lib.hid n4; have V4 := Lib.hid v4; clear r4 n4 v4 b4; have z4 := hB4.size; have k3 := K.out w4 hB4))
  have HP4 := Lib.hid (HP1.out.keep hB4); have HR4 := Lib.hid (HR1.out.keep hB4); have RY4 := Lib.hid (RY.out.keep hB4)
  have B4 : Below w.heap.size w w4 := below_via B1 hB4
  have VZ := Lib.hid (show Dg.val zs = over a b c * t.toNat ^ d.toNat by rw [V4.out, VX.out, V3.out, V2.out])
  have lz : zs.length ≤ 300000 := by omega
  clear K hB2 hB3 hB4 R2 N2 V2 R3 N3 V3 V4 RX CX VX RY HP1 HR1 z1 z2 z3 hpl l2 l3 l4 lx p0 p1 p2 p3 k3
  have z4 := B4.size
  have lP4 := HP4.out.lt
  go_wp2_with fail
  go_loopw [8, 9] (RencRel (leE (under a b c) (over a b c * t.toNat ^ d.toNat) d) w4) (fun l h _ => (intOf h - intOf l).toNat)
  case atStart => exact ⟨0, 1000000000000001, by omega, by omega, by omega, rfl, rfl, rfl, Below.refl _ _⟩
  case round =>
    obtain ⟨l, h, hl0, hlh, hh1, rfl, rfl, hf, hbr⟩ := hrel
    have HF := Lib.hid hf; clear hf
    have HPr := Lib.hid (HP4.out.keep hbr); have HRr := Lib.hid (HR4.out.keep hbr); have RYr := Lib.hid (RY4.out.keep hbr); have RZr := Lib.hid (R4.out.keep hbr)
    have Br : Below w.heap.size w wr := B4.trans (hbr.mono z4)
    have zr := Br.size
    have lPr := HPr.out.lt
    have p3 := HPr.out.cell 3
    by_cases hlt : l < h
    · have hmid : h - (h - l) / 2 = l + (h - l + 1) / 2 := by omega
      go_wp2_with fail
      generalize hmm : l + (h - l + 1) / 2 = m
      have HM := Lib.hid hmm
      have hm0 : l < m := by omega
      have hm1 : m ≤ h := by omega
      clear hmm hmid
      have K := Lib.hid (fun (w' : World) (hw : Below wr.heap.size wr w') => show w'.cell? ⟨w.heap.size, 3, none⟩ = some (.int .i64 d) from (HPr.out.keep hw).cell 3)
      go_region_held3 (fun w' => w'.cell? ⟨w.heap.size, 3, none⟩ = some (.int .i64 d))
        ((refine K.out _ ?_; go_grown; done))
        (first | (go_at_call 101; refine (rofI_any _ _ (by omega) (by omega)).mono ?_; rintro e w2 ⟨a2, c2, ps, rfl, r2, n2, v2, l2, b2⟩; have hB2 : Below wr.heap.size wr w2 := below_via (by go_grown) b2; have R2 := Lib.hid r2; have N2 := Lib.hid n2; have V2 := Lib.hid v2; clear r2 n2 v2 b2; have z2 := hB2.size; have k3 := K.out w2 hB2; have hpl := pow_len (l := ps.length) (e := d.toNat) l2 (by omega)) | (go_at_call 100; refine (rpowI_any _ _ _ _ _ (R2.out.keep (by first | exact Below.refl _ _ | go_grown)) N2.out (by omega) (by omega) (by omega)).mono ?_; rintro e w3 ⟨a3, c3, qs, rfl, r3, n3, v3, l3, b3⟩; have hB3 : Below wr.heap.size wr w3 := below_via (by go_grown) b3; have R3 := Lib.hid r3; have N3 := Lib.hid n3; have V3 := Lib.hid v3; clear r3 n3 v3 b3; have z3 := hB3.size; have k3 := K.out w3 hB3) | (go_at_call 99; refine (rmul_any _ _ _ _ _ _ _ (R3.out.keep (by first | exact Below.refl _ _ | go_grown)) (RYr.out.keep (by go_grown)) N3.out CY.out (by omega) (by omega)).mono ?_; rintro e w5 ⟨a5, c5, ms, rfl, r5, n5, v5, l5, b5⟩; have hB5 : Below wr.heap.size wr w5 := below_via (by go_grown) b5; have R5 := Lib.hid r5; have N5 := Lib.hid n5; have V5 := Lib.hid v5; clear r5 n5 v5 b5; have z5 := hB5.size; have k3 := K.out w5 hB5) | (go_at_call 91; refine (rcmpN_any _ _ _ _ _ _ _ (R5.out.keep (by first | exact Below.refl _ _ | go_grown)) (RZr.out.keep (by go_grown)) N5.out N4.out (by omega) (by omega)).mono ?_; rintro e w6 ⟨rfl, dr6⟩; have hB6 : Below wr.heap.size wr w6 := below_via (by go_grown) (dr6.below _); clear dr6; have z6 := hB6.size; have k3 := K.out w6 hB6))
      have VM := Lib.hid (show cmpI (Dg.val ms) (Dg.val zs) = cmpE (under a b c) (over a b c * t.toNat ^ d.toNat) d m by rw [V5.out, V3.out, V2.out, VY.out, VZ.out]; unfold cmpE; rw [Nat.mul_comm])
      have Bv : Below w4.heap.size w4 w6 := hbr.trans (hB6.mono (by have := hbr.size; omega))
      clear K hB2 hB3 hB5 R2 N2 V2 R3 N3 V3 R5 N5 V5 z2 z3 z5 hpl l2 l3 l5 k3 p3
      generalize hcc : cmpI (Dg.val ms) (Dg.val zs) = cc at *
      by_cases hle : cc ≤ 0
      · have HS := Lib.hid (show half (leE (under a b c) (over a b c * t.toNat ^ d.toNat) d) m h = half (leE (under a b c) (over a b c * t.toNat ^ d.toNat) d) 0 1000000000000001 by
          rw [← HF.out]; conv => rhs; rw [half]
          rw [if_pos hlt, HM.out, if_pos (by unfold leE; rw [← VM.out]; exact decide_eq_true hle)])
        go_wp2_with fail
        exact ⟨⟨m, h, by omega, hm1, hh1, rfl, rfl, HS.out, Bv⟩, by simp [intOf]; omega⟩
      · have HS := Lib.hid (show half (leE (under a b c) (over a b c * t.toNat ^ d.toNat) d) l (m - 1) = half (leE (under a b c) (over a b c * t.toNat ^ d.toNat) d) 0 1000000000000001 by
          rw [← HF.out]; conv => rhs; rw [half]
          rw [if_pos hlt, HM.out, if_neg (by unfold leE; rw [← VM.out]; simpa using hle)])
        go_wp2_with fail
        exact ⟨⟨l, m - 1, by omega, by omega, by omega, rfl, rfl, HS.out, Bv⟩, by simp [intOf]; omega⟩
    · obtain rfl : l = h := by omega
      have hLo := Lib.hid (show rLo a b c d t = l by unfold rLo; rw [← HF.out, half, if_neg (by omega)])
      go_wp2_with fail
      have K := Lib.hid (fun (w' : World) (hw : Below wr.heap.size wr w') => show w'.cell? ⟨w.heap.size, 3, none⟩ = some (.int .i64 d) from (HPr.out.keep hw).cell 3)
      go_region_held3 (fun w' => w'.cell? ⟨w.heap.size, 3, none⟩ = some (.int .i64 d))
        ((refine K.out _ ?_; go_grown; done))
        (first | (go_at_call 101; refine (rofI_any _ _ (by omega) (by omega)).mono ?_; rintro e w2 ⟨a2, c2, ps, rfl, r2, n2, v2, l2, b2⟩; have hB2 : Below wr.heap.size wr w2 := below_via (by go_grown) b2; have R2 := Lib.hid r2; have N2 := Lib.hid n2; have V2 := Lib.hid v2; clear r2 n2 v2 b2; have z2 := hB2.size; have k3 := K.out w2 hB2; have hpl := pow_len (l := ps.length) (e := d.toNat) l2 (by omega)) | (go_at_call 100; refine (rpowI_any _ _ _ _ _ (R2.out.keep (by first | exact Below.refl _ _ | go_grown)) N2.out (by omega) (by omega) (by omega)).mono ?_; rintro e w3 ⟨a3, c3, qs, rfl, r3, n3, v3, l3, b3⟩; have hB3 : Below wr.heap.size wr w3 := below_via (by go_grown) b3; have R3 := Lib.hid r3; have N3 := Lib.hid n3; have V3 := Lib.hid v3; clear r3 n3 v3 b3; have z3 := hB3.size; have k3 := K.out w3 hB3) | (go_at_call 99; refine (rmul_any _ _ _ _ _ _ _ (R3.out.keep (by first | exact Below.refl _ _ | go_grown)) (RYr.out.keep (by go_grown)) N3.out CY.out (by omega) (by omega)).mono ?_; rintro e w5 ⟨a5, c5, ms, rfl, r5, n5, v5, l5, b5⟩; have hB5 : Below wr.heap.size wr w5 := below_via (by go_grown) b5; have R5 := Lib.hid r5; have N5 := Lib.hid n5; have V5 := Lib.hid v5; clear r5 n5 v5 b5; have z5 := hB5.size; have k3 := K.out w5 hB5) | (go_at_call 91; refine (rcmpN_any _ _ _ _ _ _ _ (R5.out.keep (by first | exact Below.refl _ _ | go_grown)) (RZr.out.keep (by go_grown)) N5.out N4.out (by omega) (by omega)).mono ?_; rintro e w6 ⟨rfl, dr6⟩; have hB6 : Below wr.heap.size wr w6 := below_via (by go_grown) (dr6.below _); clear dr6; have z6 := hB6.size; have k3 := K.out w6 hB6))
      have VM := Lib.hid (show cmpI (Dg.val ms) (Dg.val zs) = cmpE (under a b c) (over a b c * t.toNat ^ d.toNat) d l by rw [V5.out, V3.out, V2.out, VY.out, VZ.out]; unfold cmpE; rw [Nat.mul_comm])
      have B6 : Below w.heap.size w w6 := Br.trans (hB6.mono zr)
      have HR6 := Lib.hid (HRr.out.keep hB6)
      clear K hB2 hB3 hB5 R2 N2 V2 R3 N3 V3 R5 N5 V5 z2 z3 z5 hpl l2 l3 l5 k3 p3
      have lR6 := HR6.out.lt
      have z6' := B6.size
      obtain ⟨r0, r1, f0, f1⟩ := HR6.out.two
      generalize hcc : cmpI (Dg.val ms) (Dg.val zs) = cc at *
      by_cases hz : cc = 0
      · have hHi : rHi a b c d t = l := by unfold rHi; rw [hLo.out, ← VM.out, if_neg (by omega)]
        have hz' : (cc != 0) = false := by simp [hz]
        by_cases hm : 1000000000000000 < l
        · have F := HE.out.2 (by rw [hHi]; omega)
          obtain ⟨F1, F2, F3⟩ := F
          have G1 := Lib.hid F1; have G2 := Lib.hid F2; have G3 := Lib.hid F3
          clear F1 F2 F3
          go_wp2_with fail
          refine bodyPost_ret (v := .tuple #[.agg #[.int .i64 (encL a b c d t), .int .i64 (encH a b c d t)], .int .i64 (encE a b c d t)])
            (by simp [results, Tryd.results46, go_sem, r0, r1, G1.out, G2.out, G3.out]) rfl ⟨rfl, ?_⟩
          go_grown
        · have F := HE.out.1 (by rw [hHi]; omega)
          rw [hHi, hLo.out] at F
          obtain ⟨F1, F2, F3⟩ := F
          have G1 := Lib.hid F1; have G2 := Lib.hid F2; have G3 := Lib.hid F3
          clear F1 F2 F3
          go_wp2_with fail
          refine bodyPost_ret (v := .tuple #[.agg #[.int .i64 (encL a b c d t), .int .i64 (encH a b c d t)], .int .i64 (encE a b c d t)])
            (by simp [results, Tryd.results46, go_sem, r0, r1, G1.out, G2.out, G3.out]) rfl ⟨rfl, ?_⟩
          go_grown
      · have hHi : rHi a b c d t = l + 1 := by unfold rHi; rw [hLo.out, ← VM.out, if_pos hz]
        have hz' : (cc != 0) = true := by simpa using hz
        by_cases hm : 1000000000000000 < l + 1
        · have F := HE.out.2 (by rw [hHi]; omega)
          obtain ⟨F1, F2, F3⟩ := F
          have G1 := Lib.hid F1; have G2 := Lib.hid F2; have G3 := Lib.hid F3
          clear F1 F2 F3
          go_wp2_with fail
          refine bodyPost_ret (v := .tuple #[.agg #[.int .i64 (encL a b c d t), .int .i64 (encH a b c d t)], .int .i64 (encE a b c d t)])
            (by simp [results, Tryd.results46, go_sem, r0, r1, G1.out, G2.out, G3.out]) rfl ⟨rfl, ?_⟩
          go_grown
        · have F := HE.out.1 (by rw [hHi]; omega)
          rw [hHi, hLo.out] at F
          obtain ⟨F1, F2, F3⟩ := F
          have G1 := Lib.hid F1; have G2 := Lib.hid F2; have G3 := Lib.hid F3
          clear F1 F2 F3
          go_wp2_with fail
          refine bodyPost_ret (v := .tuple #[.agg #[.int .i64 (encL a b c d t), .int .i64 (encH a b c d t)], .int .i64 (encE a b c d t)])
            (by simp [results, Tryd.results46, go_sem, r0, r1, G1.out, G2.out, G3.out]) rfl ⟨rfl, ?_⟩
          go_grown
end Go.Proofs.YtbagmfnedgjndaaDoor
