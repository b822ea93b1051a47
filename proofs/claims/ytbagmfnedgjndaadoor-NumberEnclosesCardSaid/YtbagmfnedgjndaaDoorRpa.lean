/-
  The walk of the reference's parts: a product of powers of 2, 3 and 5 as two naturals in digits.
-/
import Derived.Test.YtbagmfnedgjndaaDoorRcm
import Derived.Test.YtbagmfnedgjndaaDoorPit3
import Derived.Test.YtbagmfnedgjndaaDoorPir
namespace Go.Proofs.YtbagmfnedgjndaaDoor
open Go.RowKit
def PartsPost (a b c : Int) (w : World) (e : Ending) (w' : World) : Prop :=
  ∃ (ao bo : Option Addr) (ca cb : Nat) (xs ys : List Nat), e = .returned (.tuple #[.slice ao xs.length ca, .slice bo ys.length cb]) ∧ Rd w' ao xs ∧ Rd w' bo ys ∧ Dg.Can xs ∧ Dg.Can ys ∧
    Dg.val xs = over a b c ∧ Dg.val ys = under a b c ∧ xs.length ≤ 200000 ∧ ys.length ≤ 200000 ∧ Below w.heap.size w w'
def RpaRel (a b c : Int) (w : World) (vn vd vi : Value) (wr : World) : Prop :=
  ∃ (k ca cb : Nat) (ao bo : Option Addr) (xs ys : List Nat), k ≤ 3 ∧ vi = .int .i64 (k : Int) ∧ vn = .slice ao xs.length ca ∧ vd = .slice bo ys.length cb ∧ Rd wr ao xs ∧ Rd wr bo ys ∧ Dg.Can xs ∧ Dg.Can ys ∧
    Dg.val xs = oK a b c k ∧ Dg.val ys = oK (-a) (-b) (-c) k ∧ xs.length ≤ 1 + 60002 * k ∧ ys.length ≤ 1 + 60002 * k ∧ Below w.heap.size w wr
theorem rpowI_any (ax : Option Addr) (cx : Nat) (xs : List Nat) (e : Int) (w : World) (hx : Rd w ax xs) (hc : Dg.Can xs) (h0 : 0 ≤ e) (hk : e ≤ 100000) (hl : xs.length ≤ 1000) :
    Calls Tryd.prog 100 #[.slice ax xs.length cx, .int .i64 e] w (RnPost (Dg.val xs ^ e.toNat) (1 + (xs.length + 1) * e.toNat) w) := by
  obtain ⟨k, rfl⟩ := Int.eq_ofNat_of_zero_le h0
  exact rpow_any ax cx xs k w hx hc (by omega) hl
theorem pow_len {l e : Nat} (hl : l ≤ 5) (he : e ≤ 10000) : (l + 1) * e ≤ 60000 := by
  have := Nat.mul_le_mul (show l + 1 ≤ 6 by omega) he
  omega
set_option maxRecDepth 100000 in
set_option maxHeartbeats 3200000 in
theorem rparts_any (a b c : Int) (w : World) (ha : -10000 ≤ a) (ha' : a ≤ 10000) (hb : -10000 ≤ b) (hb' : b ≤ 10000) (hc : -10000 ≤ c) (hc' : c ≤ 10000) :
    Calls Tryd.prog 90 #[.int .i64 a, .int .i64 b, .int .i64 c] w (PartsPost a b c w) := by
  have i0 := fun w => ridx0 (.int .i64 a) (.int .i64 b) (.int .i64 c) w
  have i1 := fun w => ridx1 (.int .i64 a) (.int .i64 b) (.int .i64 c) w
  have i2 := fun w => ridx2 (.int .i64 a) (.int .i64 b) (.int .i64 c) w
  have j0 := fun w => ridx0 (.int .i64 2) (.int .i64 3) (.int .i64 5) w
  have j1 := fun w => ridx1 (.int .i64 2) (.int .i64 3) (.int .i64 5) w
  have j2 := fun w => ridx2 (.int .i64 2) (.int .i64 3) (.int .i64 5) w
  go_enter Tryd.func90, Tryd.ntmps90
  go_wp2_with fail
  go_loopw [8, 9, 19] (RpaRel a b c w) (fun _ _ i _ => 3 - (intOf i).toNat)
  case atStart =>
    have h1 := World.ownsRow_lit (e := 3) (size := 1) (base := w.heap.size) w #[.int .i64 (1 : Int)] 1 (Nat.le_refl _) (by decide) (by simp)
    have r1 := Rd.of_own (xs := [1]) (m := 1) (by simpa [dg] using h1) rfl (Nat.le_refl _)
    have h2 := World.ownsRow_lit (e := 3) (size := 1) (base := 0) (w.alloc (.cells #[.int .i64 (1 : Int)] 3)) #[.int .i64 (1 : Int)] 1 (Nat.zero_le _) (by decide) (by simp)
    have r2 := Rd.of_own (xs := [1]) (m := 1) (by simpa [dg] using h2) rfl (Nat.le_refl _)
    refine ⟨0, 1, 1, some ⟨w.heap.size, 0, none⟩, some ⟨w.heap.size + 1, 0, none⟩, [1], [1], by omega, rfl, rfl, rfl, ?_, ?_, Dg.can_one, Dg.can_one, Dg.val_one, Dg.val_one, by simp, by simp, by go_grown⟩
    · exact Rd.keep (by simpa using r1) (by go_grown)
    · simpa using r2
  case round =>
    obtain ⟨k, ca, cb, ao, bo, xs, ys, hk, rfl, rfl, rfl, hrx, hry, hcx, hcy, hvx, hvy, hlx, hly, hB⟩ := hrel
    have HX := Lib.hid hrx; have HY := Lib.hid hry; have CX := Lib.hid hcx; have CY := Lib.hid hcy; have VX := Lib.hid hvx; have VY := Lib.hid hvy
    clear hrx hry hcx hcy hvx hvy
    have hz := hB.size
    rcases (show k = 0 ∨ k = 1 ∨ k = 2 ∨ k = 3 by omega) with rfl | rfl | rfl | rfl
    · by_cases hs : 0 < a
      · go_wp2_with fail
        refine (rof_any 2 _ (by omega)).mono ?_
        rintro e w1 ⟨a1, c1, ps, rfl, r1, n1, v1, l1, b1⟩
        have R1 := Lib.hid r1; have N1 := Lib.hid n1; have V1 := Lib.hid v1; have B1 : Below wr.heap.size wr w1 := below_via (by go_grown) b1
        clear r1 n1 v1 b1
        have z1 := B1.size
        go_wp2_with fail
        have hpl := pow_len (l := ps.length) (e := a.toNat) l1 (by omega)
        refine (rpowI_any a1 c1 ps a _ (R1.out.keep (by go_grown)) N1.out (by omega) (by omega) (by omega)).mono ?_
        rintro e w2 ⟨a2, c2, zs, rfl, r2, n2, v2, l2, b2⟩
        have R2 := Lib.hid r2; have N2 := Lib.hid n2; have V2 := Lib.hid v2; have B12 : Below wr.heap.size wr w2 := B1.trans ((below_via (by go_grown) b2).mono z1)
        clear r2 n2 v2 b2
        have z2 := B12.size
        go_wp2_with fail
        refine (rmul_any ao a2 ca c2 xs zs _ (HX.out.keep B12) R2.out CX.out N2.out (by omega) (by omega)).mono ?_
        rintro e w3 ⟨a3, c3, qs, rfl, r3, n3, v3, l3, b3⟩
        have R3 := Lib.hid r3; have N3 := Lib.hid n3; have V3 := Lib.hid v3; have B13 : Below wr.heap.size wr w3 := B12.trans (b3.mono z2)
        clear r3 n3 v3 b3
        have hpw : 2 ^ a.toNat = pw 2 a := rfl
        go_wp2_with fail
        go_roundw
        case rel =>
          refine ⟨0+1, c3, cb, a3, bo, qs, ys, by omega, rfl, rfl, rfl, R3.out, HY.out.keep B13, N3.out, CY.out, ?_, ?_, by omega, by omega, hB.trans (B13.mono hz)⟩
          · rw [V3.out, V2.out, V1.out, VX.out, oK_step a b c 0 (by omega)]; exact congrArg _ hpw
          · rw [VY.out, oK_step (-a) (-b) (-c) 0 (by omega)]; show _ = _ * pw 2 (-a); rw [pw_neg (by omega), Nat.mul_one]
        case measure => simp [intOf]
      · go_wp2_with fail
        refine (rof_any 2 _ (by omega)).mono ?_
        rintro e w1 ⟨a1, c1, ps, rfl, r1, n1, v1, l1, b1⟩
        have R1 := Lib.hid r1; have N1 := Lib.hid n1; have V1 := Lib.hid v1; have B1 : Below wr.heap.size wr w1 := below_via (by go_grown) b1
        clear r1 n1 v1 b1
        have z1 := B1.size
        go_wp2_with fail
        have hpl := pow_len (l := ps.length) (e := (-a).toNat) l1 (by omega)
        refine (rpowI_any a1 c1 ps (-a) _ (R1.out.keep (by go_grown)) N1.out (by omega) (by omega) (by omega)).mono ?_
        rintro e w2 ⟨a2, c2, zs, rfl, r2, n2, v2, l2, b2⟩
        have R2 := Lib.hid r2; have N2 := Lib.hid n2; have V2 := Lib.hid v2; have B12 : Below wr.heap.size wr w2 := B1.trans ((below_via (by go_grown) b2).mono z1)
        clear r2 n2 v2 b2
        have z2 := B12.size
        go_wp2_with fail
        refine (rmul_any bo a2 cb c2 ys zs _ (HY.out.keep B12) R2.out CY.out N2.out (by omega) (by omega)).mono ?_
        rintro e w3 ⟨a3, c3, qs, rfl, r3, n3, v3, l3, b3⟩
        have R3 := Lib.hid r3; have N3 := Lib.hid n3; have V3 := Lib.hid v3; have B13 : Below wr.heap.size wr w3 := B12.trans (b3.mono z2)
        clear r3 n3 v3 b3
        have hpw : 2 ^ (-a).toNat = pw 2 (-a) := rfl
        go_wp2_with fail
        go_roundw
        case rel =>
          refine ⟨0+1, ca, c3, ao, a3, xs, qs, by omega, rfl, rfl, rfl, HX.out.keep B13, R3.out, CX.out, N3.out, ?_, ?_, by omega, by omega, hB.trans (B13.mono hz)⟩
          · rw [VX.out, oK_step a b c 0 (by omega)]; show _ = _ * pw 2 a; rw [pw_neg (by omega), Nat.mul_one]
          · rw [V3.out, V2.out, V1.out, VY.out, oK_step (-a) (-b) (-c) 0 (by omega)]; exact congrArg _ hpw
        case measure => simp [intOf]
    · by_cases hs : 0 < b
      · go_wp2_with fail
        refine (rof_any 3 _ (by omega)).mono ?_
        rintro e w1 ⟨a1, c1, ps, rfl, r1, n1, v1, l1, b1⟩
        have R1 := Lib.hid r1; have N1 := Lib.hid n1; have V1 := Lib.hid v1; have B1 : Below wr.heap.size wr w1 := below_via (by go_grown) b1
        clear r1 n1 v1 b1
        have z1 := B1.size
        go_wp2_with fail
        have hpl := pow_len (l := ps.length) (e := b.toNat) l1 (by omega)
        refine (rpowI_any a1 c1 ps b _ (R1.out.keep (by go_grown)) N1.out (by omega) (by omega) (by omega)).mono ?_
        rintro e w2 ⟨a2, c2, zs, rfl, r2, n2, v2, l2, b2⟩
        have R2 := Lib.hid r2; have N2 := Lib.hid n2; have V2 := Lib.hid v2; have B12 : Below wr.heap.size wr w2 := B1.trans ((below_via (by go_grown) b2).mono z1)
        clear r2 n2 v2 b2
        have z2 := B12.size
        go_wp2_with fail
        refine (rmul_any ao a2 ca c2 xs zs _ (HX.out.keep B12) R2.out CX.out N2.out (by omega) (by omega)).mono ?_
        rintro e w3 ⟨a3, c3, qs, rfl, r3, n3, v3, l3, b3⟩
        have R3 := Lib.hid r3; have N3 := Lib.hid n3; have V3 := Lib.hid v3; have B13 : Below wr.heap.size wr w3 := B12.trans (b3.mono z2)
        clear r3 n3 v3 b3
        have hpw : 3 ^ b.toNat = pw 3 b := rfl
        go_wp2_with fail
        go_roundw
        case rel =>
          refine ⟨1+1, c3, cb, a3, bo, qs, ys, by omega, rfl, rfl, rfl, R3.out, HY.out.keep B13, N3.out, CY.out, ?_, ?_, by omega, by omega, hB.trans (B13.mono hz)⟩
          · rw [V3.out, V2.out, V1.out, VX.out, oK_step a b c 1 (by omega)]; exact congrArg _ hpw
          · rw [VY.out, oK_step (-a) (-b) (-c) 1 (by omega)]; show _ = _ * pw 3 (-b); rw [pw_neg (by omega), Nat.mul_one]
        case measure => simp [intOf]
      · go_wp2_with fail
        refine (rof_any 3 _ (by omega)).mono ?_
        rintro e w1 ⟨a1, c1, ps, rfl, r1, n1, v1, l1, b1⟩
        have R1 := Lib.hid r1; have N1 := Lib.hid n1; have V1 := Lib.hid v1; have B1 : Below wr.heap.size wr w1 := below_via (by go_grown) b1
        clear r1 n1 v1 b1
        have z1 := B1.size
        go_wp2_with fail
        have hpl := pow_len (l := ps.length) (e := (-b).toNat) l1 (by omega)
        refine (rpowI_any a1 c1 ps (-b) _ (R1.out.keep (by go_grown)) N1.out (by omega) (by omega) (by omega)).mono ?_
        rintro e w2 ⟨a2, c2, zs, rfl, r2, n2, v2, l2, b2⟩
        have R2 := Lib.hid r2; have N2 := Lib.hid n2; have V2 := Lib.hid v2; have B12 : Below wr.heap.size wr w2 := B1.trans ((below_via (by go_grown) b2).mono z1)
        clear r2 n2 v2 b2
        have z2 := B12.size
        go_wp2_with fail
        refine (rmul_any bo a2 cb c2 ys zs _ (HY.out.keep B12) R2.out CY.out N2.out (by omega) (by omega)).mono ?_
        rintro e w3 ⟨a3, c3, qs, rfl, r3, n3, v3, l3, b3⟩
        have R3 := Lib.hid r3; have N3 := Lib.hid n3; have V3 := Lib.hid v3; have B13 : Below wr.heap.size wr w3 := B12.trans (b3.mono z2)
        clear r3 n3 v3 b3
        have hpw : 3 ^ (-b).toNat = pw 3 (-b) := rfl
        go_wp2_with fail
        go_roundw
        case rel =>
          refine ⟨1+1, ca, c3, ao, a3, xs, qs, by omega, rfl, rfl, rfl, HX.out.keep B13, R3.out, CX.out, N3.out, ?_, ?_, by omega, by omega, hB.trans (B13.mono hz)⟩
          · rw [VX.out, oK_step a b c 1 (by omega)]; show _ = _ * pw 3 b; rw [pw_neg (by omega), Nat.mul_one]
          · rw [V3.out, V2.out, V1.out, VY.out, oK_step (-a) (-b) (-c) 1 (by omega)]; exact congrArg _ hpw
        case measure => simp [intOf]
    · by_cases hs : 0 < c
      · go_wp2_with fail
        refine (rof_any 5 _ (by omega)).mono ?_
        rintro e w1 ⟨a1, c1, ps, rfl, r1, n1, v1, l1, b1⟩
        have R1 := Lib.hid r1; have N1 := Lib.hid n1; have V1 := Lib.hid v1; have B1 : Below wr.heap.size wr w1 := below_via (by go_grown) b1
        clear r1 n1 v1 b1
        have z1 := B1.size
        go_wp2_with fail
        have hpl := pow_len (l := ps.length) (e := c.toNat) l1 (by omega)
        refine (rpowI_any a1 c1 ps c _ (R1.out.keep (by go_grown)) N1.out (by omega) (by omega) (by omega)).mono ?_
        rintro e w2 ⟨a2, c2, zs, rfl, r2, n2, v2, l2, b2⟩
        have R2 := Lib.hid r2; have N2 := Lib.hid n2; have V2 := Lib.hid v2; have B12 : Below wr.heap.size wr w2 := B1.trans ((below_via (by go_grown) b2).mono z1)
        clear r2 n2 v2 b2
        have z2 := B12.size
        go_wp2_with fail
        refine (rmul_any ao a2 ca c2 xs zs _ (HX.out.keep B12) R2.out CX.out N2.out (by omega) (by omega)).mono ?_
        rintro e w3 ⟨a3, c3, qs, rfl, r3, n3, v3, l3, b3⟩
        have R3 := Lib.hid r3; have N3 := Lib.hid n3; have V3 := Lib.hid v3; have B13 : Below wr.heap.size wr w3 := B12.trans (b3.mono z2)
        clear r3 n3 v3 b3
        have hpw : 5 ^ c.toNat = pw 5 c := rfl
        go_wp2_with fail
        go_roundw
        case rel =>
          refine ⟨2+1, c3, cb, a3, bo, qs, ys, by omega, rfl, rfl, rfl, R3.out, HY.out.keep B13, N3.out, CY.out, ?_, ?_, by omega, by omega, hB.trans (B13.mono hz)⟩
          · rw [V3.out, V2.out, V1.out, VX.out, oK_step a b c 2 (by omega)]; exact congrArg _ hpw
          · rw [VY.out, oK_step (-a) (-b) (-c) 2 (by omega)]; show _ = _ * pw 5 (-c); rw [pw_neg (by omega), Nat.mul_one]
        case measure => simp [intOf]
      · go_wp2_with fail
        refine (rof_any 5 _ (by omega)).mono ?_
        rintro e w1 ⟨a1, c1, ps, rfl, r1, n1, v1, l1, b1⟩
        have R1 := Lib.hid r1; have N1 := Lib.hid n1; have V1 := Lib.hid v1; have B1 : Below wr.heap.size wr w1 := below_via (by go_grown) b1
        clear r1 n1 v1 b1
        have z1 := B1.size
        go_wp2_with fail
        have hpl := pow_len (l := ps.length) (e := (-c).toNat) l1 (by omega)
        refine (rpowI_any a1 c1 ps (-c) _ (R1.out.keep (by go_grown)) N1.out (by omega) (by omega) (by omega)).mono ?_
        rintro e w2 ⟨a2, c2, zs, rfl, r2, n2, v2, l2, b2⟩
        have R2 := Lib.hid r2; have N2 := Lib.hid n2; have V2 := Lib.hid v2; have B12 : Below wr.heap.size wr w2 := B1.trans ((below_via (by go_grown) b2).mono z1)
        clear r2 n2 v2 b2
        have z2 := B12.size
        go_wp2_with fail
        refine (rmul_any bo a2 cb c2 ys zs _ (HY.out.keep B12) R2.out CY.out N2.out (by omega) (by omega)).mono ?_
        rintro e w3 ⟨a3, c3, qs, rfl, r3, n3, v3, l3, b3⟩
        have R3 := Lib.hid r3; have N3 := Lib.hid n3; have V3 := Lib.hid v3; have B13 : Below wr.heap.size wr w3 := B12.trans (b3.mono z2)
        clear r3 n3 v3 b3
        have hpw : 5 ^ (-c).toNat = pw 5 (-c) := rfl
        go_wp2_with fail
        go_roundw
        case rel =>
          refine ⟨2+1, ca, c3, ao, a3, xs, qs, by omega, rfl, rfl, rfl, HX.out.keep B13, R3.out, CX.out, N3.out, ?_, ?_, by omega, by omega, hB.trans (B13.mono hz)⟩
          · rw [VX.out, oK_step a b c 2 (by omega)]; show _ = _ * pw 5 c; rw [pw_neg (by omega), Nat.mul_one]
          · rw [V3.out, V2.out, V1.out, VY.out, oK_step (-a) (-b) (-c) 2 (by omega)]; exact congrArg _ hpw
        case measure => simp [intOf]
    · go_wp2_with fail
      go_ret2
      exact ⟨ao, bo, ca, cb, xs, ys, rfl, HX.out, HY.out, CX.out, CY.out, VX.out, VY.out, by omega, by omega, hB⟩
end Go.Proofs.YtbagmfnedgjndaaDoor
