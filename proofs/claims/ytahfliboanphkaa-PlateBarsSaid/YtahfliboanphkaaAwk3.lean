/-
  The examples that the statements of chapter 3 ask for: awake returns true.
-/
import Derived.Test.YtahfliboanphkaaPu4
import Derived.Test.YtahfliboanphkaaDi4
import Derived.Test.YtahfliboanphkaaBea
namespace Go.Proofs.Ytahfliboanphkaa
open Go.RowKit
theorem root_ex : rooV 200000000 2 = 14142 := by
  have e : rooE 200000000 2 = 0 := by unfold rooE; rw [if_pos (by omega)]
  unfold rooV
  rw [if_pos e]
  refine half_unique _ 0 200000000 14142 (by omega) (by omega) ?_ (.inr (by decide)) ?_
  · intro a b a0 ab bs hb
    unfold fitsI fitsP at *
    simp only [decide_eq_true_eq] at *
    exact Nat.le_trans (Nat.pow_le_pow_left (by omega) 2) hb
  · intro n h1 h2
    unfold fitsI fitsP
    simp only [decide_eq_false_iff_not]
    intro h
    have : 14143 ^ 2 ≤ n.toNat ^ 2 := Nat.pow_le_pow_left (by omega) 2
    have h3 : (14143 : Nat) ^ 2 = 200024449 := by decide
    have h4 : (200000000 : Int).toNat = 200000000 := rfl
    rw [h4] at h
    have h5 : (2 : Int).toNat = 2 := rfl
    rw [h5] at h
    omega
theorem pull_ex : pullE 1000 1000 0 0 0 100 100 0 = 0 ∧ pullV 1000 1000 0 0 0 100 100 0 = .agg #[.int .i64 707, .int .i64 708, .int .i64 707, .int .i64 708, .int .i64 0, .int .i64 0] := by
  have e : pullE 1000 1000 0 0 0 100 100 0 = 0 := by decide +kernel
  have hs : sqV (100 + -0) (100 + -0) (0 + -0) = 200000000 := by decide
  have hl : lenL (100 + -0) (100 + -0) (0 + -0) = 14142 := by unfold lenL; rw [hs]; exact root_ex
  have hh : lenH (100 + -0) (100 + -0) (0 + -0) = 14143 := by unfold lenH; rw [hl, hs]; decide
  refine ⟨e, ?_⟩
  unfold pullV
  rw [if_pos e, hl, hh]
  have c1 : cmpL 1000 1000 (100 + -0) 14142 14143 = 707 := by decide +kernel
  have c2 : cmpH 1000 1000 (100 + -0) 14142 14143 = 708 := by decide +kernel
  have c3 : cmpL 1000 1000 (0 + -0) 14142 14143 = 0 := by decide +kernel
  have c4 : cmpH 1000 1000 (0 + -0) 14142 14143 = 0 := by decide +kernel
  rw [c1, c2, c3, c4]
theorem bear_ex : dbE 0 100 0 10000 5000 70000 = 0 ∧ dbN 0 100 0 10000 5000 70000 = 2100 ∧ dbD 0 100 0 10000 5000 70000 = 1 := by
  refine ⟨by decide +kernel, by decide +kernel, by decide +kernel⟩
set_option maxRecDepth 100000 in
set_option maxHeartbeats 3200000 in
theorem awake3_any (w : World) : Calls Try.prog 8 #[] w fun e w' => e = .returned (.bool true) ∧ Below w.heap.size w w' := by
  have CP := Lib.hid (fun u => pullOf_any 1000 1000 0 0 0 100 100 0 u)
  rw [pull_ex.1, pull_ex.2] at CP
  have CD := Lib.hid (fun u => downBearing_any 0 100 0 10000 5000 70000 u)
  rw [bear_ex.1, bear_ex.2.1, bear_ex.2.2] at CD
  go_enter Try.func8, Try.ntmps8
  go_wp2_with fail
  refine (CP.out _).mono ?_
  rintro e w1 ⟨rfl, h1⟩
  have B1 : Below w.heap.size w w1 := below_via (by (repeat' (first | (with_reducible exact Below.refl _ _) | (with_reducible assumption) | (with_reducible refine Below.drew ?_) | (with_reducible refine below_drewN ?_ _) | (with_reducible refine Below.setCell ?_ ?_ _) | (with_reducible refine Below.alloc ?_ ?_ _) | go_size | omega))) h1
  have z1 := B1.size
  clear h1 CP
  go_wp2_with fail
  have P := Lib.hid (((Box.new w1 #[.int .i64 707, .int .i64 708, .int .i64 707, .int .i64 708, .int .i64 0, .int .i64 0] 84 (n := w1.heap.size) rfl).alloc (.cells #[.int .i64 0, .int .i64 100, .int .i64 300] 3)).alloc (.cells #[.int .i64 50, .int .i64 60, .int .i64 200, .int .i64 90, .int .i64 300, .int .i64 10] 64))
  have HB := Lib.hid ((Box.new (w1.alloc (.cells #[.int .i64 707, .int .i64 708, .int .i64 707, .int .i64 708, .int .i64 0, .int .i64 0] 84)) #[.int .i64 0, .int .i64 100, .int .i64 300] 3 (n := w1.heap.size + 1) (by simp)).alloc (.cells #[.int .i64 50, .int .i64 60, .int .i64 200, .int .i64 90, .int .i64 300, .int .i64 10] 64))
  have HC := Lib.hid (Box.new ((w1.alloc (.cells #[.int .i64 707, .int .i64 708, .int .i64 707, .int .i64 708, .int .i64 0, .int .i64 0] 84)).alloc (.cells #[.int .i64 0, .int .i64 100, .int .i64 300] 3)) #[.int .i64 50, .int .i64 60, .int .i64 200, .int .i64 90, .int .i64 300, .int .i64 10] 64 (n := w1.heap.size + 1 + 1) (by simp))
  have BU : Below w.heap.size w (((w1.alloc (.cells #[.int .i64 707, .int .i64 708, .int .i64 707, .int .i64 708, .int .i64 0, .int .i64 0] 84)).alloc (.cells #[.int .i64 0, .int .i64 100, .int .i64 300] 3)).alloc (.cells #[.int .i64 50, .int .i64 60, .int .i64 200, .int .i64 90, .int .i64 300, .int .i64 10] 64)) := by (repeat' (first | (with_reducible exact Below.refl _ _) | (with_reducible assumption) | (with_reducible refine Below.drew ?_) | (with_reducible refine below_drewN ?_ _) | (with_reducible refine Below.setCell ?_ ?_ _) | (with_reducible refine Below.alloc ?_ ?_ _) | go_size | omega))
  generalize (((w1.alloc (.cells #[.int .i64 707, .int .i64 708, .int .i64 707, .int .i64 708, .int .i64 0, .int .i64 0] 84)).alloc (.cells #[.int .i64 0, .int .i64 100, .int .i64 300] 3)).alloc (.cells #[.int .i64 50, .int .i64 60, .int .i64 200, .int .i64 90, .int .i64 300, .int .i64 10] 64)) = u at *
  generalize hpb : w1.heap.size = pb at *
  clear hpb B1
  refine (distribute_ex (pb + 1) (pb + 1 + 1) u HB.out HC.out).mono ?_
  rintro e w2 ⟨x, rfl, hx, h2⟩
  have B2 : Below w.heap.size w w2 := below_via BU h2
  have P2 := Lib.hid (P.out.keep h2); have X2 := Lib.hid hx
  clear h2 hx P HB HC BU
  go_wp2_with fail
  refine (CD.out _).mono ?_
  rintro e w3 ⟨rfl, h3⟩
  have B3 : Below w.heap.size w w3 := below_via B2 h3
  have P3 := Lib.hid (P2.out.keep h3); have X3 := Lib.hid (X2.out.keep h3)
  clear h3 P2 X2 B2 CD
  have lp := P3.out.lt; have lx := X3.out.lt
  have p0 := P3.out.cell 0; have p1 := P3.out.cell 1
  simp at p0 p1
  go_wp2_with fail
  have D := Lib.hid ((Box.new w3 #[.int .i64 2100, .int .i64 1] 63 (n := w3.heap.size) rfl).alloc (.cells #[.int .i64 30, .int .i64 1, .int .i64 75, .int .i64 1, .int .i64 55, .int .i64 1] 63))
  have Y := Lib.hid (Box.new (w3.alloc (.cells #[.int .i64 2100, .int .i64 1] 63)) #[.int .i64 30, .int .i64 1, .int .i64 75, .int .i64 1, .int .i64 55, .int .i64 1] 63 (n := w3.heap.size + 1) (by simp))
  have X4 := Lib.hid ((X3.out.alloc (.cells #[.int .i64 2100, .int .i64 1] 63)).alloc (.cells #[.int .i64 30, .int .i64 1, .int .i64 75, .int .i64 1, .int .i64 55, .int .i64 1] 63))
  refine (fracs3_ex x (w3.heap.size + 1) _ X4.out Y.out).mono ?_
  rintro e w4 ⟨rfl, h4⟩
  have B4 : Below w.heap.size w w4 := below_via (by (repeat' (first | (with_reducible exact Below.refl _ _) | (with_reducible assumption) | (with_reducible refine Below.drew ?_) | (with_reducible refine below_drewN ?_ _) | (with_reducible refine Below.setCell ?_ ?_ _) | (with_reducible refine Below.alloc ?_ ?_ _) | go_size | omega))) h4
  have D4 := Lib.hid (D.out.keep h4)
  clear h4 D Y X4 X3 P3 p0 p1
  obtain ⟨d0, d1, -⟩ := D4.out.two
  go_wp2_with fail
  go_ret
  exact ⟨rfl, by assumption⟩
end Go.Proofs.Ytahfliboanphkaa
