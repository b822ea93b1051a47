/-
  The law PlateHeights.
-/
import Derived.Test.YtgmiimpimoipcaaHe2
namespace Go.Proofs.Ytgmiimpimoipcaa
open Go.RowKit
set_option maxRecDepth 100000 in
set_option maxHeartbeats 1600000 in
theorem lawHeights (f br bk ah bh t wn : Int) (w : World) :
    Calls Try.prog 9 #[brg f br bk ah bh, .int .i64 t, .int .i64 wn] w fun e w' => e = .returned (.bool true) ∧ Below w.heap.size w w' := by
  have AW := Lib.hid (fun u => awake3_any u)
  have CL := Lib.hid (fun u => leastHeight_any f br bk ah bh t wn u)
  have CK := Lib.hid (fun u => rchkBr_any f br bk ah bh u)
  cases hok : okB f br bk ah bh
  · rw [show lhE f br bk ah bh t wn = 2 by unfold lhE; rw [hok]; rfl, show lhV f br bk ah bh t wn = 0 by unfold lhV lhE; rw [hok]; rfl] at CL
    rw [show chkBr f br bk ah bh = 2 by unfold chkBr; rw [hok]; rfl] at CK
    clear hok
    go_enter Try.func9, Try.ntmps9
    go_wp2_with fail
    refine (AW.out _).mono ?_
    rintro e w1 ⟨rfl, h⟩
    have B1 : Below w.heap.size w w1 := below_via (by (repeat' (first | (with_reducible exact Below.refl _ _) | (with_reducible assumption) | (with_reducible refine Below.drew ?_) | (with_reducible refine below_drewN ?_ _) | (with_reducible refine Below.setCell ?_ ?_ _) | (with_reducible refine Below.alloc ?_ ?_ _) | go_size | omega))) h
    have b1 := Lib.hid ((Box.new w #[.int .i64 f, .int .i64 br, .int .i64 bk, .int .i64 ah, .int .i64 bh] 61 rfl).keep h)
    have z1 := B1.size
    clear h
    have a0 := b1.out.cell 0; have a1 := b1.out.cell 1; have a2 := b1.out.cell 2; have a3 := b1.out.cell 3; have a4 := b1.out.cell 4; have lb := b1.out.lt
    simp at a0 a1 a2 a3 a4
    go_wp2_with fail
    refine (CL.out _).mono ?_
    rintro e w2 ⟨rfl, h⟩
    have B2 : Below w.heap.size w w2 := below_via B1 h
    have z2 := h.size
    have zz2 := B2.size
    have b2 := Lib.hid (b1.out.keep h)
    clear h a0 a1 a2 a3 a4 lb b1 CL AW
    have a0 := b2.out.cell 0; have a1 := b2.out.cell 1; have a2 := b2.out.cell 2; have a3 := b2.out.cell 3; have a4 := b2.out.cell 4; have lb := b2.out.lt
    simp at a0 a1 a2 a3 a4
    go_wp2_with fail
    refine (CK.out _).mono ?_
    rintro e w3 ⟨rfl, h⟩
    have B3 : Below w.heap.size w w3 := below_via B2 h
    have b3 := Lib.hid (b2.out.keep h)
    clear h a0 a1 a2 a3 a4 lb b2 CK
    go_wp2_with fail
    go_ret
    exact ⟨rfl, by (repeat' (first | (with_reducible exact Below.refl _ _) | (with_reducible assumption) | (with_reducible refine Below.drew ?_) | (with_reducible refine below_drewN ?_ _) | (with_reducible refine Below.setCell ?_ ?_ _) | (with_reducible refine Below.alloc ?_ ?_ _) | go_size | omega))⟩
  · have CX := Lib.hid (fun u => rleast_any f br bk ah bh t wn u hok)
    rw [show chkBr f br bk ah bh = 0 by unfold chkBr; rw [hok]; rfl] at CK
    have i0 : IntKind.i64.wrap (lhE f br bk ah bh t wn) = lhE f br bk ah bh t wn := by
      unfold lhE; repeat' split
      all_goals rfl
    clear hok
    generalize lhV f br bk ah bh t wn = V at *
    generalize lhE f br bk ah bh t wn = E at *
    go_enter Try.func9, Try.ntmps9
    go_wp2_with fail
    refine (AW.out _).mono ?_
    rintro e w1 ⟨rfl, h⟩
    have B1 : Below w.heap.size w w1 := below_via (by (repeat' (first | (with_reducible exact Below.refl _ _) | (with_reducible assumption) | (with_reducible refine Below.drew ?_) | (with_reducible refine below_drewN ?_ _) | (with_reducible refine Below.setCell ?_ ?_ _) | (with_reducible refine Below.alloc ?_ ?_ _) | go_size | omega))) h
    have b1 := Lib.hid ((Box.new w #[.int .i64 f, .int .i64 br, .int .i64 bk, .int .i64 ah, .int .i64 bh] 61 rfl).keep h)
    have z1 := B1.size
    clear h
    have a0 := b1.out.cell 0; have a1 := b1.out.cell 1; have a2 := b1.out.cell 2; have a3 := b1.out.cell 3; have a4 := b1.out.cell 4; have lb := b1.out.lt
    simp at a0 a1 a2 a3 a4
    go_wp2_with fail
    refine (CL.out _).mono ?_
    rintro e w2 ⟨rfl, h⟩
    have B2 : Below w.heap.size w w2 := below_via B1 h
    have z2 := h.size
    have zz2 := B2.size
    have b2 := Lib.hid (b1.out.keep h)
    clear h a0 a1 a2 a3 a4 lb b1 CL AW
    have a0 := b2.out.cell 0; have a1 := b2.out.cell 1; have a2 := b2.out.cell 2; have a3 := b2.out.cell 3; have a4 := b2.out.cell 4; have lb := b2.out.lt
    simp at a0 a1 a2 a3 a4
    go_wp2_with fail
    refine (CK.out _).mono ?_
    rintro e w3 ⟨rfl, h⟩
    have B3 : Below w.heap.size w w3 := below_via B2 h
    have b3 := Lib.hid (b2.out.keep h)
    clear h a0 a1 a2 a3 a4 lb b2 CK
    have a0 := b3.out.cell 0; have a1 := b3.out.cell 1; have a2 := b3.out.cell 2; have a3 := b3.out.cell 3; have a4 := b3.out.cell 4; have lb := b3.out.lt
    simp at a0 a1 a2 a3 a4
    go_wp2_with fail
    refine (CX.out _).mono ?_
    rintro e w4 ⟨rfl, h⟩
    have B4 : Below w.heap.size w w4 := below_via B3 h
    clear h a0 a1 a2 a3 a4 lb b3 CX
    go_wp2_with fail
    go_ret
    exact ⟨rfl, by (repeat' (first | (with_reducible exact Below.refl _ _) | (with_reducible assumption) | (with_reducible refine Below.drew ?_) | (with_reducible refine below_drewN ?_ _) | (with_reducible refine Below.setCell ?_ ?_ _) | (with_reducible refine Below.alloc ?_ ?_ _) | go_size | omega))⟩
theorem lawHeightsA (f br bk ah bh t wn : Int) (w : World) (_ : -9223372036854775808 ≤ f ∧ f ≤ 9223372036854775807) (_ : -9223372036854775808 ≤ br ∧ br ≤ 9223372036854775807) (_ : -9223372036854775808 ≤ bk ∧ bk ≤ 9223372036854775807) (_ : -9223372036854775808 ≤ ah ∧ ah ≤ 9223372036854775807) (_ : -9223372036854775808 ≤ bh ∧ bh ≤ 9223372036854775807) (_ : -9223372036854775808 ≤ t ∧ t ≤ 9223372036854775807) (_ : -9223372036854775808 ≤ wn ∧ wn ≤ 9223372036854775807) :
    Calls Try.prog 9 #[brg f br bk ah bh, .int .i64 t, .int .i64 wn] w fun e w' => e = .returned (.bool true) ∧ Below w.heap.size w w' := lawHeights f br bk ah bh t wn w
end Go.Proofs.Ytgmiimpimoipcaa
