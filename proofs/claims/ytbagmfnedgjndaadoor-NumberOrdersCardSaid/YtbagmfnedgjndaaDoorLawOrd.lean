/-
  The walk of the law NumberOrders: it returns true, whatever the three pitches; older memory stays as it was. Its condition: the table of primes reads as it is laid.
-/
import Derived.Test.YtbagmfnedgjndaaDoorOdr
import Derived.Test.YtbagmfnedgjndaaDoorLp2
import Derived.Test.YtbagmfnedgjndaaDoorNea
import Derived.Test.YtbagmfnedgjndaaDoorAwake
namespace Go.Proofs.YtbagmfnedgjndaaDoor
open Go.RowKit
set_option maxRecDepth 100000 in
set_option maxHeartbeats 4000000 in
theorem lawOrders_A (a b c d x y z t i j k l : Int) (E : Int) (hE : E ≠ 0) (w : World) (hprm : Primes w) (ho : ∀ u : World, Primes u → Calls Tryd.prog 41 #[.agg #[.int .i64 a, .int .i64 b, .int .i64 c, .int .i64 d], .agg #[.int .i64 x, .int .i64 y, .int .i64 z, .int .i64 t]] u fun e w' => e = .returned (.tuple #[.int .i64 0, .int .i64 E]) ∧ Below u.heap.size u w') (hp2 : err2 (chkP a b c d) (chkP x y z t) = E) :
    Calls Tryd.prog 8 #[.agg #[.int .i64 a, .int .i64 b, .int .i64 c, .int .i64 d], .agg #[.int .i64 x, .int .i64 y, .int .i64 z, .int .i64 t], .agg #[.int .i64 i, .int .i64 j, .int .i64 k, .int .i64 l]] w fun e w' => e = .returned (.bool true) ∧ Below w.heap.size w w' := by
  have HR := Lib.hid hprm
  have HO := Lib.hid ho; have HP2 := Lib.hid hp2
  have hE0 : (E != 0) = true := by simpa using hE
  clear hprm ho hp2
  go_enter Tryd.func8, Tryd.ntmps8
  go_wp2_with fail
  have BW : Below w.heap.size w (((w.alloc (.cells #[.int .i64 a, .int .i64 b, .int .i64 c, .int .i64 d] 47)).alloc (.cells #[.int .i64 x, .int .i64 y, .int .i64 z, .int .i64 t] 47)).alloc (.cells #[.int .i64 i, .int .i64 j, .int .i64 k, .int .i64 l] 47)) := by go_grown
  have A0 := Lib.hid (((Box.new w #[.int .i64 a, .int .i64 b, .int .i64 c, .int .i64 d] 47 rfl).alloc (.cells #[.int .i64 x, .int .i64 y, .int .i64 z, .int .i64 t] 47)).alloc (.cells #[.int .i64 i, .int .i64 j, .int .i64 k, .int .i64 l] 47))
  have C0 := Lib.hid ((Box.new (w.alloc (.cells #[.int .i64 a, .int .i64 b, .int .i64 c, .int .i64 d] 47)) #[.int .i64 x, .int .i64 y, .int .i64 z, .int .i64 t] 47 (n := w.heap.size + 1) (by simp)).alloc (.cells #[.int .i64 i, .int .i64 j, .int .i64 k, .int .i64 l] 47))
  have D0 := Lib.hid (Box.new ((w.alloc (.cells #[.int .i64 a, .int .i64 b, .int .i64 c, .int .i64 d] 47)).alloc (.cells #[.int .i64 x, .int .i64 y, .int .i64 z, .int .i64 t] 47)) #[.int .i64 i, .int .i64 j, .int .i64 k, .int .i64 l] 47 (n := w.heap.size + 1 + 1) (by simp))
  refine (awake_any _ (HR.out.keep BW)).mono ?_
  rintro e v1 ⟨rfl, g1⟩
  have B1 : Below w.heap.size w v1 := below_via (BW) g1
  have z1 := B1.size
  have y1 := g1.size
  try simp at y1
  have A1 := Lib.hid (A0.out.keep g1)
  have C1 := Lib.hid (C0.out.keep g1)
  have D1 := Lib.hid (D0.out.keep g1)
  clear g1  A0 C0 D0
  obtain ⟨a0, a1, a2, a3, -⟩ := A1.out.four
  go_wp2_with fail
  refine (near_any _ _ _ _ _).mono ?_
  rintro e v2 ⟨nv2, rfl, g2⟩
  have B2 : Below w.heap.size w v2 := below_via (by go_grown) g2
  have z2 := B2.size
  have y2 := g2.size
  try simp at y2
  have A2 := Lib.hid (A1.out.keep g2)
  have C2 := Lib.hid (C1.out.keep g2)
  have D2 := Lib.hid (D1.out.keep g2)
  clear g2 a0 a1 a2 a3 A1 C1 D1
  cases nv2
  · go_wp2_with fail
    go_ret
    exact ⟨rfl, by go_grown⟩
  obtain ⟨c0, c1, c2, c3, -⟩ := C2.out.four
  go_wp2_with fail
  refine (near_any _ _ _ _ _).mono ?_
  rintro e v3 ⟨nv3, rfl, g3⟩
  have B3 : Below w.heap.size w v3 := below_via (by go_grown) g3
  have z3 := B3.size
  have y3 := g3.size
  try simp at y3
  have A3 := Lib.hid (A2.out.keep g3)
  have C3 := Lib.hid (C2.out.keep g3)
  have D3 := Lib.hid (D2.out.keep g3)
  clear g3 c0 c1 c2 c3 A2 C2 D2
  cases nv3
  · go_wp2_with fail
    go_ret
    exact ⟨rfl, by go_grown⟩
  obtain ⟨d0, d1, d2, d3, -⟩ := D3.out.four
  go_wp2_with fail
  refine (near_any _ _ _ _ _).mono ?_
  rintro e v4 ⟨nv4, rfl, g4⟩
  have B4 : Below w.heap.size w v4 := below_via (by go_grown) g4
  have z4 := B4.size
  have y4 := g4.size
  try simp at y4
  have A4 := Lib.hid (A3.out.keep g4)
  have C4 := Lib.hid (C3.out.keep g4)
  have D4 := Lib.hid (D3.out.keep g4)
  clear g4 d0 d1 d2 d3 A3 C3 D3
  cases nv4
  · go_wp2_with fail
    go_ret
    exact ⟨rfl, by go_grown⟩
  obtain ⟨a0, a1, a2, a3, -⟩ := A4.out.four
  obtain ⟨c0, c1, c2, c3, -⟩ := C4.out.four
  go_wp2_with fail
  refine (HO.out _ (HR.out.keep (by go_grown))).mono ?_
  rintro e v5 ⟨rfl, g5⟩
  have B5 : Below w.heap.size w v5 := below_via (by go_grown) g5
  have z5 := B5.size
  have y5 := g5.size
  try simp at y5
  have A5 := Lib.hid (A4.out.keep g5)
  have C5 := Lib.hid (C4.out.keep g5)
  have D5 := Lib.hid (D4.out.keep g5)
  clear g5 a0 a1 a2 a3 c0 c1 c2 c3 A4 C4 D4
  obtain ⟨a0, a1, a2, a3, -⟩ := A5.out.four
  obtain ⟨c0, c1, c2, c3, -⟩ := C5.out.four
  go_wp2_with fail
  have G := Lib.hid (Box.new v5 #[.int .i64 a, .int .i64 b, .int .i64 c, .int .i64 d, .int .i64 x, .int .i64 y, .int .i64 z, .int .i64 t] 47 rfl)
  have Ag := Lib.hid (A5.out.alloc (.cells #[.int .i64 a, .int .i64 b, .int .i64 c, .int .i64 d, .int .i64 x, .int .i64 y, .int .i64 z, .int .i64 t] 47))
  have Cg := Lib.hid (C5.out.alloc (.cells #[.int .i64 a, .int .i64 b, .int .i64 c, .int .i64 d, .int .i64 x, .int .i64 y, .int .i64 z, .int .i64 t] 47))
  have Dg := Lib.hid (D5.out.alloc (.cells #[.int .i64 a, .int .i64 b, .int .i64 c, .int .i64 d, .int .i64 x, .int .i64 y, .int .i64 z, .int .i64 t] 47))
  refine (pitches2_any v5.heap.size 2 a b c d x y z t _ (G.out.cell 0) (G.out.cell 1) (G.out.cell 2) (G.out.cell 3) (G.out.cell 4) (G.out.cell 5) (G.out.cell 6) (G.out.cell 7) G.out.lt).mono ?_
  rintro e v6 ⟨rfl, g6⟩
  have B6 : Below w.heap.size w v6 := below_via (by go_grown) g6
  have z6 := B6.size
  have y6 := g6.size
  try simp at y6
  have A6 := Lib.hid (Ag.out.keep g6)
  have C6 := Lib.hid (Cg.out.keep g6)
  have D6 := Lib.hid (Dg.out.keep g6)
  clear g6 a0 a1 a2 a3 c0 c1 c2 c3 Ag Cg Dg
  clear G
  rw [HP2.out]
  go_wp2_with fail
  go_ret
  exact ⟨rfl, by go_grown⟩
set_option maxRecDepth 100000 in
set_option maxHeartbeats 4000000 in
theorem lawOrders_B1 (a b c d x y z t i j k l : Int) (C G H xa xb xc xd ya yb yc yd : Int) (hG : G ≠ 0) (w : World) (hprm : Primes w) (ho : ∀ u : World, Primes u → Calls Tryd.prog 41 #[.agg #[.int .i64 a, .int .i64 b, .int .i64 c, .int .i64 d], .agg #[.int .i64 x, .int .i64 y, .int .i64 z, .int .i64 t]] u fun e w' => e = .returned (.tuple #[.int .i64 C, .int .i64 0]) ∧ Below u.heap.size u w') (hp2 : err2 (chkP a b c d) (chkP x y z t) = 0) (hC : -1 ≤ C ∧ C ≤ 1) (hb : ∀ u : World, Primes u → Calls Tryd.prog 41 #[.agg #[.int .i64 x, .int .i64 y, .int .i64 z, .int .i64 t], .agg #[.int .i64 a, .int .i64 b, .int .i64 c, .int .i64 d]] u fun e w' => e = .returned (.tuple #[.int .i64 (-C), .int .i64 0]) ∧ Below u.heap.size u w') (hr : ∀ u : World, Primes u → Calls Tryd.prog 42 #[.agg #[.int .i64 a, .int .i64 b, .int .i64 c, .int .i64 d], .agg #[.int .i64 x, .int .i64 y, .int .i64 z, .int .i64 t]] u fun e w' => e = .returned (.int .i64 C) ∧ Below u.heap.size u w') (hj : ∀ u : World, Primes u → Calls Tryd.prog 33 #[.agg #[.int .i64 a, .int .i64 b, .int .i64 c, .int .i64 d], .agg #[.int .i64 i, .int .i64 j, .int .i64 k, .int .i64 l]] u fun e w' => e = .returned (.tuple #[.agg #[.int .i64 xa, .int .i64 xb, .int .i64 xc, .int .i64 xd], .int .i64 G]) ∧ Below u.heap.size u w') (hk : ∀ u : World, Primes u → Calls Tryd.prog 33 #[.agg #[.int .i64 x, .int .i64 y, .int .i64 z, .int .i64 t], .agg #[.int .i64 i, .int .i64 j, .int .i64 k, .int .i64 l]] u fun e w' => e = .returned (.tuple #[.agg #[.int .i64 ya, .int .i64 yb, .int .i64 yc, .int .i64 yd], .int .i64 H]) ∧ Below u.heap.size u w') :
    Calls Tryd.prog 8 #[.agg #[.int .i64 a, .int .i64 b, .int .i64 c, .int .i64 d], .agg #[.int .i64 x, .int .i64 y, .int .i64 z, .int .i64 t], .agg #[.int .i64 i, .int .i64 j, .int .i64 k, .int .i64 l]] w fun e w' => e = .returned (.bool true) ∧ Below w.heap.size w w' := by
  have HR := Lib.hid hprm
  have HO := Lib.hid ho; have HP2 := Lib.hid hp2
  have HB := Lib.hid hb; have HF := Lib.hid hr; have HJ := Lib.hid hj; have HK := Lib.hid hk
  have wc : IntKind.i64.wrap (-C) = -C := IntWalk.i64_in _ (by omega)
  clear hb hr hj hk hC
  have hG0 : (G != 0) = true := by simpa using hG
  clear hG
  clear hprm ho hp2
  go_enter Tryd.func8, Tryd.ntmps8
  go_wp2_with fail
  have BW : Below w.heap.size w (((w.alloc (.cells #[.int .i64 a, .int .i64 b, .int .i64 c, .int .i64 d] 47)).alloc (.cells #[.int .i64 x, .int .i64 y, .int .i64 z, .int .i64 t] 47)).alloc (.cells #[.int .i64 i, .int .i64 j, .int .i64 k, .int .i64 l] 47)) := by go_grown
  have A0 := Lib.hid (((Box.new w #[.int .i64 a, .int .i64 b, .int .i64 c, .int .i64 d] 47 rfl).alloc (.cells #[.int .i64 x, .int .i64 y, .int .i64 z, .int .i64 t] 47)).alloc (.cells #[.int .i64 i, .int .i64 j, .int .i64 k, .int .i64 l] 47))
  have C0 := Lib.hid ((Box.new (w.alloc (.cells #[.int .i64 a, .int .i64 b, .int .i64 c, .int .i64 d] 47)) #[.int .i64 x, .int .i64 y, .int .i64 z, .int .i64 t] 47 (n := w.heap.size + 1) (by simp)).alloc (.cells #[.int .i64 i, .int .i64 j, .int .i64 k, .int .i64 l] 47))
  have D0 := Lib.hid (Box.new ((w.alloc (.cells #[.int .i64 a, .int .i64 b, .int .i64 c, .int .i64 d] 47)).alloc (.cells #[.int .i64 x, .int .i64 y, .int .i64 z, .int .i64 t] 47)) #[.int .i64 i, .int .i64 j, .int .i64 k, .int .i64 l] 47 (n := w.heap.size + 1 + 1) (by simp))
  refine (awake_any _ (HR.out.keep BW)).mono ?_
  rintro e v1 ⟨rfl, g1⟩
  have B1 : Below w.heap.size w v1 := below_via (BW) g1
  have z1 := B1.size
  have y1 := g1.size
  try simp at y1
  have A1 := Lib.hid (A0.out.keep g1)
  have C1 := Lib.hid (C0.out.keep g1)
  have D1 := Lib.hid (D0.out.keep g1)
  clear g1  A0 C0 D0
  obtain ⟨a0, a1, a2, a3, -⟩ := A1.out.four
  go_wp2_with fail
  refine (near_any _ _ _ _ _).mono ?_
  rintro e v2 ⟨nv2, rfl, g2⟩
  have B2 : Below w.heap.size w v2 := below_via (by go_grown) g2
  have z2 := B2.size
  have y2 := g2.size
  try simp at y2
  have A2 := Lib.hid (A1.out.keep g2)
  have C2 := Lib.hid (C1.out.keep g2)
  have D2 := Lib.hid (D1.out.keep g2)
  clear g2 a0 a1 a2 a3 A1 C1 D1
  cases nv2
  · go_wp2_with fail
    go_ret
    exact ⟨rfl, by go_grown⟩
  obtain ⟨c0, c1, c2, c3, -⟩ := C2.out.four
  go_wp2_with fail
  refine (near_any _ _ _ _ _).mono ?_
  rintro e v3 ⟨nv3, rfl, g3⟩
  have B3 : Below w.heap.size w v3 := below_via (by go_grown) g3
  have z3 := B3.size
  have y3 := g3.size
  try simp at y3
  have A3 := Lib.hid (A2.out.keep g3)
  have C3 := Lib.hid (C2.out.keep g3)
  have D3 := Lib.hid (D2.out.keep g3)
  clear g3 c0 c1 c2 c3 A2 C2 D2
  cases nv3
  · go_wp2_with fail
    go_ret
    exact ⟨rfl, by go_grown⟩
  obtain ⟨d0, d1, d2, d3, -⟩ := D3.out.four
  go_wp2_with fail
  refine (near_any _ _ _ _ _).mono ?_
  rintro e v4 ⟨nv4, rfl, g4⟩
  have B4 : Below w.heap.size w v4 := below_via (by go_grown) g4
  have z4 := B4.size
  have y4 := g4.size
  try simp at y4
  have A4 := Lib.hid (A3.out.keep g4)
  have C4 := Lib.hid (C3.out.keep g4)
  have D4 := Lib.hid (D3.out.keep g4)
  clear g4 d0 d1 d2 d3 A3 C3 D3
  cases nv4
  · go_wp2_with fail
    go_ret
    exact ⟨rfl, by go_grown⟩
  obtain ⟨a0, a1, a2, a3, -⟩ := A4.out.four
  obtain ⟨c0, c1, c2, c3, -⟩ := C4.out.four
  go_wp2_with fail
  refine (HO.out _ (HR.out.keep (by go_grown))).mono ?_
  rintro e v5 ⟨rfl, g5⟩
  have B5 : Below w.heap.size w v5 := below_via (by go_grown) g5
  have z5 := B5.size
  have y5 := g5.size
  try simp at y5
  have A5 := Lib.hid (A4.out.keep g5)
  have C5 := Lib.hid (C4.out.keep g5)
  have D5 := Lib.hid (D4.out.keep g5)
  clear g5 a0 a1 a2 a3 c0 c1 c2 c3 A4 C4 D4
  obtain ⟨a0, a1, a2, a3, -⟩ := A5.out.four
  obtain ⟨c0, c1, c2, c3, -⟩ := C5.out.four
  go_wp2_with fail
  have G := Lib.hid (Box.new v5 #[.int .i64 a, .int .i64 b, .int .i64 c, .int .i64 d, .int .i64 x, .int .i64 y, .int .i64 z, .int .i64 t] 47 rfl)
  have Ag := Lib.hid (A5.out.alloc (.cells #[.int .i64 a, .int .i64 b, .int .i64 c, .int .i64 d, .int .i64 x, .int .i64 y, .int .i64 z, .int .i64 t] 47))
  have Cg := Lib.hid (C5.out.alloc (.cells #[.int .i64 a, .int .i64 b, .int .i64 c, .int .i64 d, .int .i64 x, .int .i64 y, .int .i64 z, .int .i64 t] 47))
  have Dg := Lib.hid (D5.out.alloc (.cells #[.int .i64 a, .int .i64 b, .int .i64 c, .int .i64 d, .int .i64 x, .int .i64 y, .int .i64 z, .int .i64 t] 47))
  refine (pitches2_any v5.heap.size 2 a b c d x y z t _ (G.out.cell 0) (G.out.cell 1) (G.out.cell 2) (G.out.cell 3) (G.out.cell 4) (G.out.cell 5) (G.out.cell 6) (G.out.cell 7) G.out.lt).mono ?_
  rintro e v6 ⟨rfl, g6⟩
  have B6 : Below w.heap.size w v6 := below_via (by go_grown) g6
  have z6 := B6.size
  have y6 := g6.size
  try simp at y6
  have A6 := Lib.hid (Ag.out.keep g6)
  have C6 := Lib.hid (Cg.out.keep g6)
  have D6 := Lib.hid (Dg.out.keep g6)
  clear g6 a0 a1 a2 a3 c0 c1 c2 c3 Ag Cg Dg
  clear G
  rw [HP2.out]
  obtain ⟨a0, a1, a2, a3, -⟩ := A6.out.four
  obtain ⟨c0, c1, c2, c3, -⟩ := C6.out.four
  go_wp2_with fail
  refine (HB.out _ (HR.out.keep (by go_grown))).mono ?_
  rintro e v7 ⟨rfl, g7⟩
  have B7 : Below w.heap.size w v7 := below_via (by go_grown) g7
  have z7 := B7.size
  have y7 := g7.size
  try simp at y7
  have A7 := Lib.hid (A6.out.keep g7)
  have C7 := Lib.hid (C6.out.keep g7)
  have D7 := Lib.hid (D6.out.keep g7)
  clear g7 a0 a1 a2 a3 c0 c1 c2 c3 A6 C6 D6
  obtain ⟨a0, a1, a2, a3, -⟩ := A7.out.four
  obtain ⟨c0, c1, c2, c3, -⟩ := C7.out.four
  go_wp2_with fail
  refine (HF.out _ (HR.out.keep (by go_grown))).mono ?_
  rintro e v8 ⟨rfl, g8⟩
  have B8 : Below w.heap.size w v8 := below_via (by go_grown) g8
  have z8 := B8.size
  have y8 := g8.size
  try simp at y8
  have A8 := Lib.hid (A7.out.keep g8)
  have C8 := Lib.hid (C7.out.keep g8)
  have D8 := Lib.hid (D7.out.keep g8)
  clear g8 a0 a1 a2 a3 c0 c1 c2 c3 A7 C7 D7
  obtain ⟨a0, a1, a2, a3, -⟩ := A8.out.four
  obtain ⟨d0, d1, d2, d3, -⟩ := D8.out.four
  go_wp2_with fail
  refine (HJ.out _ (HR.out.keep (by go_grown))).mono ?_
  rintro e v9 ⟨rfl, g9⟩
  have B9 : Below w.heap.size w v9 := below_via (by go_grown) g9
  have z9 := B9.size
  have y9 := g9.size
  try simp at y9
  have A9 := Lib.hid ((A8.out.keep g9).alloc (.cells #[.int .i64 xa, .int .i64 xb, .int .i64 xc, .int .i64 xd] 47))
  have C9 := Lib.hid ((C8.out.keep g9).alloc (.cells #[.int .i64 xa, .int .i64 xb, .int .i64 xc, .int .i64 xd] 47))
  have D9 := Lib.hid ((D8.out.keep g9).alloc (.cells #[.int .i64 xa, .int .i64 xb, .int .i64 xc, .int .i64 xd] 47))
  have X9 := Lib.hid (Box.new v9 #[.int .i64 xa, .int .i64 xb, .int .i64 xc, .int .i64 xd] 47 rfl)
  clear g9 a0 a1 a2 a3 d0 d1 d2 d3 A8 C8 D8
  obtain ⟨c0, c1, c2, c3, -⟩ := C9.out.four
  obtain ⟨d0, d1, d2, d3, -⟩ := D9.out.four
  go_wp2_with fail
  refine (HK.out _ (HR.out.keep (by go_grown))).mono ?_
  rintro e v10 ⟨rfl, g10⟩
  have B10 : Below w.heap.size w v10 := below_via (by go_grown) g10
  have z10 := B10.size
  have y10 := g10.size
  try simp at y10
  have A10 := Lib.hid ((A9.out.keep g10).alloc (.cells #[.int .i64 ya, .int .i64 yb, .int .i64 yc, .int .i64 yd] 47))
  have C10 := Lib.hid ((C9.out.keep g10).alloc (.cells #[.int .i64 ya, .int .i64 yb, .int .i64 yc, .int .i64 yd] 47))
  have D10 := Lib.hid ((D9.out.keep g10).alloc (.cells #[.int .i64 ya, .int .i64 yb, .int .i64 yc, .int .i64 yd] 47))
  have X10 := Lib.hid ((X9.out.keep g10).alloc (.cells #[.int .i64 ya, .int .i64 yb, .int .i64 yc, .int .i64 yd] 47))
  have Y10 := Lib.hid (Box.new v10 #[.int .i64 ya, .int .i64 yb, .int .i64 yc, .int .i64 yd] 47 rfl)
  clear g10 c0 c1 c2 c3 d0 d1 d2 d3 A9 C9 D9 X9
  go_wp2_with fail
  go_ret
  exact ⟨rfl, by go_grown⟩
set_option maxRecDepth 100000 in
set_option maxHeartbeats 4000000 in
theorem lawOrders_B2 (a b c d x y z t i j k l : Int) (C H xa xb xc xd ya yb yc yd : Int) (hH : H ≠ 0) (w : World) (hprm : Primes w) (ho : ∀ u : World, Primes u → Calls Tryd.prog 41 #[.agg #[.int .i64 a, .int .i64 b, .int .i64 c, .int .i64 d], .agg #[.int .i64 x, .int .i64 y, .int .i64 z, .int .i64 t]] u fun e w' => e = .returned (.tuple #[.int .i64 C, .int .i64 0]) ∧ Below u.heap.size u w') (hp2 : err2 (chkP a b c d) (chkP x y z t) = 0) (hC : -1 ≤ C ∧ C ≤ 1) (hb : ∀ u : World, Primes u → Calls Tryd.prog 41 #[.agg #[.int .i64 x, .int .i64 y, .int .i64 z, .int .i64 t], .agg #[.int .i64 a, .int .i64 b, .int .i64 c, .int .i64 d]] u fun e w' => e = .returned (.tuple #[.int .i64 (-C), .int .i64 0]) ∧ Below u.heap.size u w') (hr : ∀ u : World, Primes u → Calls Tryd.prog 42 #[.agg #[.int .i64 a, .int .i64 b, .int .i64 c, .int .i64 d], .agg #[.int .i64 x, .int .i64 y, .int .i64 z, .int .i64 t]] u fun e w' => e = .returned (.int .i64 C) ∧ Below u.heap.size u w') (hj : ∀ u : World, Primes u → Calls Tryd.prog 33 #[.agg #[.int .i64 a, .int .i64 b, .int .i64 c, .int .i64 d], .agg #[.int .i64 i, .int .i64 j, .int .i64 k, .int .i64 l]] u fun e w' => e = .returned (.tuple #[.agg #[.int .i64 xa, .int .i64 xb, .int .i64 xc, .int .i64 xd], .int .i64 0]) ∧ Below u.heap.size u w') (hk : ∀ u : World, Primes u → Calls Tryd.prog 33 #[.agg #[.int .i64 x, .int .i64 y, .int .i64 z, .int .i64 t], .agg #[.int .i64 i, .int .i64 j, .int .i64 k, .int .i64 l]] u fun e w' => e = .returned (.tuple #[.agg #[.int .i64 ya, .int .i64 yb, .int .i64 yc, .int .i64 yd], .int .i64 H]) ∧ Below u.heap.size u w') :
    Calls Tryd.prog 8 #[.agg #[.int .i64 a, .int .i64 b, .int .i64 c, .int .i64 d], .agg #[.int .i64 x, .int .i64 y, .int .i64 z, .int .i64 t], .agg #[.int .i64 i, .int .i64 j, .int .i64 k, .int .i64 l]] w fun e w' => e = .returned (.bool true) ∧ Below w.heap.size w w' := by
  have HR := Lib.hid hprm
  have HO := Lib.hid ho; have HP2 := Lib.hid hp2
  have HB := Lib.hid hb; have HF := Lib.hid hr; have HJ := Lib.hid hj; have HK := Lib.hid hk
  have wc : IntKind.i64.wrap (-C) = -C := IntWalk.i64_in _ (by omega)
  clear hb hr hj hk hC
  have hH0 : (H != 0) = true := by simpa using hH
  clear hH
  clear hprm ho hp2
  go_enter Tryd.func8, Tryd.ntmps8
  go_wp2_with fail
  have BW : Below w.heap.size w (((w.alloc (.cells #[.int .i64 a, .int .i64 b, .int .i64 c, .int .i64 d] 47)).alloc (.cells #[.int .i64 x, .int .i64 y, .int .i64 z, .int .i64 t] 47)).alloc (.cells #[.int .i64 i, .int .i64 j, .int .i64 k, .int .i64 l] 47)) := by go_grown
  have A0 := Lib.hid (((Box.new w #[.int .i64 a, .int .i64 b, .int .i64 c, .int .i64 d] 47 rfl).alloc (.cells #[.int .i64 x, .int .i64 y, .int .i64 z, .int .i64 t] 47)).alloc (.cells #[.int .i64 i, .int .i64 j, .int .i64 k, .int .i64 l] 47))
  have C0 := Lib.hid ((Box.new (w.alloc (.cells #[.int .i64 a, .int .i64 b, .int .i64 c, .int .i64 d] 47)) #[.int .i64 x, .int .i64 y, .int .i64 z, .int .i64 t] 47 (n := w.heap.size + 1) (by simp)).alloc (.cells #[.int .i64 i, .int .i64 j, .int .i64 k, .int .i64 l] 47))
  have D0 := Lib.hid (Box.new ((w.alloc (.cells #[.int .i64 a, .int .i64 b, .int .i64 c, .int .i64 d] 47)).alloc (.cells #[.int .i64 x, .int .i64 y, .int .i64 z, .int .i64 t] 47)) #[.int .i64 i, .int .i64 j, .int .i64 k, .int .i64 l] 47 (n := w.heap.size + 1 + 1) (by simp))
  refine (awake_any _ (HR.out.keep BW)).mono ?_
  rintro e v1 ⟨rfl, g1⟩
  have B1 : Below w.heap.size w v1 := below_via (BW) g1
  have z1 := B1.size
  have y1 := g1.size
  try simp at y1
  have A1 := Lib.hid (A0.out.keep g1)
  have C1 := Lib.hid (C0.out.keep g1)
  have D1 := Lib.hid (D0.out.keep g1)
  clear g1  A0 C0 D0
  obtain ⟨a0, a1, a2, a3, -⟩ := A1.out.four
  go_wp2_with fail
  refine (near_any _ _ _ _ _).mono ?_
  rintro e v2 ⟨nv2, rfl, g2⟩
  have B2 : Below w.heap.size w v2 := below_via (by go_grown) g2
  have z2 := B2.size
  have y2 := g2.size
  try simp at y2
  have A2 := Lib.hid (A1.out.keep g2)
  have C2 := Lib.hid (C1.out.keep g2)
  have D2 := Lib.hid (D1.out.keep g2)
  clear g2 a0 a1 a2 a3 A1 C1 D1
  cases nv2
  · go_wp2_with fail
    go_ret
    exact ⟨rfl, by go_grown⟩
  obtain ⟨c0, c1, c2, c3, -⟩ := C2.out.four
  go_wp2_with fail
  refine (near_any _ _ _ _ _).mono ?_
  rintro e v3 ⟨nv3, rfl, g3⟩
  have B3 : Below w.heap.size w v3 := below_via (by go_grown) g3
  have z3 := B3.size
  have y3 := g3.size
  try simp at y3
  have A3 := Lib.hid (A2.out.keep g3)
  have C3 := Lib.hid (C2.out.keep g3)
  have D3 := Lib.hid (D2.out.keep g3)
  clear g3 c0 c1 c2 c3 A2 C2 D2
  cases nv3
  · go_wp2_with fail
    go_ret
    exact ⟨rfl, by go_grown⟩
  obtain ⟨d0, d1, d2, d3, -⟩ := D3.out.four
  go_wp2_with fail
  refine (near_any _ _ _ _ _).mono ?_
  rintro e v4 ⟨nv4, rfl, g4⟩
  have B4 : Below w.heap.size w v4 := below_via (by go_grown) g4
  have z4 := B4.size
  have y4 := g4.size
  try simp at y4
  have A4 := Lib.hid (A3.out.keep g4)
  have C4 := Lib.hid (C3.out.keep g4)
  have D4 := Lib.hid (D3.out.keep g4)
  clear g4 d0 d1 d2 d3 A3 C3 D3
  cases nv4
  · go_wp2_with fail
    go_ret
    exact ⟨rfl, by go_grown⟩
  obtain ⟨a0, a1, a2, a3, -⟩ := A4.out.four
  obtain ⟨c0, c1, c2, c3, -⟩ := C4.out.four
  go_wp2_with fail
  refine (HO.out _ (HR.out.keep (by go_grown))).mono ?_
  rintro e v5 ⟨rfl, g5⟩
  have B5 : Below w.heap.size w v5 := below_via (by go_grown) g5
  have z5 := B5.size
  have y5 := g5.size
  try simp at y5
  have A5 := Lib.hid (A4.out.keep g5)
  have C5 := Lib.hid (C4.out.keep g5)
  have D5 := Lib.hid (D4.out.keep g5)
  clear g5 a0 a1 a2 a3 c0 c1 c2 c3 A4 C4 D4
  obtain ⟨a0, a1, a2, a3, -⟩ := A5.out.four
  obtain ⟨c0, c1, c2, c3, -⟩ := C5.out.four
  go_wp2_with fail
  have G := Lib.hid (Box.new v5 #[.int .i64 a, .int .i64 b, .int .i64 c, .int .i64 d, .int .i64 x, .int .i64 y, .int .i64 z, .int .i64 t] 47 rfl)
  have Ag := Lib.hid (A5.out.alloc (.cells #[.int .i64 a, .int .i64 b, .int .i64 c, .int .i64 d, .int .i64 x, .int .i64 y, .int .i64 z, .int .i64 t] 47))
  have Cg := Lib.hid (C5.out.alloc (.cells #[.int .i64 a, .int .i64 b, .int .i64 c, .int .i64 d, .int .i64 x, .int .i64 y, .int .i64 z, .int .i64 t] 47))
  have Dg := Lib.hid (D5.out.alloc (.cells #[.int .i64 a, .int .i64 b, .int .i64 c, .int .i64 d, .int .i64 x, .int .i64 y, .int .i64 z, .int .i64 t] 47))
  refine (pitches2_any v5.heap.size 2 a b c d x y z t _ (G.out.cell 0) (G.out.cell 1) (G.out.cell 2) (G.out.cell 3) (G.out.cell 4) (G.out.cell 5) (G.out.cell 6) (G.out.cell 7) G.out.lt).mono ?_
  rintro e v6 ⟨rfl, g6⟩
  have B6 : Below w.heap.size w v6 := below_via (by go_grown) g6
  have z6 := B6.size
  have y6 := g6.size
  try simp at y6
  have A6 := Lib.hid (Ag.out.keep g6)
  have C6 := Lib.hid (Cg.out.keep g6)
  have D6 := Lib.hid (Dg.out.keep g6)
  clear g6 a0 a1 a2 a3 c0 c1 c2 c3 Ag Cg Dg
  clear G
  rw [HP2.out]
  obtain ⟨a0, a1, a2, a3, -⟩ := A6.out.four
  obtain ⟨c0, c1, c2, c3, -⟩ := C6.out.four
  go_wp2_with fail
  refine (HB.out _ (HR.out.keep (by go_grown))).mono ?_
  rintro e v7 ⟨rfl, g7⟩
  have B7 : Below w.heap.size w v7 := below_via (by go_grown) g7
  have z7 := B7.size
  have y7 := g7.size
  try simp at y7
  have A7 := Lib.hid (A6.out.keep g7)
  have C7 := Lib.hid (C6.out.keep g7)
  have D7 := Lib.hid (D6.out.keep g7)
  clear g7 a0 a1 a2 a3 c0 c1 c2 c3 A6 C6 D6
  obtain ⟨a0, a1, a2, a3, -⟩ := A7.out.four
  obtain ⟨c0, c1, c2, c3, -⟩ := C7.out.four
  go_wp2_with fail
  refine (HF.out _ (HR.out.keep (by go_grown))).mono ?_
  rintro e v8 ⟨rfl, g8⟩
  have B8 : Below w.heap.size w v8 := below_via (by go_grown) g8
  have z8 := B8.size
  have y8 := g8.size
  try simp at y8
  have A8 := Lib.hid (A7.out.keep g8)
  have C8 := Lib.hid (C7.out.keep g8)
  have D8 := Lib.hid (D7.out.keep g8)
  clear g8 a0 a1 a2 a3 c0 c1 c2 c3 A7 C7 D7
  obtain ⟨a0, a1, a2, a3, -⟩ := A8.out.four
  obtain ⟨d0, d1, d2, d3, -⟩ := D8.out.four
  go_wp2_with fail
  refine (HJ.out _ (HR.out.keep (by go_grown))).mono ?_
  rintro e v9 ⟨rfl, g9⟩
  have B9 : Below w.heap.size w v9 := below_via (by go_grown) g9
  have z9 := B9.size
  have y9 := g9.size
  try simp at y9
  have A9 := Lib.hid ((A8.out.keep g9).alloc (.cells #[.int .i64 xa, .int .i64 xb, .int .i64 xc, .int .i64 xd] 47))
  have C9 := Lib.hid ((C8.out.keep g9).alloc (.cells #[.int .i64 xa, .int .i64 xb, .int .i64 xc, .int .i64 xd] 47))
  have D9 := Lib.hid ((D8.out.keep g9).alloc (.cells #[.int .i64 xa, .int .i64 xb, .int .i64 xc, .int .i64 xd] 47))
  have X9 := Lib.hid (Box.new v9 #[.int .i64 xa, .int .i64 xb, .int .i64 xc, .int .i64 xd] 47 rfl)
  clear g9 a0 a1 a2 a3 d0 d1 d2 d3 A8 C8 D8
  obtain ⟨c0, c1, c2, c3, -⟩ := C9.out.four
  obtain ⟨d0, d1, d2, d3, -⟩ := D9.out.four
  go_wp2_with fail
  refine (HK.out _ (HR.out.keep (by go_grown))).mono ?_
  rintro e v10 ⟨rfl, g10⟩
  have B10 : Below w.heap.size w v10 := below_via (by go_grown) g10
  have z10 := B10.size
  have y10 := g10.size
  try simp at y10
  have A10 := Lib.hid ((A9.out.keep g10).alloc (.cells #[.int .i64 ya, .int .i64 yb, .int .i64 yc, .int .i64 yd] 47))
  have C10 := Lib.hid ((C9.out.keep g10).alloc (.cells #[.int .i64 ya, .int .i64 yb, .int .i64 yc, .int .i64 yd] 47))
  have D10 := Lib.hid ((D9.out.keep g10).alloc (.cells #[.int .i64 ya, .int .i64 yb, .int .i64 yc, .int .i64 yd] 47))
  have X10 := Lib.hid ((X9.out.keep g10).alloc (.cells #[.int .i64 ya, .int .i64 yb, .int .i64 yc, .int .i64 yd] 47))
  have Y10 := Lib.hid (Box.new v10 #[.int .i64 ya, .int .i64 yb, .int .i64 yc, .int .i64 yd] 47 rfl)
  clear g10 c0 c1 c2 c3 d0 d1 d2 d3 A9 C9 D9 X9
  go_wp2_with fail
  go_ret
  exact ⟨rfl, by go_grown⟩
set_option maxRecDepth 100000 in
set_option maxHeartbeats 4000000 in
theorem lawOrders_C (a b c d x y z t i j k l : Int) (C xa xb xc xd ya yb yc yd : Int) (w : World) (hprm : Primes w) (ho : ∀ u : World, Primes u → Calls Tryd.prog 41 #[.agg #[.int .i64 a, .int .i64 b, .int .i64 c, .int .i64 d], .agg #[.int .i64 x, .int .i64 y, .int .i64 z, .int .i64 t]] u fun e w' => e = .returned (.tuple #[.int .i64 C, .int .i64 0]) ∧ Below u.heap.size u w') (hp2 : err2 (chkP a b c d) (chkP x y z t) = 0) (hC : -1 ≤ C ∧ C ≤ 1) (hb : ∀ u : World, Primes u → Calls Tryd.prog 41 #[.agg #[.int .i64 x, .int .i64 y, .int .i64 z, .int .i64 t], .agg #[.int .i64 a, .int .i64 b, .int .i64 c, .int .i64 d]] u fun e w' => e = .returned (.tuple #[.int .i64 (-C), .int .i64 0]) ∧ Below u.heap.size u w') (hr : ∀ u : World, Primes u → Calls Tryd.prog 42 #[.agg #[.int .i64 a, .int .i64 b, .int .i64 c, .int .i64 d], .agg #[.int .i64 x, .int .i64 y, .int .i64 z, .int .i64 t]] u fun e w' => e = .returned (.int .i64 C) ∧ Below u.heap.size u w') (hj : ∀ u : World, Primes u → Calls Tryd.prog 33 #[.agg #[.int .i64 a, .int .i64 b, .int .i64 c, .int .i64 d], .agg #[.int .i64 i, .int .i64 j, .int .i64 k, .int .i64 l]] u fun e w' => e = .returned (.tuple #[.agg #[.int .i64 xa, .int .i64 xb, .int .i64 xc, .int .i64 xd], .int .i64 0]) ∧ Below u.heap.size u w') (hk : ∀ u : World, Primes u → Calls Tryd.prog 33 #[.agg #[.int .i64 x, .int .i64 y, .int .i64 z, .int .i64 t], .agg #[.int .i64 i, .int .i64 j, .int .i64 k, .int .i64 l]] u fun e w' => e = .returned (.tuple #[.agg #[.int .i64 ya, .int .i64 yb, .int .i64 yc, .int .i64 yd], .int .i64 0]) ∧ Below u.heap.size u w') (hd : ∀ u : World, Primes u → Calls Tryd.prog 41 #[.agg #[.int .i64 xa, .int .i64 xb, .int .i64 xc, .int .i64 xd], .agg #[.int .i64 ya, .int .i64 yb, .int .i64 yc, .int .i64 yd]] u fun e w' => e = .returned (.tuple #[.int .i64 C, .int .i64 0]) ∧ Below u.heap.size u w') :
    Calls Tryd.prog 8 #[.agg #[.int .i64 a, .int .i64 b, .int .i64 c, .int .i64 d], .agg #[.int .i64 x, .int .i64 y, .int .i64 z, .int .i64 t], .agg #[.int .i64 i, .int .i64 j, .int .i64 k, .int .i64 l]] w fun e w' => e = .returned (.bool true) ∧ Below w.heap.size w w' := by
  have HR := Lib.hid hprm
  have HO := Lib.hid ho; have HP2 := Lib.hid hp2
  have HB := Lib.hid hb; have HF := Lib.hid hr; have HJ := Lib.hid hj; have HK := Lib.hid hk
  have wc : IntKind.i64.wrap (-C) = -C := IntWalk.i64_in _ (by omega)
  clear hb hr hj hk hC
  have HD := Lib.hid hd
  clear hd
  clear hprm ho hp2
  go_enter Tryd.func8, Tryd.ntmps8
  go_wp2_with fail
  have BW : Below w.heap.size w (((w.alloc (.cells #[.int .i64 a, .int .i64 b, .int .i64 c, .int .i64 d] 47)).alloc (.cells #[.int .i64 x, .int .i64 y, .int .i64 z, .int .i64 t] 47)).alloc (.cells #[.int .i64 i, .int .i64 j, .int .i64 k, .int .i64 l] 47)) := by go_grown
  have A0 := Lib.hid (((Box.new w #[.int .i64 a, .int .i64 b, .int .i64 c, .int .i64 d] 47 rfl).alloc (.cells #[.int .i64 x, .int .i64 y, .int .i64 z, .int .i64 t] 47)).alloc (.cells #[.int .i64 i, .int .i64 j, .int .i64 k, .int .i64 l] 47))
  have C0 := Lib.hid ((Box.new (w.alloc (.cells #[.int .i64 a, .int .i64 b, .int .i64 c, .int .i64 d] 47)) #[.int .i64 x, .int .i64 y, .int .i64 z, .int .i64 t] 47 (n := w.heap.size + 1) (by simp)).alloc (.cells #[.int .i64 i, .int .i64 j, .int .i64 k, .int .i64 l] 47))
  have D0 := Lib.hid (Box.new ((w.alloc (.cells #[.int .i64 a, .int .i64 b, .int .i64 c, .int .i64 d] 47)).alloc (.cells #[.int .i64 x, .int .i64 y, .int .i64 z, .int .i64 t] 47)) #[.int .i64 i, .int .i64 j, .int .i64 k, .int .i64 l] 47 (n := w.heap.size + 1 + 1) (by simp))
  refine (awake_any _ (HR.out.keep BW)).mono ?_
  rintro e v1 ⟨rfl, g1⟩
  have B1 : Below w.heap.size w v1 := below_via (BW) g1
  have z1 := B1.size
  have y1 := g1.size
  try simp at y1
  have A1 := Lib.hid (A0.out.keep g1)
  have C1 := Lib.hid (C0.out.keep g1)
  have D1 := Lib.hid (D0.out.keep g1)
  clear g1  A0 C0 D0
  obtain ⟨a0, a1, a2, a3, -⟩ := A1.out.four
  go_wp2_with fail
  refine (near_any _ _ _ _ _).mono ?_
  rintro e v2 ⟨nv2, rfl, g2⟩
  have B2 : Below w.heap.size w v2 := below_via (by go_grown) g2
  have z2 := B2.size
  have y2 := g2.size
  try simp at y2
  have A2 := Lib.hid (A1.out.keep g2)
  have C2 := Lib.hid (C1.out.keep g2)
  have D2 := Lib.hid (D1.out.keep g2)
  clear g2 a0 a1 a2 a3 A1 C1 D1
  cases nv2
  · go_wp2_with fail
    go_ret
    exact ⟨rfl, by go_grown⟩
  obtain ⟨c0, c1, c2, c3, -⟩ := C2.out.four
  go_wp2_with fail
  refine (near_any _ _ _ _ _).mono ?_
  rintro e v3 ⟨nv3, rfl, g3⟩
  have B3 : Below w.heap.size w v3 := below_via (by go_grown) g3
  have z3 := B3.size
  have y3 := g3.size
  try simp at y3
  have A3 := Lib.hid (A2.out.keep g3)
  have C3 := Lib.hid (C2.out.keep g3)
  have D3 := Lib.hid (D2.out.keep g3)
  clear g3 c0 c1 c2 c3 A2 C2 D2
  cases nv3
  · go_wp2_with fail
    go_ret
    exact ⟨rfl, by go_grown⟩
  obtain ⟨d0, d1, d2, d3, -⟩ := D3.out.four
  go_wp2_with fail
  refine (near_any _ _ _ _ _).mono ?_
  rintro e v4 ⟨nv4, rfl, g4⟩
  have B4 : Below w.heap.size w v4 := below_via (by go_grown) g4
  have z4 := B4.size
  have y4 := g4.size
  try simp at y4
  have A4 := Lib.hid (A3.out.keep g4)
  have C4 := Lib.hid (C3.out.keep g4)
  have D4 := Lib.hid (D3.out.keep g4)
  clear g4 d0 d1 d2 d3 A3 C3 D3
  cases nv4
  · go_wp2_with fail
    go_ret
    exact ⟨rfl, by go_grown⟩
  obtain ⟨a0, a1, a2, a3, -⟩ := A4.out.four
  obtain ⟨c0, c1, c2, c3, -⟩ := C4.out.four
  go_wp2_with fail
  refine (HO.out _ (HR.out.keep (by go_grown))).mono ?_
  rintro e v5 ⟨rfl, g5⟩
  have B5 : Below w.heap.size w v5 := below_via (by go_grown) g5
  have z5 := B5.size
  have y5 := g5.size
  try simp at y5
  have A5 := Lib.hid (A4.out.keep g5)
  have C5 := Lib.hid (C4.out.keep g5)
  have D5 := Lib.hid (D4.out.keep g5)
  clear g5 a0 a1 a2 a3 c0 c1 c2 c3 A4 C4 D4
  obtain ⟨a0, a1, a2, a3, -⟩ := A5.out.four
  obtain ⟨c0, c1, c2, c3, -⟩ := C5.out.four
  go_wp2_with fail
  have G := Lib.hid (Box.new v5 #[.int .i64 a, .int .i64 b, .int .i64 c, .int .i64 d, .int .i64 x, .int .i64 y, .int .i64 z, .int .i64 t] 47 rfl)
  have Ag := Lib.hid (A5.out.alloc (.cells #[.int .i64 a, .int .i64 b, .int .i64 c, .int .i64 d, .int .i64 x, .int .i64 y, .int .i64 z, .int .i64 t] 47))
  have Cg := Lib.hid (C5.out.alloc (.cells #[.int .i64 a, .int .i64 b, .int .i64 c, .int .i64 d, .int .i64 x, .int .i64 y, .int .i64 z, .int .i64 t] 47))
  have Dg := Lib.hid (D5.out.alloc (.cells #[.int .i64 a, .int .i64 b, .int .i64 c, .int .i64 d, .int .i64 x, .int .i64 y, .int .i64 z, .int .i64 t] 47))
  refine (pitches2_any v5.heap.size 2 a b c d x y z t _ (G.out.cell 0) (G.out.cell 1) (G.out.cell 2) (G.out.cell 3) (G.out.cell 4) (G.out.cell 5) (G.out.cell 6) (G.out.cell 7) G.out.lt).mono ?_
  rintro e v6 ⟨rfl, g6⟩
  have B6 : Below w.heap.size w v6 := below_via (by go_grown) g6
  have z6 := B6.size
  have y6 := g6.size
  try simp at y6
  have A6 := Lib.hid (Ag.out.keep g6)
  have C6 := Lib.hid (Cg.out.keep g6)
  have D6 := Lib.hid (Dg.out.keep g6)
  clear g6 a0 a1 a2 a3 c0 c1 c2 c3 Ag Cg Dg
  clear G
  rw [HP2.out]
  obtain ⟨a0, a1, a2, a3, -⟩ := A6.out.four
  obtain ⟨c0, c1, c2, c3, -⟩ := C6.out.four
  go_wp2_with fail
  refine (HB.out _ (HR.out.keep (by go_grown))).mono ?_
  rintro e v7 ⟨rfl, g7⟩
  have B7 : Below w.heap.size w v7 := below_via (by go_grown) g7
  have z7 := B7.size
  have y7 := g7.size
  try simp at y7
  have A7 := Lib.hid (A6.out.keep g7)
  have C7 := Lib.hid (C6.out.keep g7)
  have D7 := Lib.hid (D6.out.keep g7)
  clear g7 a0 a1 a2 a3 c0 c1 c2 c3 A6 C6 D6
  obtain ⟨a0, a1, a2, a3, -⟩ := A7.out.four
  obtain ⟨c0, c1, c2, c3, -⟩ := C7.out.four
  go_wp2_with fail
  refine (HF.out _ (HR.out.keep (by go_grown))).mono ?_
  rintro e v8 ⟨rfl, g8⟩
  have B8 : Below w.heap.size w v8 := below_via (by go_grown) g8
  have z8 := B8.size
  have y8 := g8.size
  try simp at y8
  have A8 := Lib.hid (A7.out.keep g8)
  have C8 := Lib.hid (C7.out.keep g8)
  have D8 := Lib.hid (D7.out.keep g8)
  clear g8 a0 a1 a2 a3 c0 c1 c2 c3 A7 C7 D7
  obtain ⟨a0, a1, a2, a3, -⟩ := A8.out.four
  obtain ⟨d0, d1, d2, d3, -⟩ := D8.out.four
  go_wp2_with fail
  refine (HJ.out _ (HR.out.keep (by go_grown))).mono ?_
  rintro e v9 ⟨rfl, g9⟩
  have B9 : Below w.heap.size w v9 := below_via (by go_grown) g9
  have z9 := B9.size
  have y9 := g9.size
  try simp at y9
  have A9 := Lib.hid ((A8.out.keep g9).alloc (.cells #[.int .i64 xa, .int .i64 xb, .int .i64 xc, .int .i64 xd] 47))
  have C9 := Lib.hid ((C8.out.keep g9).alloc (.cells #[.int .i64 xa, .int .i64 xb, .int .i64 xc, .int .i64 xd] 47))
  have D9 := Lib.hid ((D8.out.keep g9).alloc (.cells #[.int .i64 xa, .int .i64 xb, .int .i64 xc, .int .i64 xd] 47))
  have X9 := Lib.hid (Box.new v9 #[.int .i64 xa, .int .i64 xb, .int .i64 xc, .int .i64 xd] 47 rfl)
  clear g9 a0 a1 a2 a3 d0 d1 d2 d3 A8 C8 D8
  obtain ⟨c0, c1, c2, c3, -⟩ := C9.out.four
  obtain ⟨d0, d1, d2, d3, -⟩ := D9.out.four
  go_wp2_with fail
  refine (HK.out _ (HR.out.keep (by go_grown))).mono ?_
  rintro e v10 ⟨rfl, g10⟩
  have B10 : Below w.heap.size w v10 := below_via (by go_grown) g10
  have z10 := B10.size
  have y10 := g10.size
  try simp at y10
  have A10 := Lib.hid ((A9.out.keep g10).alloc (.cells #[.int .i64 ya, .int .i64 yb, .int .i64 yc, .int .i64 yd] 47))
  have C10 := Lib.hid ((C9.out.keep g10).alloc (.cells #[.int .i64 ya, .int .i64 yb, .int .i64 yc, .int .i64 yd] 47))
  have D10 := Lib.hid ((D9.out.keep g10).alloc (.cells #[.int .i64 ya, .int .i64 yb, .int .i64 yc, .int .i64 yd] 47))
  have X10 := Lib.hid ((X9.out.keep g10).alloc (.cells #[.int .i64 ya, .int .i64 yb, .int .i64 yc, .int .i64 yd] 47))
  have Y10 := Lib.hid (Box.new v10 #[.int .i64 ya, .int .i64 yb, .int .i64 yc, .int .i64 yd] 47 rfl)
  clear g10 c0 c1 c2 c3 d0 d1 d2 d3 A9 C9 D9 X9
  obtain ⟨x0, x1, x2, x3, -⟩ := X10.out.four
  obtain ⟨y0, y1, y2, y3, -⟩ := Y10.out.four
  go_wp2_with fail
  refine (HD.out _ (HR.out.keep (by go_grown))).mono ?_
  rintro e v11 ⟨rfl, g11⟩
  have B11 : Below w.heap.size w v11 := below_via (by go_grown) g11
  have z11 := B11.size
  have y11 := g11.size
  try simp at y11
  have A11 := Lib.hid (A10.out.keep g11)
  have C11 := Lib.hid (C10.out.keep g11)
  have D11 := Lib.hid (D10.out.keep g11)
  have X11 := Lib.hid (X10.out.keep g11)
  have Y11 := Lib.hid (Y10.out.keep g11)
  clear g11 x0 x1 x2 x3 y0 y1 y2 y3 A10 C10 D10 X10 Y10
  go_wp2_with fail
  go_ret
  exact ⟨rfl, by go_grown⟩

theorem ok_of_chk {a b c d : Int} (h : chkP a b c d = 0) : okP a b c d = true := by
  unfold chkP at h; split at h
  · assumption
  · omega
theorem chk_of_ok {a b c d : Int} (h : okP a b c d = true) : chkP a b c d = 0 := by unfold chkP; rw [h]; rfl
theorem ordV_bd (a b c d x y z t : Int) : -1 ≤ ordV a b c d x y z t ∧ ordV a b c d x y z t ≤ 1 := sgn_bd _ _ _
/-- the law returns true -/
theorem lawOrders (a b c d x y z t i j k l : Int) (w : World) (hp : Primes w) : Calls Tryd.prog 8 #[.agg #[.int .i64 a, .int .i64 b, .int .i64 c, .int .i64 d], .agg #[.int .i64 x, .int .i64 y, .int .i64 z, .int .i64 t], .agg #[.int .i64 i, .int .i64 j, .int .i64 k, .int .i64 l]] w fun e w' => e = .returned (.bool true) ∧ Below w.heap.size w w' := by
  have O1 := fun (u : World) (hu : Primes u) => order_any a b c d x y z t u hu
  by_cases h : err2 (chkP a b c d) (chkP x y z t) = 0
  · obtain ⟨h1, h2⟩ := err2_zero h
    have k1 := ok_of_chk h1
    have k2 := ok_of_chk h2
    have O2 := fun (u : World) (hu : Primes u) => order_any x y z t a b c d u hu
    have RF := fun (u : World) (_ : Primes u) => rorder_any a b c d x y z t u k1 k2
    have J1 := fun (u : World) (_ : Primes u) => join_any a b c d i j k l u
    have J2 := fun (u : World) (_ : Primes u) => join_any x y z t i j k l u
    have e1 : ordC a b c d x y z t = ordV a b c d x y z t := by unfold ordC; rw [if_neg (by omega)]
    have h' : err2 (chkP x y z t) (chkP a b c d) = 0 := by unfold err2; rw [h1, h2]; rfl
    have e2 : ordC x y z t a b c d = -ordV a b c d x y z t := by unfold ordC; rw [if_neg (by omega), ordV_swap]
    rw [e1, h] at O1
    rw [e2, h'] at O2
    have bd := ordV_bd a b c d x y z t
    by_cases g1 : jnE a b c d i j k l = 0
    · by_cases g2 : jnE x y z t i j k l = 0
      · rw [g1] at J1; rw [g2] at J2
        have f1 : err2 (chkP a b c d) (chkP i j k l) = 0 := by
          unfold jnE at g1; split at g1
          · contradiction
          · omega
        have f2 : err2 (chkP x y z t) (chkP i j k l) = 0 := by
          unfold jnE at g2; split at g2
          · contradiction
          · omega
        have k3 := ok_of_chk (err2_zero f1).2
        have n1 : okN (a * l + i * d) (b * l + j * d) (c * l + k * d) (d * l) = true := by
          unfold jnE at g1; rw [if_neg (by omega)] at g1; unfold pE at g1; split at g1
          · assumption
          · omega
        have n2 : okN (x * l + i * t) (y * l + j * t) (z * l + k * t) (t * l) = true := by
          unfold jnE at g2; rw [if_neg (by omega)] at g2; unfold pE at g2; split at g2
          · assumption
          · omega
        have X := fun v : Int => show jnX a b c d i j k l v = nrm (a * l + i * d) (b * l + j * d) (c * l + k * d) (d * l) v by
          unfold jnX; rw [if_neg (by omega)]; unfold pX; rw [if_pos n1]
        have Y := fun v : Int => show jnX x y z t i j k l v = nrm (x * l + i * t) (y * l + j * t) (z * l + k * t) (t * l) v by
          unfold jnX; rw [if_neg (by omega)]; unfold pX; rw [if_pos n2]
        simp only [X] at J1
        simp only [Y] at J2
        obtain ⟨⟨d0, d1⟩, _⟩ := okP_bd k1
        obtain ⟨⟨t0, t1⟩, _⟩ := okP_bd k2
        obtain ⟨⟨l0, l1⟩, _⟩ := okP_bd k3
        have m1 := mul144 (x := d) (t := l) d0 d1 l0 l1
        have m2 := mul144 (x := t) (t := l) t0 t1 l0 l1
        obtain ⟨q1, q2, q3, q4⟩ := nrm_mul (a * l + i * d) (b * l + j * d) (c * l + k * d) (d * l)
        obtain ⟨s1, s2, s3, s4⟩ := nrm_mul (x * l + i * t) (y * l + j * t) (z * l + k * t) (t * l)
        have OV := ordV_join (gcd4_pos m1.1) (gcd4_pos m2.1) l0 q1 q2 q3 q4 s1 s2 s3 s4
        have O3 := fun (u : World) (hu : Primes u) => order_any (nrm (a * l + i * d) (b * l + j * d) (c * l + k * d) (d * l) (a * l + i * d)) (nrm (a * l + i * d) (b * l + j * d) (c * l + k * d) (d * l) (b * l + j * d)) (nrm (a * l + i * d) (b * l + j * d) (c * l + k * d) (d * l) (c * l + k * d)) (nrm (a * l + i * d) (b * l + j * d) (c * l + k * d) (d * l) (d * l)) (nrm (x * l + i * t) (y * l + j * t) (z * l + k * t) (t * l) (x * l + i * t)) (nrm (x * l + i * t) (y * l + j * t) (z * l + k * t) (t * l) (y * l + j * t)) (nrm (x * l + i * t) (y * l + j * t) (z * l + k * t) (t * l) (z * l + k * t)) (nrm (x * l + i * t) (y * l + j * t) (z * l + k * t) (t * l) (t * l)) u hu
        have c1 := chk_of_ok (show okP (nrm (a * l + i * d) (b * l + j * d) (c * l + k * d) (d * l) (a * l + i * d)) (nrm (a * l + i * d) (b * l + j * d) (c * l + k * d) (d * l) (b * l + j * d)) (nrm (a * l + i * d) (b * l + j * d) (c * l + k * d) (d * l) (c * l + k * d)) (nrm (a * l + i * d) (b * l + j * d) (c * l + k * d) (d * l) (d * l)) = true from n1)
        have c2 := chk_of_ok (show okP (nrm (x * l + i * t) (y * l + j * t) (z * l + k * t) (t * l) (x * l + i * t)) (nrm (x * l + i * t) (y * l + j * t) (z * l + k * t) (t * l) (y * l + j * t)) (nrm (x * l + i * t) (y * l + j * t) (z * l + k * t) (t * l) (z * l + k * t)) (nrm (x * l + i * t) (y * l + j * t) (z * l + k * t) (t * l) (t * l)) = true from n2)
        unfold ordC at O3
        rw [c1, c2, OV] at O3
        exact lawOrders_C a b c d x y z t i j k l _ _ _ _ _ _ _ _ _ w hp O1 h bd O2 RF J1 J2 O3
      · rw [g1] at J1
        exact lawOrders_B2 a b c d x y z t i j k l _ _ _ _ _ _ _ _ _ _ g2 w hp O1 h bd O2 RF J1 J2
    · exact lawOrders_B1 a b c d x y z t i j k l _ _ _ _ _ _ _ _ _ _ _ g1 w hp O1 h bd O2 RF J1 J2
  · have e1 : ordC a b c d x y z t = 0 := by unfold ordC; rw [if_pos h]
    rw [e1] at O1
    exact lawOrders_A a b c d x y z t i j k l _ h w hp O1 rfl
end Go.Proofs.YtbagmfnedgjndaaDoor
