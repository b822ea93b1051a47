/-
  The walk of the law NumberOctaves: it returns true, whatever the pitch; older memory stays as it was. Its condition: the table of primes reads as it is laid.
-/
import Derived.Test.YtbagmfnedgjndaaDoorRct
import Derived.Test.YtbagmfnedgjndaaDoorOdr
import Derived.Test.YtbagmfnedgjndaaDoorLpi
import Derived.Test.YtbagmfnedgjndaaDoorNea
import Derived.Test.YtbagmfnedgjndaaDoorAwake
namespace Go.Proofs.YtbagmfnedgjndaaDoor
open Go.RowKit
theorem within_is {n lo hi : Int} {v : Bool} (h : inR n lo hi = v) (w : World) : Calls Tryd.prog 28 #[.int .i64 n, .int .i64 lo, .int .i64 hi] w fun e w' => e = .returned (.bool v) ∧ w' = w := by
  have := Within_any n lo hi w; rw [h] at this; exact this
set_option maxRecDepth 100000 in
set_option maxHeartbeats 4000000 in
theorem lawOctaves_A (a b c d E : Int) (w : World) (hprm : Primes w) (ho : ∀ u : World, Primes u → Calls Tryd.prog 43 #[.agg #[.int .i64 a, .int .i64 b, .int .i64 c, .int .i64 d]] u fun e w' => e = .returned (.tuple #[.agg #[.int .i64 0, .int .i64 0, .int .i64 0, .int .i64 0], .int .i64 0, .int .i64 E]) ∧ Below u.heap.size u w') (hp1 : chkP a b c d = E) (hE : E ≠ 0) :
    Calls Tryd.prog 9 #[.agg #[.int .i64 a, .int .i64 b, .int .i64 c, .int .i64 d]] w fun e w' => e = .returned (.bool true) ∧ Below w.heap.size w w' := by
  have HR := Lib.hid hprm
  have HO := Lib.hid ho; have HP1 := Lib.hid hp1
  have hE0 : (E != 0) = true := by simpa using hE
  clear hE
  clear hprm ho hp1
  go_enter Tryd.func9, Tryd.ntmps9
  go_wp2_with fail
  have BW : Below w.heap.size w (w.alloc (.cells #[.int .i64 a, .int .i64 b, .int .i64 c, .int .i64 d] 47)) := by go_grown
  have A0 := Lib.hid (Box.new w #[.int .i64 a, .int .i64 b, .int .i64 c, .int .i64 d] 47 rfl)
  refine (awake_any _ (HR.out.keep BW)).mono ?_
  rintro e v1 ⟨rfl, g1⟩
  have B1 : Below w.heap.size w v1 := below_via (BW) g1
  have z1 := B1.size
  have y1 := g1.size
  try simp at y1
  have A1 := Lib.hid (A0.out.keep g1)
  clear g1  A0
  obtain ⟨a0, a1, a2, a3, -⟩ := A1.out.four
  go_wp2_with fail
  refine (near_any _ _ _ _ _).mono ?_
  rintro e v2 ⟨nv2, rfl, g2⟩
  have B2 : Below w.heap.size w v2 := below_via (by go_grown) g2
  have z2 := B2.size
  have y2 := g2.size
  try simp at y2
  have A2 := Lib.hid (A1.out.keep g2)
  clear g2 a0 a1 a2 a3 A1
  cases nv2
  · go_wp2_with fail
    go_ret
    exact ⟨rfl, by go_grown⟩
  obtain ⟨a0, a1, a2, a3, -⟩ := A2.out.four
  go_wp2_with fail
  refine (HO.out _ (HR.out.keep (by go_grown))).mono ?_
  rintro e v3 ⟨rfl, g3⟩
  have B3 : Below w.heap.size w v3 := below_via (by go_grown) g3
  have z3 := B3.size
  have y3 := g3.size
  try simp at y3
  have A3 := Lib.hid ((A2.out.keep g3).alloc (.cells #[.int .i64 0, .int .i64 0, .int .i64 0, .int .i64 0] 47))
  have X3 := Lib.hid (Box.new v3 #[.int .i64 0, .int .i64 0, .int .i64 0, .int .i64 0] 47 rfl)
  clear g3 a0 a1 a2 a3 A2
  obtain ⟨a0, a1, a2, a3, -⟩ := A3.out.four
  go_wp2_with fail
  have G := Lib.hid (Box.new (v3.alloc (.cells #[.int .i64 0, .int .i64 0, .int .i64 0, .int .i64 0] 47)) #[.int .i64 a, .int .i64 b, .int .i64 c, .int .i64 d] 47 (n := v3.heap.size + 1) (by simp))
  have Ag := Lib.hid (A3.out.alloc (.cells #[.int .i64 a, .int .i64 b, .int .i64 c, .int .i64 d] 47))
  have Xg := Lib.hid (X3.out.alloc (.cells #[.int .i64 a, .int .i64 b, .int .i64 c, .int .i64 d] 47))
  refine (pitches1_any (v3.heap.size + 1) 1 a b c d _ (G.out.cell 0) (G.out.cell 1) (G.out.cell 2) (G.out.cell 3)).mono ?_
  rintro e v4 ⟨rfl, g4⟩
  have B4 : Below w.heap.size w v4 := below_via (by go_grown) g4
  have z4 := B4.size
  have y4 := g4.size
  try simp at y4
  have A4 := Lib.hid (Ag.out.keep g4)
  have X4 := Lib.hid (Xg.out.keep g4)
  clear g4 a0 a1 a2 a3 Ag Xg
  clear G
  rw [HP1.out]
  obtain ⟨x0, x1, x2, x3, -⟩ := X4.out.four
  go_wp2_with fail
  go_ret
  exact ⟨rfl, by go_grown⟩
set_option maxRecDepth 100000 in
set_option maxHeartbeats 4000000 in
theorem lawOctaves_B (a b c d x0 x1 x2 x3 n E : Int) (w : World) (hprm : Primes w) (ho : ∀ u : World, Primes u → Calls Tryd.prog 43 #[.agg #[.int .i64 a, .int .i64 b, .int .i64 c, .int .i64 d]] u fun e w' => e = .returned (.tuple #[.agg #[.int .i64 x0, .int .i64 x1, .int .i64 x2, .int .i64 x3], .int .i64 n, .int .i64 E]) ∧ Below u.heap.size u w') (hp1 : chkP a b c d = 0) (hE : E ≠ 0) (hr : ∀ u : World, Primes u → Calls Tryd.prog 44 #[.agg #[.int .i64 a, .int .i64 b, .int .i64 c, .int .i64 d]] u fun e w' => e = .returned (.tuple #[.agg #[.int .i64 x0, .int .i64 x1, .int .i64 x2, .int .i64 x3], .int .i64 n, .int .i64 E]) ∧ Below u.heap.size u w') :
    Calls Tryd.prog 9 #[.agg #[.int .i64 a, .int .i64 b, .int .i64 c, .int .i64 d]] w fun e w' => e = .returned (.bool true) ∧ Below w.heap.size w w' := by
  have HR := Lib.hid hprm
  have HO := Lib.hid ho; have HP1 := Lib.hid hp1
  have HF := Lib.hid hr
  clear hr
  have hE0 : (E != 0) = true := by simpa using hE
  clear hE
  clear hprm ho hp1
  go_enter Tryd.func9, Tryd.ntmps9
  go_wp2_with fail
  have BW : Below w.heap.size w (w.alloc (.cells #[.int .i64 a, .int .i64 b, .int .i64 c, .int .i64 d] 47)) := by go_grown
  have A0 := Lib.hid (Box.new w #[.int .i64 a, .int .i64 b, .int .i64 c, .int .i64 d] 47 rfl)
  refine (awake_any _ (HR.out.keep BW)).mono ?_
  rintro e v1 ⟨rfl, g1⟩
  have B1 : Below w.heap.size w v1 := below_via (BW) g1
  have z1 := B1.size
  have y1 := g1.size
  try simp at y1
  have A1 := Lib.hid (A0.out.keep g1)
  clear g1  A0
  obtain ⟨a0, a1, a2, a3, -⟩ := A1.out.four
  go_wp2_with fail
  refine (near_any _ _ _ _ _).mono ?_
  rintro e v2 ⟨nv2, rfl, g2⟩
  have B2 : Below w.heap.size w v2 := below_via (by go_grown) g2
  have z2 := B2.size
  have y2 := g2.size
  try simp at y2
  have A2 := Lib.hid (A1.out.keep g2)
  clear g2 a0 a1 a2 a3 A1
  cases nv2
  · go_wp2_with fail
    go_ret
    exact ⟨rfl, by go_grown⟩
  obtain ⟨a0, a1, a2, a3, -⟩ := A2.out.four
  go_wp2_with fail
  refine (HO.out _ (HR.out.keep (by go_grown))).mono ?_
  rintro e v3 ⟨rfl, g3⟩
  have B3 : Below w.heap.size w v3 := below_via (by go_grown) g3
  have z3 := B3.size
  have y3 := g3.size
  try simp at y3
  have A3 := Lib.hid ((A2.out.keep g3).alloc (.cells #[.int .i64 x0, .int .i64 x1, .int .i64 x2, .int .i64 x3] 47))
  have X3 := Lib.hid (Box.new v3 #[.int .i64 x0, .int .i64 x1, .int .i64 x2, .int .i64 x3] 47 rfl)
  clear g3 a0 a1 a2 a3 A2
  obtain ⟨a0, a1, a2, a3, -⟩ := A3.out.four
  go_wp2_with fail
  have G := Lib.hid (Box.new (v3.alloc (.cells #[.int .i64 x0, .int .i64 x1, .int .i64 x2, .int .i64 x3] 47)) #[.int .i64 a, .int .i64 b, .int .i64 c, .int .i64 d] 47 (n := v3.heap.size + 1) (by simp))
  have Ag := Lib.hid (A3.out.alloc (.cells #[.int .i64 a, .int .i64 b, .int .i64 c, .int .i64 d] 47))
  have Xg := Lib.hid (X3.out.alloc (.cells #[.int .i64 a, .int .i64 b, .int .i64 c, .int .i64 d] 47))
  refine (pitches1_any (v3.heap.size + 1) 1 a b c d _ (G.out.cell 0) (G.out.cell 1) (G.out.cell 2) (G.out.cell 3)).mono ?_
  rintro e v4 ⟨rfl, g4⟩
  have B4 : Below w.heap.size w v4 := below_via (by go_grown) g4
  have z4 := B4.size
  have y4 := g4.size
  try simp at y4
  have A4 := Lib.hid (Ag.out.keep g4)
  have X4 := Lib.hid (Xg.out.keep g4)
  clear g4 a0 a1 a2 a3 Ag Xg
  clear G
  rw [HP1.out]
  obtain ⟨a0, a1, a2, a3, -⟩ := A4.out.four
  go_wp2_with fail
  refine (HF.out _ (HR.out.keep (by go_grown))).mono ?_
  rintro e v5 ⟨rfl, g5⟩
  have B5 : Below w.heap.size w v5 := below_via (by go_grown) g5
  have z5 := B5.size
  have y5 := g5.size
  try simp at y5
  have A5 := Lib.hid ((A4.out.keep g5).alloc (.cells #[.int .i64 x0, .int .i64 x1, .int .i64 x2, .int .i64 x3] 47))
  have X5 := Lib.hid ((X4.out.keep g5).alloc (.cells #[.int .i64 x0, .int .i64 x1, .int .i64 x2, .int .i64 x3] 47))
  have Y5 := Lib.hid (Box.new v5 #[.int .i64 x0, .int .i64 x1, .int .i64 x2, .int .i64 x3] 47 rfl)
  clear g5 a0 a1 a2 a3 A4 X4
  obtain ⟨x0, x1, x2, x3, -⟩ := X5.out.four
  obtain ⟨y0, y1, y2, y3, -⟩ := Y5.out.four
  have lX := X5.out.lt
  have lY := Y5.out.lt
  go_wp2_with fail
  go_ret
  exact ⟨rfl, by go_grown⟩
set_option maxRecDepth 100000 in
set_option maxHeartbeats 4000000 in
theorem lawOctaves_C1 (a b c d x0 x1 x2 x3 n s1 s2 j0 j1 j2 j3 H u0 u1 u2 u3 : Int) (w : World) (hprm : Primes w) (ho : ∀ u : World, Primes u → Calls Tryd.prog 43 #[.agg #[.int .i64 a, .int .i64 b, .int .i64 c, .int .i64 d]] u fun e w' => e = .returned (.tuple #[.agg #[.int .i64 x0, .int .i64 x1, .int .i64 x2, .int .i64 x3], .int .i64 n, .int .i64 0]) ∧ Below u.heap.size u w') (hp1 : chkP a b c d = 0) (hr : ∀ u : World, Primes u → Calls Tryd.prog 44 #[.agg #[.int .i64 a, .int .i64 b, .int .i64 c, .int .i64 d]] u fun e w' => e = .returned (.tuple #[.agg #[.int .i64 x0, .int .i64 x1, .int .i64 x2, .int .i64 x3], .int .i64 n, .int .i64 0]) ∧ Below u.heap.size u w') (hl : ∀ u : World, Primes u → Calls Tryd.prog 41 #[.agg #[.int .i64 x0, .int .i64 x1, .int .i64 x2, .int .i64 x3], .agg #[.int .i64 0, .int .i64 0, .int .i64 0, .int .i64 1]] u fun e w' => e = .returned (.tuple #[.int .i64 s1, .int .i64 0]) ∧ Below u.heap.size u w') (hs1 : 0 ≤ s1) (hh : ∀ u : World, Primes u → Calls Tryd.prog 41 #[.agg #[.int .i64 x0, .int .i64 x1, .int .i64 x2, .int .i64 x3], .agg #[.int .i64 1, .int .i64 0, .int .i64 0, .int .i64 1]] u fun e w' => e = .returned (.tuple #[.int .i64 s2, .int .i64 0]) ∧ Below u.heap.size u w') (hs2 : s2 < 0) (hj : ∀ u : World, Primes u → Calls Tryd.prog 33 #[.agg #[.int .i64 x0, .int .i64 x1, .int .i64 x2, .int .i64 x3], .agg #[.int .i64 n, .int .i64 0, .int .i64 0, .int .i64 1]] u fun e w' => e = .returned (.tuple #[.agg #[.int .i64 j0, .int .i64 j1, .int .i64 j2, .int .i64 j3], .int .i64 H]) ∧ Below u.heap.size u w') (hw : ∀ u : World, Primes u → Calls Tryd.prog 32 #[.agg #[.int .i64 a, .int .i64 b, .int .i64 c, .int .i64 d]] u fun e w' => e = .returned (.tuple #[.agg #[.int .i64 u0, .int .i64 u1, .int .i64 u2, .int .i64 u3], .int .i64 0]) ∧ Below u.heap.size u w') (hi : inR n (-400) 400 = false) :
    Calls Tryd.prog 9 #[.agg #[.int .i64 a, .int .i64 b, .int .i64 c, .int .i64 d]] w fun e w' => e = .returned (.bool true) ∧ Below w.heap.size w w' := by
  have HR := Lib.hid hprm
  have HO := Lib.hid ho; have HP1 := Lib.hid hp1
  have HF := Lib.hid hr
  clear hr
  have HL := Lib.hid hl; have HH := Lib.hid hh; have HJ := Lib.hid hj; have HW := Lib.hid hw
  clear hl hh hj hw
  clear hprm ho hp1
  go_enter Tryd.func9, Tryd.ntmps9
  go_wp2_with fail
  have BW : Below w.heap.size w (w.alloc (.cells #[.int .i64 a, .int .i64 b, .int .i64 c, .int .i64 d] 47)) := by go_grown
  have A0 := Lib.hid (Box.new w #[.int .i64 a, .int .i64 b, .int .i64 c, .int .i64 d] 47 rfl)
  refine (awake_any _ (HR.out.keep BW)).mono ?_
  rintro e v1 ⟨rfl, g1⟩
  have B1 : Below w.heap.size w v1 := below_via (BW) g1
  have z1 := B1.size
  have y1 := g1.size
  try simp at y1
  have A1 := Lib.hid (A0.out.keep g1)
  clear g1  A0
  obtain ⟨a0, a1, a2, a3, -⟩ := A1.out.four
  go_wp2_with fail
  refine (near_any _ _ _ _ _).mono ?_
  rintro e v2 ⟨nv2, rfl, g2⟩
  have B2 : Below w.heap.size w v2 := below_via (by go_grown) g2
  have z2 := B2.size
  have y2 := g2.size
  try simp at y2
  have A2 := Lib.hid (A1.out.keep g2)
  clear g2 a0 a1 a2 a3 A1
  cases nv2
  · go_wp2_with fail
    go_ret
    exact ⟨rfl, by go_grown⟩
  obtain ⟨a0, a1, a2, a3, -⟩ := A2.out.four
  go_wp2_with fail
  refine (HO.out _ (HR.out.keep (by go_grown))).mono ?_
  rintro e v3 ⟨rfl, g3⟩
  have B3 : Below w.heap.size w v3 := below_via (by go_grown) g3
  have z3 := B3.size
  have y3 := g3.size
  try simp at y3
  have A3 := Lib.hid ((A2.out.keep g3).alloc (.cells #[.int .i64 x0, .int .i64 x1, .int .i64 x2, .int .i64 x3] 47))
  have X3 := Lib.hid (Box.new v3 #[.int .i64 x0, .int .i64 x1, .int .i64 x2, .int .i64 x3] 47 rfl)
  clear g3 a0 a1 a2 a3 A2
  obtain ⟨a0, a1, a2, a3, -⟩ := A3.out.four
  go_wp2_with fail
  have G := Lib.hid (Box.new (v3.alloc (.cells #[.int .i64 x0, .int .i64 x1, .int .i64 x2, .int .i64 x3] 47)) #[.int .i64 a, .int .i64 b, .int .i64 c, .int .i64 d] 47 (n := v3.heap.size + 1) (by simp))
  have Ag := Lib.hid (A3.out.alloc (.cells #[.int .i64 a, .int .i64 b, .int .i64 c, .int .i64 d] 47))
  have Xg := Lib.hid (X3.out.alloc (.cells #[.int .i64 a, .int .i64 b, .int .i64 c, .int .i64 d] 47))
  refine (pitches1_any (v3.heap.size + 1) 1 a b c d _ (G.out.cell 0) (G.out.cell 1) (G.out.cell 2) (G.out.cell 3)).mono ?_
  rintro e v4 ⟨rfl, g4⟩
  have B4 : Below w.heap.size w v4 := below_via (by go_grown) g4
  have z4 := B4.size
  have y4 := g4.size
  try simp at y4
  have A4 := Lib.hid (Ag.out.keep g4)
  have X4 := Lib.hid (Xg.out.keep g4)
  clear g4 a0 a1 a2 a3 Ag Xg
  clear G
  rw [HP1.out]
  obtain ⟨a0, a1, a2, a3, -⟩ := A4.out.four
  go_wp2_with fail
  refine (HF.out _ (HR.out.keep (by go_grown))).mono ?_
  rintro e v5 ⟨rfl, g5⟩
  have B5 : Below w.heap.size w v5 := below_via (by go_grown) g5
  have z5 := B5.size
  have y5 := g5.size
  try simp at y5
  have A5 := Lib.hid ((A4.out.keep g5).alloc (.cells #[.int .i64 x0, .int .i64 x1, .int .i64 x2, .int .i64 x3] 47))
  have X5 := Lib.hid ((X4.out.keep g5).alloc (.cells #[.int .i64 x0, .int .i64 x1, .int .i64 x2, .int .i64 x3] 47))
  have Y5 := Lib.hid (Box.new v5 #[.int .i64 x0, .int .i64 x1, .int .i64 x2, .int .i64 x3] 47 rfl)
  clear g5 a0 a1 a2 a3 A4 X4
  obtain ⟨x0, x1, x2, x3, -⟩ := X5.out.four
  obtain ⟨y0, y1, y2, y3, -⟩ := Y5.out.four
  have lX := X5.out.lt
  have lY := Y5.out.lt
  go_wp2_with fail
  refine (HL.out _ (HR.out.keep (by go_grown))).mono ?_
  rintro e v6 ⟨rfl, g6⟩
  have B6 : Below w.heap.size w v6 := below_via (by go_grown) g6
  have z6 := B6.size
  have y6 := g6.size
  try simp at y6
  have A6 := Lib.hid (A5.out.keep g6)
  have X6 := Lib.hid (X5.out.keep g6)
  have Y6 := Lib.hid (Y5.out.keep g6)
  clear g6 x0 x1 x2 x3 y0 y1 y2 y3 A5 X5 Y5
  obtain ⟨x0, x1, x2, x3, -⟩ := X6.out.four
  go_wp2_with fail
  refine (HH.out _ (HR.out.keep (by go_grown))).mono ?_
  rintro e v7 ⟨rfl, g7⟩
  have B7 : Below w.heap.size w v7 := below_via (by go_grown) g7
  have z7 := B7.size
  have y7 := g7.size
  try simp at y7
  have A7 := Lib.hid (A6.out.keep g7)
  have X7 := Lib.hid (X6.out.keep g7)
  have Y7 := Lib.hid (Y6.out.keep g7)
  clear g7 x0 x1 x2 x3 A6 X6 Y6
  obtain ⟨x0, x1, x2, x3, -⟩ := X7.out.four
  go_wp2_with fail
  refine (HJ.out _ (HR.out.keep (by go_grown))).mono ?_
  rintro e v8 ⟨rfl, g8⟩
  have B8 : Below w.heap.size w v8 := below_via (by go_grown) g8
  have z8 := B8.size
  have y8 := g8.size
  try simp at y8
  have A8 := Lib.hid ((A7.out.keep g8).alloc (.cells #[.int .i64 j0, .int .i64 j1, .int .i64 j2, .int .i64 j3] 47))
  have X8 := Lib.hid ((X7.out.keep g8).alloc (.cells #[.int .i64 j0, .int .i64 j1, .int .i64 j2, .int .i64 j3] 47))
  have Y8 := Lib.hid ((Y7.out.keep g8).alloc (.cells #[.int .i64 j0, .int .i64 j1, .int .i64 j2, .int .i64 j3] 47))
  have J8 := Lib.hid (Box.new v8 #[.int .i64 j0, .int .i64 j1, .int .i64 j2, .int .i64 j3] 47 rfl)
  clear g8 x0 x1 x2 x3 A7 X7 Y7
  obtain ⟨a0, a1, a2, a3, -⟩ := A8.out.four
  go_wp2_with fail
  refine (HW.out _ (HR.out.keep (by go_grown))).mono ?_
  rintro e v9 ⟨rfl, g9⟩
  have B9 : Below w.heap.size w v9 := below_via (by go_grown) g9
  have z9 := B9.size
  have y9 := g9.size
  try simp at y9
  have A9 := Lib.hid ((A8.out.keep g9).alloc (.cells #[.int .i64 u0, .int .i64 u1, .int .i64 u2, .int .i64 u3] 47))
  have X9 := Lib.hid ((X8.out.keep g9).alloc (.cells #[.int .i64 u0, .int .i64 u1, .int .i64 u2, .int .i64 u3] 47))
  have Y9 := Lib.hid ((Y8.out.keep g9).alloc (.cells #[.int .i64 u0, .int .i64 u1, .int .i64 u2, .int .i64 u3] 47))
  have J9 := Lib.hid ((J8.out.keep g9).alloc (.cells #[.int .i64 u0, .int .i64 u1, .int .i64 u2, .int .i64 u3] 47))
  have U9 := Lib.hid (Box.new v9 #[.int .i64 u0, .int .i64 u1, .int .i64 u2, .int .i64 u3] 47 rfl)
  clear g9 a0 a1 a2 a3 A8 X8 Y8 J8
  obtain ⟨j0, j1, j2, j3, -⟩ := J9.out.four
  obtain ⟨u0, u1, u2, u3, -⟩ := U9.out.four
  have lJ := J9.out.lt
  have lU := U9.out.lt
  go_wp2_with (go_at_call 28; refine (Within_any _ _ _ _).mono ?_; rintro e w9 ⟨rfl, rfl⟩)
  go_ret
  exact ⟨rfl, by go_grown⟩
set_option maxRecDepth 100000 in
set_option maxHeartbeats 4000000 in
theorem lawOctaves_C2 (a b c d x0 x1 x2 x3 n s1 s2 u0 u1 u2 u3 : Int) (w : World) (hprm : Primes w) (ho : ∀ u : World, Primes u → Calls Tryd.prog 43 #[.agg #[.int .i64 a, .int .i64 b, .int .i64 c, .int .i64 d]] u fun e w' => e = .returned (.tuple #[.agg #[.int .i64 x0, .int .i64 x1, .int .i64 x2, .int .i64 x3], .int .i64 n, .int .i64 0]) ∧ Below u.heap.size u w') (hp1 : chkP a b c d = 0) (hr : ∀ u : World, Primes u → Calls Tryd.prog 44 #[.agg #[.int .i64 a, .int .i64 b, .int .i64 c, .int .i64 d]] u fun e w' => e = .returned (.tuple #[.agg #[.int .i64 x0, .int .i64 x1, .int .i64 x2, .int .i64 x3], .int .i64 n, .int .i64 0]) ∧ Below u.heap.size u w') (hl : ∀ u : World, Primes u → Calls Tryd.prog 41 #[.agg #[.int .i64 x0, .int .i64 x1, .int .i64 x2, .int .i64 x3], .agg #[.int .i64 0, .int .i64 0, .int .i64 0, .int .i64 1]] u fun e w' => e = .returned (.tuple #[.int .i64 s1, .int .i64 0]) ∧ Below u.heap.size u w') (hs1 : 0 ≤ s1) (hh : ∀ u : World, Primes u → Calls Tryd.prog 41 #[.agg #[.int .i64 x0, .int .i64 x1, .int .i64 x2, .int .i64 x3], .agg #[.int .i64 1, .int .i64 0, .int .i64 0, .int .i64 1]] u fun e w' => e = .returned (.tuple #[.int .i64 s2, .int .i64 0]) ∧ Below u.heap.size u w') (hs2 : s2 < 0) (hj : ∀ u : World, Primes u → Calls Tryd.prog 33 #[.agg #[.int .i64 x0, .int .i64 x1, .int .i64 x2, .int .i64 x3], .agg #[.int .i64 n, .int .i64 0, .int .i64 0, .int .i64 1]] u fun e w' => e = .returned (.tuple #[.agg #[.int .i64 u0, .int .i64 u1, .int .i64 u2, .int .i64 u3], .int .i64 0]) ∧ Below u.heap.size u w') (hw : ∀ u : World, Primes u → Calls Tryd.prog 32 #[.agg #[.int .i64 a, .int .i64 b, .int .i64 c, .int .i64 d]] u fun e w' => e = .returned (.tuple #[.agg #[.int .i64 u0, .int .i64 u1, .int .i64 u2, .int .i64 u3], .int .i64 0]) ∧ Below u.heap.size u w') (hi : inR n (-400) 400 = true) :
    Calls Tryd.prog 9 #[.agg #[.int .i64 a, .int .i64 b, .int .i64 c, .int .i64 d]] w fun e w' => e = .returned (.bool true) ∧ Below w.heap.size w w' := by
  have HR := Lib.hid hprm
  have HO := Lib.hid ho; have HP1 := Lib.hid hp1
  have HF := Lib.hid hr
  clear hr
  have HL := Lib.hid hl; have HH := Lib.hid hh; have HJ := Lib.hid hj; have HW := Lib.hid hw
  clear hl hh hj hw
  clear hprm ho hp1
  go_enter Tryd.func9, Tryd.ntmps9
  go_wp2_with fail
  have BW : Below w.heap.size w (w.alloc (.cells #[.int .i64 a, .int .i64 b, .int .i64 c, .int .i64 d] 47)) := by go_grown
  have A0 := Lib.hid (Box.new w #[.int .i64 a, .int .i64 b, .int .i64 c, .int .i64 d] 47 rfl)
  refine (awake_any _ (HR.out.keep BW)).mono ?_
  rintro e v1 ⟨rfl, g1⟩
  have B1 : Below w.heap.size w v1 := below_via (BW) g1
  have z1 := B1.size
  have y1 := g1.size
  try simp at y1
  have A1 := Lib.hid (A0.out.keep g1)
  clear g1  A0
  obtain ⟨a0, a1, a2, a3, -⟩ := A1.out.four
  go_wp2_with fail
  refine (near_any _ _ _ _ _).mono ?_
  rintro e v2 ⟨nv2, rfl, g2⟩
  have B2 : Below w.heap.size w v2 := below_via (by go_grown) g2
  have z2 := B2.size
  have y2 := g2.size
  try simp at y2
  have A2 := Lib.hid (A1.out.keep g2)
  clear g2 a0 a1 a2 a3 A1
  cases nv2
  · go_wp2_with fail
    go_ret
    exact ⟨rfl, by go_grown⟩
  obtain ⟨a0, a1, a2, a3, -⟩ := A2.out.four
  go_wp2_with fail
  refine (HO.out _ (HR.out.keep (by go_grown))).mono ?_
  rintro e v3 ⟨rfl, g3⟩
  have B3 : Below w.heap.size w v3 := below_via (by go_grown) g3
  have z3 := B3.size
  have y3 := g3.size
  try simp at y3
  have A3 := Lib.hid ((A2.out.keep g3).alloc (.cells #[.int .i64 x0, .int .i64 x1, .int .i64 x2, .int .i64 x3] 47))
  have X3 := Lib.hid (Box.new v3 #[.int .i64 x0, .int .i64 x1, .int .i64 x2, .int .i64 x3] 47 rfl)
  clear g3 a0 a1 a2 a3 A2
  obtain ⟨a0, a1, a2, a3, -⟩ := A3.out.four
  go_wp2_with fail
  have G := Lib.hid (Box.new (v3.alloc (.cells #[.int .i64 x0, .int .i64 x1, .int .i64 x2, .int .i64 x3] 47)) #[.int .i64 a, .int .i64 b, .int .i64 c, .int .i64 d] 47 (n := v3.heap.size + 1) (by simp))
  have Ag := Lib.hid (A3.out.alloc (.cells #[.int .i64 a, .int .i64 b, .int .i64 c, .int .i64 d] 47))
  have Xg := Lib.hid (X3.out.alloc (.cells #[.int .i64 a, .int .i64 b, .int .i64 c, .int .i64 d] 47))
  refine (pitches1_any (v3.heap.size + 1) 1 a b c d _ (G.out.cell 0) (G.out.cell 1) (G.out.cell 2) (G.out.cell 3)).mono ?_
  rintro e v4 ⟨rfl, g4⟩
  have B4 : Below w.heap.size w v4 := below_via (by go_grown) g4
  have z4 := B4.size
  have y4 := g4.size
  try simp at y4
  have A4 := Lib.hid (Ag.out.keep g4)
  have X4 := Lib.hid (Xg.out.keep g4)
  clear g4 a0 a1 a2 a3 Ag Xg
  clear G
  rw [HP1.out]
  obtain ⟨a0, a1, a2, a3, -⟩ := A4.out.four
  go_wp2_with fail
  refine (HF.out _ (HR.out.keep (by go_grown))).mono ?_
  rintro e v5 ⟨rfl, g5⟩
  have B5 : Below w.heap.size w v5 := below_via (by go_grown) g5
  have z5 := B5.size
  have y5 := g5.size
  try simp at y5
  have A5 := Lib.hid ((A4.out.keep g5).alloc (.cells #[.int .i64 x0, .int .i64 x1, .int .i64 x2, .int .i64 x3] 47))
  have X5 := Lib.hid ((X4.out.keep g5).alloc (.cells #[.int .i64 x0, .int .i64 x1, .int .i64 x2, .int .i64 x3] 47))
  have Y5 := Lib.hid (Box.new v5 #[.int .i64 x0, .int .i64 x1, .int .i64 x2, .int .i64 x3] 47 rfl)
  clear g5 a0 a1 a2 a3 A4 X4
  obtain ⟨x0, x1, x2, x3, -⟩ := X5.out.four
  obtain ⟨y0, y1, y2, y3, -⟩ := Y5.out.four
  have lX := X5.out.lt
  have lY := Y5.out.lt
  go_wp2_with fail
  refine (HL.out _ (HR.out.keep (by go_grown))).mono ?_
  rintro e v6 ⟨rfl, g6⟩
  have B6 : Below w.heap.size w v6 := below_via (by go_grown) g6
  have z6 := B6.size
  have y6 := g6.size
  try simp at y6
  have A6 := Lib.hid (A5.out.keep g6)
  have X6 := Lib.hid (X5.out.keep g6)
  have Y6 := Lib.hid (Y5.out.keep g6)
  clear g6 x0 x1 x2 x3 y0 y1 y2 y3 A5 X5 Y5
  obtain ⟨x0, x1, x2, x3, -⟩ := X6.out.four
  go_wp2_with fail
  refine (HH.out _ (HR.out.keep (by go_grown))).mono ?_
  rintro e v7 ⟨rfl, g7⟩
  have B7 : Below w.heap.size w v7 := below_via (by go_grown) g7
  have z7 := B7.size
  have y7 := g7.size
  try simp at y7
  have A7 := Lib.hid (A6.out.keep g7)
  have X7 := Lib.hid (X6.out.keep g7)
  have Y7 := Lib.hid (Y6.out.keep g7)
  clear g7 x0 x1 x2 x3 A6 X6 Y6
  obtain ⟨x0, x1, x2, x3, -⟩ := X7.out.four
  go_wp2_with fail
  refine (HJ.out _ (HR.out.keep (by go_grown))).mono ?_
  rintro e v8 ⟨rfl, g8⟩
  have B8 : Below w.heap.size w v8 := below_via (by go_grown) g8
  have z8 := B8.size
  have y8 := g8.size
  try simp at y8
  have A8 := Lib.hid ((A7.out.keep g8).alloc (.cells #[.int .i64 u0, .int .i64 u1, .int .i64 u2, .int .i64 u3] 47))
  have X8 := Lib.hid ((X7.out.keep g8).alloc (.cells #[.int .i64 u0, .int .i64 u1, .int .i64 u2, .int .i64 u3] 47))
  have Y8 := Lib.hid ((Y7.out.keep g8).alloc (.cells #[.int .i64 u0, .int .i64 u1, .int .i64 u2, .int .i64 u3] 47))
  have J8 := Lib.hid (Box.new v8 #[.int .i64 u0, .int .i64 u1, .int .i64 u2, .int .i64 u3] 47 rfl)
  clear g8 x0 x1 x2 x3 A7 X7 Y7
  obtain ⟨a0, a1, a2, a3, -⟩ := A8.out.four
  go_wp2_with fail
  refine (HW.out _ (HR.out.keep (by go_grown))).mono ?_
  rintro e v9 ⟨rfl, g9⟩
  have B9 : Below w.heap.size w v9 := below_via (by go_grown) g9
  have z9 := B9.size
  have y9 := g9.size
  try simp at y9
  have A9 := Lib.hid ((A8.out.keep g9).alloc (.cells #[.int .i64 u0, .int .i64 u1, .int .i64 u2, .int .i64 u3] 47))
  have X9 := Lib.hid ((X8.out.keep g9).alloc (.cells #[.int .i64 u0, .int .i64 u1, .int .i64 u2, .int .i64 u3] 47))
  have Y9 := Lib.hid ((Y8.out.keep g9).alloc (.cells #[.int .i64 u0, .int .i64 u1, .int .i64 u2, .int .i64 u3] 47))
  have J9 := Lib.hid ((J8.out.keep g9).alloc (.cells #[.int .i64 u0, .int .i64 u1, .int .i64 u2, .int .i64 u3] 47))
  have U9 := Lib.hid (Box.new v9 #[.int .i64 u0, .int .i64 u1, .int .i64 u2, .int .i64 u3] 47 rfl)
  clear g9 a0 a1 a2 a3 A8 X8 Y8 J8
  obtain ⟨j0, j1, j2, j3, -⟩ := J9.out.four
  obtain ⟨u0, u1, u2, u3, -⟩ := U9.out.four
  have lJ := J9.out.lt
  have lU := U9.out.lt
  go_wp2_with (go_at_call 28; refine (Within_any _ _ _ _).mono ?_; rintro e w9 ⟨rfl, rfl⟩)
  go_ret
  exact ⟨rfl, by go_grown⟩
theorem octP_eq {a b c d n : Int} : octP a b c d n = true ↔ 0 ≤ sgn (a - n * d) b c := by unfold octP; exact decide_eq_true_iff
theorem edge_lo {X d : Int} (d0 : 1 ≤ d) : X < (X / d + 1) * d := Int.lt_ediv_add_one_mul_self X (by omega)
/-- the program's search and the reference's find the same octaves -/
theorem oct_both {a b c d g A B C D : Int} (hk : okP a b c d = true) (hK : okP A B C D = true) (hg : 1 ≤ g) (ea : g * A = a) (eb : g * B = b) (ec : g * C = c) (ed : g * D = d) :
    octN A B C D = roctN a b c d ∧ octP A B C D (octN A B C D) = true ∧ octP A B C D (octN A B C D + 1) = false := by
  obtain ⟨⟨d0, d1⟩, ⟨a0, a1⟩, ⟨b0, b1⟩, c0, c1⟩ := okP_bd hk
  obtain ⟨⟨D0, D1⟩, ⟨A0, A1⟩, ⟨B0, B1⟩, C0, C1⟩ := okP_bd hK
  obtain ⟨x0, x1⟩ := octX_bd a0 a1 b0 b1 c0 c1
  have k1600 : ((4 * 400 : Nat) : Int) = 1600 := rfl
  have q0 : 0 ≤ 2000 / D := Int.ediv_nonneg (by omega) (by omega)
  have r0 : 0 ≤ octX a b c / d := Int.ediv_nonneg x0 (by omega)
  have e1 := edge_lo (X := 2000) D0
  have e2 := edge_lo (X := octX a b c) d0
  have ex : octX a b c = sz a + 2 * sz b + 3 * sz c := rfl
  have sa : -sz a ≤ a ∧ a ≤ sz a := by unfold sz; omega
  have sb := sz_nonneg b
  have sc := sz_nonneg c
  have hP : octP A B C D (-(2000 / D) - 1) = true := by
    rw [octP_eq]
    refine sgn_far (pw15N (b := -B) (c := -C) (n := 400) (by omega) (by omega)) ?_
    rw [k1600, show (-(2000 / D) - 1) * D = -((2000 / D + 1) * D) by rw [Int.sub_mul, Int.add_mul, Int.neg_mul]; omega]
    omega
  have hN : ∀ n, octP A B C D n = true → n ≤ 2000 / D := by
    intro n hn
    rw [octP_eq] at hn
    have h1 := sgn_near (pw15N (b := B) (c := C) (n := 400) (by omega) (by omega)) hn
    rw [k1600] at h1
    exact Int.le_ediv_of_mul_le (by omega) (by omega)
  have hP' : octP a b c d (-(octX a b c / d + 1)) = true := by
    rw [octP_eq]
    refine sgn_far (pw35 (-b) (-c)) ?_
    rw [sz_neg, sz_neg, show -(octX a b c / d + 1) * d = -((octX a b c / d + 1) * d) by rw [Int.neg_mul]]
    omega
  have hN' : ∀ n, octP a b c d n = true → n ≤ octX a b c / d + 1 := by
    intro n hn
    rw [octP_eq] at hn
    have h1 := sgn_near (pw35 b c) hn
    have h2 : n ≤ octX a b c / d := Int.le_ediv_of_mul_le (by omega) (by omega)
    omega
  exact oct_same hg ea eb ec ed hP hN hP' hN' D0 (by omega) (by omega)
theorem ok_of_chk' {a b c d : Int} (h : chkP a b c d = 0) : okP a b c d = true := by
  unfold chkP at h; split at h
  · assumption
  · omega
theorem chk_of_ok' {a b c d : Int} (h : okP a b c d = true) : chkP a b c d = 0 := by unfold chkP; rw [h]; rfl
theorem okN_nrm {a b c d : Int} (h : okN a b c d = true) (v : Int) : pX a b c d v = nrm a b c d v := by unfold pX; rw [if_pos h]
theorem pE_zero {a b c d : Int} (h : pE a b c d = 0) : okN a b c d = true := by
  unfold pE at h; split at h
  · assumption
  · omega
theorem pX_bad {a b c d : Int} (h : pE a b c d ≠ 0) (v : Int) : pX a b c d v = 0 := by
  unfold pX; rw [if_neg]
  intro ho; apply h; unfold pE; rw [if_pos ho]
/-- the law returns true -/
theorem lawOctaves (a b c d : Int) (w : World) (hp : Primes w) : Calls Tryd.prog 9 #[.agg #[.int .i64 a, .int .i64 b, .int .i64 c, .int .i64 d]] w fun e w' => e = .returned (.bool true) ∧ Below w.heap.size w w' := by
  cases hk : okP a b c d
  · have hn : nE a b c d = 2 := by unfold nE; rw [hk]; rfl
    have hc : chkP a b c d = 2 := by unfold chkP; rw [hk]; rfl
    have O := fun (u : World) (_ : Primes u) => octave_bad a b c d u (by omega)
    rw [hn] at O
    exact lawOctaves_A a b c d 2 w hp O hc (by omega)
  · have hn : nE a b c d = 0 := by unfold nE pE; rw [if_pos hk, if_pos (okN_of hk)]
    have hc : chkP a b c d = 0 := chk_of_ok' hk
    have O := fun (u : World) (hu : Primes u) => octave_any a b c d u hu hn
    have R := fun (u : World) (_ : Primes u) => roctave_any a b c d u hk
    have NW := fun (u : World) (_ : Primes u) => normal_any a b c d u
    have hX : ∀ v, nX a b c d v = nrm a b c d v := fun v => by unfold nX; rw [if_pos hk]; exact okN_nrm (okN_of hk) v
    simp only [hX] at O NW
    rw [hn] at NW
    have hK : okP (nrm a b c d a) (nrm a b c d b) (nrm a b c d c) (nrm a b c d d) = true := okN_of hk
    obtain ⟨⟨d0, d1⟩, _⟩ := okP_bd hk
    have hg : 1 ≤ gcd4 a b c d := gcd4_pos d0
    obtain ⟨ea, eb, ec, ed⟩ := nrm_mul a b c d
    have hbase : ∀ v, pX a b c d v = nrm a b c d v := fun v => okN_nrm (okN_of hk) v
    have hbE : pE a b c d = 0 := by unfold pE; rw [if_pos (okN_of hk)]
    generalize hA : nrm a b c d a = A at *
    generalize hB : nrm a b c d b = B at *
    generalize hC : nrm a b c d c = C at *
    generalize hD : nrm a b c d d = D at *
    generalize gcd4 a b c d = g at *
    obtain ⟨on, o1, o2⟩ := oct_both hk hK hg ea eb ec ed
    rw [← on] at R
    generalize octN A B C D = n at *
    have s1 : a - n * d = g * (A - n * D) := by rw [← ea, ← ed]; grind
    have sc : ∀ v v', v = g * v' → pX (a - n * d) b c d v = pX (A - n * D) B C D v' := fun v v' hv => by
      rw [s1, ← eb, ← ec, ← ed, hv]; exact pX_scale g _ _ _ _ _ hg
    have sE : pE (a - n * d) b c d = pE (A - n * D) B C D := by
      rw [s1, ← eb, ← ec, ← ed]; exact pE_scale g _ _ _ _ hg
    rw [sc _ _ s1, sc b B eb.symm, sc c C ec.symm, sc d D ed.symm, sE] at R
    obtain ⟨⟨D0, D1⟩, ⟨A0, A1⟩, ⟨B0, B1⟩, C0, C1⟩ := okP_bd hK
    by_cases hE : pE (A - n * D) B C D = 0
    · have ho := pE_zero hE
      have hv := fun v => okN_nrm ho v
      have hz : octI (pE (A - n * D) B C D) n = n := by unfold octI; rw [if_pos hE]
      rw [hz, hE] at O R
      simp only [hv] at O R
      obtain ⟨f1, f2, f3, f4⟩ := nrm_mul (A - n * D) B C D
      have hg2 : 1 ≤ gcd4 (A - n * D) B C D := gcd4_pos D0
      have hsg := sgn_nrm (A - n * D) B C D D0
      have hxo : okP (nrm (A - n * D) B C D (A - n * D)) (nrm (A - n * D) B C D B) (nrm (A - n * D) B C D C) (nrm (A - n * D) B C D D) = true := ho
      generalize nrm (A - n * D) B C D (A - n * D) = x0 at *
      generalize nrm (A - n * D) B C D B = x1 at *
      generalize nrm (A - n * D) B C D C = x2 at *
      generalize nrm (A - n * D) B C D D = x3 at *
      generalize gcd4 (A - n * D) B C D = h at *
      have hx := chk_of_ok' hxo
      have L := fun (u : World) (hu : Primes u) => order_any x0 x1 x2 x3 0 0 0 1 u hu
      have H := fun (u : World) (hu : Primes u) => order_any x0 x1 x2 x3 1 0 0 1 u hu
      have J := fun (u : World) (_ : Primes u) => join_any x0 x1 x2 x3 n 0 0 1 u
      have k1 : chkP 0 0 0 1 = 0 := by decide
      have k2 : chkP 1 0 0 1 = 0 := by decide
      have p1 : err2 (chkP x0 x1 x2 x3) (chkP 0 0 0 1) = 0 := by unfold err2; rw [hx, k1]; rfl
      have p2 : err2 (chkP x0 x1 x2 x3) (chkP 1 0 0 1) = 0 := by unfold err2; rw [hx, k2]; rfl
      have v1 : ordC x0 x1 x2 x3 0 0 0 1 = sgn (A - n * D) B C := by
        unfold ordC; rw [if_neg (by omega)]; unfold ordV
        rw [show x0 * 1 - 0 * x3 = x0 by omega, show x1 * 1 - 0 * x3 = x1 by omega, show x2 * 1 - 0 * x3 = x2 by omega, hsg]
      have v2 : ordC x0 x1 x2 x3 1 0 0 1 = sgn (A - (n + 1) * D) B C := by
        unfold ordC; rw [if_neg (by omega)]; unfold ordV
        rw [show x0 * 1 - 1 * x3 = x0 - x3 by omega, show x1 * 1 - 0 * x3 = x1 by omega, show x2 * 1 - 0 * x3 = x2 by omega, ← sgn_mulI h hg2 (x0 - x3), Int.mul_sub, f1, f2, f3, f4]
        congr 1; grind
      rw [v1, p1] at L
      rw [v2, p2] at H
      have t1 := octP_eq.1 o1
      have t2 : sgn (A - (n + 1) * D) B C < 0 := by
        rcases Int.lt_or_le (sgn (A - (n + 1) * D) B C) 0 with q | q
        · exact q
        · rw [octP_eq.2 q] at o2; cases o2
      cases hi : inR n (-400) 400
      · exact lawOctaves_C1 a b c d x0 x1 x2 x3 n _ _ _ _ _ _ _ A B C D w hp O hc R L t1 H t2 J NW hi
      · have hin := of_decide_eq_true hi
        have k3 : chkP n 0 0 1 = 0 := by
          refine chk_of_ok' ?_
          unfold okP inB; simp; omega
        have p3 : err2 (chkP x0 x1 x2 x3) (chkP n 0 0 1) = 0 := by unfold err2; rw [hx, k3]; rfl
        have g1 : x0 * 1 + n * x3 = x0 + n * x3 := by omega
        have g2 : x1 * 1 + 0 * x3 = x1 := by omega
        have g3 : x2 * 1 + 0 * x3 = x2 := by omega
        have g4 : x3 * 1 = x3 := by omega
        have q1 : h * (x0 + n * x3) = A := by
          rw [Int.mul_add, f1, show h * (n * x3) = n * (h * x3) by grind, f4]; omega
        have cE : pE (x0 + n * x3) x1 x2 x3 = 0 := by
          rw [← pE_scale h _ _ _ _ hg2, q1, f2, f3, f4, ← pE_scale g _ _ _ _ hg, ea, eb, ec, ed]; exact hbE
        have cX : ∀ v v' v'', h * v = v' → g * v' = v'' → pX (x0 + n * x3) x1 x2 x3 v = nrm a b c d v'' := fun v v' v'' e1 e2 => by
          rw [← pX_scale h _ _ _ _ _ hg2, q1, f2, f3, f4, e1, ← pX_scale g _ _ _ _ _ hg, ea, eb, ec, ed, e2, hbase]
        have jE : jnE x0 x1 x2 x3 n 0 0 1 = 0 := by unfold jnE; rw [if_neg (by omega), g1, g2, g3, g4]; exact cE
        have jX : ∀ v, jnX x0 x1 x2 x3 n 0 0 1 v = pX (x0 + n * x3) x1 x2 x3 v := fun v => by unfold jnX; rw [if_neg (by omega), g1, g2, g3, g4]
        rw [jE, g1, g2, g3, g4] at J
        simp only [jX] at J
        rw [cX _ _ _ q1 ea, cX _ _ _ f2 eb, cX _ _ _ f3 ec, cX _ _ _ f4 ed, hA, hB, hC, hD] at J
        exact lawOctaves_C2 a b c d x0 x1 x2 x3 n _ _ A B C D w hp O hc R L t1 H t2 J NW hi
    · have hv := pX_bad hE
      have hz : octI (pE (A - n * D) B C D) n = 0 := by unfold octI; rw [if_neg hE]
      rw [hz] at O R
      exact lawOctaves_B a b c d _ _ _ _ 0 _ w hp O hc hE R
end Go.Proofs.YtbagmfnedgjndaaDoor
