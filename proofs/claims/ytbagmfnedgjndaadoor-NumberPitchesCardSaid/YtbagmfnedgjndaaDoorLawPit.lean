/-
  The walk of the law NumberPitches: it returns true, whatever the two pitches; older memory stays as it was. Its condition: the table of primes reads as it is laid (for awake).
-/
import Derived.Test.YtbagmfnedgjndaaDoorJon
import Derived.Test.YtbagmfnedgjndaaDoorSum
import Derived.Test.YtbagmfnedgjndaaDoorLp2
import Derived.Test.YtbagmfnedgjndaaDoorEnr
import Derived.Test.YtbagmfnedgjndaaDoorAwake
namespace Go.Proofs.YtbagmfnedgjndaaDoor
open Go.RowKit

set_option maxRecDepth 100000 in
set_option maxHeartbeats 4000000 in
theorem lawPitches_bad1 (a b c d x y z t : Int) (w : World) (hp : Primes w) (h : chkP a b c d ≠ 0) :
    Calls Tryd.prog 6 #[.agg #[.int .i64 a, .int .i64 b, .int .i64 c, .int .i64 d], .agg #[.int .i64 x, .int .i64 y, .int .i64 z, .int .i64 t]] w fun e w' => e = .returned (.bool true) ∧ Below w.heap.size w w' := by
  have hk : okP a b c d = false := by
    unfold chkP at h; split at h
    · omega
    · simpa using ‹¬ okP a b c d = true›
  have hc : chkP a b c d = 2 := by unfold chkP; rw [hk]; rfl
  have hE : err2 (chkP a b c d) (chkP x y z t) = 2 := by unfold err2; rw [if_pos h, hc]
  have g1 : ∀ v, nX a b c d v = 0 := fun v => by unfold nX; rw [hk]; rfl
  have g2 : nE a b c d = 2 := by unfold nE; rw [hk]; rfl
  have f1 : ∀ v, jnX a b c d x y z t v = 0 := fun v => by unfold jnX; rw [if_pos (by omega)]
  have f2 : jnE a b c d x y z t = 2 := by unfold jnE; rw [if_pos (by omega), hE]
  have PN := fun u : World => normal_any a b c d u
  have PJ := fun u : World => join_any a b c d x y z t u
  simp only [g1, g2] at PN
  simp only [f1, f2] at PJ
  have HN := Lib.hid PN
  have HJ := Lib.hid PJ
  have HC := Lib.hid hc
  have HP2 := Lib.hid hE
  have HR := Lib.hid hp
  clear PN PJ g1 g2 f1 f2 h hp hk hc hE
  go_enter Tryd.func6, Tryd.ntmps6
  go_wp2_with fail
  have BW : Below w.heap.size w ((w.alloc (.cells #[.int .i64 a, .int .i64 b, .int .i64 c, .int .i64 d] 47)).alloc (.cells #[.int .i64 x, .int .i64 y, .int .i64 z, .int .i64 t] 47)) := by go_grown
  have BA := (Box.new w #[.int .i64 a, .int .i64 b, .int .i64 c, .int .i64 d] 47 rfl).alloc (.cells #[.int .i64 x, .int .i64 y, .int .i64 z, .int .i64 t] 47)
  have BB := Box.new (w.alloc (.cells #[.int .i64 a, .int .i64 b, .int .i64 c, .int .i64 d] 47)) #[.int .i64 x, .int .i64 y, .int .i64 z, .int .i64 t] 47 (n := w.heap.size + 1) (by simp)
  refine (awake_any _ (HR.out.keep BW)).mono ?_
  rintro e w1 ⟨rfl, h1⟩
  have B1 : Below w.heap.size w w1 := below_via BW h1
  have z1 := B1.size
  have A1 := Lib.hid (BA.keep h1); have C1 := Lib.hid (BB.keep h1)
  have y1 := h1.size
  try simp at y1
  clear h1 BA BB
  obtain ⟨a0, a1, a2, a3, _⟩ := A1.out.four
  go_wp2_with fail
  refine (HN.out _).mono ?_
  rintro e w2 ⟨rfl, h2⟩
  have B2 : Below w.heap.size w w2 := below_via (by go_grown) h2
  have z2 := B2.size
  have A2 := Lib.hid ((A1.out.keep h2).alloc (.cells #[.int .i64 (0), .int .i64 (0), .int .i64 (0), .int .i64 (0)] 47)); have C2 := Lib.hid ((C1.out.keep h2).alloc (.cells #[.int .i64 (0), .int .i64 (0), .int .i64 (0), .int .i64 (0)] 47))
  have N2 := Lib.hid (Box.new w2 #[.int .i64 (0), .int .i64 (0), .int .i64 (0), .int .i64 (0)] 47 rfl)
  have y2 := h2.size
  try simp at y2
  clear h2 a0 a1 a2 a3
  obtain ⟨a0, a1, a2, a3, _⟩ := A2.out.four
  obtain ⟨c0, c1, c2, c3, _⟩ := C2.out.four
  go_wp2_with fail
  refine (HJ.out _).mono ?_
  rintro e w3 ⟨rfl, h3⟩
  have B3 : Below w.heap.size w w3 := below_via (by go_grown) h3
  have z3 := B3.size
  have A3 := Lib.hid ((A2.out.keep h3).alloc (.cells #[.int .i64 (0), .int .i64 (0), .int .i64 (0), .int .i64 (0)] 47)); have C3 := Lib.hid ((C2.out.keep h3).alloc (.cells #[.int .i64 (0), .int .i64 (0), .int .i64 (0), .int .i64 (0)] 47)); have N3 := Lib.hid ((N2.out.keep h3).alloc (.cells #[.int .i64 (0), .int .i64 (0), .int .i64 (0), .int .i64 (0)] 47))
  have J3 := Lib.hid (Box.new w3 #[.int .i64 (0), .int .i64 (0), .int .i64 (0), .int .i64 (0)] 47 rfl)
  have V3 : Below w.heap.size w (w3.alloc (.cells #[.int .i64 (0), .int .i64 (0), .int .i64 (0), .int .i64 (0)] 47)) := by go_grown
  have y3 := h3.size
  try simp at y3
  clear h3 a0 a1 a2 a3 c0 c1 c2 c3
  obtain ⟨a0, a1, a2, a3, _⟩ := A3.out.four
  go_wp2_with fail
  have G3 := Lib.hid (Box.new (w3.alloc (.cells #[.int .i64 (0), .int .i64 (0), .int .i64 (0), .int .i64 (0)] 47)) #[.int .i64 a, .int .i64 b, .int .i64 c, .int .i64 d] 47 (n := w3.heap.size + 1) (by simp))
  refine (pitches1_any (w3.heap.size + 1) 1 a b c d _ (G3.out.cell 0) (G3.out.cell 1) (G3.out.cell 2) (G3.out.cell 3)).mono ?_
  rintro e w4 ⟨rfl, h4⟩
  have B4 : Below w.heap.size w w4 := below_via (by go_grown) h4
  have z4 := B4.size
  have A4 := Lib.hid ((A3.out.alloc (.cells #[.int .i64 a, .int .i64 b, .int .i64 c, .int .i64 d] 47)).keep h4); have C4 := Lib.hid ((C3.out.alloc (.cells #[.int .i64 a, .int .i64 b, .int .i64 c, .int .i64 d] 47)).keep h4); have N4 := Lib.hid ((N3.out.alloc (.cells #[.int .i64 a, .int .i64 b, .int .i64 c, .int .i64 d] 47)).keep h4); have J4 := Lib.hid ((J3.out.alloc (.cells #[.int .i64 a, .int .i64 b, .int .i64 c, .int .i64 d] 47)).keep h4)
  have y4 := h4.size
  try simp at y4
  clear h4 a0 a1 a2 a3
  have lA := A4.out.lt
  have lC := C4.out.lt
  have lN := N4.out.lt
  have lJ := J4.out.lt
  obtain ⟨a0, a1, a2, a3, _⟩ := A4.out.four
  obtain ⟨n0, n1, n2, n3, _⟩ := N4.out.four
  go_wp2_with fail
  refine (chkP_any _ _ _ _ _).mono ?_
  rintro e w5 ⟨rfl, h5⟩
  have B5 : Below w.heap.size w w5 := below_via (by go_grown) h5
  have z5 := B5.size
  have A5 := Lib.hid (A4.out.keep h5); have C5 := Lib.hid (C4.out.keep h5); have N5 := Lib.hid (N4.out.keep h5); have J5 := Lib.hid (J4.out.keep h5)
  have y5 := h5.size
  clear h5 a0 a1 a2 a3 n0 n1 n2 n3 lA lC lN lJ
  have lA := A5.out.lt
  have lC := C5.out.lt
  have lN := N5.out.lt
  have lJ := J5.out.lt
  rw [HC.out]
  obtain ⟨a0, a1, a2, a3, _⟩ := A5.out.four
  obtain ⟨c0, c1, c2, c3, _⟩ := C5.out.four
  obtain ⟨n0, n1, n2, n3, _⟩ := N5.out.four
  go_wp2_with fail
  go_quiet (fail)
  have A5q := Lib.hid (A5.out.drewN nq); have C5q := Lib.hid (C5.out.drewN nq); have J5q := Lib.hid (J5.out.drewN nq)
  have B5q : Below w.heap.size w (w5.drewN nq) := below_drewN B5 nq
  generalize w5.drewN nq = w5q at *
  clear a0 a1 a2 a3 c0 c1 c2 c3 n0 n1 n2 n3 lA lC lN lJ
  have lA := A5q.out.lt
  have lC := C5q.out.lt
  have lJ := J5q.out.lt
  have z5q := B5q.size
  obtain ⟨a0, a1, a2, a3, _⟩ := A5q.out.four
  obtain ⟨c0, c1, c2, c3, _⟩ := C5q.out.four
  go_wp2_with fail
  have G6 := Lib.hid (Box.new w5q #[.int .i64 a, .int .i64 b, .int .i64 c, .int .i64 d, .int .i64 x, .int .i64 y, .int .i64 z, .int .i64 t] 47 rfl)
  refine (pitches2_any w5q.heap.size 2 a b c d x y z t _ (G6.out.cell 0) (G6.out.cell 1) (G6.out.cell 2) (G6.out.cell 3) (G6.out.cell 4) (G6.out.cell 5) (G6.out.cell 6) (G6.out.cell 7) G6.out.lt).mono ?_
  rintro e w6 ⟨rfl, h6⟩
  have B6 : Below w.heap.size w w6 := below_via (by go_grown) h6
  have z6 := B6.size
  have A6 := Lib.hid ((A5q.out.alloc (.cells #[.int .i64 a, .int .i64 b, .int .i64 c, .int .i64 d, .int .i64 x, .int .i64 y, .int .i64 z, .int .i64 t] 47)).keep h6); have C6 := Lib.hid ((C5q.out.alloc (.cells #[.int .i64 a, .int .i64 b, .int .i64 c, .int .i64 d, .int .i64 x, .int .i64 y, .int .i64 z, .int .i64 t] 47)).keep h6); have J6 := Lib.hid ((J5q.out.alloc (.cells #[.int .i64 a, .int .i64 b, .int .i64 c, .int .i64 d, .int .i64 x, .int .i64 y, .int .i64 z, .int .i64 t] 47)).keep h6)
  have y6 := h6.size
  try simp at y6
  clear h6 a0 a1 a2 a3 c0 c1 c2 c3
  try clear n0 n1 n2 n3
  rw [HP2.out]
  have lJ6 := J6.out.lt
  obtain ⟨j0, j1, j2, j3, _⟩ := J6.out.four
  go_wp2_with fail
  go_ret
  exact ⟨rfl, by go_grown⟩

set_option maxRecDepth 100000 in
set_option maxHeartbeats 4000000 in
theorem lawPitches_bad2 (a b c d x y z t : Int) (w : World) (hp : Primes w) (h : chkP a b c d = 0) (hq : chkP x y z t ≠ 0) :
    Calls Tryd.prog 6 #[.agg #[.int .i64 a, .int .i64 b, .int .i64 c, .int .i64 d], .agg #[.int .i64 x, .int .i64 y, .int .i64 z, .int .i64 t]] w fun e w' => e = .returned (.bool true) ∧ Below w.heap.size w w' := by
  have hk : okP a b c d = true := by
    unfold chkP at h; split at h
    · assumption
    · omega
  have hN := okN_of hk
  obtain ⟨⟨pd0, pd1⟩, ⟨pa0, pa1⟩, ⟨pb0, pb1⟩, pc0, pc1⟩ := okP_bd hk
  have g1 : ∀ v, nX a b c d v = nrm a b c d v := fun v => by unfold nX pX; rw [if_pos hk, if_pos hN]
  have g2 : nE a b c d = 0 := by unfold nE pE; rw [if_pos hk, if_pos hN]
  have PN := fun u : World => normal_any a b c d u
  have PM := fun u : World => rnormal_any a b c d u (by omega) (by omega) (by omega) (by omega) (by omega) (by omega) (by omega) (by omega)
  simp only [g1, g2] at PN
  generalize nrm a b c d a = na at *
  generalize nrm a b c d b = nb at *
  generalize nrm a b c d c = nc at *
  generalize nrm a b c d d = nd at *
  have HN := Lib.hid PN
  have HM := Lib.hid PM
  have HC := Lib.hid h
  have hq2 : chkP x y z t = 2 := by
    cases ho : okP x y z t
    · unfold chkP; rw [ho]; rfl
    · exfalso; apply hq; unfold chkP; rw [ho]; rfl
  have hE : err2 (chkP a b c d) (chkP x y z t) = 2 := by unfold err2; rw [if_neg (by omega), hq2]
  have f1 : ∀ v, jnX a b c d x y z t v = 0 := fun v => by unfold jnX; rw [if_pos (by omega)]
  have f2 : jnE a b c d x y z t = 2 := by unfold jnE; rw [if_pos (by omega), hE]
  have PJ := fun u : World => join_any a b c d x y z t u
  simp only [f1, f2] at PJ
  have HJ := Lib.hid PJ
  have HP2 := Lib.hid hE
  have HR := Lib.hid hp
  clear PN PM PJ g1 g2 f1 f2 h hp hk hN hq hq2 hE
  go_enter Tryd.func6, Tryd.ntmps6
  go_wp2_with fail
  have BW : Below w.heap.size w ((w.alloc (.cells #[.int .i64 a, .int .i64 b, .int .i64 c, .int .i64 d] 47)).alloc (.cells #[.int .i64 x, .int .i64 y, .int .i64 z, .int .i64 t] 47)) := by go_grown
  have BA := (Box.new w #[.int .i64 a, .int .i64 b, .int .i64 c, .int .i64 d] 47 rfl).alloc (.cells #[.int .i64 x, .int .i64 y, .int .i64 z, .int .i64 t] 47)
  have BB := Box.new (w.alloc (.cells #[.int .i64 a, .int .i64 b, .int .i64 c, .int .i64 d] 47)) #[.int .i64 x, .int .i64 y, .int .i64 z, .int .i64 t] 47 (n := w.heap.size + 1) (by simp)
  refine (awake_any _ (HR.out.keep BW)).mono ?_
  rintro e w1 ⟨rfl, h1⟩
  have B1 : Below w.heap.size w w1 := below_via BW h1
  have z1 := B1.size
  have A1 := Lib.hid (BA.keep h1); have C1 := Lib.hid (BB.keep h1)
  have y1 := h1.size
  try simp at y1
  clear h1 BA BB
  obtain ⟨a0, a1, a2, a3, _⟩ := A1.out.four
  go_wp2_with fail
  refine (HN.out _).mono ?_
  rintro e w2 ⟨rfl, h2⟩
  have B2 : Below w.heap.size w w2 := below_via (by go_grown) h2
  have z2 := B2.size
  have A2 := Lib.hid ((A1.out.keep h2).alloc (.cells #[.int .i64 (na), .int .i64 (nb), .int .i64 (nc), .int .i64 (nd)] 47)); have C2 := Lib.hid ((C1.out.keep h2).alloc (.cells #[.int .i64 (na), .int .i64 (nb), .int .i64 (nc), .int .i64 (nd)] 47))
  have N2 := Lib.hid (Box.new w2 #[.int .i64 (na), .int .i64 (nb), .int .i64 (nc), .int .i64 (nd)] 47 rfl)
  have y2 := h2.size
  try simp at y2
  clear h2 a0 a1 a2 a3
  obtain ⟨a0, a1, a2, a3, _⟩ := A2.out.four
  obtain ⟨c0, c1, c2, c3, _⟩ := C2.out.four
  go_wp2_with fail
  refine (HJ.out _).mono ?_
  rintro e w3 ⟨rfl, h3⟩
  have B3 : Below w.heap.size w w3 := below_via (by go_grown) h3
  have z3 := B3.size
  have A3 := Lib.hid ((A2.out.keep h3).alloc (.cells #[.int .i64 (0), .int .i64 (0), .int .i64 (0), .int .i64 (0)] 47)); have C3 := Lib.hid ((C2.out.keep h3).alloc (.cells #[.int .i64 (0), .int .i64 (0), .int .i64 (0), .int .i64 (0)] 47)); have N3 := Lib.hid ((N2.out.keep h3).alloc (.cells #[.int .i64 (0), .int .i64 (0), .int .i64 (0), .int .i64 (0)] 47))
  have J3 := Lib.hid (Box.new w3 #[.int .i64 (0), .int .i64 (0), .int .i64 (0), .int .i64 (0)] 47 rfl)
  have V3 : Below w.heap.size w (w3.alloc (.cells #[.int .i64 (0), .int .i64 (0), .int .i64 (0), .int .i64 (0)] 47)) := by go_grown
  have y3 := h3.size
  try simp at y3
  clear h3 a0 a1 a2 a3 c0 c1 c2 c3
  obtain ⟨a0, a1, a2, a3, _⟩ := A3.out.four
  go_wp2_with fail
  have G3 := Lib.hid (Box.new (w3.alloc (.cells #[.int .i64 (0), .int .i64 (0), .int .i64 (0), .int .i64 (0)] 47)) #[.int .i64 a, .int .i64 b, .int .i64 c, .int .i64 d] 47 (n := w3.heap.size + 1) (by simp))
  refine (pitches1_any (w3.heap.size + 1) 1 a b c d _ (G3.out.cell 0) (G3.out.cell 1) (G3.out.cell 2) (G3.out.cell 3)).mono ?_
  rintro e w4 ⟨rfl, h4⟩
  have B4 : Below w.heap.size w w4 := below_via (by go_grown) h4
  have z4 := B4.size
  have A4 := Lib.hid ((A3.out.alloc (.cells #[.int .i64 a, .int .i64 b, .int .i64 c, .int .i64 d] 47)).keep h4); have C4 := Lib.hid ((C3.out.alloc (.cells #[.int .i64 a, .int .i64 b, .int .i64 c, .int .i64 d] 47)).keep h4); have N4 := Lib.hid ((N3.out.alloc (.cells #[.int .i64 a, .int .i64 b, .int .i64 c, .int .i64 d] 47)).keep h4); have J4 := Lib.hid ((J3.out.alloc (.cells #[.int .i64 a, .int .i64 b, .int .i64 c, .int .i64 d] 47)).keep h4)
  have y4 := h4.size
  try simp at y4
  clear h4 a0 a1 a2 a3
  have lA := A4.out.lt
  have lC := C4.out.lt
  have lN := N4.out.lt
  have lJ := J4.out.lt
  obtain ⟨a0, a1, a2, a3, _⟩ := A4.out.four
  obtain ⟨n0, n1, n2, n3, _⟩ := N4.out.four
  go_wp2_with fail
  refine (chkP_any _ _ _ _ _).mono ?_
  rintro e w5 ⟨rfl, h5⟩
  have B5 : Below w.heap.size w w5 := below_via (by go_grown) h5
  have z5 := B5.size
  have A5 := Lib.hid (A4.out.keep h5); have C5 := Lib.hid (C4.out.keep h5); have N5 := Lib.hid (N4.out.keep h5); have J5 := Lib.hid (J4.out.keep h5)
  have y5 := h5.size
  clear h5 a0 a1 a2 a3 n0 n1 n2 n3 lA lC lN lJ
  have lA := A5.out.lt
  have lC := C5.out.lt
  have lN := N5.out.lt
  have lJ := J5.out.lt
  rw [HC.out]
  obtain ⟨a0, a1, a2, a3, _⟩ := A5.out.four
  obtain ⟨c0, c1, c2, c3, _⟩ := C5.out.four
  obtain ⟨n0, n1, n2, n3, _⟩ := N5.out.four
  go_wp2_with fail
  have K5 := Lib.hid (fun (w' : World) (hw : Below w5.heap.size w5 w') => show w'.cell? ⟨w.heap.size, 0, none⟩ = some (.int .i64 a) ∧ w'.cell? ⟨w.heap.size, 1, none⟩ = some (.int .i64 b) ∧ w'.cell? ⟨w.heap.size, 2, none⟩ = some (.int .i64 c) ∧ w'.cell? ⟨w.heap.size, 3, none⟩ = some (.int .i64 d) ∧ w'.cell? ⟨w2.heap.size, 0, none⟩ = some (.int .i64 (na)) ∧ w'.cell? ⟨w2.heap.size, 1, none⟩ = some (.int .i64 (nb)) ∧ w'.cell? ⟨w2.heap.size, 2, none⟩ = some (.int .i64 (nc)) ∧ w'.cell? ⟨w2.heap.size, 3, none⟩ = some (.int .i64 (nd)) from ⟨(A5.out.keep hw).cell 0, (A5.out.keep hw).cell 1, (A5.out.keep hw).cell 2, (A5.out.keep hw).cell 3, (N5.out.keep hw).cell 0, (N5.out.keep hw).cell 1, (N5.out.keep hw).cell 2, (N5.out.keep hw).cell 3⟩)
  go_region_held3 (fun w' => w'.cell? ⟨w.heap.size, 0, none⟩ = some (.int .i64 a) ∧ w'.cell? ⟨w.heap.size, 1, none⟩ = some (.int .i64 b) ∧ w'.cell? ⟨w.heap.size, 2, none⟩ = some (.int .i64 c) ∧ w'.cell? ⟨w.heap.size, 3, none⟩ = some (.int .i64 d) ∧ w'.cell? ⟨w2.heap.size, 0, none⟩ = some (.int .i64 (na)) ∧ w'.cell? ⟨w2.heap.size, 1, none⟩ = some (.int .i64 (nb)) ∧ w'.cell? ⟨w2.heap.size, 2, none⟩ = some (.int .i64 (nc)) ∧ w'.cell? ⟨w2.heap.size, 3, none⟩ = some (.int .i64 (nd)))
    ((refine K5.out _ ?_; go_grown; done))
    ((first | (go_at_call 36; refine (HM.out _).mono ?_; rintro e w9 ⟨rfl, h9⟩; have hB9 : Below w5.heap.size w5 w9 := below_via (by go_grown) h9; clear h9; have hz9 := hB9.size; obtain ⟨k0, k1, k2, k3, k4, k5, k6, k7⟩ := K5.out w9 hB9)))
  have A5q := Lib.hid (A5.out.keep hB9); have C5q := Lib.hid (C5.out.keep hB9); have J5q := Lib.hid (J5.out.keep hB9)
  have B5q : Below w.heap.size w w9 := below_via B5 hB9
  clear hB9 hz9 k0 k1 k2 k3 k4 k5 k6 k7 a0 a1 a2 a3 c0 c1 c2 c3 n0 n1 n2 n3 lA lC lN lJ K5
  have lA := A5q.out.lt
  have lC := C5q.out.lt
  have lJ := J5q.out.lt
  have z5q := B5q.size
  obtain ⟨a0, a1, a2, a3, _⟩ := A5q.out.four
  obtain ⟨c0, c1, c2, c3, _⟩ := C5q.out.four
  go_wp2_with fail
  have G6 := Lib.hid (Box.new w9 #[.int .i64 a, .int .i64 b, .int .i64 c, .int .i64 d, .int .i64 x, .int .i64 y, .int .i64 z, .int .i64 t] 47 rfl)
  refine (pitches2_any w9.heap.size 2 a b c d x y z t _ (G6.out.cell 0) (G6.out.cell 1) (G6.out.cell 2) (G6.out.cell 3) (G6.out.cell 4) (G6.out.cell 5) (G6.out.cell 6) (G6.out.cell 7) G6.out.lt).mono ?_
  rintro e w6 ⟨rfl, h6⟩
  have B6 : Below w.heap.size w w6 := below_via (by go_grown) h6
  have z6 := B6.size
  have A6 := Lib.hid ((A5q.out.alloc (.cells #[.int .i64 a, .int .i64 b, .int .i64 c, .int .i64 d, .int .i64 x, .int .i64 y, .int .i64 z, .int .i64 t] 47)).keep h6); have C6 := Lib.hid ((C5q.out.alloc (.cells #[.int .i64 a, .int .i64 b, .int .i64 c, .int .i64 d, .int .i64 x, .int .i64 y, .int .i64 z, .int .i64 t] 47)).keep h6); have J6 := Lib.hid ((J5q.out.alloc (.cells #[.int .i64 a, .int .i64 b, .int .i64 c, .int .i64 d, .int .i64 x, .int .i64 y, .int .i64 z, .int .i64 t] 47)).keep h6)
  have y6 := h6.size
  try simp at y6
  clear h6 a0 a1 a2 a3 c0 c1 c2 c3
  try clear n0 n1 n2 n3
  rw [HP2.out]
  have lJ6 := J6.out.lt
  obtain ⟨j0, j1, j2, j3, _⟩ := J6.out.four
  go_wp2_with fail
  go_ret
  exact ⟨rfl, by go_grown⟩

set_option maxRecDepth 100000 in
set_option maxHeartbeats 4000000 in
theorem lawPitches_ok (a b c d x y z t : Int) (w : World) (hp : Primes w) (h : chkP a b c d = 0) (hq : chkP x y z t = 0) :
    Calls Tryd.prog 6 #[.agg #[.int .i64 a, .int .i64 b, .int .i64 c, .int .i64 d], .agg #[.int .i64 x, .int .i64 y, .int .i64 z, .int .i64 t]] w fun e w' => e = .returned (.bool true) ∧ Below w.heap.size w w' := by
  have hk : okP a b c d = true := by
    unfold chkP at h; split at h
    · assumption
    · omega
  have hN := okN_of hk
  obtain ⟨⟨pd0, pd1⟩, ⟨pa0, pa1⟩, ⟨pb0, pb1⟩, pc0, pc1⟩ := okP_bd hk
  have g1 : ∀ v, nX a b c d v = nrm a b c d v := fun v => by unfold nX pX; rw [if_pos hk, if_pos hN]
  have g2 : nE a b c d = 0 := by unfold nE pE; rw [if_pos hk, if_pos hN]
  have PN := fun u : World => normal_any a b c d u
  have PM := fun u : World => rnormal_any a b c d u (by omega) (by omega) (by omega) (by omega) (by omega) (by omega) (by omega) (by omega)
  simp only [g1, g2] at PN
  generalize nrm a b c d a = na at *
  generalize nrm a b c d b = nb at *
  generalize nrm a b c d c = nc at *
  generalize nrm a b c d d = nd at *
  have HN := Lib.hid PN
  have HM := Lib.hid PM
  have HC := Lib.hid h
  have hkq : okP x y z t = true := by
    unfold chkP at hq; split at hq
    · assumption
    · omega
  obtain ⟨⟨qd0, qd1⟩, ⟨qa0, qa1⟩, ⟨qb0, qb1⟩, qc0, qc1⟩ := okP_bd hkq
  have hE : err2 (chkP a b c d) (chkP x y z t) = 0 := by unfold err2; rw [if_neg (by omega)]; exact hq
  have hE' : err2 (chkP x y z t) (chkP a b c d) = 0 := by unfold err2; rw [if_neg (by omega)]; exact h
  have f1 : ∀ v, jnX a b c d x y z t v = pX (a * t + x * d) (b * t + y * d) (c * t + z * d) (d * t) v := fun v => by unfold jnX; rw [if_neg (by omega)]
  have f2 : jnE a b c d x y z t = pE (a * t + x * d) (b * t + y * d) (c * t + z * d) (d * t) := by unfold jnE; rw [if_neg (by omega)]
  have u1 : x * d + a * t = a * t + x * d := Int.add_comm _ _
  have u2 : y * d + b * t = b * t + y * d := Int.add_comm _ _
  have u3 : z * d + c * t = c * t + z * d := Int.add_comm _ _
  have u4 : t * d = d * t := Int.mul_comm _ _
  have f3 : ∀ v, jnX x y z t a b c d v = pX (a * t + x * d) (b * t + y * d) (c * t + z * d) (d * t) v := fun v => by unfold jnX; rw [if_neg (by omega), u1, u2, u3, u4]
  have f4 : jnE x y z t a b c d = pE (a * t + x * d) (b * t + y * d) (c * t + z * d) (d * t) := by unfold jnE; rw [if_neg (by omega), u1, u2, u3, u4]
  have PJ := fun u : World => join_any a b c d x y z t u
  have PK := fun u : World => join_any x y z t a b c d u
  have PR := fun u : World => rjoin_any a b c d x y z t u (by omega) (by omega) (by omega) (by omega) (by omega) (by omega) (by omega) (by omega) (by omega) (by omega) (by omega) (by omega) (by omega) (by omega) (by omega) (by omega)
  simp only [f1, f2] at PJ
  simp only [f3, f4, u1, u2, u3, u4] at PK
  generalize pX (a * t + x * d) (b * t + y * d) (c * t + z * d) (d * t) (a * t + x * d) = ja at *
  generalize pX (a * t + x * d) (b * t + y * d) (c * t + z * d) (d * t) (b * t + y * d) = jb at *
  generalize pX (a * t + x * d) (b * t + y * d) (c * t + z * d) (d * t) (c * t + z * d) = jc at *
  generalize pX (a * t + x * d) (b * t + y * d) (c * t + z * d) (d * t) (d * t) = jd at *
  generalize pE (a * t + x * d) (b * t + y * d) (c * t + z * d) (d * t) = je at *
  have HJ := Lib.hid PJ
  have HK := Lib.hid PK
  have HQ := Lib.hid PR
  have HP2 := Lib.hid hE
  have HR := Lib.hid hp
  have hje : (je != je) = false := by simp
  have hje2 : (je == je) = true := by simp
  clear PN PM PJ PK PR g1 g2 f1 f2 f3 f4 u1 u2 u3 u4 h hp hk hN hq hkq hE hE' pa0 pa1 pb0 pb1 pc0 pc1 pd0 pd1 qa0 qa1 qb0 qb1 qc0 qc1 qd0 qd1
  go_enter Tryd.func6, Tryd.ntmps6
  go_wp2_with fail
  have BW : Below w.heap.size w ((w.alloc (.cells #[.int .i64 a, .int .i64 b, .int .i64 c, .int .i64 d] 47)).alloc (.cells #[.int .i64 x, .int .i64 y, .int .i64 z, .int .i64 t] 47)) := by go_grown
  have BA := (Box.new w #[.int .i64 a, .int .i64 b, .int .i64 c, .int .i64 d] 47 rfl).alloc (.cells #[.int .i64 x, .int .i64 y, .int .i64 z, .int .i64 t] 47)
  have BB := Box.new (w.alloc (.cells #[.int .i64 a, .int .i64 b, .int .i64 c, .int .i64 d] 47)) #[.int .i64 x, .int .i64 y, .int .i64 z, .int .i64 t] 47 (n := w.heap.size + 1) (by simp)
  refine (awake_any _ (HR.out.keep BW)).mono ?_
  rintro e w1 ⟨rfl, h1⟩
  have B1 : Below w.heap.size w w1 := below_via BW h1
  have z1 := B1.size
  have A1 := Lib.hid (BA.keep h1); have C1 := Lib.hid (BB.keep h1)
  have y1 := h1.size
  try simp at y1
  clear h1 BA BB
  obtain ⟨a0, a1, a2, a3, _⟩ := A1.out.four
  go_wp2_with fail
  refine (HN.out _).mono ?_
  rintro e w2 ⟨rfl, h2⟩
  have B2 : Below w.heap.size w w2 := below_via (by go_grown) h2
  have z2 := B2.size
  have A2 := Lib.hid ((A1.out.keep h2).alloc (.cells #[.int .i64 (na), .int .i64 (nb), .int .i64 (nc), .int .i64 (nd)] 47)); have C2 := Lib.hid ((C1.out.keep h2).alloc (.cells #[.int .i64 (na), .int .i64 (nb), .int .i64 (nc), .int .i64 (nd)] 47))
  have N2 := Lib.hid (Box.new w2 #[.int .i64 (na), .int .i64 (nb), .int .i64 (nc), .int .i64 (nd)] 47 rfl)
  have y2 := h2.size
  try simp at y2
  clear h2 a0 a1 a2 a3
  obtain ⟨a0, a1, a2, a3, _⟩ := A2.out.four
  obtain ⟨c0, c1, c2, c3, _⟩ := C2.out.four
  go_wp2_with fail
  refine (HJ.out _).mono ?_
  rintro e w3 ⟨rfl, h3⟩
  have B3 : Below w.heap.size w w3 := below_via (by go_grown) h3
  have z3 := B3.size
  have A3 := Lib.hid ((A2.out.keep h3).alloc (.cells #[.int .i64 (ja), .int .i64 (jb), .int .i64 (jc), .int .i64 (jd)] 47)); have C3 := Lib.hid ((C2.out.keep h3).alloc (.cells #[.int .i64 (ja), .int .i64 (jb), .int .i64 (jc), .int .i64 (jd)] 47)); have N3 := Lib.hid ((N2.out.keep h3).alloc (.cells #[.int .i64 (ja), .int .i64 (jb), .int .i64 (jc), .int .i64 (jd)] 47))
  have J3 := Lib.hid (Box.new w3 #[.int .i64 (ja), .int .i64 (jb), .int .i64 (jc), .int .i64 (jd)] 47 rfl)
  have V3 : Below w.heap.size w (w3.alloc (.cells #[.int .i64 (ja), .int .i64 (jb), .int .i64 (jc), .int .i64 (jd)] 47)) := by go_grown
  have y3 := h3.size
  try simp at y3
  clear h3 a0 a1 a2 a3 c0 c1 c2 c3
  obtain ⟨a0, a1, a2, a3, _⟩ := A3.out.four
  go_wp2_with fail
  have G3 := Lib.hid (Box.new (w3.alloc (.cells #[.int .i64 (ja), .int .i64 (jb), .int .i64 (jc), .int .i64 (jd)] 47)) #[.int .i64 a, .int .i64 b, .int .i64 c, .int .i64 d] 47 (n := w3.heap.size + 1) (by simp))
  refine (pitches1_any (w3.heap.size + 1) 1 a b c d _ (G3.out.cell 0) (G3.out.cell 1) (G3.out.cell 2) (G3.out.cell 3)).mono ?_
  rintro e w4 ⟨rfl, h4⟩
  have B4 : Below w.heap.size w w4 := below_via (by go_grown) h4
  have z4 := B4.size
  have A4 := Lib.hid ((A3.out.alloc (.cells #[.int .i64 a, .int .i64 b, .int .i64 c, .int .i64 d] 47)).keep h4); have C4 := Lib.hid ((C3.out.alloc (.cells #[.int .i64 a, .int .i64 b, .int .i64 c, .int .i64 d] 47)).keep h4); have N4 := Lib.hid ((N3.out.alloc (.cells #[.int .i64 a, .int .i64 b, .int .i64 c, .int .i64 d] 47)).keep h4); have J4 := Lib.hid ((J3.out.alloc (.cells #[.int .i64 a, .int .i64 b, .int .i64 c, .int .i64 d] 47)).keep h4)
  have y4 := h4.size
  try simp at y4
  clear h4 a0 a1 a2 a3
  have lA := A4.out.lt
  have lC := C4.out.lt
  have lN := N4.out.lt
  have lJ := J4.out.lt
  obtain ⟨a0, a1, a2, a3, _⟩ := A4.out.four
  obtain ⟨n0, n1, n2, n3, _⟩ := N4.out.four
  go_wp2_with fail
  refine (chkP_any _ _ _ _ _).mono ?_
  rintro e w5 ⟨rfl, h5⟩
  have B5 : Below w.heap.size w w5 := below_via (by go_grown) h5
  have z5 := B5.size
  have A5 := Lib.hid (A4.out.keep h5); have C5 := Lib.hid (C4.out.keep h5); have N5 := Lib.hid (N4.out.keep h5); have J5 := Lib.hid (J4.out.keep h5)
  have y5 := h5.size
  clear h5 a0 a1 a2 a3 n0 n1 n2 n3 lA lC lN lJ
  have lA := A5.out.lt
  have lC := C5.out.lt
  have lN := N5.out.lt
  have lJ := J5.out.lt
  rw [HC.out]
  obtain ⟨a0, a1, a2, a3, _⟩ := A5.out.four
  obtain ⟨c0, c1, c2, c3, _⟩ := C5.out.four
  obtain ⟨n0, n1, n2, n3, _⟩ := N5.out.four
  go_wp2_with fail
  have K5 := Lib.hid (fun (w' : World) (hw : Below w5.heap.size w5 w') => show w'.cell? ⟨w.heap.size, 0, none⟩ = some (.int .i64 a) ∧ w'.cell? ⟨w.heap.size, 1, none⟩ = some (.int .i64 b) ∧ w'.cell? ⟨w.heap.size, 2, none⟩ = some (.int .i64 c) ∧ w'.cell? ⟨w.heap.size, 3, none⟩ = some (.int .i64 d) ∧ w'.cell? ⟨w2.heap.size, 0, none⟩ = some (.int .i64 (na)) ∧ w'.cell? ⟨w2.heap.size, 1, none⟩ = some (.int .i64 (nb)) ∧ w'.cell? ⟨w2.heap.size, 2, none⟩ = some (.int .i64 (nc)) ∧ w'.cell? ⟨w2.heap.size, 3, none⟩ = some (.int .i64 (nd)) from ⟨(A5.out.keep hw).cell 0, (A5.out.keep hw).cell 1, (A5.out.keep hw).cell 2, (A5.out.keep hw).cell 3, (N5.out.keep hw).cell 0, (N5.out.keep hw).cell 1, (N5.out.keep hw).cell 2, (N5.out.keep hw).cell 3⟩)
  go_region_held3 (fun w' => w'.cell? ⟨w.heap.size, 0, none⟩ = some (.int .i64 a) ∧ w'.cell? ⟨w.heap.size, 1, none⟩ = some (.int .i64 b) ∧ w'.cell? ⟨w.heap.size, 2, none⟩ = some (.int .i64 c) ∧ w'.cell? ⟨w.heap.size, 3, none⟩ = some (.int .i64 d) ∧ w'.cell? ⟨w2.heap.size, 0, none⟩ = some (.int .i64 (na)) ∧ w'.cell? ⟨w2.heap.size, 1, none⟩ = some (.int .i64 (nb)) ∧ w'.cell? ⟨w2.heap.size, 2, none⟩ = some (.int .i64 (nc)) ∧ w'.cell? ⟨w2.heap.size, 3, none⟩ = some (.int .i64 (nd)))
    ((refine K5.out _ ?_; go_grown; done))
    ((first | (go_at_call 36; refine (HM.out _).mono ?_; rintro e w9 ⟨rfl, h9⟩; have hB9 : Below w5.heap.size w5 w9 := below_via (by go_grown) h9; clear h9; have hz9 := hB9.size; obtain ⟨k0, k1, k2, k3, k4, k5, k6, k7⟩ := K5.out w9 hB9)))
  have A5q := Lib.hid (A5.out.keep hB9); have C5q := Lib.hid (C5.out.keep hB9); have J5q := Lib.hid (J5.out.keep hB9)
  have B5q : Below w.heap.size w w9 := below_via B5 hB9
  clear hB9 hz9 k0 k1 k2 k3 k4 k5 k6 k7 a0 a1 a2 a3 c0 c1 c2 c3 n0 n1 n2 n3 lA lC lN lJ K5
  have lA := A5q.out.lt
  have lC := C5q.out.lt
  have lJ := J5q.out.lt
  have z5q := B5q.size
  obtain ⟨a0, a1, a2, a3, _⟩ := A5q.out.four
  obtain ⟨c0, c1, c2, c3, _⟩ := C5q.out.four
  go_wp2_with fail
  have G6 := Lib.hid (Box.new w9 #[.int .i64 a, .int .i64 b, .int .i64 c, .int .i64 d, .int .i64 x, .int .i64 y, .int .i64 z, .int .i64 t] 47 rfl)
  refine (pitches2_any w9.heap.size 2 a b c d x y z t _ (G6.out.cell 0) (G6.out.cell 1) (G6.out.cell 2) (G6.out.cell 3) (G6.out.cell 4) (G6.out.cell 5) (G6.out.cell 6) (G6.out.cell 7) G6.out.lt).mono ?_
  rintro e w6 ⟨rfl, h6⟩
  have B6 : Below w.heap.size w w6 := below_via (by go_grown) h6
  have z6 := B6.size
  have A6 := Lib.hid ((A5q.out.alloc (.cells #[.int .i64 a, .int .i64 b, .int .i64 c, .int .i64 d, .int .i64 x, .int .i64 y, .int .i64 z, .int .i64 t] 47)).keep h6); have C6 := Lib.hid ((C5q.out.alloc (.cells #[.int .i64 a, .int .i64 b, .int .i64 c, .int .i64 d, .int .i64 x, .int .i64 y, .int .i64 z, .int .i64 t] 47)).keep h6); have J6 := Lib.hid ((J5q.out.alloc (.cells #[.int .i64 a, .int .i64 b, .int .i64 c, .int .i64 d, .int .i64 x, .int .i64 y, .int .i64 z, .int .i64 t] 47)).keep h6)
  have y6 := h6.size
  try simp at y6
  clear h6 a0 a1 a2 a3 c0 c1 c2 c3
  try clear n0 n1 n2 n3
  rw [HP2.out]
  have lJ6 := J6.out.lt
  obtain ⟨a0, a1, a2, a3, _⟩ := A6.out.four
  obtain ⟨c0, c1, c2, c3, _⟩ := C6.out.four
  have lA6 := A6.out.lt
  have lC6 := C6.out.lt
  go_wp2_with fail
  refine (HQ.out _).mono ?_
  rintro e w7 ⟨rfl, h7⟩
  have B7 : Below w.heap.size w w7 := below_via (by go_grown) h7
  have z7 := B7.size
  have A7 := Lib.hid (A6.out.keep h7); have C7 := Lib.hid (C6.out.keep h7); have J7 := Lib.hid (J6.out.keep h7)
  have y7 := h7.size
  clear h7 a0 a1 a2 a3 c0 c1 c2 c3 lA6 lC6 lJ6
  have lJ7 := J7.out.lt
  have lA7 := A7.out.lt
  have lC7 := C7.out.lt
  obtain ⟨j0, j1, j2, j3, _⟩ := J7.out.four
  obtain ⟨a0, a1, a2, a3, _⟩ := A7.out.four
  obtain ⟨c0, c1, c2, c3, _⟩ := C7.out.four
  go_wp2_with fail
  have B7a : Below w.heap.size w (w7.alloc (.cells #[.int .i64 (ja), .int .i64 (jb), .int .i64 (jc), .int .i64 (jd)] 47)) := by go_grown
  refine (HK.out _).mono ?_
  rintro e w8 ⟨rfl, h8⟩
  have B8 : Below w.heap.size w w8 := below_via B7a h8
  have z8 := B8.size
  have J8 := Lib.hid ((J7.out.alloc (.cells #[.int .i64 (ja), .int .i64 (jb), .int .i64 (jc), .int .i64 (jd)] 47)).keep h8)
  have y8 := h8.size
  try simp at y8
  clear h8 a0 a1 a2 a3 c0 c1 c2 c3 j0 j1 j2 j3
  have lJ8 := J8.out.lt
  obtain ⟨j0, j1, j2, j3, _⟩ := J8.out.four
  go_wp2_with fail
  go_ret
  exact ⟨rfl, by go_grown⟩
theorem lawPitches (a b c d x y z t : Int) (w : World) (hp : Primes w) (_ : -9223372036854775808 ≤ a) (_ : a ≤ 9223372036854775807) (_ : -9223372036854775808 ≤ b) (_ : b ≤ 9223372036854775807) (_ : -9223372036854775808 ≤ c) (_ : c ≤ 9223372036854775807) (_ : -9223372036854775808 ≤ d) (_ : d ≤ 9223372036854775807) (_ : -9223372036854775808 ≤ x) (_ : x ≤ 9223372036854775807) (_ : -9223372036854775808 ≤ y) (_ : y ≤ 9223372036854775807) (_ : -9223372036854775808 ≤ z) (_ : z ≤ 9223372036854775807) (_ : -9223372036854775808 ≤ t) (_ : t ≤ 9223372036854775807) :
    Calls Tryd.prog 6 #[.agg #[.int .i64 a, .int .i64 b, .int .i64 c, .int .i64 d], .agg #[.int .i64 x, .int .i64 y, .int .i64 z, .int .i64 t]] w fun e w' => e = .returned (.bool true) ∧ Below w.heap.size w w' := by
  by_cases h : chkP a b c d = 0
  · by_cases hq : chkP x y z t = 0
    · exact lawPitches_ok a b c d x y z t w hp h hq
    · exact lawPitches_bad2 a b c d x y z t w hp h hq
  · exact lawPitches_bad1 a b c d x y z t w hp h
end Go.Proofs.YtbagmfnedgjndaaDoor
