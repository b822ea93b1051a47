/-
  The walk of the law NumberRanges: it returns true, whatever the two ranges; older memory stays as it was. Its condition: the table of primes reads as it is laid (for awake).
-/
import Derived.Test.YtcojcfjagneecaaDoorRng4
import Derived.Test.YtcojcfjagneecaaDoorAwake
namespace Go.Proofs.YtcojcfjagneecaaDoor
open Go.RowKit

set_option maxRecDepth 100000 in
set_option maxHeartbeats 4000000 in
theorem lawRanges_bad (a b c d : Int) (w : World) (hp : Primes w) (h : err2 (chkR a b) (chkR c d) ≠ 0) :
    Calls Tryd.prog 11 #[.agg #[.int .i64 a, .int .i64 b], .agg #[.int .i64 c, .int .i64 d]] w fun e w' => e = .returned (.bool true) ∧ Below w.heap.size w w' := by
  have f3 : plE a b c d = err2 (chkR a b) (chkR c d) := by unfold plE; rw [if_pos h]
  have f1 : plL a b c d = 0 := by unfold plL; rw [f3, if_neg h]
  have f2 : plH a b c d = 0 := by unfold plH; rw [f3, if_neg h]
  have g3 : meE a b c d = err2 (chkR a b) (chkR c d) := by unfold meE; rw [if_pos h]
  have g1 : meL a b c d = 0 := by unfold meL; rw [g3, if_neg h]
  have g2 : meH a b c d = 0 := by unfold meH; rw [g3, if_neg h]
  have P := fun u : World => plus_any a b c d u
  have M := fun u : World => meet_any a b c d u
  simp only [f1, f2, f3] at P
  simp only [g1, g2, g3] at M
  have h0 : (err2 (chkR a b) (chkR c d) != 0) = true := by simpa using h
  have hcc : (chkR a b != chkR a b) = false := by simp
  have HP := Lib.hid P; have HM := Lib.hid M; have HR := Lib.hid hp
  clear P M f1 f2 f3 g1 g2 g3 h hp
  go_enter Tryd.func11, Tryd.ntmps11
  go_wp2_with fail
  have BW : Below w.heap.size w ((w.alloc (.cells #[.int .i64 a, .int .i64 b] 37)).alloc (.cells #[.int .i64 c, .int .i64 d] 37)) := by go_grown
  have BA := (Box.new w #[.int .i64 a, .int .i64 b] 37 rfl).alloc (.cells #[.int .i64 c, .int .i64 d] 37)
  have BB := Box.new (w.alloc (.cells #[.int .i64 a, .int .i64 b] 37)) #[.int .i64 c, .int .i64 d] 37 (n := w.heap.size + 1) (by simp)
  refine (awake_any _ (HR.out.keep BW)).mono ?_
  rintro e w1 ⟨rfl, h1⟩
  have B1 : Below w.heap.size w w1 := below_via BW h1
  have z1 := B1.size
  have A1 := Lib.hid (BA.keep h1); have C1 := Lib.hid (BB.keep h1)
  obtain ⟨p0, p1, _, _⟩ := A1.out.two
  obtain ⟨q0, q1, _, _⟩ := C1.out.two
  clear h1 BA BB
  go_wp2_with fail
  refine (HP.out _).mono ?_
  rintro e w2 ⟨rfl, h2⟩
  have B2 : Below w.heap.size w w2 := below_via (by go_grown) h2
  have z2 := B2.size
  have A2 := Lib.hid (A1.out.keep h2); have C2 := Lib.hid (C1.out.keep h2)
  have p0' : ∀ o, (w2.alloc o).cell? ⟨w.heap.size, 0, none⟩ = some (.int .i64 a) := fun o => (A2.out.alloc o).cell 0
  have p1' : ∀ o, (w2.alloc o).cell? ⟨w.heap.size, 1, none⟩ = some (.int .i64 b) := fun o => (A2.out.alloc o).cell 1
  have q0' : ∀ o, (w2.alloc o).cell? ⟨w.heap.size + 1, 0, none⟩ = some (.int .i64 c) := fun o => (C2.out.alloc o).cell 0
  have q1' : ∀ o, (w2.alloc o).cell? ⟨w.heap.size + 1, 1, none⟩ = some (.int .i64 d) := fun o => (C2.out.alloc o).cell 1
  clear h2 p0 p1 q0 q1
  go_wp2_with fail
  refine (HM.out _).mono ?_
  rintro e w3 ⟨rfl, h3⟩
  have B3 : Below w.heap.size w w3 := below_via (by go_grown) h3
  have z3 := B3.size
  have A3 := Lib.hid ((A2.out.alloc _).keep h3); have C3 := Lib.hid ((C2.out.alloc _).keep h3)
  have S3 := Lib.hid ((Box.new w2 #[.int .i64 (0), .int .i64 (0)] 37 rfl).keep h3)
  clear h3 p0' p1' q0' q1'
  go_wp2_with fail
  have BU : Below w.heap.size w (w3.alloc (.cells #[.int .i64 (0), .int .i64 (0)] 37)) := by go_grown
  have A4 := Lib.hid (A3.out.alloc (.cells #[.int .i64 (0), .int .i64 (0)] 37)); have C4 := Lib.hid (C3.out.alloc (.cells #[.int .i64 (0), .int .i64 (0)] 37)); have S4 := Lib.hid (S3.out.alloc (.cells #[.int .i64 (0), .int .i64 (0)] 37))
  have M4 := Lib.hid (Box.new w3 #[.int .i64 (0), .int .i64 (0)] 37 rfl)
  clear A3 C3 S3
  generalize w3.alloc (.cells #[.int .i64 (0), .int .i64 (0)] 37) = u at *
  have la := A4.out.lt
  have K := Lib.hid (fun (w' : World) (hw : Below u.heap.size u w') => show w'.cell? ⟨w.heap.size, 0, none⟩ = some (.int .i64 a) ∧ w'.cell? ⟨w.heap.size, 1, none⟩ = some (.int .i64 b) from ⟨(A4.out.keep hw).cell 0, (A4.out.keep hw).cell 1⟩)
  go_region_held3 (fun w' => w'.cell? ⟨w.heap.size, 0, none⟩ = some (.int .i64 a) ∧ w'.cell? ⟨w.heap.size, 1, none⟩ = some (.int .i64 b)) ((refine K.out _ ?_; go_grown; done))
    (first | (go_at_call 49; refine (chkR_any _ _ _).mono ?_; rintro e w9 ⟨rfl, h9⟩; have hB9 : Below u.heap.size u w9 := below_via (by go_grown) h9; clear h9; have hz9 := hB9.size; obtain ⟨k0, k1⟩ := K.out w9 hB9) | (go_at_call 50; refine (rchkR_any _ _ _).mono ?_; rintro e w9 ⟨rfl, h9⟩; have hB9 : Below u.heap.size u w9 := below_via (by go_grown) h9; clear h9; have hz9 := hB9.size; obtain ⟨k0, k1⟩ := K.out w9 hB9))
  all_goals
    have BV : Below w.heap.size w w9 := below_via BU hB9
    have zv := BV.size
    have A5 := Lib.hid (A4.out.keep hB9); have C5 := Lib.hid (C4.out.keep hB9); have S5 := Lib.hid (S4.out.keep hB9); have M5 := Lib.hid (M4.out.keep hB9)
    obtain ⟨p0, p1, _, _⟩ := A5.out.two
    obtain ⟨q0, q1, _, _⟩ := C5.out.two
    clear hB9 hz9 k0 k1
    go_wp2_with fail
    refine (ranges_any _ _ _ _ _).mono ?_
    rintro e w5 ⟨rfl, h5⟩
    have B5 : Below w.heap.size w w5 := below_via (by go_grown) h5
    have z5 := B5.size
    have A6 := Lib.hid (A5.out.keep h5); have C6 := Lib.hid (C5.out.keep h5); have S6 := Lib.hid (S5.out.keep h5); have M6 := Lib.hid (M5.out.keep h5)
    clear h5 p0 p1 q0 q1
    obtain ⟨p0, p1, _, _⟩ := A6.out.two
    obtain ⟨q0, q1, _, _⟩ := C6.out.two
    obtain ⟨s0, s1, _, _⟩ := S6.out.two
    obtain ⟨m0, m1, _, _⟩ := M6.out.two
    go_wp2_with fail
    go_ret
    exact ⟨rfl, by go_grown⟩
set_option maxRecDepth 100000 in
set_option maxHeartbeats 4000000 in
theorem lawRanges_ok (a b c d : Int) (w : World) (hp : Primes w) (h : err2 (chkR a b) (chkR c d) = 0) :
    Calls Tryd.prog 11 #[.agg #[.int .i64 a, .int .i64 b], .agg #[.int .i64 c, .int .i64 d]] w fun e w' => e = .returned (.bool true) ∧ Below w.heap.size w w' := by
  have f3 : plE a b c d = rpE (a + c) (b + d) := by unfold plE rpE; rw [if_neg (by omega)]
  have f1 : plL a b c d = rpV (a + c) (b + d) (a + c) := by unfold plL rpV; rw [f3]; unfold rpE; split <;> simp_all
  have f2 : plH a b c d = rpV (a + c) (b + d) (b + d) := by unfold plH rpV; rw [f3]; unfold rpE; split <;> simp_all
  have bd1 := chkR_bd (err2_zero h).1
  have bd2 := chkR_bd (err2_zero h).2
  have P := fun u : World => plus_any a b c d u
  have M := fun u : World => meet_any a b c d u
  have RP := fun u : World => rplus_any a b c d u (by omega) (by omega) (by omega) (by omega) (by omega) (by omega) (by omega) (by omega)
  have RM := fun u : World => rmeet_any a b c d u h
  simp only [f1, f2, f3] at P
  generalize rpV (a + c) (b + d) (a + c) = x at *
  generalize rpV (a + c) (b + d) (b + d) = y at *
  generalize rpE (a + c) (b + d) = pe at *
  generalize meL a b c d = x2 at *
  generalize meH a b c d = y2 at *
  generalize meE a b c d = me at *
  have h0 : (err2 (chkR a b) (chkR c d) != 0) = false := by simpa using h
  have hcc : (chkR a b != chkR a b) = false := by simp
  have HP := Lib.hid P; have HM := Lib.hid M; have HR := Lib.hid hp; have HRP := Lib.hid RP; have HRM := Lib.hid RM
  clear P M RP RM f1 f2 f3 h hp bd1 bd2
  go_enter Tryd.func11, Tryd.ntmps11
  go_wp2_with fail
  have BW : Below w.heap.size w ((w.alloc (.cells #[.int .i64 a, .int .i64 b] 37)).alloc (.cells #[.int .i64 c, .int .i64 d] 37)) := by go_grown
  have BA := (Box.new w #[.int .i64 a, .int .i64 b] 37 rfl).alloc (.cells #[.int .i64 c, .int .i64 d] 37)
  have BB := Box.new (w.alloc (.cells #[.int .i64 a, .int .i64 b] 37)) #[.int .i64 c, .int .i64 d] 37 (n := w.heap.size + 1) (by simp)
  refine (awake_any _ (HR.out.keep BW)).mono ?_
  rintro e w1 ⟨rfl, h1⟩
  have B1 : Below w.heap.size w w1 := below_via BW h1
  have z1 := B1.size
  have A1 := Lib.hid (BA.keep h1); have C1 := Lib.hid (BB.keep h1)
  obtain ⟨p0, p1, _, _⟩ := A1.out.two
  obtain ⟨q0, q1, _, _⟩ := C1.out.two
  clear h1 BA BB
  go_wp2_with fail
  refine (HP.out _).mono ?_
  rintro e w2 ⟨rfl, h2⟩
  have B2 : Below w.heap.size w w2 := below_via (by go_grown) h2
  have z2 := B2.size
  have A2 := Lib.hid (A1.out.keep h2); have C2 := Lib.hid (C1.out.keep h2)
  have p0' : ∀ o, (w2.alloc o).cell? ⟨w.heap.size, 0, none⟩ = some (.int .i64 a) := fun o => (A2.out.alloc o).cell 0
  have p1' : ∀ o, (w2.alloc o).cell? ⟨w.heap.size, 1, none⟩ = some (.int .i64 b) := fun o => (A2.out.alloc o).cell 1
  have q0' : ∀ o, (w2.alloc o).cell? ⟨w.heap.size + 1, 0, none⟩ = some (.int .i64 c) := fun o => (C2.out.alloc o).cell 0
  have q1' : ∀ o, (w2.alloc o).cell? ⟨w.heap.size + 1, 1, none⟩ = some (.int .i64 d) := fun o => (C2.out.alloc o).cell 1
  clear h2 p0 p1 q0 q1
  go_wp2_with fail
  refine (HM.out _).mono ?_
  rintro e w3 ⟨rfl, h3⟩
  have B3 : Below w.heap.size w w3 := below_via (by go_grown) h3
  have z3 := B3.size
  have A3 := Lib.hid ((A2.out.alloc _).keep h3); have C3 := Lib.hid ((C2.out.alloc _).keep h3)
  have S3 := Lib.hid ((Box.new w2 #[.int .i64 (x), .int .i64 (y)] 37 rfl).keep h3)
  clear h3 p0' p1' q0' q1'
  go_wp2_with fail
  have BU : Below w.heap.size w (w3.alloc (.cells #[.int .i64 (x2), .int .i64 (y2)] 37)) := by go_grown
  have A4 := Lib.hid (A3.out.alloc (.cells #[.int .i64 (x2), .int .i64 (y2)] 37)); have C4 := Lib.hid (C3.out.alloc (.cells #[.int .i64 (x2), .int .i64 (y2)] 37)); have S4 := Lib.hid (S3.out.alloc (.cells #[.int .i64 (x2), .int .i64 (y2)] 37))
  have M4 := Lib.hid (Box.new w3 #[.int .i64 (x2), .int .i64 (y2)] 37 rfl)
  clear A3 C3 S3
  generalize w3.alloc (.cells #[.int .i64 (x2), .int .i64 (y2)] 37) = u at *
  have la := A4.out.lt
  have K := Lib.hid (fun (w' : World) (hw : Below u.heap.size u w') => show w'.cell? ⟨w.heap.size, 0, none⟩ = some (.int .i64 a) ∧ w'.cell? ⟨w.heap.size, 1, none⟩ = some (.int .i64 b) from ⟨(A4.out.keep hw).cell 0, (A4.out.keep hw).cell 1⟩)
  go_region_held3 (fun w' => w'.cell? ⟨w.heap.size, 0, none⟩ = some (.int .i64 a) ∧ w'.cell? ⟨w.heap.size, 1, none⟩ = some (.int .i64 b)) ((refine K.out _ ?_; go_grown; done))
    (first | (go_at_call 49; refine (chkR_any _ _ _).mono ?_; rintro e w9 ⟨rfl, h9⟩; have hB9 : Below u.heap.size u w9 := below_via (by go_grown) h9; clear h9; have hz9 := hB9.size; obtain ⟨k0, k1⟩ := K.out w9 hB9) | (go_at_call 50; refine (rchkR_any _ _ _).mono ?_; rintro e w9 ⟨rfl, h9⟩; have hB9 : Below u.heap.size u w9 := below_via (by go_grown) h9; clear h9; have hz9 := hB9.size; obtain ⟨k0, k1⟩ := K.out w9 hB9))
  all_goals
    have BV : Below w.heap.size w w9 := below_via BU hB9
    have zv := BV.size
    have A5 := Lib.hid (A4.out.keep hB9); have C5 := Lib.hid (C4.out.keep hB9); have S5 := Lib.hid (S4.out.keep hB9); have M5 := Lib.hid (M4.out.keep hB9)
    obtain ⟨p0, p1, _, _⟩ := A5.out.two
    obtain ⟨q0, q1, _, _⟩ := C5.out.two
    clear hB9 hz9 k0 k1
    go_wp2_with fail
    refine (ranges_any _ _ _ _ _).mono ?_
    rintro e w5 ⟨rfl, h5⟩
    have B5 : Below w.heap.size w w5 := below_via (by go_grown) h5
    have z5 := B5.size
    have A6 := Lib.hid (A5.out.keep h5); have C6 := Lib.hid (C5.out.keep h5); have S6 := Lib.hid (S5.out.keep h5); have M6 := Lib.hid (M5.out.keep h5)
    clear h5 p0 p1 q0 q1
    obtain ⟨p0, p1, _, _⟩ := A6.out.two
    obtain ⟨q0, q1, _, _⟩ := C6.out.two
    obtain ⟨s0, s1, _, _⟩ := S6.out.two
    obtain ⟨m0, m1, _, _⟩ := M6.out.two
    go_wp2_with fail
    refine (HRP.out _).mono ?_
    rintro e w6 ⟨rfl, h6⟩
    have B6 : Below w.heap.size w w6 := below_via (by go_grown) h6
    have z6 := B6.size
    have A7 := Lib.hid ((A6.out.keep h6).alloc (.cells #[.int .i64 x, .int .i64 y] 37)); have C7 := Lib.hid ((C6.out.keep h6).alloc (.cells #[.int .i64 x, .int .i64 y] 37)); have S7 := Lib.hid ((S6.out.keep h6).alloc (.cells #[.int .i64 x, .int .i64 y] 37)); have M7 := Lib.hid ((M6.out.keep h6).alloc (.cells #[.int .i64 x, .int .i64 y] 37))
    have R7 := Lib.hid (Box.new w6 #[.int .i64 x, .int .i64 y] 37 rfl)
    clear h6 p0 p1 q0 q1 s0 s1 m0 m1
    have p0 := A7.out.cell 0
    have p1 := A7.out.cell 1
    have q0 := C7.out.cell 0
    have q1 := C7.out.cell 1
    simp at p0 p1 q0 q1
    go_wp2_with fail
    refine (HRM.out _).mono ?_
    rintro e w7 ⟨rfl, h7⟩
    have B7 : Below w.heap.size w w7 := below_via (by go_grown) h7
    have z7 := B7.size
    have S8 := Lib.hid ((S7.out.keep h7).alloc (.cells #[.int .i64 x2, .int .i64 y2] 37)); have M8 := Lib.hid ((M7.out.keep h7).alloc (.cells #[.int .i64 x2, .int .i64 y2] 37)); have R8 := Lib.hid ((R7.out.keep h7).alloc (.cells #[.int .i64 x2, .int .i64 y2] 37))
    clear h7 p0 p1 q0 q1
    have s0 := S8.out.cell 0
    have s1 := S8.out.cell 1
    have m0 := M8.out.cell 0
    have m1 := M8.out.cell 1
    have r0 := R8.out.cell 0
    have r1 := R8.out.cell 1
    simp at s0 s1 m0 m1 r0 r1
    go_wp2_with fail
    go_ret
    exact ⟨rfl, by go_grown⟩

theorem lawRanges (a b c d : Int) (w : World) (hp : Primes w) :
    Calls Tryd.prog 11 #[.agg #[.int .i64 a, .int .i64 b], .agg #[.int .i64 c, .int .i64 d]] w fun e w' => e = .returned (.bool true) ∧ Below w.heap.size w w' := by
  by_cases h : err2 (chkR a b) (chkR c d) = 0
  · exact lawRanges_ok a b c d w hp h
  · exact lawRanges_bad a b c d w hp h
end Go.Proofs.YtcojcfjagneecaaDoor
