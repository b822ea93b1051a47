/-
  The walk of the law NumberFracs: it returns true, whatever the two fractions; older memory stays as it was. Its condition: the table of primes reads as it is laid (for awake).
-/
import Derived.Test.YtcojcfjagneecaaDoorFr5
import Derived.Test.YtcojcfjagneecaaDoorAwake
namespace Go.Proofs.YtcojcfjagneecaaDoor
open Go.RowKit

set_option maxRecDepth 100000 in
set_option maxHeartbeats 4000000 in
theorem lawFracs_bad (a b c d : Int) (w : World) (hp : Primes w) (a0 : -9223372036854775808 ≤ a) (a1 : a ≤ 9223372036854775807) (b0 : -9223372036854775808 ≤ b) (b1 : b ≤ 9223372036854775807) (c0 : -9223372036854775808 ≤ c) (c1 : c ≤ 9223372036854775807) (d0 : -9223372036854775808 ≤ d) (d1 : d ≤ 9223372036854775807) (h : err2 (chkF a b) (chkF c d) ≠ 0) :
    Calls Tryd.prog 3 #[.agg #[.int .i64 a, .int .i64 b], .agg #[.int .i64 c, .int .i64 d]] w fun e w' => e = .returned (.bool true) ∧ Below w.heap.size w w' := by
  have fadN : adN a b c d = 0 := by unfold adN; rw [if_pos h]
  have fadD : adD a b c d = 0 := by unfold adD; rw [if_pos h]
  have fadE : adE a b c d = err2 (chkF a b) (chkF c d) := by unfold adE; rw [if_pos h]
  have ftiN : tiN a b c d = 0 := by unfold tiN; rw [if_pos h]
  have ftiD : tiD a b c d = 0 := by unfold tiD; rw [if_pos h]
  have ftiE : tiE a b c d = err2 (chkF a b) (chkF c d) := by unfold tiE; rw [if_pos h]
  have fdvN : dvN a b c d = 0 := by unfold dvN; rw [if_pos h]
  have fdvD : dvD a b c d = 0 := by unfold dvD; rw [if_pos h]
  have fdvE : dvE a b c d = err2 (chkF a b) (chkF c d) := by unfold dvE; rw [if_pos h]
  have fco : coV a b c d = 0 := by unfold coV; rw [if_pos h]
  have P := fun u : World => ad_any a b c d u a0 a1 b0 b1 c0 c1 d0 d1
  simp only [fadN, fadD, fadE] at P
  have HA := Lib.hid P
  clear P
  have P := fun u : World => ti_any a b c d u a0 a1 b0 b1 c0 c1 d0 d1
  simp only [ftiN, ftiD, ftiE] at P
  have HT := Lib.hid P
  clear P
  have P := fun u : World => dv_any a b c d u a0 a1 b0 b1 c0 c1 d0 d1
  simp only [fdvN, fdvD, fdvE] at P
  have HD := Lib.hid P
  clear P
  have P := fun u : World => co_any a b c d u a0 a1 b0 b1 c0 c1 d0 d1
  simp only [fco] at P
  have HC := Lib.hid P
  clear P
  have HK := Lib.hid (fun u : World => chkF_any a b u a0 a1 b0 b1)
  have HL := Lib.hid (fun u : World => rchkF_any a b u a0 a1 b0 b1)
  have HF := Lib.hid (fun u : World => fracs_any a b c d u a0 a1 b0 b1 c0 c1 d0 d1)
  have h0 : (err2 (chkF a b) (chkF c d) != 0) = true := by simpa using h
  have hcc : (chkF a b != chkF a b) = false := by simp
  have HR := Lib.hid hp
  clear fadN fadD fadE ftiN ftiD ftiE fdvN fdvD fdvE fco h hp a0 a1 b0 b1 c0 c1 d0 d1
  go_enter Tryd.func3, Tryd.ntmps3
  go_wp2_with fail
  have BW : Below w.heap.size w ((w.alloc (.cells #[.int .i64 a, .int .i64 b] 23)).alloc (.cells #[.int .i64 c, .int .i64 d] 23)) := by go_grown
  have BA := (Box.new w #[.int .i64 a, .int .i64 b] 23 rfl).alloc (.cells #[.int .i64 c, .int .i64 d] 23)
  have BB := Box.new (w.alloc (.cells #[.int .i64 a, .int .i64 b] 23)) #[.int .i64 c, .int .i64 d] 23 (n := w.heap.size + 1) (by simp)
  refine (awake_any _ (HR.out.keep BW)).mono ?_
  rintro e w1 ⟨rfl, h1⟩
  have B1 : Below w.heap.size w w1 := below_via BW h1
  have z1 := B1.size
  have A1 := Lib.hid (BA.keep h1); have C1 := Lib.hid (BB.keep h1)
  have y1 := h1.size
  try simp at y1
  clear h1 BA BB
  have rA0 : w1.cell? ⟨w.heap.size, 0, none⟩ = some (.int .i64 a) := A1.out.cell 0
  have rA1 : w1.cell? ⟨w.heap.size, 1, none⟩ = some (.int .i64 b) := A1.out.cell 1
  have rC0 : w1.cell? ⟨w.heap.size + 1, 0, none⟩ = some (.int .i64 c) := C1.out.cell 0
  have rC1 : w1.cell? ⟨w.heap.size + 1, 1, none⟩ = some (.int .i64 d) := C1.out.cell 1
  go_wp2_with fail
  refine (HA.out _).mono ?_
  rintro e w2 ⟨rfl, h2⟩
  have B2 : Below w.heap.size w w2 := below_via (by go_grown) h2
  have z2 := B2.size
  have A2 := Lib.hid (A1.out.keep h2)
  have C2 := Lib.hid (C1.out.keep h2)
  have y2 := h2.size
  try simp at y2
  clear h2
  clear rA0 rA1 rC0 rC1
  have rA0 : ∀ o, (w2.alloc o).cell? ⟨w.heap.size, 0, none⟩ = some (.int .i64 a) := fun o => (A2.out.alloc o).cell 0
  have rA1 : ∀ o, (w2.alloc o).cell? ⟨w.heap.size, 1, none⟩ = some (.int .i64 b) := fun o => (A2.out.alloc o).cell 1
  have rC0 : ∀ o, (w2.alloc o).cell? ⟨w.heap.size + 1, 0, none⟩ = some (.int .i64 c) := fun o => (C2.out.alloc o).cell 0
  have rC1 : ∀ o, (w2.alloc o).cell? ⟨w.heap.size + 1, 1, none⟩ = some (.int .i64 d) := fun o => (C2.out.alloc o).cell 1
  go_wp2_with fail
  refine (HT.out _).mono ?_
  rintro e w3 ⟨rfl, h3⟩
  have B3 : Below w.heap.size w w3 := below_via (by go_grown) h3
  have z3 := B3.size
  have A3 := Lib.hid ((A2.out.alloc (.cells #[.int .i64 (0), .int .i64 (0)] 23)).keep h3)
  have C3 := Lib.hid ((C2.out.alloc (.cells #[.int .i64 (0), .int .i64 (0)] 23)).keep h3)
  have S3 := Lib.hid ((Box.new w2 #[.int .i64 (0), .int .i64 (0)] 23 rfl).keep h3)
  have y3 := h3.size
  try simp at y3
  clear h3
  clear rA0 rA1 rC0 rC1
  have rA0 : ∀ o, (w3.alloc o).cell? ⟨w.heap.size, 0, none⟩ = some (.int .i64 a) := fun o => (A3.out.alloc o).cell 0
  have rA1 : ∀ o, (w3.alloc o).cell? ⟨w.heap.size, 1, none⟩ = some (.int .i64 b) := fun o => (A3.out.alloc o).cell 1
  have rC0 : ∀ o, (w3.alloc o).cell? ⟨w.heap.size + 1, 0, none⟩ = some (.int .i64 c) := fun o => (C3.out.alloc o).cell 0
  have rC1 : ∀ o, (w3.alloc o).cell? ⟨w.heap.size + 1, 1, none⟩ = some (.int .i64 d) := fun o => (C3.out.alloc o).cell 1
  go_wp2_with fail
  refine (HD.out _).mono ?_
  rintro e w4 ⟨rfl, h4⟩
  have B4 : Below w.heap.size w w4 := below_via (by go_grown) h4
  have z4 := B4.size
  have A4 := Lib.hid ((A3.out.alloc (.cells #[.int .i64 (0), .int .i64 (0)] 23)).keep h4)
  have C4 := Lib.hid ((C3.out.alloc (.cells #[.int .i64 (0), .int .i64 (0)] 23)).keep h4)
  have S4 := Lib.hid ((S3.out.alloc (.cells #[.int .i64 (0), .int .i64 (0)] 23)).keep h4)
  have T4 := Lib.hid ((Box.new w3 #[.int .i64 (0), .int .i64 (0)] 23 rfl).keep h4)
  have y4 := h4.size
  try simp at y4
  clear h4
  clear rA0 rA1 rC0 rC1
  have rA0 : ∀ o, (w4.alloc o).cell? ⟨w.heap.size, 0, none⟩ = some (.int .i64 a) := fun o => (A4.out.alloc o).cell 0
  have rA1 : ∀ o, (w4.alloc o).cell? ⟨w.heap.size, 1, none⟩ = some (.int .i64 b) := fun o => (A4.out.alloc o).cell 1
  have rC0 : ∀ o, (w4.alloc o).cell? ⟨w.heap.size + 1, 0, none⟩ = some (.int .i64 c) := fun o => (C4.out.alloc o).cell 0
  have rC1 : ∀ o, (w4.alloc o).cell? ⟨w.heap.size + 1, 1, none⟩ = some (.int .i64 d) := fun o => (C4.out.alloc o).cell 1
  go_wp2_with fail
  refine (HC.out _).mono ?_
  rintro e w5 ⟨rfl, h5⟩
  have B5 : Below w.heap.size w w5 := below_via (by go_grown) h5
  have z5 := B5.size
  have A5 := Lib.hid ((A4.out.alloc (.cells #[.int .i64 (0), .int .i64 (0)] 23)).keep h5)
  have C5 := Lib.hid ((C4.out.alloc (.cells #[.int .i64 (0), .int .i64 (0)] 23)).keep h5)
  have S5 := Lib.hid ((S4.out.alloc (.cells #[.int .i64 (0), .int .i64 (0)] 23)).keep h5)
  have T5 := Lib.hid ((T4.out.alloc (.cells #[.int .i64 (0), .int .i64 (0)] 23)).keep h5)
  have Q5 := Lib.hid ((Box.new w4 #[.int .i64 (0), .int .i64 (0)] 23 rfl).keep h5)
  have y5 := h5.size
  try simp at y5
  clear h5
  clear rA0 rA1 rC0 rC1
  have rA0 : w5.cell? ⟨w.heap.size, 0, none⟩ = some (.int .i64 a) := A5.out.cell 0
  have rA1 : w5.cell? ⟨w.heap.size, 1, none⟩ = some (.int .i64 b) := A5.out.cell 1
  have rC0 : w5.cell? ⟨w.heap.size + 1, 0, none⟩ = some (.int .i64 c) := C5.out.cell 0
  have rC1 : w5.cell? ⟨w.heap.size + 1, 1, none⟩ = some (.int .i64 d) := C5.out.cell 1
  go_wp2_with fail
  have la := A5.out.lt
  have lc := C5.out.lt
  have K := Lib.hid (fun (w' : World) (hw : Below w5.heap.size w5 w') => show w'.cell? ⟨w.heap.size, 0, none⟩ = some (.int .i64 a) ∧ w'.cell? ⟨w.heap.size, 1, none⟩ = some (.int .i64 b) from ⟨(A5.out.keep hw).cell 0, (A5.out.keep hw).cell 1⟩)
  go_region_held3 (fun w' => w'.cell? ⟨w.heap.size, 0, none⟩ = some (.int .i64 a) ∧ w'.cell? ⟨w.heap.size, 1, none⟩ = some (.int .i64 b)) ((refine K.out _ ?_; go_grown; done))
    (first | (go_at_call 20; refine (HK.out _).mono ?_; rintro e w9 ⟨rfl, h9⟩; have hB9 : Below w5.heap.size w5 w9 := below_via (by go_grown) h9; clear h9; have hz9 := hB9.size; obtain ⟨k0, k1⟩ := K.out w9 hB9) | (go_at_call 21; refine (HL.out _).mono ?_; rintro e w9 ⟨rfl, h9⟩; have hB9 : Below w5.heap.size w5 w9 := below_via (by go_grown) h9; clear h9; have hz9 := hB9.size; obtain ⟨k0, k1⟩ := K.out w9 hB9))
  all_goals
    have B6 : Below w.heap.size w w9 := below_via B5 hB9
    have z6 := B6.size
    clear k0 k1 hz9
    have A6 := Lib.hid (A5.out.keep hB9)
    have C6 := Lib.hid (C5.out.keep hB9)
    have S6 := Lib.hid (S5.out.keep hB9)
    have T6 := Lib.hid (T5.out.keep hB9)
    have Q6 := Lib.hid (Q5.out.keep hB9)
    have y6 := hB9.size
    try simp at y6
    clear hB9
    clear rA0 rA1 rC0 rC1
    have rA0 : w9.cell? ⟨w.heap.size, 0, none⟩ = some (.int .i64 a) := A6.out.cell 0
    have rA1 : w9.cell? ⟨w.heap.size, 1, none⟩ = some (.int .i64 b) := A6.out.cell 1
    have rC0 : w9.cell? ⟨w.heap.size + 1, 0, none⟩ = some (.int .i64 c) := C6.out.cell 0
    have rC1 : w9.cell? ⟨w.heap.size + 1, 1, none⟩ = some (.int .i64 d) := C6.out.cell 1
    go_wp2_with fail
    refine (HF.out _).mono ?_
    rintro e w7 ⟨rfl, h7⟩
    have B7 : Below w.heap.size w w7 := below_via (by go_grown) h7
    have z7 := B7.size
    have A7 := Lib.hid (A6.out.keep h7)
    have C7 := Lib.hid (C6.out.keep h7)
    have S7 := Lib.hid (S6.out.keep h7)
    have T7 := Lib.hid (T6.out.keep h7)
    have Q7 := Lib.hid (Q6.out.keep h7)
    have y7 := h7.size
    try simp at y7
    clear h7
    clear rA0 rA1 rC0 rC1
    have rS0 : ∀ o, (w7.alloc o).cell? ⟨w2.heap.size, 0, none⟩ = some (.int .i64 (0)) := fun o => (S7.out.alloc o).cell 0
    have rS1 : ∀ o, (w7.alloc o).cell? ⟨w2.heap.size, 1, none⟩ = some (.int .i64 (0)) := fun o => (S7.out.alloc o).cell 1
    have rT0 : ∀ o, (w7.alloc o).cell? ⟨w3.heap.size, 0, none⟩ = some (.int .i64 (0)) := fun o => (T7.out.alloc o).cell 0
    have rT1 : ∀ o, (w7.alloc o).cell? ⟨w3.heap.size, 1, none⟩ = some (.int .i64 (0)) := fun o => (T7.out.alloc o).cell 1
    have rQ0 : ∀ o, (w7.alloc o).cell? ⟨w4.heap.size, 0, none⟩ = some (.int .i64 (0)) := fun o => (Q7.out.alloc o).cell 0
    have rQ1 : ∀ o, (w7.alloc o).cell? ⟨w4.heap.size, 1, none⟩ = some (.int .i64 (0)) := fun o => (Q7.out.alloc o).cell 1
    go_wp2_with fail
    go_ret
    exact ⟨rfl, by go_grown⟩
set_option maxRecDepth 100000 in
set_option maxHeartbeats 4000000 in
theorem lawFracs_ok (a b c d : Int) (w : World) (hp : Primes w) (h : err2 (chkF a b) (chkF c d) = 0) :
    Calls Tryd.prog 3 #[.agg #[.int .i64 a, .int .i64 b], .agg #[.int .i64 c, .int .i64 d]] w fun e w' => e = .returned (.bool true) ∧ Below w.heap.size w w' := by
  have h2 : err2 (chkF c d) (chkF a b) = 0 := by
    obtain ⟨x1, x2⟩ := err2_zero h
    unfold err2; rw [if_neg (by omega)]; exact x1
  have hA := (err2_zero h).1
  obtain ⟨b0, b1, a0, a1, _⟩ := chkF_ok (err2_zero h).1
  obtain ⟨d0, d1, c0, c1, _⟩ := chkF_ok (err2_zero h).2
  have eN : c * b + a * d = a * d + c * b := Int.add_comm _ _
  have eD : d * b = b * d := Int.mul_comm _ _
  have eT : c * a = a * c := Int.mul_comm _ _
  have s1 : adN c d a b = adN a b c d := by unfold adN; rw [if_neg (by omega), if_neg (by omega), eN, eD]
  have s2 : adD c d a b = adD a b c d := by unfold adD; rw [if_neg (by omega), if_neg (by omega), eN, eD]
  have s3 : adE c d a b = adE a b c d := by unfold adE; rw [if_neg (by omega), if_neg (by omega), eN, eD]
  have s4 : tiN c d a b = tiN a b c d := by unfold tiN; rw [if_neg (by omega), if_neg (by omega), eT, eD]
  have s5 : tiD c d a b = tiD a b c d := by unfold tiD; rw [if_neg (by omega), if_neg (by omega), eT, eD]
  have s6 : tiE c d a b = tiE a b c d := by unfold tiE; rw [if_neg (by omega), if_neg (by omega), eT, eD]
  have s7 : coV c d a b = -coV a b c d := by
    unfold coV; rw [if_neg (by omega), if_neg (by omega)]
    unfold cmpI
    rcases Int.lt_trichotomy (a * d) (c * b) with hz | hz | hz
    · rw [if_neg (by omega), if_pos (by omega), if_pos (by omega)]; rfl
    · rw [if_neg (by omega), if_neg (by omega), if_neg (by omega), if_neg (by omega)]; rfl
    · rw [if_pos (by omega), if_neg (by omega), if_pos (by omega)]
  have v0 : -1 ≤ coV a b c d ∧ coV a b c d ≤ 1 := by
    unfold coV; rw [if_neg (by omega)]; unfold cmpI; split <;> (try split) <;> omega
  obtain ⟨v0, v1⟩ := v0
  have PA := fun u : World => ad_ok a b c d u h
  have PT := fun u : World => ti_ok a b c d u h
  have PD := fun u : World => dv_any a b c d u (by omega) (by omega) (by omega) (by omega) (by omega) (by omega) (by omega) (by omega)
  have PC := fun u : World => co_ok a b c d u h
  have QA := fun u : World => ad_ok c d a b u h2
  have QT := fun u : World => ti_ok c d a b u h2
  have QC := fun u : World => co_ok c d a b u h2
  have RA := fun u : World => rad_any a b c d u h
  have RT := fun u : World => rti_any a b c d u h
  have RD := fun u : World => rdv_any a b c d u h
  have RC := fun u : World => rcmp_any a b c d u h
  have PK := fun u : World => chkF_any a b u (by omega) (by omega) (by omega) (by omega)
  have PL := fun u : World => rchkF_any a b u (by omega) (by omega) (by omega) (by omega)
  have PF := fun u : World => fracs_any a b c d u (by omega) (by omega) (by omega) (by omega) (by omega) (by omega) (by omega) (by omega)
  rw [s1, s2, s3] at QA
  rw [s4, s5, s6] at QT
  rw [s7, h2] at QC
  rw [h] at PC PF
  rw [hA] at PK PL
  clear s1 s2 s3 s4 s5 s6 s7 eN eD eT h h2 hA
  generalize adN a b c d = sx at *
  generalize adD a b c d = sy at *
  generalize adE a b c d = se at *
  generalize tiN a b c d = tx at *
  generalize tiD a b c d = ty at *
  generalize tiE a b c d = te at *
  generalize dvN a b c d = qx at *
  generalize dvD a b c d = qy at *
  generalize dvE a b c d = qe at *
  generalize coV a b c d = cv at *
  have HA := Lib.hid PA; have HT := Lib.hid PT; have HD := Lib.hid PD; have HC := Lib.hid PC
  have HA2 := Lib.hid QA; have HT2 := Lib.hid QT; have HC2 := Lib.hid QC
  have HAR := Lib.hid RA; have HTR := Lib.hid RT; have HDR := Lib.hid RD; have HCR := Lib.hid RC
  have HK := Lib.hid PK; have HL := Lib.hid PL; have HF := Lib.hid PF
  have HR := Lib.hid hp
  clear PA PT PD PC QA QT QC RA RT RD RC PK PL PF hp a0 a1 b0 b1 c0 c1 d0 d1
  have wv : IntKind.i64.wrap (-cv) = -cv := IntWalk.i64_in _ (by omega)
  go_enter Tryd.func3, Tryd.ntmps3
  go_wp2_with fail
  have BW : Below w.heap.size w ((w.alloc (.cells #[.int .i64 a, .int .i64 b] 23)).alloc (.cells #[.int .i64 c, .int .i64 d] 23)) := by go_grown
  have BA := (Box.new w #[.int .i64 a, .int .i64 b] 23 rfl).alloc (.cells #[.int .i64 c, .int .i64 d] 23)
  have BB := Box.new (w.alloc (.cells #[.int .i64 a, .int .i64 b] 23)) #[.int .i64 c, .int .i64 d] 23 (n := w.heap.size + 1) (by simp)
  refine (awake_any _ (HR.out.keep BW)).mono ?_
  rintro e w1 ⟨rfl, h1⟩
  have B1 : Below w.heap.size w w1 := below_via BW h1
  have z1 := B1.size
  have A1 := Lib.hid (BA.keep h1); have C1 := Lib.hid (BB.keep h1)
  have y1 := h1.size
  try simp at y1
  clear h1 BA BB
  have rA0 : w1.cell? ⟨w.heap.size, 0, none⟩ = some (.int .i64 a) := A1.out.cell 0
  have rA1 : w1.cell? ⟨w.heap.size, 1, none⟩ = some (.int .i64 b) := A1.out.cell 1
  have rC0 : w1.cell? ⟨w.heap.size + 1, 0, none⟩ = some (.int .i64 c) := C1.out.cell 0
  have rC1 : w1.cell? ⟨w.heap.size + 1, 1, none⟩ = some (.int .i64 d) := C1.out.cell 1
  go_wp2_with fail
  refine (HA.out _).mono ?_
  rintro e w2 ⟨rfl, h2⟩
  have B2 : Below w.heap.size w w2 := below_via (by go_grown) h2
  have z2 := B2.size
  have A2 := Lib.hid (A1.out.keep h2)
  have C2 := Lib.hid (C1.out.keep h2)
  have y2 := h2.size
  try simp at y2
  clear h2
  clear rA0 rA1 rC0 rC1
  have rA0 : ∀ o, (w2.alloc o).cell? ⟨w.heap.size, 0, none⟩ = some (.int .i64 a) := fun o => (A2.out.alloc o).cell 0
  have rA1 : ∀ o, (w2.alloc o).cell? ⟨w.heap.size, 1, none⟩ = some (.int .i64 b) := fun o => (A2.out.alloc o).cell 1
  have rC0 : ∀ o, (w2.alloc o).cell? ⟨w.heap.size + 1, 0, none⟩ = some (.int .i64 c) := fun o => (C2.out.alloc o).cell 0
  have rC1 : ∀ o, (w2.alloc o).cell? ⟨w.heap.size + 1, 1, none⟩ = some (.int .i64 d) := fun o => (C2.out.alloc o).cell 1
  go_wp2_with fail
  refine (HT.out _).mono ?_
  rintro e w3 ⟨rfl, h3⟩
  have B3 : Below w.heap.size w w3 := below_via (by go_grown) h3
  have z3 := B3.size
  have A3 := Lib.hid ((A2.out.alloc (.cells #[.int .i64 (sx), .int .i64 (sy)] 23)).keep h3)
  have C3 := Lib.hid ((C2.out.alloc (.cells #[.int .i64 (sx), .int .i64 (sy)] 23)).keep h3)
  have S3 := Lib.hid ((Box.new w2 #[.int .i64 (sx), .int .i64 (sy)] 23 rfl).keep h3)
  have y3 := h3.size
  try simp at y3
  clear h3
  clear rA0 rA1 rC0 rC1
  have rA0 : ∀ o, (w3.alloc o).cell? ⟨w.heap.size, 0, none⟩ = some (.int .i64 a) := fun o => (A3.out.alloc o).cell 0
  have rA1 : ∀ o, (w3.alloc o).cell? ⟨w.heap.size, 1, none⟩ = some (.int .i64 b) := fun o => (A3.out.alloc o).cell 1
  have rC0 : ∀ o, (w3.alloc o).cell? ⟨w.heap.size + 1, 0, none⟩ = some (.int .i64 c) := fun o => (C3.out.alloc o).cell 0
  have rC1 : ∀ o, (w3.alloc o).cell? ⟨w.heap.size + 1, 1, none⟩ = some (.int .i64 d) := fun o => (C3.out.alloc o).cell 1
  go_wp2_with fail
  refine (HD.out _).mono ?_
  rintro e w4 ⟨rfl, h4⟩
  have B4 : Below w.heap.size w w4 := below_via (by go_grown) h4
  have z4 := B4.size
  have A4 := Lib.hid ((A3.out.alloc (.cells #[.int .i64 (tx), .int .i64 (ty)] 23)).keep h4)
  have C4 := Lib.hid ((C3.out.alloc (.cells #[.int .i64 (tx), .int .i64 (ty)] 23)).keep h4)
  have S4 := Lib.hid ((S3.out.alloc (.cells #[.int .i64 (tx), .int .i64 (ty)] 23)).keep h4)
  have T4 := Lib.hid ((Box.new w3 #[.int .i64 (tx), .int .i64 (ty)] 23 rfl).keep h4)
  have y4 := h4.size
  try simp at y4
  clear h4
  clear rA0 rA1 rC0 rC1
  have rA0 : ∀ o, (w4.alloc o).cell? ⟨w.heap.size, 0, none⟩ = some (.int .i64 a) := fun o => (A4.out.alloc o).cell 0
  have rA1 : ∀ o, (w4.alloc o).cell? ⟨w.heap.size, 1, none⟩ = some (.int .i64 b) := fun o => (A4.out.alloc o).cell 1
  have rC0 : ∀ o, (w4.alloc o).cell? ⟨w.heap.size + 1, 0, none⟩ = some (.int .i64 c) := fun o => (C4.out.alloc o).cell 0
  have rC1 : ∀ o, (w4.alloc o).cell? ⟨w.heap.size + 1, 1, none⟩ = some (.int .i64 d) := fun o => (C4.out.alloc o).cell 1
  go_wp2_with fail
  refine (HC.out _).mono ?_
  rintro e w5 ⟨rfl, h5⟩
  have B5 : Below w.heap.size w w5 := below_via (by go_grown) h5
  have z5 := B5.size
  have A5 := Lib.hid ((A4.out.alloc (.cells #[.int .i64 (qx), .int .i64 (qy)] 23)).keep h5)
  have C5 := Lib.hid ((C4.out.alloc (.cells #[.int .i64 (qx), .int .i64 (qy)] 23)).keep h5)
  have S5 := Lib.hid ((S4.out.alloc (.cells #[.int .i64 (qx), .int .i64 (qy)] 23)).keep h5)
  have T5 := Lib.hid ((T4.out.alloc (.cells #[.int .i64 (qx), .int .i64 (qy)] 23)).keep h5)
  have Q5 := Lib.hid ((Box.new w4 #[.int .i64 (qx), .int .i64 (qy)] 23 rfl).keep h5)
  have y5 := h5.size
  try simp at y5
  clear h5
  clear rA0 rA1 rC0 rC1
  have rA0 : w5.cell? ⟨w.heap.size, 0, none⟩ = some (.int .i64 a) := A5.out.cell 0
  have rA1 : w5.cell? ⟨w.heap.size, 1, none⟩ = some (.int .i64 b) := A5.out.cell 1
  have rC0 : w5.cell? ⟨w.heap.size + 1, 0, none⟩ = some (.int .i64 c) := C5.out.cell 0
  have rC1 : w5.cell? ⟨w.heap.size + 1, 1, none⟩ = some (.int .i64 d) := C5.out.cell 1
  go_wp2_with fail
  have la := A5.out.lt
  have lc := C5.out.lt
  have K := Lib.hid (fun (w' : World) (hw : Below w5.heap.size w5 w') => show w'.cell? ⟨w.heap.size, 0, none⟩ = some (.int .i64 a) ∧ w'.cell? ⟨w.heap.size, 1, none⟩ = some (.int .i64 b) from ⟨(A5.out.keep hw).cell 0, (A5.out.keep hw).cell 1⟩)
  go_region_held3 (fun w' => w'.cell? ⟨w.heap.size, 0, none⟩ = some (.int .i64 a) ∧ w'.cell? ⟨w.heap.size, 1, none⟩ = some (.int .i64 b)) ((refine K.out _ ?_; go_grown; done))
    (first | (go_at_call 20; refine (HK.out _).mono ?_; rintro e w9 ⟨rfl, h9⟩; have hB9 : Below w5.heap.size w5 w9 := below_via (by go_grown) h9; clear h9; have hz9 := hB9.size; obtain ⟨k0, k1⟩ := K.out w9 hB9) | (go_at_call 21; refine (HL.out _).mono ?_; rintro e w9 ⟨rfl, h9⟩; have hB9 : Below w5.heap.size w5 w9 := below_via (by go_grown) h9; clear h9; have hz9 := hB9.size; obtain ⟨k0, k1⟩ := K.out w9 hB9))
  all_goals
    have B6 : Below w.heap.size w w9 := below_via B5 hB9
    have z6 := B6.size
    clear k0 k1 hz9
    have A6 := Lib.hid (A5.out.keep hB9)
    have C6 := Lib.hid (C5.out.keep hB9)
    have S6 := Lib.hid (S5.out.keep hB9)
    have T6 := Lib.hid (T5.out.keep hB9)
    have Q6 := Lib.hid (Q5.out.keep hB9)
    have y6 := hB9.size
    try simp at y6
    clear hB9
    clear rA0 rA1 rC0 rC1
    have rA0 : w9.cell? ⟨w.heap.size, 0, none⟩ = some (.int .i64 a) := A6.out.cell 0
    have rA1 : w9.cell? ⟨w.heap.size, 1, none⟩ = some (.int .i64 b) := A6.out.cell 1
    have rC0 : w9.cell? ⟨w.heap.size + 1, 0, none⟩ = some (.int .i64 c) := C6.out.cell 0
    have rC1 : w9.cell? ⟨w.heap.size + 1, 1, none⟩ = some (.int .i64 d) := C6.out.cell 1
    go_wp2_with fail
    refine (HF.out _).mono ?_
    rintro e w7 ⟨rfl, h7⟩
    have B7 : Below w.heap.size w w7 := below_via (by go_grown) h7
    have z7 := B7.size
    have A7 := Lib.hid (A6.out.keep h7)
    have C7 := Lib.hid (C6.out.keep h7)
    have S7 := Lib.hid (S6.out.keep h7)
    have T7 := Lib.hid (T6.out.keep h7)
    have Q7 := Lib.hid (Q6.out.keep h7)
    have y7 := h7.size
    try simp at y7
    clear h7
    clear rA0 rA1 rC0 rC1
    have rA0 : w7.cell? ⟨w.heap.size, 0, none⟩ = some (.int .i64 a) := A7.out.cell 0
    have rA1 : w7.cell? ⟨w.heap.size, 1, none⟩ = some (.int .i64 b) := A7.out.cell 1
    have rC0 : w7.cell? ⟨w.heap.size + 1, 0, none⟩ = some (.int .i64 c) := C7.out.cell 0
    have rC1 : w7.cell? ⟨w.heap.size + 1, 1, none⟩ = some (.int .i64 d) := C7.out.cell 1
    go_wp2_with fail
    refine (HAR.out _).mono ?_
    rintro e w8 ⟨rfl, h8⟩
    have B8 : Below w.heap.size w w8 := below_via (by go_grown) h8
    have z8 := B8.size
    have A8 := Lib.hid (A7.out.keep h8)
    have C8 := Lib.hid (C7.out.keep h8)
    have S8 := Lib.hid (S7.out.keep h8)
    have T8 := Lib.hid (T7.out.keep h8)
    have Q8 := Lib.hid (Q7.out.keep h8)
    have y8 := h8.size
    try simp at y8
    clear h8
    clear rA0 rA1 rC0 rC1
    have rA0 : ∀ o, (w8.alloc o).cell? ⟨w.heap.size, 0, none⟩ = some (.int .i64 a) := fun o => (A8.out.alloc o).cell 0
    have rA1 : ∀ o, (w8.alloc o).cell? ⟨w.heap.size, 1, none⟩ = some (.int .i64 b) := fun o => (A8.out.alloc o).cell 1
    have rC0 : ∀ o, (w8.alloc o).cell? ⟨w.heap.size + 1, 0, none⟩ = some (.int .i64 c) := fun o => (C8.out.alloc o).cell 0
    have rC1 : ∀ o, (w8.alloc o).cell? ⟨w.heap.size + 1, 1, none⟩ = some (.int .i64 d) := fun o => (C8.out.alloc o).cell 1
    go_wp2_with fail
    refine (HTR.out _).mono ?_
    rintro e w9 ⟨rfl, h9⟩
    have B9 : Below w.heap.size w w9 := below_via (by go_grown) h9
    have z9 := B9.size
    have A9 := Lib.hid ((A8.out.alloc (.cells #[.int .i64 (sx), .int .i64 (sy)] 23)).keep h9)
    have C9 := Lib.hid ((C8.out.alloc (.cells #[.int .i64 (sx), .int .i64 (sy)] 23)).keep h9)
    have S9 := Lib.hid ((S8.out.alloc (.cells #[.int .i64 (sx), .int .i64 (sy)] 23)).keep h9)
    have T9 := Lib.hid ((T8.out.alloc (.cells #[.int .i64 (sx), .int .i64 (sy)] 23)).keep h9)
    have Q9 := Lib.hid ((Q8.out.alloc (.cells #[.int .i64 (sx), .int .i64 (sy)] 23)).keep h9)
    have X9 := Lib.hid ((Box.new w8 #[.int .i64 (sx), .int .i64 (sy)] 23 rfl).keep h9)
    have y9 := h9.size
    try simp at y9
    clear h9
    clear rA0 rA1 rC0 rC1
    have rA0 : ∀ o, (w9.alloc o).cell? ⟨w.heap.size, 0, none⟩ = some (.int .i64 a) := fun o => (A9.out.alloc o).cell 0
    have rA1 : ∀ o, (w9.alloc o).cell? ⟨w.heap.size, 1, none⟩ = some (.int .i64 b) := fun o => (A9.out.alloc o).cell 1
    have rC0 : ∀ o, (w9.alloc o).cell? ⟨w.heap.size + 1, 0, none⟩ = some (.int .i64 c) := fun o => (C9.out.alloc o).cell 0
    have rC1 : ∀ o, (w9.alloc o).cell? ⟨w.heap.size + 1, 1, none⟩ = some (.int .i64 d) := fun o => (C9.out.alloc o).cell 1
    go_wp2_with fail
    refine (HDR.out _).mono ?_
    rintro e w10 ⟨rfl, h10⟩
    have B10 : Below w.heap.size w w10 := below_via (by go_grown) h10
    have z10 := B10.size
    have A10 := Lib.hid ((A9.out.alloc (.cells #[.int .i64 (tx), .int .i64 (ty)] 23)).keep h10)
    have C10 := Lib.hid ((C9.out.alloc (.cells #[.int .i64 (tx), .int .i64 (ty)] 23)).keep h10)
    have S10 := Lib.hid ((S9.out.alloc (.cells #[.int .i64 (tx), .int .i64 (ty)] 23)).keep h10)
    have T10 := Lib.hid ((T9.out.alloc (.cells #[.int .i64 (tx), .int .i64 (ty)] 23)).keep h10)
    have Q10 := Lib.hid ((Q9.out.alloc (.cells #[.int .i64 (tx), .int .i64 (ty)] 23)).keep h10)
    have X10 := Lib.hid ((X9.out.alloc (.cells #[.int .i64 (tx), .int .i64 (ty)] 23)).keep h10)
    have Y10 := Lib.hid ((Box.new w9 #[.int .i64 (tx), .int .i64 (ty)] 23 rfl).keep h10)
    have y10 := h10.size
    try simp at y10
    clear h10
    clear rA0 rA1 rC0 rC1
    have rA0 : ∀ o, (w10.alloc o).cell? ⟨w.heap.size, 0, none⟩ = some (.int .i64 a) := fun o => (A10.out.alloc o).cell 0
    have rA1 : ∀ o, (w10.alloc o).cell? ⟨w.heap.size, 1, none⟩ = some (.int .i64 b) := fun o => (A10.out.alloc o).cell 1
    have rC0 : ∀ o, (w10.alloc o).cell? ⟨w.heap.size + 1, 0, none⟩ = some (.int .i64 c) := fun o => (C10.out.alloc o).cell 0
    have rC1 : ∀ o, (w10.alloc o).cell? ⟨w.heap.size + 1, 1, none⟩ = some (.int .i64 d) := fun o => (C10.out.alloc o).cell 1
    have rS0 : ∀ o, (w10.alloc o).cell? ⟨w2.heap.size, 0, none⟩ = some (.int .i64 (sx)) := fun o => (S10.out.alloc o).cell 0
    have rS1 : ∀ o, (w10.alloc o).cell? ⟨w2.heap.size, 1, none⟩ = some (.int .i64 (sy)) := fun o => (S10.out.alloc o).cell 1
    have rT0 : ∀ o, (w10.alloc o).cell? ⟨w3.heap.size, 0, none⟩ = some (.int .i64 (tx)) := fun o => (T10.out.alloc o).cell 0
    have rT1 : ∀ o, (w10.alloc o).cell? ⟨w3.heap.size, 1, none⟩ = some (.int .i64 (ty)) := fun o => (T10.out.alloc o).cell 1
    have rQ0 : ∀ o, (w10.alloc o).cell? ⟨w4.heap.size, 0, none⟩ = some (.int .i64 (qx)) := fun o => (Q10.out.alloc o).cell 0
    have rQ1 : ∀ o, (w10.alloc o).cell? ⟨w4.heap.size, 1, none⟩ = some (.int .i64 (qy)) := fun o => (Q10.out.alloc o).cell 1
    have rX0 : ∀ o, (w10.alloc o).cell? ⟨w8.heap.size, 0, none⟩ = some (.int .i64 (sx)) := fun o => (X10.out.alloc o).cell 0
    have rX1 : ∀ o, (w10.alloc o).cell? ⟨w8.heap.size, 1, none⟩ = some (.int .i64 (sy)) := fun o => (X10.out.alloc o).cell 1
    have rY0 : ∀ o, (w10.alloc o).cell? ⟨w9.heap.size, 0, none⟩ = some (.int .i64 (tx)) := fun o => (Y10.out.alloc o).cell 0
    have rY1 : ∀ o, (w10.alloc o).cell? ⟨w9.heap.size, 1, none⟩ = some (.int .i64 (ty)) := fun o => (Y10.out.alloc o).cell 1
    go_wp2_with fail
    refine (HCR.out _).mono ?_
    rintro e w11 ⟨rfl, h11⟩
    have B11 : Below w.heap.size w w11 := below_via (by go_grown) h11
    have z11 := B11.size
    have A11 := Lib.hid ((A10.out.alloc (.cells #[.int .i64 (qx), .int .i64 (qy)] 23)).keep h11)
    have C11 := Lib.hid ((C10.out.alloc (.cells #[.int .i64 (qx), .int .i64 (qy)] 23)).keep h11)
    have S11 := Lib.hid ((S10.out.alloc (.cells #[.int .i64 (qx), .int .i64 (qy)] 23)).keep h11)
    have T11 := Lib.hid ((T10.out.alloc (.cells #[.int .i64 (qx), .int .i64 (qy)] 23)).keep h11)
    have Q11 := Lib.hid ((Q10.out.alloc (.cells #[.int .i64 (qx), .int .i64 (qy)] 23)).keep h11)
    have X11 := Lib.hid ((X10.out.alloc (.cells #[.int .i64 (qx), .int .i64 (qy)] 23)).keep h11)
    have Y11 := Lib.hid ((Y10.out.alloc (.cells #[.int .i64 (qx), .int .i64 (qy)] 23)).keep h11)
    have Z11 := Lib.hid ((Box.new w10 #[.int .i64 (qx), .int .i64 (qy)] 23 rfl).keep h11)
    have y11 := h11.size
    try simp at y11
    clear h11
    clear rA0 rA1 rC0 rC1 rS0 rS1 rT0 rT1 rQ0 rQ1 rX0 rX1 rY0 rY1
    have rA0 : w11.cell? ⟨w.heap.size, 0, none⟩ = some (.int .i64 a) := A11.out.cell 0
    have rA1 : w11.cell? ⟨w.heap.size, 1, none⟩ = some (.int .i64 b) := A11.out.cell 1
    have rC0 : w11.cell? ⟨w.heap.size + 1, 0, none⟩ = some (.int .i64 c) := C11.out.cell 0
    have rC1 : w11.cell? ⟨w.heap.size + 1, 1, none⟩ = some (.int .i64 d) := C11.out.cell 1
    go_wp2_with fail
    refine (HA2.out _).mono ?_
    rintro e w12 ⟨rfl, h12⟩
    have B12 : Below w.heap.size w w12 := below_via (by go_grown) h12
    have z12 := B12.size
    have A12 := Lib.hid (A11.out.keep h12)
    have C12 := Lib.hid (C11.out.keep h12)
    have S12 := Lib.hid (S11.out.keep h12)
    have T12 := Lib.hid (T11.out.keep h12)
    have Q12 := Lib.hid (Q11.out.keep h12)
    have X12 := Lib.hid (X11.out.keep h12)
    have Y12 := Lib.hid (Y11.out.keep h12)
    have Z12 := Lib.hid (Z11.out.keep h12)
    have y12 := h12.size
    try simp at y12
    clear h12
    clear rA0 rA1 rC0 rC1
    have rA0 : ∀ o, (w12.alloc o).cell? ⟨w.heap.size, 0, none⟩ = some (.int .i64 a) := fun o => (A12.out.alloc o).cell 0
    have rA1 : ∀ o, (w12.alloc o).cell? ⟨w.heap.size, 1, none⟩ = some (.int .i64 b) := fun o => (A12.out.alloc o).cell 1
    have rC0 : ∀ o, (w12.alloc o).cell? ⟨w.heap.size + 1, 0, none⟩ = some (.int .i64 c) := fun o => (C12.out.alloc o).cell 0
    have rC1 : ∀ o, (w12.alloc o).cell? ⟨w.heap.size + 1, 1, none⟩ = some (.int .i64 d) := fun o => (C12.out.alloc o).cell 1
    go_wp2_with fail
    refine (HT2.out _).mono ?_
    rintro e w13 ⟨rfl, h13⟩
    have B13 : Below w.heap.size w w13 := below_via (by go_grown) h13
    have z13 := B13.size
    have A13 := Lib.hid ((A12.out.alloc (.cells #[.int .i64 (sx), .int .i64 (sy)] 23)).keep h13)
    have C13 := Lib.hid ((C12.out.alloc (.cells #[.int .i64 (sx), .int .i64 (sy)] 23)).keep h13)
    have S13 := Lib.hid ((S12.out.alloc (.cells #[.int .i64 (sx), .int .i64 (sy)] 23)).keep h13)
    have T13 := Lib.hid ((T12.out.alloc (.cells #[.int .i64 (sx), .int .i64 (sy)] 23)).keep h13)
    have Q13 := Lib.hid ((Q12.out.alloc (.cells #[.int .i64 (sx), .int .i64 (sy)] 23)).keep h13)
    have X13 := Lib.hid ((X12.out.alloc (.cells #[.int .i64 (sx), .int .i64 (sy)] 23)).keep h13)
    have Y13 := Lib.hid ((Y12.out.alloc (.cells #[.int .i64 (sx), .int .i64 (sy)] 23)).keep h13)
    have Z13 := Lib.hid ((Z12.out.alloc (.cells #[.int .i64 (sx), .int .i64 (sy)] 23)).keep h13)
    have U13 := Lib.hid ((Box.new w12 #[.int .i64 (sx), .int .i64 (sy)] 23 rfl).keep h13)
    have y13 := h13.size
    try simp at y13
    clear h13
    clear rA0 rA1 rC0 rC1
    have rA0 : ∀ o, (w13.alloc o).cell? ⟨w.heap.size, 0, none⟩ = some (.int .i64 a) := fun o => (A13.out.alloc o).cell 0
    have rA1 : ∀ o, (w13.alloc o).cell? ⟨w.heap.size, 1, none⟩ = some (.int .i64 b) := fun o => (A13.out.alloc o).cell 1
    have rC0 : ∀ o, (w13.alloc o).cell? ⟨w.heap.size + 1, 0, none⟩ = some (.int .i64 c) := fun o => (C13.out.alloc o).cell 0
    have rC1 : ∀ o, (w13.alloc o).cell? ⟨w.heap.size + 1, 1, none⟩ = some (.int .i64 d) := fun o => (C13.out.alloc o).cell 1
    go_wp2_with fail
    refine (HC2.out _).mono ?_
    rintro e w14 ⟨rfl, h14⟩
    have B14 : Below w.heap.size w w14 := below_via (by go_grown) h14
    have z14 := B14.size
    have A14 := Lib.hid ((A13.out.alloc (.cells #[.int .i64 (tx), .int .i64 (ty)] 23)).keep h14)
    have C14 := Lib.hid ((C13.out.alloc (.cells #[.int .i64 (tx), .int .i64 (ty)] 23)).keep h14)
    have S14 := Lib.hid ((S13.out.alloc (.cells #[.int .i64 (tx), .int .i64 (ty)] 23)).keep h14)
    have T14 := Lib.hid ((T13.out.alloc (.cells #[.int .i64 (tx), .int .i64 (ty)] 23)).keep h14)
    have Q14 := Lib.hid ((Q13.out.alloc (.cells #[.int .i64 (tx), .int .i64 (ty)] 23)).keep h14)
    have X14 := Lib.hid ((X13.out.alloc (.cells #[.int .i64 (tx), .int .i64 (ty)] 23)).keep h14)
    have Y14 := Lib.hid ((Y13.out.alloc (.cells #[.int .i64 (tx), .int .i64 (ty)] 23)).keep h14)
    have Z14 := Lib.hid ((Z13.out.alloc (.cells #[.int .i64 (tx), .int .i64 (ty)] 23)).keep h14)
    have U14 := Lib.hid ((U13.out.alloc (.cells #[.int .i64 (tx), .int .i64 (ty)] 23)).keep h14)
    have V14 := Lib.hid ((Box.new w13 #[.int .i64 (tx), .int .i64 (ty)] 23 rfl).keep h14)
    have y14 := h14.size
    try simp at y14
    clear h14
    clear rA0 rA1 rC0 rC1
    have rS0 : w14.cell? ⟨w2.heap.size, 0, none⟩ = some (.int .i64 (sx)) := S14.out.cell 0
    have rS1 : w14.cell? ⟨w2.heap.size, 1, none⟩ = some (.int .i64 (sy)) := S14.out.cell 1
    have rT0 : w14.cell? ⟨w3.heap.size, 0, none⟩ = some (.int .i64 (tx)) := T14.out.cell 0
    have rT1 : w14.cell? ⟨w3.heap.size, 1, none⟩ = some (.int .i64 (ty)) := T14.out.cell 1
    have rU0 : w14.cell? ⟨w12.heap.size, 0, none⟩ = some (.int .i64 (sx)) := U14.out.cell 0
    have rU1 : w14.cell? ⟨w12.heap.size, 1, none⟩ = some (.int .i64 (sy)) := U14.out.cell 1
    have rV0 : w14.cell? ⟨w13.heap.size, 0, none⟩ = some (.int .i64 (tx)) := V14.out.cell 0
    have rV1 : w14.cell? ⟨w13.heap.size, 1, none⟩ = some (.int .i64 (ty)) := V14.out.cell 1
    go_wp2_with fail
    go_ret
    exact ⟨rfl, by go_grown⟩
set_option maxRecDepth 100000 in
set_option maxHeartbeats 4000000 in
theorem lawFracs (a b c d : Int) (w : World) (hp : Primes w) (a0 : -9223372036854775808 ≤ a) (a1 : a ≤ 9223372036854775807) (b0 : -9223372036854775808 ≤ b) (b1 : b ≤ 9223372036854775807) (c0 : -9223372036854775808 ≤ c) (c1 : c ≤ 9223372036854775807) (d0 : -9223372036854775808 ≤ d) (d1 : d ≤ 9223372036854775807) :
    Calls Tryd.prog 3 #[.agg #[.int .i64 a, .int .i64 b], .agg #[.int .i64 c, .int .i64 d]] w fun e w' => e = .returned (.bool true) ∧ Below w.heap.size w w' := by
  by_cases h : err2 (chkF a b) (chkF c d) = 0
  · exact lawFracs_ok a b c d w hp h
  · exact lawFracs_bad a b c d w hp a0 a1 b0 b1 c0 c1 d0 d1 h
end Go.Proofs.YtcojcfjagneecaaDoor
