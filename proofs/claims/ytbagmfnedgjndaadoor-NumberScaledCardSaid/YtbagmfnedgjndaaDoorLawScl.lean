/-
  The walk of the law NumberScaled: it returns true, whatever the range and the fraction; older memory stays as it was. Its condition: the table of primes reads as it is laid (for awake).
-/
import Derived.Test.YtbagmfnedgjndaaDoorRsc
import Derived.Test.YtbagmfnedgjndaaDoorFr3
import Derived.Test.YtbagmfnedgjndaaDoorAwake
namespace Go.Proofs.YtbagmfnedgjndaaDoor
open Go.RowKit

theorem two0 (x y : Value) (w : World) : (Instr.index 81 (.agg #[x, y]) (.int .i64 0)).run Tryd.prog w = .ok x w := by kernel_rfl
theorem two1 (x y : Value) (w : World) : (Instr.index 81 (.agg #[x, y]) (.int .i64 1)).run Tryd.prog w = .ok y w := by kernel_rfl
theorem dn_mul (x d : Int) (hd : 1 ≤ d) : dn x d * d ≤ x := by
  unfold dn; exact Int.ediv_mul_le _ (by omega)
theorem sc_bd {a b n d : Int} (h : scB a b n d = true) : (-1000000000000000 ≤ scl a b n d ∧ scl a b n d ≤ 1000000000000000) ∧ (-1000000000000000 ≤ sch a b n d ∧ sch a b n d ≤ 1000000000000000) := by
  unfold scB at h
  unfold scl sch
  split at h
  all_goals
    rename_i hn
    simp only [Bool.and_eq_true] at h
    have h1 := pdB_bd h.1
    have h2 := pdB_bd h.2
  · rw [if_pos hn, if_pos hn]; omega
  · rw [if_neg hn, if_neg hn]; omega
theorem rscaled_any (a b n d : Int) (w : World) (h : err2 (chkR a b) (chkF n d) = 0) :
    Calls Tryd.prog 55 #[.agg #[.int .i64 a, .int .i64 b], .agg #[.int .i64 n, .int .i64 d]] w fun e w' =>
      e = .returned (.tuple #[.agg #[.int .i64 (scL a b n d), .int .i64 (scH a b n d)], .int .i64 (scE a b n d)]) ∧ Below w.heap.size w w' := by
  by_cases hneg : n < 0
  · exact rsc_neg a b n d w h hneg
  · exact rsc_pos a b n d w h hneg
/-- the products of both bounds lie within -/
theorem sc_in {a b n d : Int} (ab : a ≤ b) (hd : 1 ≤ d) : (scl a b n d * d ≤ a * n ∧ a * n ≤ sch a b n d * d) ∧ (scl a b n d * d ≤ b * n ∧ b * n ≤ sch a b n d * d) := by
  unfold scl sch pdF
  have p1 := dn_mul (b * n) d hd
  have p2 := dn_mul (a * -n) d hd
  have p3 := dn_mul (a * n) d hd
  have p4 := dn_mul (b * -n) d hd
  rw [Int.mul_neg] at p2 p4
  split
  · rename_i hn
    have hm := Int.mul_le_mul_of_nonneg_right ab (show 0 ≤ -n by omega)
    rw [Int.mul_neg, Int.mul_neg] at hm
    rw [Int.neg_mul, Int.mul_neg]
    omega
  · rename_i hn
    have hm := Int.mul_le_mul_of_nonneg_right ab (show 0 ≤ n by omega)
    rw [Int.neg_mul, Int.mul_neg]
    omega

set_option maxRecDepth 100000 in
set_option maxHeartbeats 4000000 in
theorem lawScaled_bad1 (a b n d : Int) (w : World) (hp : Primes w) (hn0 : -9223372036854775808 ≤ n) (hn1 : n ≤ 9223372036854775807) (hd0 : -9223372036854775808 ≤ d) (hd1 : d ≤ 9223372036854775807) (h : chkR a b ≠ 0) :
    Calls Tryd.prog 12 #[.agg #[.int .i64 a, .int .i64 b], .agg #[.int .i64 n, .int .i64 d]] w fun e w' => e = .returned (.bool true) ∧ Below w.heap.size w w' := by
  have hE : err2 (chkR a b) (chkF n d) = chkR a b := by unfold err2; rw [if_pos h]
  have f3 : scE a b n d = chkR a b := by unfold scE; rw [if_pos (by rw [hE]; exact h), hE]
  have f1 : scL a b n d = 0 := by unfold scL; rw [if_pos (by rw [hE]; exact h)]
  have f2 : scH a b n d = 0 := by unfold scH; rw [if_pos (by rw [hE]; exact h)]
  have P := fun u : World => scaled_any a b n d u hn0 hn1 hd0 hd1
  simp only [f1, f2, f3] at P
  have HP := Lib.hid P
  have HK := Lib.hid (fun u : World => rchkR_any a b u)
  have h0 : (chkR a b == 0) = false := by simpa using h
  have h1 : (chkR a b != 0) = true := by simpa using h
  have h9 : (chkR a b == chkR a b) = true := by simp
  have HR := Lib.hid hp
  clear P f1 f2 f3 hE h hp
  go_enter Tryd.func12, Tryd.ntmps12
  go_wp2_with fail
  have BW : Below w.heap.size w ((w.alloc (.cells #[.int .i64 a, .int .i64 b] 37)).alloc (.cells #[.int .i64 n, .int .i64 d] 23)) := by go_grown
  have BA := (Box.new w #[.int .i64 a, .int .i64 b] 37 rfl).alloc (.cells #[.int .i64 n, .int .i64 d] 23)
  have BB := Box.new (w.alloc (.cells #[.int .i64 a, .int .i64 b] 37)) #[.int .i64 n, .int .i64 d] 23 (n := w.heap.size + 1) (by simp)
  refine (awake_any _ (HR.out.keep BW)).mono ?_
  rintro e w1 ⟨rfl, h1⟩
  have B1 : Below w.heap.size w w1 := below_via BW h1
  have z1 := B1.size
  have A1 := Lib.hid (BA.keep h1); have C1 := Lib.hid (BB.keep h1)
  have y1 := h1.size
  try simp at y1
  clear h1 BA BB
  obtain ⟨a0, a1, _⟩ := A1.out.two
  obtain ⟨c0, c1, _⟩ := C1.out.two
  go_wp2_with fail
  refine (HP.out _).mono ?_
  rintro e w2 ⟨rfl, h2⟩
  have B2 : Below w.heap.size w w2 := below_via (by go_grown) h2
  have z2 := B2.size
  have A2 := Lib.hid ((A1.out.keep h2).alloc (.cells #[.int .i64 (0), .int .i64 (0)] 37)); have C2 := Lib.hid ((C1.out.keep h2).alloc (.cells #[.int .i64 (0), .int .i64 (0)] 37))
  have S2 := Lib.hid (Box.new w2 #[.int .i64 (0), .int .i64 (0)] 37 rfl)
  have y2 := h2.size
  try simp at y2
  clear h2 a0 a1 c0 c1
  obtain ⟨a0, a1, _⟩ := A2.out.two
  go_wp2_with fail
  refine (HK.out _).mono ?_
  rintro e w3 ⟨rfl, h3⟩
  have B3 : Below w.heap.size w w3 := below_via (by go_grown) h3
  have z3 := B3.size
  have A3 := Lib.hid (A2.out.keep h3); have C3 := Lib.hid (C2.out.keep h3); have S3 := Lib.hid (S2.out.keep h3)
  have y3 := h3.size
  try simp at y3
  clear h3 a0 a1
  obtain ⟨s0, s1, _⟩ := S3.out.two
  go_wp2_with fail
  go_ret
  exact ⟨rfl, by go_grown⟩

set_option maxRecDepth 100000 in
set_option maxHeartbeats 4000000 in
theorem lawScaled_bad2 (a b n d : Int) (w : World) (hp : Primes w) (hn0 : -9223372036854775808 ≤ n) (hn1 : n ≤ 9223372036854775807) (hd0 : -9223372036854775808 ≤ d) (hd1 : d ≤ 9223372036854775807) (h : chkR a b = 0) (hf : chkF n d ≠ 0) :
    Calls Tryd.prog 12 #[.agg #[.int .i64 a, .int .i64 b], .agg #[.int .i64 n, .int .i64 d]] w fun e w' => e = .returned (.bool true) ∧ Below w.heap.size w w' := by
  have hE : err2 (chkR a b) (chkF n d) = chkF n d := by unfold err2; rw [if_neg (by omega)]
  have f3 : scE a b n d = chkF n d := by unfold scE; rw [if_pos (by rw [hE]; exact hf), hE]
  have f1 : scL a b n d = 0 := by unfold scL; rw [if_pos (by rw [hE]; exact hf)]
  have f2 : scH a b n d = 0 := by unfold scH; rw [if_pos (by rw [hE]; exact hf)]
  have P := fun u : World => scaled_any a b n d u hn0 hn1 hd0 hd1
  simp only [f1, f2, f3] at P
  have HP := Lib.hid P
  have HK := Lib.hid (fun u : World => rchkR_any a b u)
  rw [h] at HK
  have HF := Lib.hid (fun u : World => rchkF_any n d u hn0 hn1 hd0 hd1)
  have h1 : (chkF n d != 0) = true := by simpa using hf
  have h9 : (chkF n d == chkF n d) = true := by simp
  have HR := Lib.hid hp
  clear P f1 f2 f3 hE h hp hf
  go_enter Tryd.func12, Tryd.ntmps12
  go_wp2_with fail
  have BW : Below w.heap.size w ((w.alloc (.cells #[.int .i64 a, .int .i64 b] 37)).alloc (.cells #[.int .i64 n, .int .i64 d] 23)) := by go_grown
  have BA := (Box.new w #[.int .i64 a, .int .i64 b] 37 rfl).alloc (.cells #[.int .i64 n, .int .i64 d] 23)
  have BB := Box.new (w.alloc (.cells #[.int .i64 a, .int .i64 b] 37)) #[.int .i64 n, .int .i64 d] 23 (n := w.heap.size + 1) (by simp)
  refine (awake_any _ (HR.out.keep BW)).mono ?_
  rintro e w1 ⟨rfl, h1⟩
  have B1 : Below w.heap.size w w1 := below_via BW h1
  have z1 := B1.size
  have A1 := Lib.hid (BA.keep h1); have C1 := Lib.hid (BB.keep h1)
  have y1 := h1.size
  try simp at y1
  clear h1 BA BB
  obtain ⟨a0, a1, _⟩ := A1.out.two
  obtain ⟨c0, c1, _⟩ := C1.out.two
  go_wp2_with fail
  refine (HP.out _).mono ?_
  rintro e w2 ⟨rfl, h2⟩
  have B2 : Below w.heap.size w w2 := below_via (by go_grown) h2
  have z2 := B2.size
  have A2 := Lib.hid ((A1.out.keep h2).alloc (.cells #[.int .i64 (0), .int .i64 (0)] 37)); have C2 := Lib.hid ((C1.out.keep h2).alloc (.cells #[.int .i64 (0), .int .i64 (0)] 37))
  have S2 := Lib.hid (Box.new w2 #[.int .i64 (0), .int .i64 (0)] 37 rfl)
  have y2 := h2.size
  try simp at y2
  clear h2 a0 a1 c0 c1
  obtain ⟨a0, a1, _⟩ := A2.out.two
  go_wp2_with fail
  refine (HK.out _).mono ?_
  rintro e w3 ⟨rfl, h3⟩
  have B3 : Below w.heap.size w w3 := below_via (by go_grown) h3
  have z3 := B3.size
  have A3 := Lib.hid (A2.out.keep h3); have C3 := Lib.hid (C2.out.keep h3); have S3 := Lib.hid (S2.out.keep h3)
  have y3 := h3.size
  try simp at y3
  clear h3 a0 a1
  obtain ⟨c0, c1, _⟩ := C3.out.two
  go_wp2_with fail
  refine (HF.out _).mono ?_
  rintro e w4 ⟨rfl, h4⟩
  have B4 : Below w.heap.size w w4 := below_via (by go_grown) h4
  obtain ⟨s0, s1, _⟩ := (S3.out.keep h4).two
  clear h4 c0 c1
  go_wp2_with fail
  go_ret
  exact ⟨rfl, by go_grown⟩

set_option maxRecDepth 100000 in
set_option maxHeartbeats 4000000 in
theorem lawScaled_no (a b n d : Int) (w : World) (hp : Primes w) (h : err2 (chkR a b) (chkF n d) = 0) (hB : scB a b n d = false) :
    Calls Tryd.prog 12 #[.agg #[.int .i64 a, .int .i64 b], .agg #[.int .i64 n, .int .i64 d]] w fun e w' => e = .returned (.bool true) ∧ Below w.heap.size w w' := by
  have hP := (err2_zero h).1
  have hF := (err2_zero h).2
  obtain ⟨d0, d1, n0, n1, _⟩ := chkF_ok hF
  have P := fun u : World => scaled_any a b n d u (by omega) (by omega) (by omega) (by omega)
  have Q := fun u : World => rscaled_any a b n d u h
  have f3 : scE a b n d = 8 := by unfold scE; rw [if_neg (by omega), hB]; rfl
  have f1 : scL a b n d = 0 := by unfold scL; rw [if_neg (by omega), hB]; rfl
  have f2 : scH a b n d = 0 := by unfold scH; rw [if_neg (by omega), hB]; rfl
  simp only [f1, f2, f3] at P Q
  clear f1 f2 f3
  have HP := Lib.hid P
  have HQ := Lib.hid Q
  have HK := Lib.hid (fun u : World => rchkR_any a b u)
  rw [hP] at HK
  have HF := Lib.hid (fun u : World => rchkF_any n d u (by omega) (by omega) (by omega) (by omega))
  rw [hF] at HF
  have HR := Lib.hid hp
  clear P Q hP hF hp
  go_enter Tryd.func12, Tryd.ntmps12
  go_wp2_with fail
  have BW : Below w.heap.size w ((w.alloc (.cells #[.int .i64 a, .int .i64 b] 37)).alloc (.cells #[.int .i64 n, .int .i64 d] 23)) := by go_grown
  have BA := (Box.new w #[.int .i64 a, .int .i64 b] 37 rfl).alloc (.cells #[.int .i64 n, .int .i64 d] 23)
  have BB := Box.new (w.alloc (.cells #[.int .i64 a, .int .i64 b] 37)) #[.int .i64 n, .int .i64 d] 23 (n := w.heap.size + 1) (by simp)
  refine (awake_any _ (HR.out.keep BW)).mono ?_
  rintro e w1 ⟨rfl, h1⟩
  have B1 : Below w.heap.size w w1 := below_via BW h1
  have z1 := B1.size
  have A1 := Lib.hid (BA.keep h1); have C1 := Lib.hid (BB.keep h1)
  have y1 := h1.size
  try simp at y1
  clear h1 BA BB
  obtain ⟨a0, a1, _⟩ := A1.out.two
  obtain ⟨c0, c1, _⟩ := C1.out.two
  go_wp2_with fail
  refine (HP.out _).mono ?_
  rintro e w2 ⟨rfl, h2⟩
  have B2 : Below w.heap.size w w2 := below_via (by go_grown) h2
  have z2 := B2.size
  have A2 := Lib.hid ((A1.out.keep h2).alloc (.cells #[.int .i64 (0), .int .i64 (0)] 37)); have C2 := Lib.hid ((C1.out.keep h2).alloc (.cells #[.int .i64 (0), .int .i64 (0)] 37))
  have S2 := Lib.hid (Box.new w2 #[.int .i64 (0), .int .i64 (0)] 37 rfl)
  have y2 := h2.size
  try simp at y2
  clear h2 a0 a1 c0 c1
  obtain ⟨a0, a1, _⟩ := A2.out.two
  go_wp2_with fail
  refine (HK.out _).mono ?_
  rintro e w3 ⟨rfl, h3⟩
  have B3 : Below w.heap.size w w3 := below_via (by go_grown) h3
  have z3 := B3.size
  have A3 := Lib.hid (A2.out.keep h3); have C3 := Lib.hid (C2.out.keep h3); have S3 := Lib.hid (S2.out.keep h3)
  have y3 := h3.size
  try simp at y3
  clear h3 a0 a1
  obtain ⟨c0, c1, _⟩ := C3.out.two
  go_wp2_with fail
  refine (HF.out _).mono ?_
  rintro e w4 ⟨rfl, h4⟩
  have B4 : Below w.heap.size w w4 := below_via (by go_grown) h4
  have z4 := B4.size
  have A4 := Lib.hid (A3.out.keep h4); have C4 := Lib.hid (C3.out.keep h4); have S4 := Lib.hid (S3.out.keep h4)
  clear h4 c0 c1
  obtain ⟨a0, a1, _⟩ := A4.out.two
  obtain ⟨c0, c1, _⟩ := C4.out.two
  go_wp2_with fail
  refine (HQ.out _).mono ?_
  rintro e w5 ⟨rfl, h5⟩
  have B5 : Below w.heap.size w w5 := below_via (by go_grown) h5
  have z5 := B5.size
  have A5 := Lib.hid (A4.out.keep h5); have C5 := Lib.hid (C4.out.keep h5); have S5 := Lib.hid (S4.out.keep h5)
  have l5 := S5.out.lt
  have m5 := A5.out.lt
  have o5 := C5.out.lt
  clear h5 a0 a1 c0 c1
  obtain ⟨s0, s1, _⟩ := S5.out.two
  obtain ⟨a0, a1, _⟩ := A5.out.two
  obtain ⟨c0, c1, _⟩ := C5.out.two
  go_wp2_with fail
  go_ret
  exact ⟨rfl, by go_grown⟩

set_option maxRecDepth 100000 in
set_option maxHeartbeats 4000000 in
theorem lawScaled_ok (a b n d : Int) (w : World) (hp : Primes w) (h : err2 (chkR a b) (chkF n d) = 0) (hB : scB a b n d = true) :
    Calls Tryd.prog 12 #[.agg #[.int .i64 a, .int .i64 b], .agg #[.int .i64 n, .int .i64 d]] w fun e w' => e = .returned (.bool true) ∧ Below w.heap.size w w' := by
  have hP := (err2_zero h).1
  have hF := (err2_zero h).2
  obtain ⟨d0, d1, n0, n1, _⟩ := chkF_ok hF
  have P := fun u : World => scaled_any a b n d u (by omega) (by omega) (by omega) (by omega)
  have Q := fun u : World => rscaled_any a b n d u h
  have f3 : scE a b n d = 0 := by unfold scE; rw [if_neg (by omega), hB]; rfl
  have f1 : scL a b n d = scl a b n d := by unfold scL; rw [if_neg (by omega), hB]; rfl
  have f2 : scH a b n d = sch a b n d := by unfold scH; rw [if_neg (by omega), hB]; rfl
  simp only [f1, f2, f3] at P Q
  obtain ⟨⟨x0, x1⟩, ⟨y0, y1⟩, ab⟩ := chkR_bd hP
  have hb := sc_bd hB
  have hm := sc_in (n := n) ab d0
  obtain ⟨⟨L0, L1⟩, H0, H1⟩ := hb
  obtain ⟨⟨m1, m2⟩, m3, m4⟩ := hm
  generalize scl a b n d = L at *
  generalize sch a b n d = H at *
  clear f1 f2 f3 h hB
  have HP := Lib.hid P
  have HQ := Lib.hid Q
  have HK := Lib.hid (fun u : World => rchkR_any a b u)
  rw [hP] at HK
  have HF := Lib.hid (fun u : World => rchkF_any n d u (by omega) (by omega) (by omega) (by omega))
  rw [hF] at HF
  have HR := Lib.hid hp
  clear P Q hP hF hp
  go_enter Tryd.func12, Tryd.ntmps12
  go_wp2_with fail
  have BW : Below w.heap.size w ((w.alloc (.cells #[.int .i64 a, .int .i64 b] 37)).alloc (.cells #[.int .i64 n, .int .i64 d] 23)) := by go_grown
  have BA := (Box.new w #[.int .i64 a, .int .i64 b] 37 rfl).alloc (.cells #[.int .i64 n, .int .i64 d] 23)
  have BB := Box.new (w.alloc (.cells #[.int .i64 a, .int .i64 b] 37)) #[.int .i64 n, .int .i64 d] 23 (n := w.heap.size + 1) (by simp)
  refine (awake_any _ (HR.out.keep BW)).mono ?_
  rintro e w1 ⟨rfl, h1⟩
  have B1 : Below w.heap.size w w1 := below_via BW h1
  have z1 := B1.size
  have A1 := Lib.hid (BA.keep h1); have C1 := Lib.hid (BB.keep h1)
  have y1 := h1.size
  try simp at y1
  clear h1 BA BB
  obtain ⟨a0, a1, _⟩ := A1.out.two
  obtain ⟨c0, c1, _⟩ := C1.out.two
  go_wp2_with fail
  refine (HP.out _).mono ?_
  rintro e w2 ⟨rfl, h2⟩
  have B2 : Below w.heap.size w w2 := below_via (by go_grown) h2
  have z2 := B2.size
  have A2 := Lib.hid ((A1.out.keep h2).alloc (.cells #[.int .i64 (L), .int .i64 (H)] 37)); have C2 := Lib.hid ((C1.out.keep h2).alloc (.cells #[.int .i64 (L), .int .i64 (H)] 37))
  have S2 := Lib.hid (Box.new w2 #[.int .i64 (L), .int .i64 (H)] 37 rfl)
  have y2 := h2.size
  try simp at y2
  clear h2 a0 a1 c0 c1
  obtain ⟨a0, a1, _⟩ := A2.out.two
  go_wp2_with fail
  refine (HK.out _).mono ?_
  rintro e w3 ⟨rfl, h3⟩
  have B3 : Below w.heap.size w w3 := below_via (by go_grown) h3
  have z3 := B3.size
  have A3 := Lib.hid (A2.out.keep h3); have C3 := Lib.hid (C2.out.keep h3); have S3 := Lib.hid (S2.out.keep h3)
  have y3 := h3.size
  try simp at y3
  clear h3 a0 a1
  obtain ⟨c0, c1, _⟩ := C3.out.two
  go_wp2_with fail
  refine (HF.out _).mono ?_
  rintro e w4 ⟨rfl, h4⟩
  have B4 : Below w.heap.size w w4 := below_via (by go_grown) h4
  have z4 := B4.size
  have A4 := Lib.hid (A3.out.keep h4); have C4 := Lib.hid (C3.out.keep h4); have S4 := Lib.hid (S3.out.keep h4)
  clear h4 c0 c1
  obtain ⟨a0, a1, _⟩ := A4.out.two
  obtain ⟨c0, c1, _⟩ := C4.out.two
  go_wp2_with fail
  refine (HQ.out _).mono ?_
  rintro e w5 ⟨rfl, h5⟩
  have B5 : Below w.heap.size w w5 := below_via (by go_grown) h5
  have z5 := B5.size
  have A5 := Lib.hid (A4.out.keep h5); have C5 := Lib.hid (C4.out.keep h5); have S5 := Lib.hid (S4.out.keep h5)
  have l5 := S5.out.lt
  have m5 := A5.out.lt
  have o5 := C5.out.lt
  clear h5 a0 a1 c0 c1
  obtain ⟨s0, s1, _⟩ := S5.out.two
  obtain ⟨a0, a1, _⟩ := A5.out.two
  obtain ⟨c0, c1, _⟩ := C5.out.two
  go_wp2_with (go_at_call 56; refine (Abs_any _ _ (by omega) (by omega)).mono ?_; rintro e w9 ⟨rfl, rfl⟩)
  all_goals try (go_ret; exact ⟨rfl, by go_grown⟩)
  have q1 : sz a ≤ 1000000000 := by omega
  have q2 : sz b ≤ 1000000000 := by omega
  have q3 : sz L ≤ 1000000000 := by omega
  have q4 : sz H ≤ 1000000000 := by omega
  unfold sz at q1 q2 q3 q4
  have t1 := mulM_bd (n := a) (t := n) (by omega) (by omega) n0 n1
  have t2 := mulM_bd (n := b) (t := n) (by omega) (by omega) n0 n1
  have t3 := mulM_bd (n := L) (t := d) (by omega) (by omega) (by omega) (by omega)
  have t4 := mulM_bd (n := H) (t := d) (by omega) (by omega) (by omega) (by omega)
  have wr1 : IntKind.i64.wrap (a * n) = a * n := IntWalk.i64_in _ (by omega)
  have wr2 : IntKind.i64.wrap (b * n) = b * n := IntWalk.i64_in _ (by omega)
  have wr3 : IntKind.i64.wrap (L * d) = L * d := IntWalk.i64_in _ (by omega)
  have wr4 : IntKind.i64.wrap (H * d) = H * d := IntWalk.i64_in _ (by omega)
  have i0 := fun w => two0 (.int .i64 a) (.int .i64 b) w
  have i1 := fun w => two1 (.int .i64 a) (.int .i64 b) w
  refine wp_loop_rounds 3 ?_
  rw [rounds_succ]
  go_wp2_with fail
  rw [rounds_succ]
  go_wp2_with fail
  try rw [rounds_succ]
  try go_wp2_with fail
  go_ret
  exact ⟨rfl, by go_grown⟩
theorem lawScaled (a b n d : Int) (w : World) (hp : Primes w) (ha0 : -9223372036854775808 ≤ a) (ha1 : a ≤ 9223372036854775807) (hb0 : -9223372036854775808 ≤ b) (hb1 : b ≤ 9223372036854775807) (hn0 : -9223372036854775808 ≤ n) (hn1 : n ≤ 9223372036854775807) (hd0 : -9223372036854775808 ≤ d) (hd1 : d ≤ 9223372036854775807) :
    Calls Tryd.prog 12 #[.agg #[.int .i64 a, .int .i64 b], .agg #[.int .i64 n, .int .i64 d]] w fun e w' => e = .returned (.bool true) ∧ Below w.heap.size w w' := by
  by_cases h : chkR a b = 0
  · by_cases hf : chkF n d = 0
    · have hE : err2 (chkR a b) (chkF n d) = 0 := by unfold err2; rw [if_neg (by omega)]; exact hf
      cases hB : scB a b n d
      · exact lawScaled_no a b n d w hp hE hB
      · exact lawScaled_ok a b n d w hp hE hB
    · exact lawScaled_bad2 a b n d w hp hn0 hn1 hd0 hd1 h hf
  · exact lawScaled_bad1 a b n d w hp hn0 hn1 hd0 hd1 h
end Go.Proofs.YtbagmfnedgjndaaDoor
