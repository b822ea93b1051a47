/-
  The walk of the law NumberPowers: it returns true, whatever the pitch and the fraction; older memory stays as it was. Its condition: the table of primes reads as it is laid (for awake).
-/
import Derived.Test.YtbagmfnedgjndaaDoorPws
import Derived.Test.YtbagmfnedgjndaaDoorLpi
import Derived.Test.YtbagmfnedgjndaaDoorAwake
namespace Go.Proofs.YtbagmfnedgjndaaDoor
open Go.RowKit

set_option maxRecDepth 100000 in
set_option maxHeartbeats 4000000 in
theorem lawPowers_bad1 (a b c d n m : Int) (w : World) (hp : Primes w) (hn0 : -9223372036854775808 ≤ n) (hn1 : n ≤ 9223372036854775807) (hm0 : -9223372036854775808 ≤ m) (hm1 : m ≤ 9223372036854775807) (h : chkP a b c d ≠ 0) :
    Calls Tryd.prog 7 #[.agg #[.int .i64 a, .int .i64 b, .int .i64 c, .int .i64 d], .agg #[.int .i64 n, .int .i64 m]] w fun e w' => e = .returned (.bool true) ∧ Below w.heap.size w w' := by
  have hE : err2 (chkP a b c d) (chkF n m) = chkP a b c d := by unfold err2; rw [if_pos h]
  have f2 : pwE a b c d n m = chkP a b c d := by unfold pwE; rw [if_pos (by rw [hE]; exact h), hE]
  have f1 : ∀ x, pwX a b c d n m x = 0 := fun x => by unfold pwX; rw [if_pos (by rw [hE]; exact h)]
  have P := fun u : World => power_any a b c d n m u hn0 hn1 hm0 hm1
  simp only [f1, f2] at P
  have HP := Lib.hid P
  have h0 : (chkP a b c d == 0) = false := by simpa using h
  have h1 : (chkP a b c d != 0) = true := by simpa using h
  have h9 : (chkP a b c d == chkP a b c d) = true := by simp
  have HR := Lib.hid hp
  clear P f1 f2 hE h hp
  go_enter Tryd.func7, Tryd.ntmps7
  go_wp2_with fail
  have BW : Below w.heap.size w ((w.alloc (.cells #[.int .i64 a, .int .i64 b, .int .i64 c, .int .i64 d] 47)).alloc (.cells #[.int .i64 n, .int .i64 m] 23)) := by go_grown
  have BA := (Box.new w #[.int .i64 a, .int .i64 b, .int .i64 c, .int .i64 d] 47 rfl).alloc (.cells #[.int .i64 n, .int .i64 m] 23)
  have BB := Box.new (w.alloc (.cells #[.int .i64 a, .int .i64 b, .int .i64 c, .int .i64 d] 47)) #[.int .i64 n, .int .i64 m] 23 (n := w.heap.size + 1) (by simp)
  refine (awake_any _ (HR.out.keep BW)).mono ?_
  rintro e w1 ⟨rfl, h1⟩
  have B1 : Below w.heap.size w w1 := below_via BW h1
  have z1 := B1.size
  have A1 := Lib.hid (BA.keep h1); have C1 := Lib.hid (BB.keep h1)
  have y1 := h1.size
  try simp at y1
  clear h1 BA BB
  obtain ⟨a0, a1, a2, a3, _⟩ := A1.out.four
  obtain ⟨c0, c1, _⟩ := C1.out.two
  go_wp2_with fail
  refine (HP.out _).mono ?_
  rintro e w2 ⟨rfl, h2⟩
  have B2 : Below w.heap.size w w2 := below_via (by go_grown) h2
  have z2 := B2.size
  have A2 := Lib.hid ((A1.out.keep h2).alloc (.cells #[.int .i64 (0), .int .i64 (0), .int .i64 (0), .int .i64 (0)] 47)); have C2 := Lib.hid ((C1.out.keep h2).alloc (.cells #[.int .i64 (0), .int .i64 (0), .int .i64 (0), .int .i64 (0)] 47))
  have S2 := Lib.hid (Box.new w2 #[.int .i64 (0), .int .i64 (0), .int .i64 (0), .int .i64 (0)] 47 rfl)
  have V2 : Below w.heap.size w (w2.alloc (.cells #[.int .i64 (0), .int .i64 (0), .int .i64 (0), .int .i64 (0)] 47)) := by go_grown
  have y2 := h2.size
  try simp at y2
  clear h2 a0 a1 a2 a3 c0 c1
  have l2 := A2.out.lt
  have m2 := C2.out.lt
  have s2 := S2.out.lt
  have K2 := Lib.hid (show ∀ o : Obj, True from fun _ => trivial)
  obtain ⟨a0, a1, a2, a3, _⟩ := A2.out.four
  go_wp2_with fail
  have G2 := Lib.hid (Box.new (w2.alloc (.cells #[.int .i64 (0), .int .i64 (0), .int .i64 (0), .int .i64 (0)] 47)) #[.int .i64 a, .int .i64 b, .int .i64 c, .int .i64 d] 47 (n := w2.heap.size + 1) (by simp))
  refine (pitches1_any (w2.heap.size + 1) 1 a b c d _ (G2.out.cell 0) (G2.out.cell 1) (G2.out.cell 2) (G2.out.cell 3)).mono ?_
  rintro e w3 ⟨rfl, h3⟩
  have B3 : Below w.heap.size w w3 := below_via (by go_grown) h3
  have z3 := B3.size
  have A3 := Lib.hid ((A2.out.alloc (.cells #[.int .i64 a, .int .i64 b, .int .i64 c, .int .i64 d] 47)).keep h3); have C3 := Lib.hid ((C2.out.alloc (.cells #[.int .i64 a, .int .i64 b, .int .i64 c, .int .i64 d] 47)).keep h3); have S3 := Lib.hid ((S2.out.alloc (.cells #[.int .i64 a, .int .i64 b, .int .i64 c, .int .i64 d] 47)).keep h3)
  have y3 := h3.size
  try simp at y3
  clear h3 a0 a1 a2 a3
  obtain ⟨s0, s1, s2, s3, _⟩ := S3.out.four
  go_wp2_with fail
  go_ret
  exact ⟨rfl, by go_grown⟩

set_option maxRecDepth 100000 in
set_option maxHeartbeats 4000000 in
theorem lawPowers_bad2 (a b c d n m : Int) (w : World) (hp : Primes w) (hn0 : -9223372036854775808 ≤ n) (hn1 : n ≤ 9223372036854775807) (hm0 : -9223372036854775808 ≤ m) (hm1 : m ≤ 9223372036854775807) (h : chkP a b c d = 0) (hf : chkF n m ≠ 0) :
    Calls Tryd.prog 7 #[.agg #[.int .i64 a, .int .i64 b, .int .i64 c, .int .i64 d], .agg #[.int .i64 n, .int .i64 m]] w fun e w' => e = .returned (.bool true) ∧ Below w.heap.size w w' := by
  have hE : err2 (chkP a b c d) (chkF n m) = chkF n m := by unfold err2; rw [if_neg (by omega)]
  have f2 : pwE a b c d n m = chkF n m := by unfold pwE; rw [if_pos (by rw [hE]; exact hf), hE]
  have f1 : ∀ x, pwX a b c d n m x = 0 := fun x => by unfold pwX; rw [if_pos (by rw [hE]; exact hf)]
  have P := fun u : World => power_any a b c d n m u hn0 hn1 hm0 hm1
  simp only [f1, f2] at P
  have HP := Lib.hid P
  have HF := Lib.hid (fun u : World => rchkF_any n m u hn0 hn1 hm0 hm1)
  have h1 : (chkF n m != 0) = true := by simpa using hf
  have h9 : (chkF n m == chkF n m) = true := by simp
  have HH := Lib.hid h
  have HR := Lib.hid hp
  clear P f1 f2 hE h hp hf
  go_enter Tryd.func7, Tryd.ntmps7
  go_wp2_with fail
  have BW : Below w.heap.size w ((w.alloc (.cells #[.int .i64 a, .int .i64 b, .int .i64 c, .int .i64 d] 47)).alloc (.cells #[.int .i64 n, .int .i64 m] 23)) := by go_grown
  have BA := (Box.new w #[.int .i64 a, .int .i64 b, .int .i64 c, .int .i64 d] 47 rfl).alloc (.cells #[.int .i64 n, .int .i64 m] 23)
  have BB := Box.new (w.alloc (.cells #[.int .i64 a, .int .i64 b, .int .i64 c, .int .i64 d] 47)) #[.int .i64 n, .int .i64 m] 23 (n := w.heap.size + 1) (by simp)
  refine (awake_any _ (HR.out.keep BW)).mono ?_
  rintro e w1 ⟨rfl, h1⟩
  have B1 : Below w.heap.size w w1 := below_via BW h1
  have z1 := B1.size
  have A1 := Lib.hid (BA.keep h1); have C1 := Lib.hid (BB.keep h1)
  have y1 := h1.size
  try simp at y1
  clear h1 BA BB
  obtain ⟨a0, a1, a2, a3, _⟩ := A1.out.four
  obtain ⟨c0, c1, _⟩ := C1.out.two
  go_wp2_with fail
  refine (HP.out _).mono ?_
  rintro e w2 ⟨rfl, h2⟩
  have B2 : Below w.heap.size w w2 := below_via (by go_grown) h2
  have z2 := B2.size
  have A2 := Lib.hid ((A1.out.keep h2).alloc (.cells #[.int .i64 (0), .int .i64 (0), .int .i64 (0), .int .i64 (0)] 47)); have C2 := Lib.hid ((C1.out.keep h2).alloc (.cells #[.int .i64 (0), .int .i64 (0), .int .i64 (0), .int .i64 (0)] 47))
  have S2 := Lib.hid (Box.new w2 #[.int .i64 (0), .int .i64 (0), .int .i64 (0), .int .i64 (0)] 47 rfl)
  have V2 : Below w.heap.size w (w2.alloc (.cells #[.int .i64 (0), .int .i64 (0), .int .i64 (0), .int .i64 (0)] 47)) := by go_grown
  have y2 := h2.size
  try simp at y2
  clear h2 a0 a1 a2 a3 c0 c1
  have l2 := A2.out.lt
  have m2 := C2.out.lt
  have s2 := S2.out.lt
  have K2 := Lib.hid (show ∀ o : Obj, True from fun _ => trivial)
  obtain ⟨a0, a1, a2, a3, _⟩ := A2.out.four
  go_wp2_with fail
  have G2 := Lib.hid (Box.new (w2.alloc (.cells #[.int .i64 (0), .int .i64 (0), .int .i64 (0), .int .i64 (0)] 47)) #[.int .i64 a, .int .i64 b, .int .i64 c, .int .i64 d] 47 (n := w2.heap.size + 1) (by simp))
  refine (pitches1_any (w2.heap.size + 1) 1 a b c d _ (G2.out.cell 0) (G2.out.cell 1) (G2.out.cell 2) (G2.out.cell 3)).mono ?_
  rintro e w3 ⟨rfl, h3⟩
  have B3 : Below w.heap.size w w3 := below_via (by go_grown) h3
  have z3 := B3.size
  have A3 := Lib.hid ((A2.out.alloc (.cells #[.int .i64 a, .int .i64 b, .int .i64 c, .int .i64 d] 47)).keep h3); have C3 := Lib.hid ((C2.out.alloc (.cells #[.int .i64 a, .int .i64 b, .int .i64 c, .int .i64 d] 47)).keep h3); have S3 := Lib.hid ((S2.out.alloc (.cells #[.int .i64 a, .int .i64 b, .int .i64 c, .int .i64 d] 47)).keep h3)
  have y3 := h3.size
  try simp at y3
  clear h3 a0 a1 a2 a3
  rw [HH.out]
  obtain ⟨c0, c1, _⟩ := C3.out.two
  go_wp2_with fail
  refine (HF.out _).mono ?_
  rintro e w4 ⟨rfl, h4⟩
  have B4 : Below w.heap.size w w4 := below_via (by go_grown) h4
  obtain ⟨s0, s1, s2, s3, _⟩ := (S3.out.keep h4).four
  clear h4 c0 c1
  go_wp2_with fail
  go_ret
  exact ⟨rfl, by go_grown⟩

set_option maxRecDepth 100000 in
set_option maxHeartbeats 4000000 in
theorem lawPowers_ok (a b c d n m : Int) (w : World) (hp : Primes w) (h : err2 (chkP a b c d) (chkF n m) = 0) :
    Calls Tryd.prog 7 #[.agg #[.int .i64 a, .int .i64 b, .int .i64 c, .int .i64 d], .agg #[.int .i64 n, .int .i64 m]] w fun e w' => e = .returned (.bool true) ∧ Below w.heap.size w w' := by
  have hP := (err2_zero h).1
  have hF := (err2_zero h).2
  have hk : okP a b c d = true := by
    unfold chkP at hP; split at hP
    · assumption
    · omega
  obtain ⟨m0, m1, n0, n1, _⟩ := chkF_ok hF
  have f2 : pwE a b c d n m = pE (a * n) (b * n) (c * n) (d * m) := by unfold pwE; rw [if_neg (by omega)]
  have f1 : ∀ x, pwX a b c d n m x = pX (a * n) (b * n) (c * n) (d * m) x := fun x => by unfold pwX; rw [if_neg (by omega)]
  have P := fun u : World => power_any a b c d n m u (by omega) (by omega) (by omega) (by omega)
  have Q := fun u : World => rpower_any a b c d n m u hk hF
  simp only [f1, f2] at P
  generalize pX (a * n) (b * n) (c * n) (d * m) (a * n) = x at *
  generalize pX (a * n) (b * n) (c * n) (d * m) (b * n) = y at *
  generalize pX (a * n) (b * n) (c * n) (d * m) (c * n) = z at *
  generalize pX (a * n) (b * n) (c * n) (d * m) (d * m) = t at *
  generalize pE (a * n) (b * n) (c * n) (d * m) = v at *
  have HP := Lib.hid P
  have HQ := Lib.hid Q
  have HF := Lib.hid (fun u : World => rchkF_any n m u (by omega) (by omega) (by omega) (by omega))
  rw [hF] at HF
  have h9 : (v == v) = true := by simp
  have HH := Lib.hid hP
  have HR := Lib.hid hp
  clear P Q f1 f2 h hp hF hP hk m0 m1 n0 n1
  go_enter Tryd.func7, Tryd.ntmps7
  go_wp2_with fail
  have BW : Below w.heap.size w ((w.alloc (.cells #[.int .i64 a, .int .i64 b, .int .i64 c, .int .i64 d] 47)).alloc (.cells #[.int .i64 n, .int .i64 m] 23)) := by go_grown
  have BA := (Box.new w #[.int .i64 a, .int .i64 b, .int .i64 c, .int .i64 d] 47 rfl).alloc (.cells #[.int .i64 n, .int .i64 m] 23)
  have BB := Box.new (w.alloc (.cells #[.int .i64 a, .int .i64 b, .int .i64 c, .int .i64 d] 47)) #[.int .i64 n, .int .i64 m] 23 (n := w.heap.size + 1) (by simp)
  refine (awake_any _ (HR.out.keep BW)).mono ?_
  rintro e w1 ⟨rfl, h1⟩
  have B1 : Below w.heap.size w w1 := below_via BW h1
  have z1 := B1.size
  have A1 := Lib.hid (BA.keep h1); have C1 := Lib.hid (BB.keep h1)
  have y1 := h1.size
  try simp at y1
  clear h1 BA BB
  obtain ⟨a0, a1, a2, a3, _⟩ := A1.out.four
  obtain ⟨c0, c1, _⟩ := C1.out.two
  go_wp2_with fail
  refine (HP.out _).mono ?_
  rintro e w2 ⟨rfl, h2⟩
  have B2 : Below w.heap.size w w2 := below_via (by go_grown) h2
  have z2 := B2.size
  have A2 := Lib.hid ((A1.out.keep h2).alloc (.cells #[.int .i64 (x), .int .i64 (y), .int .i64 (z), .int .i64 (t)] 47)); have C2 := Lib.hid ((C1.out.keep h2).alloc (.cells #[.int .i64 (x), .int .i64 (y), .int .i64 (z), .int .i64 (t)] 47))
  have S2 := Lib.hid (Box.new w2 #[.int .i64 (x), .int .i64 (y), .int .i64 (z), .int .i64 (t)] 47 rfl)
  have V2 : Below w.heap.size w (w2.alloc (.cells #[.int .i64 (x), .int .i64 (y), .int .i64 (z), .int .i64 (t)] 47)) := by go_grown
  have y2 := h2.size
  try simp at y2
  clear h2 a0 a1 a2 a3 c0 c1
  have l2 := A2.out.lt
  have m2 := C2.out.lt
  have s2 := S2.out.lt
  have K2 := Lib.hid (show ∀ o : Obj, True from fun _ => trivial)
  obtain ⟨a0, a1, a2, a3, _⟩ := A2.out.four
  go_wp2_with fail
  have G2 := Lib.hid (Box.new (w2.alloc (.cells #[.int .i64 (x), .int .i64 (y), .int .i64 (z), .int .i64 (t)] 47)) #[.int .i64 a, .int .i64 b, .int .i64 c, .int .i64 d] 47 (n := w2.heap.size + 1) (by simp))
  refine (pitches1_any (w2.heap.size + 1) 1 a b c d _ (G2.out.cell 0) (G2.out.cell 1) (G2.out.cell 2) (G2.out.cell 3)).mono ?_
  rintro e w3 ⟨rfl, h3⟩
  have B3 : Below w.heap.size w w3 := below_via (by go_grown) h3
  have z3 := B3.size
  have A3 := Lib.hid ((A2.out.alloc (.cells #[.int .i64 a, .int .i64 b, .int .i64 c, .int .i64 d] 47)).keep h3); have C3 := Lib.hid ((C2.out.alloc (.cells #[.int .i64 a, .int .i64 b, .int .i64 c, .int .i64 d] 47)).keep h3); have S3 := Lib.hid ((S2.out.alloc (.cells #[.int .i64 a, .int .i64 b, .int .i64 c, .int .i64 d] 47)).keep h3)
  have y3 := h3.size
  try simp at y3
  clear h3 a0 a1 a2 a3
  rw [HH.out]
  obtain ⟨c0, c1, _⟩ := C3.out.two
  go_wp2_with fail
  refine (HF.out _).mono ?_
  rintro e w4 ⟨rfl, h4⟩
  have B4 : Below w.heap.size w w4 := below_via (by go_grown) h4
  have z4 := B4.size
  have A4 := Lib.hid (A3.out.keep h4); have C4 := Lib.hid (C3.out.keep h4); have S4 := Lib.hid (S3.out.keep h4)
  clear h4 c0 c1
  obtain ⟨a0, a1, a2, a3, _⟩ := A4.out.four
  obtain ⟨c0, c1, _⟩ := C4.out.two
  go_wp2_with fail
  refine (HQ.out _).mono ?_
  rintro e w5 ⟨rfl, h5⟩
  have B5 : Below w.heap.size w w5 := below_via (by go_grown) h5
  have z5 := B5.size
  have S5 := Lib.hid (S4.out.keep h5)
  have l5 := S5.out.lt
  obtain ⟨s0, s1, s2, s3, _⟩ := S5.out.four
  clear h5 a0 a1 a2 a3 c0 c1
  go_wp2_with fail
  go_ret
  exact ⟨rfl, by go_grown⟩
theorem lawPowers (a b c d n m : Int) (w : World) (hp : Primes w) (_ : -9223372036854775808 ≤ a) (_ : a ≤ 9223372036854775807) (_ : -9223372036854775808 ≤ b) (_ : b ≤ 9223372036854775807) (_ : -9223372036854775808 ≤ c) (_ : c ≤ 9223372036854775807) (_ : -9223372036854775808 ≤ d) (_ : d ≤ 9223372036854775807) (hn0 : -9223372036854775808 ≤ n) (hn1 : n ≤ 9223372036854775807) (hm0 : -9223372036854775808 ≤ m) (hm1 : m ≤ 9223372036854775807) :
    Calls Tryd.prog 7 #[.agg #[.int .i64 a, .int .i64 b, .int .i64 c, .int .i64 d], .agg #[.int .i64 n, .int .i64 m]] w fun e w' => e = .returned (.bool true) ∧ Below w.heap.size w w' := by
  by_cases h : chkP a b c d = 0
  · by_cases hf : chkF n m = 0
    · exact lawPowers_ok a b c d n m w hp (by unfold err2; rw [if_neg (by omega)]; exact hf)
    · exact lawPowers_bad2 a b c d n m w hp hn0 hn1 hm0 hm1 h hf
  · exact lawPowers_bad1 a b c d n m w hp hn0 hn1 hm0 hm1 h
end Go.Proofs.YtbagmfnedgjndaaDoor
