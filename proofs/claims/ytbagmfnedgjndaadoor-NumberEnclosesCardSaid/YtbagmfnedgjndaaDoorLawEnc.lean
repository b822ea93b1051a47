/-
  The walk of the law NumberEncloses: it returns true, whatever the pitch and the number of times; older memory stays as it was. Its condition: the table of primes reads as it is laid.
-/
import Derived.Test.YtbagmfnedgjndaaDoorRen
import Derived.Test.YtbagmfnedgjndaaDoorNea
import Derived.Test.YtbagmfnedgjndaaDoorLpi
import Derived.Test.YtbagmfnedgjndaaDoorAwake
namespace Go.Proofs.YtbagmfnedgjndaaDoor
open Go.RowKit

theorem enc_vals {a b c d t : Int} (hk : okP a b c d = true) (t0 : 1 ≤ t) (t1 : t ≤ 1000000000) : (0 ≤ encH a b c d t - encL a b c d t ∧ encH a b c d t - encL a b c d t ≤ 1) ∧ (0 ≤ encL a b c d t ∧ encL a b c d t ≤ 1000000000000001) := by
  have f := enc_ref hk t0 t1
  have hb := half_bd (leE (under a b c) (over a b c * t.toNat ^ d.toNat) d) 0 1000000000000001 (by omega)
  have hr : rLo a b c d t = half (leE (under a b c) (over a b c * t.toNat ^ d.toNat) d) 0 1000000000000001 := rfl
  rw [← hr] at hb
  have hh : rHi a b c d t = rLo a b c d t ∨ rHi a b c d t = rLo a b c d t + 1 := by unfold rHi; split <;> omega
  rcases Int.lt_or_le 1000000000000000 (rHi a b c d t) with h | h
  · obtain ⟨_, h2, h3⟩ := f.2 h; omega
  · obtain ⟨_, h2, h3⟩ := f.1 h; omega

set_option maxRecDepth 100000 in
set_option maxHeartbeats 4000000 in
theorem lawEncloses_bad1 (a b c d t : Int) (w : World) (hp : Primes w) (h : chkP a b c d ≠ 0) :
    Calls Tryd.prog 10 #[.agg #[.int .i64 a, .int .i64 b, .int .i64 c, .int .i64 d], .int .i64 t] w fun e w' => e = .returned (.bool true) ∧ Below w.heap.size w w' := by
  have hk : okP a b c d = false := by
    unfold chkP at h; split at h
    · omega
    · simpa using ‹¬ okP a b c d = true›
  have hc : chkP a b c d = 2 := by unfold chkP; rw [hk]; rfl
  have f3 : encE a b c d t = 2 := by
    have : nE a b c d = 2 := by unfold nE; rw [hk]; rfl
    unfold encE; rw [if_pos (by omega), this]
  have f1 : encL a b c d t = 0 := by unfold encL; rw [if_neg (by omega)]
  have f2 : encH a b c d t = 0 := by unfold encH; rw [if_neg (by omega)]
  have P := fun (u : World) (hq : Primes u) => enclose_any a b c d t u hq
  simp only [f1, f2, f3] at P
  have HP := Lib.hid P
  have HC := Lib.hid hc
  have HR := Lib.hid hp
  clear P f1 f2 f3 h hp hk hc
  go_enter Tryd.func10, Tryd.ntmps10
  go_wp2_with fail
  have BW : Below w.heap.size w (w.alloc (.cells #[.int .i64 a, .int .i64 b, .int .i64 c, .int .i64 d] 47)) := by go_grown
  have BA := Box.new w #[.int .i64 a, .int .i64 b, .int .i64 c, .int .i64 d] 47 rfl
  refine (awake_any _ (HR.out.keep BW)).mono ?_
  rintro e w1 ⟨rfl, h1⟩
  have B1 : Below w.heap.size w w1 := below_via BW h1
  have z1 := B1.size
  have A1 := Lib.hid (BA.keep h1)
  have y1 := h1.size
  try simp at y1
  clear h1 BA
  obtain ⟨a0, a1, a2, a3, _⟩ := A1.out.four
  go_wp2_with fail
  refine (near_any a b c d _).mono ?_
  rintro e w8 ⟨nv, rfl, h8⟩
  have B8 : Below w.heap.size w w8 := below_via (by go_grown) h8
  have z8 := B8.size
  have A8 := Lib.hid (A1.out.keep h8)
  clear h8 a0 a1 a2 a3
  cases nv
  · go_wp2_with fail
    go_ret
    exact ⟨rfl, by go_grown⟩
  obtain ⟨a0, a1, a2, a3, _⟩ := A8.out.four
  go_wp2_with fail
  refine (HP.out _ (HR.out.keep B8)).mono ?_
  rintro e w2 ⟨rfl, h2⟩
  have B2 : Below w.heap.size w w2 := below_via (by go_grown) h2
  have z2 := B2.size
  have A2 := Lib.hid ((A8.out.keep h2).alloc (.cells #[.int .i64 (0), .int .i64 (0)] 37))
  have S2 := Lib.hid (Box.new w2 #[.int .i64 (0), .int .i64 (0)] 37 rfl)
  have V2 : Below w.heap.size w (w2.alloc (.cells #[.int .i64 (0), .int .i64 (0)] 37)) := by go_grown
  have y2 := h2.size
  try simp at y2
  clear h2 a0 a1 a2 a3
  obtain ⟨a0, a1, a2, a3, _⟩ := A2.out.four
  go_wp2_with fail
  have G2 := Lib.hid (Box.new (w2.alloc (.cells #[.int .i64 (0), .int .i64 (0)] 37)) #[.int .i64 a, .int .i64 b, .int .i64 c, .int .i64 d] 47 (n := w2.heap.size + 1) (by simp))
  refine (pitches1_any (w2.heap.size + 1) 1 a b c d _ (G2.out.cell 0) (G2.out.cell 1) (G2.out.cell 2) (G2.out.cell 3)).mono ?_
  rintro e w3 ⟨rfl, h3⟩
  have B3 : Below w.heap.size w w3 := below_via (by go_grown) h3
  have z3 := B3.size
  have A3 := Lib.hid ((A2.out.alloc (.cells #[.int .i64 a, .int .i64 b, .int .i64 c, .int .i64 d] 47)).keep h3); have S3 := Lib.hid ((S2.out.alloc (.cells #[.int .i64 a, .int .i64 b, .int .i64 c, .int .i64 d] 47)).keep h3)
  have y3 := h3.size
  try simp at y3
  clear h3 a0 a1 a2 a3
  rw [HC.out]
  obtain ⟨s0, s1, _⟩ := S3.out.two
  go_wp2_with (go_at_call 28; refine (Within_any _ _ _ _).mono ?_; rintro e w9 ⟨rfl, rfl⟩)
  go_ret
  exact ⟨rfl, by go_grown⟩

set_option maxRecDepth 100000 in
set_option maxHeartbeats 4000000 in
theorem lawEncloses_bad2 (a b c d t : Int) (w : World) (hp : Primes w) (h : chkP a b c d = 0) (ht : ¬ (1 ≤ t ∧ t ≤ 1000000000)) :
    Calls Tryd.prog 10 #[.agg #[.int .i64 a, .int .i64 b, .int .i64 c, .int .i64 d], .int .i64 t] w fun e w' => e = .returned (.bool true) ∧ Below w.heap.size w w' := by
  have hk : okP a b c d = true := by
    unfold chkP at h; split at h
    · assumption
    · omega
  have f3 : encE a b c d t = 2 := by
    have : nE a b c d = 0 := by unfold nE pE; rw [if_pos hk, if_pos (okN_of hk)]
    unfold encE; rw [if_neg (by omega), if_pos ht]
  have f1 : encL a b c d t = 0 := by unfold encL; rw [if_neg (by omega)]
  have f2 : encH a b c d t = 0 := by unfold encH; rw [if_neg (by omega)]
  have P := fun (u : World) (hq : Primes u) => enclose_any a b c d t u hq
  simp only [f1, f2, f3] at P
  have HP := Lib.hid P
  have HC := Lib.hid h
  have hi : inR t 1 1000000000 = false := by unfold inR; exact decide_eq_false ht
  have HR := Lib.hid hp
  clear P f1 f2 f3 h hp hk ht
  go_enter Tryd.func10, Tryd.ntmps10
  go_wp2_with fail
  have BW : Below w.heap.size w (w.alloc (.cells #[.int .i64 a, .int .i64 b, .int .i64 c, .int .i64 d] 47)) := by go_grown
  have BA := Box.new w #[.int .i64 a, .int .i64 b, .int .i64 c, .int .i64 d] 47 rfl
  refine (awake_any _ (HR.out.keep BW)).mono ?_
  rintro e w1 ⟨rfl, h1⟩
  have B1 : Below w.heap.size w w1 := below_via BW h1
  have z1 := B1.size
  have A1 := Lib.hid (BA.keep h1)
  have y1 := h1.size
  try simp at y1
  clear h1 BA
  obtain ⟨a0, a1, a2, a3, _⟩ := A1.out.four
  go_wp2_with fail
  refine (near_any a b c d _).mono ?_
  rintro e w8 ⟨nv, rfl, h8⟩
  have B8 : Below w.heap.size w w8 := below_via (by go_grown) h8
  have z8 := B8.size
  have A8 := Lib.hid (A1.out.keep h8)
  clear h8 a0 a1 a2 a3
  cases nv
  · go_wp2_with fail
    go_ret
    exact ⟨rfl, by go_grown⟩
  obtain ⟨a0, a1, a2, a3, _⟩ := A8.out.four
  go_wp2_with fail
  refine (HP.out _ (HR.out.keep B8)).mono ?_
  rintro e w2 ⟨rfl, h2⟩
  have B2 : Below w.heap.size w w2 := below_via (by go_grown) h2
  have z2 := B2.size
  have A2 := Lib.hid ((A8.out.keep h2).alloc (.cells #[.int .i64 (0), .int .i64 (0)] 37))
  have S2 := Lib.hid (Box.new w2 #[.int .i64 (0), .int .i64 (0)] 37 rfl)
  have V2 : Below w.heap.size w (w2.alloc (.cells #[.int .i64 (0), .int .i64 (0)] 37)) := by go_grown
  have y2 := h2.size
  try simp at y2
  clear h2 a0 a1 a2 a3
  obtain ⟨a0, a1, a2, a3, _⟩ := A2.out.four
  go_wp2_with fail
  have G2 := Lib.hid (Box.new (w2.alloc (.cells #[.int .i64 (0), .int .i64 (0)] 37)) #[.int .i64 a, .int .i64 b, .int .i64 c, .int .i64 d] 47 (n := w2.heap.size + 1) (by simp))
  refine (pitches1_any (w2.heap.size + 1) 1 a b c d _ (G2.out.cell 0) (G2.out.cell 1) (G2.out.cell 2) (G2.out.cell 3)).mono ?_
  rintro e w3 ⟨rfl, h3⟩
  have B3 : Below w.heap.size w w3 := below_via (by go_grown) h3
  have z3 := B3.size
  have A3 := Lib.hid ((A2.out.alloc (.cells #[.int .i64 a, .int .i64 b, .int .i64 c, .int .i64 d] 47)).keep h3); have S3 := Lib.hid ((S2.out.alloc (.cells #[.int .i64 a, .int .i64 b, .int .i64 c, .int .i64 d] 47)).keep h3)
  have y3 := h3.size
  try simp at y3
  clear h3 a0 a1 a2 a3
  rw [HC.out]
  obtain ⟨s0, s1, _⟩ := S3.out.two
  go_wp2_with (go_at_call 28; refine (Within_any _ _ _ _).mono ?_; rintro e w9 ⟨rfl, rfl⟩)
  go_ret
  exact ⟨rfl, by go_grown⟩

set_option maxRecDepth 100000 in
set_option maxHeartbeats 4000000 in
theorem lawEncloses_ok (a b c d t : Int) (w : World) (hp : Primes w) (h : chkP a b c d = 0) (t0 : 1 ≤ t) (t1 : t ≤ 1000000000) :
    Calls Tryd.prog 10 #[.agg #[.int .i64 a, .int .i64 b, .int .i64 c, .int .i64 d], .int .i64 t] w fun e w' => e = .returned (.bool true) ∧ Below w.heap.size w w' := by
  have hk : okP a b c d = true := by
    unfold chkP at h; split at h
    · assumption
    · omega
  have P := fun (u : World) (hq : Primes u) => enclose_any a b c d t u hq
  have Q := fun u : World => renclose_any a b c d t u hk t0 t1
  obtain ⟨⟨v0, v1⟩, v2, v3⟩ := enc_vals hk t0 t1
  generalize encL a b c d t = L at *
  generalize encH a b c d t = H at *
  generalize encE a b c d t = E at *
  have HP := Lib.hid P
  have HQ := Lib.hid Q
  have HC := Lib.hid h
  have hi : inR t 1 1000000000 = true := by unfold inR; exact decide_eq_true ⟨t0, t1⟩
  have hj : inR (H - L) 0 1 = true := by unfold inR; exact decide_eq_true ⟨v0, v1⟩
  have wr : IntKind.i64.wrap (H - L) = H - L := IntWalk.i64_in _ (by omega)
  have HR := Lib.hid hp
  clear P Q h hp hk
  go_enter Tryd.func10, Tryd.ntmps10
  go_wp2_with fail
  have BW : Below w.heap.size w (w.alloc (.cells #[.int .i64 a, .int .i64 b, .int .i64 c, .int .i64 d] 47)) := by go_grown
  have BA := Box.new w #[.int .i64 a, .int .i64 b, .int .i64 c, .int .i64 d] 47 rfl
  refine (awake_any _ (HR.out.keep BW)).mono ?_
  rintro e w1 ⟨rfl, h1⟩
  have B1 : Below w.heap.size w w1 := below_via BW h1
  have z1 := B1.size
  have A1 := Lib.hid (BA.keep h1)
  have y1 := h1.size
  try simp at y1
  clear h1 BA
  obtain ⟨a0, a1, a2, a3, _⟩ := A1.out.four
  go_wp2_with fail
  refine (near_any a b c d _).mono ?_
  rintro e w8 ⟨nv, rfl, h8⟩
  have B8 : Below w.heap.size w w8 := below_via (by go_grown) h8
  have z8 := B8.size
  have A8 := Lib.hid (A1.out.keep h8)
  clear h8 a0 a1 a2 a3
  cases nv
  · go_wp2_with fail
    go_ret
    exact ⟨rfl, by go_grown⟩
  obtain ⟨a0, a1, a2, a3, _⟩ := A8.out.four
  go_wp2_with fail
  refine (HP.out _ (HR.out.keep B8)).mono ?_
  rintro e w2 ⟨rfl, h2⟩
  have B2 : Below w.heap.size w w2 := below_via (by go_grown) h2
  have z2 := B2.size
  have A2 := Lib.hid ((A8.out.keep h2).alloc (.cells #[.int .i64 (L), .int .i64 (H)] 37))
  have S2 := Lib.hid (Box.new w2 #[.int .i64 (L), .int .i64 (H)] 37 rfl)
  have V2 : Below w.heap.size w (w2.alloc (.cells #[.int .i64 (L), .int .i64 (H)] 37)) := by go_grown
  have y2 := h2.size
  try simp at y2
  clear h2 a0 a1 a2 a3
  obtain ⟨a0, a1, a2, a3, _⟩ := A2.out.four
  go_wp2_with fail
  have G2 := Lib.hid (Box.new (w2.alloc (.cells #[.int .i64 (L), .int .i64 (H)] 37)) #[.int .i64 a, .int .i64 b, .int .i64 c, .int .i64 d] 47 (n := w2.heap.size + 1) (by simp))
  refine (pitches1_any (w2.heap.size + 1) 1 a b c d _ (G2.out.cell 0) (G2.out.cell 1) (G2.out.cell 2) (G2.out.cell 3)).mono ?_
  rintro e w3 ⟨rfl, h3⟩
  have B3 : Below w.heap.size w w3 := below_via (by go_grown) h3
  have z3 := B3.size
  have A3 := Lib.hid ((A2.out.alloc (.cells #[.int .i64 a, .int .i64 b, .int .i64 c, .int .i64 d] 47)).keep h3); have S3 := Lib.hid ((S2.out.alloc (.cells #[.int .i64 a, .int .i64 b, .int .i64 c, .int .i64 d] 47)).keep h3)
  have y3 := h3.size
  try simp at y3
  clear h3 a0 a1 a2 a3
  rw [HC.out]
  obtain ⟨a0, a1, a2, a3, _⟩ := A3.out.four
  go_wp2_with (go_at_call 28; refine (Within_any _ _ _ _).mono ?_; rintro e w9 ⟨rfl, rfl⟩)
  refine (HQ.out _).mono ?_
  rintro e w5 ⟨rfl, h5⟩
  have B5 : Below w.heap.size w w5 := below_via (by go_grown) h5
  have z5 := B5.size
  have S5 := Lib.hid (S3.out.keep h5)
  have l5 := S5.out.lt
  have y5 := h5.size
  clear h5 a0 a1 a2 a3
  obtain ⟨s0, s1, _⟩ := S5.out.two
  go_wp2_with (go_at_call 28; refine (Within_any _ _ _ _).mono ?_; rintro e w9 ⟨rfl, rfl⟩)
  go_ret
  exact ⟨rfl, by go_grown⟩
theorem lawEncloses (a b c d t : Int) (w : World) (hp : Primes w) (_ : -9223372036854775808 ≤ a) (_ : a ≤ 9223372036854775807) (_ : -9223372036854775808 ≤ b) (_ : b ≤ 9223372036854775807) (_ : -9223372036854775808 ≤ c) (_ : c ≤ 9223372036854775807) (_ : -9223372036854775808 ≤ d) (_ : d ≤ 9223372036854775807) (_ : -9223372036854775808 ≤ t) (_ : t ≤ 9223372036854775807) :
    Calls Tryd.prog 10 #[.agg #[.int .i64 a, .int .i64 b, .int .i64 c, .int .i64 d], .int .i64 t] w fun e w' => e = .returned (.bool true) ∧ Below w.heap.size w w' := by
  by_cases h : chkP a b c d = 0
  · by_cases ht : 1 ≤ t ∧ t ≤ 1000000000
    · exact lawEncloses_ok a b c d t w hp h ht.1 ht.2
    · exact lawEncloses_bad2 a b c d t w hp h ht
  · exact lawEncloses_bad1 a b c d t w hp h
end Go.Proofs.YtbagmfnedgjndaaDoor
