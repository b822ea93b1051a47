/-
  The walk of the law TopEnclosuresNest: it returns true, whatever the pitch and the multiples; older memory stays as it was. Its condition: the table of primes reads as it is laid.
-/
import Derived.Test.YtdecpekcdnagiaaDoorNst
import Derived.Test.YtdecpekcdnagiaaDoorCnt
import Derived.Test.YtdecpekcdnagiaaDoorNer
import Derived.Test.YtdecpekcdnagiaaDoorRng2
namespace Go.Proofs.YtdecpekcdnagiaaDoor
open Go.RowKit
theorem within_no {n lo hi : Int} (h : inR n lo hi = false) (w : World) : Calls Tryd.prog 6 #[.int .i64 n, .int .i64 lo, .int .i64 hi] w fun e w' => e = .returned (.bool false) ∧ w' = w := by
  have := Within_any n lo hi w; rw [h] at this; exact this
set_option maxRecDepth 100000 in
set_option maxHeartbeats 4000000 in
theorem nest_1 (a b c d m n Lm Hm Em Ln Hn En Lc Hc Ls Hs Es : Int) (w : World) (hp : Primes w) (m0 : 1 ≤ m) (m1 : m ≤ 30000) (n0 : 1 ≤ n) (n1 : n ≤ 30000)
    (hm : ∀ u : World, Primes u → Calls Tryd.prog 7 #[.agg #[.int .i64 a, .int .i64 b, .int .i64 c, .int .i64 d], .int .i64 m] u fun e w' => e = .returned (.tuple #[.agg #[.int .i64 Lm, .int .i64 Hm], .int .i64 Em]) ∧ Below u.heap.size u w') (hn : ∀ u : World, Primes u → Calls Tryd.prog 7 #[.agg #[.int .i64 a, .int .i64 b, .int .i64 c, .int .i64 d], .int .i64 n] u fun e w' => e = .returned (.tuple #[.agg #[.int .i64 Ln, .int .i64 Hn], .int .i64 En]) ∧ Below u.heap.size u w') (hc : ∀ u : World, Primes u → Calls Tryd.prog 7 #[.agg #[.int .i64 a, .int .i64 b, .int .i64 c, .int .i64 d], .int .i64 (m * n)] u fun e w' => e = .returned (.tuple #[.agg #[.int .i64 Lc, .int .i64 Hc], .int .i64 8]) ∧ Below u.heap.size u w') (hs : ∀ u : World, Primes u → Calls Tryd.prog 7 #[.agg #[.int .i64 a, .int .i64 b, .int .i64 c, .int .i64 d], .int .i64 (m + n)] u fun e w' => e = .returned (.tuple #[.agg #[.int .i64 Ls, .int .i64 Hs], .int .i64 Es]) ∧ Below u.heap.size u w') :
    Calls Tryd.prog 3 #[.agg #[.int .i64 a, .int .i64 b, .int .i64 c, .int .i64 d], .int .i64 m, .int .i64 n] w fun e w' => e = .returned (.bool true) ∧ Below w.heap.size w w' := by
  have HR := Lib.hid hp
  have XM := Lib.hid hm; have XN := Lib.hid hn; have XC := Lib.hid hc; have XS := Lib.hid hs
  have im : inR m 1 30000 = true := decide_eq_true ⟨m0, m1⟩
  have jn : inR n 1 30000 = true := decide_eq_true ⟨n0, n1⟩
  have mn0 : 1 ≤ m * n := by have := Int.mul_le_mul_of_nonneg_left n0 (show 0 ≤ m by omega); omega
  have mn1 : m * n ≤ 900000000 := by
    have h1 := Int.mul_le_mul_of_nonneg_left n1 (show 0 ≤ m by omega)
    omega
  have wmn : IntKind.i64.wrap (m * n) = m * n := IntWalk.i64_in _ (by omega)
  clear hp hm hn hc hs mn0 mn1
  go_enter Tryd.func3, Tryd.ntmps3
  go_wp2_with fail
  have BW : Below w.heap.size w (w.alloc (.cells #[.int .i64 a, .int .i64 b, .int .i64 c, .int .i64 d] 23)) := by go_grown
  have BA := Box.new w #[.int .i64 a, .int .i64 b, .int .i64 c, .int .i64 d] 23 rfl
  refine (counts_any _ (HR.out.keep BW)).mono ?_
  rintro e w1 ⟨rfl, h1⟩
  have B1 : Below w.heap.size w w1 := below_via BW h1
  have z1 := B1.size
  have A1 := Lib.hid (BA.keep h1)
  clear h1 BA BW
  obtain ⟨a0, a1, a2, a3, _⟩ := A1.out.four
  go_wp2_with fail
  refine (near60_any a b c d _).mono ?_
  rintro e w8 ⟨nv, rfl, _, h8⟩
  have B8 : Below w.heap.size w w8 := below_via (by go_grown) h8
  have z8 := B8.size
  have A8 := Lib.hid (A1.out.keep h8)
  clear h8 a0 a1 a2 a3 A1
  cases nv
  · go_wp2_with fail
    go_ret
    exact ⟨rfl, by go_grown⟩
  obtain ⟨a0, a1, a2, a3, _⟩ := A8.out.four
  go_wp2_with (go_at_call 6; refine (Within_any _ _ _ _).mono ?_; rintro e w9 ⟨rfl, rfl⟩)
  refine (XM.out _ (HR.out.keep (by (repeat' (first | (with_reducible exact Below.refl _ _) | (with_reducible assumption) | (with_reducible refine Below.drew ?_) | (with_reducible refine below_drewN ?_ _) | (with_reducible refine Below.setCell ?_ ?_ _) | (with_reducible refine Below.alloc ?_ ?_ _) | go_size | omega))))).mono ?_
  rintro e w10 ⟨rfl, h10⟩
  have B10 : Below w.heap.size w w10 := below_via (by go_grown) h10
  have z10 := B10.size
  have y10 := h10.size
  try simp at y10
  have A10 := Lib.hid ((A8.out.keep h10).alloc (.cells #[.int .i64 Lm, .int .i64 Hm] 28))
  have M10 := Lib.hid (Box.new w10 #[.int .i64 Lm, .int .i64 Hm] 28 rfl)
  clear h10 a0 a1 a2 a3 A8
  obtain ⟨a0, a1, a2, a3, _⟩ := A10.out.four
  go_wp2_with fail
  refine (XN.out _ (HR.out.keep (by (repeat' (first | (with_reducible exact Below.refl _ _) | (with_reducible assumption) | (with_reducible refine Below.drew ?_) | (with_reducible refine below_drewN ?_ _) | (with_reducible refine Below.setCell ?_ ?_ _) | (with_reducible refine Below.alloc ?_ ?_ _) | go_size | omega))))).mono ?_
  rintro e w11 ⟨rfl, h11⟩
  have B11 : Below w.heap.size w w11 := below_via (by go_grown) h11
  have z11 := B11.size
  have y11 := h11.size
  try simp at y11
  have A11 := Lib.hid ((A10.out.keep h11).alloc (.cells #[.int .i64 Ln, .int .i64 Hn] 28))
  have M11 := Lib.hid ((M10.out.keep h11).alloc (.cells #[.int .i64 Ln, .int .i64 Hn] 28))
  have N11 := Lib.hid (Box.new w11 #[.int .i64 Ln, .int .i64 Hn] 28 rfl)
  clear h11 a0 a1 a2 a3 A10 M10
  obtain ⟨a0, a1, a2, a3, _⟩ := A11.out.four
  go_wp2_with fail
  refine (XC.out _ (HR.out.keep (by (repeat' (first | (with_reducible exact Below.refl _ _) | (with_reducible assumption) | (with_reducible refine Below.drew ?_) | (with_reducible refine below_drewN ?_ _) | (with_reducible refine Below.setCell ?_ ?_ _) | (with_reducible refine Below.alloc ?_ ?_ _) | go_size | omega))))).mono ?_
  rintro e w12 ⟨rfl, h12⟩
  have B12 : Below w.heap.size w w12 := below_via (by go_grown) h12
  have z12 := B12.size
  have y12 := h12.size
  try simp at y12
  have A12 := Lib.hid ((A11.out.keep h12).alloc (.cells #[.int .i64 Lc, .int .i64 Hc] 28))
  have M12 := Lib.hid ((M11.out.keep h12).alloc (.cells #[.int .i64 Lc, .int .i64 Hc] 28))
  have N12 := Lib.hid ((N11.out.keep h12).alloc (.cells #[.int .i64 Lc, .int .i64 Hc] 28))
  have C12 := Lib.hid (Box.new w12 #[.int .i64 Lc, .int .i64 Hc] 28 rfl)
  clear h12 a0 a1 a2 a3 A11 M11 N11
  obtain ⟨a0, a1, a2, a3, _⟩ := A12.out.four
  go_wp2_with fail
  refine (XS.out _ (HR.out.keep (by (repeat' (first | (with_reducible exact Below.refl _ _) | (with_reducible assumption) | (with_reducible refine Below.drew ?_) | (with_reducible refine below_drewN ?_ _) | (with_reducible refine Below.setCell ?_ ?_ _) | (with_reducible refine Below.alloc ?_ ?_ _) | go_size | omega))))).mono ?_
  rintro e w13 ⟨rfl, h13⟩
  have B13 : Below w.heap.size w w13 := below_via (by go_grown) h13
  have z13 := B13.size
  have y13 := h13.size
  try simp at y13
  have A13 := Lib.hid ((A12.out.keep h13).alloc (.cells #[.int .i64 Ls, .int .i64 Hs] 28))
  have M13 := Lib.hid ((M12.out.keep h13).alloc (.cells #[.int .i64 Ls, .int .i64 Hs] 28))
  have N13 := Lib.hid ((N12.out.keep h13).alloc (.cells #[.int .i64 Ls, .int .i64 Hs] 28))
  have C13 := Lib.hid ((C12.out.keep h13).alloc (.cells #[.int .i64 Ls, .int .i64 Hs] 28))
  have S13 := Lib.hid (Box.new w13 #[.int .i64 Ls, .int .i64 Hs] 28 rfl)
  clear h13 a0 a1 a2 a3 A12 M12 N12 C12
  obtain ⟨a0, a1, a2, a3, _⟩ := A13.out.four
  go_wp2_with fail
  go_ret
  exact ⟨rfl, by go_grown⟩
set_option maxRecDepth 100000 in
set_option maxHeartbeats 4000000 in
theorem nest_2 (a b c d m n Lm Hm Em Ln Hn En Lc Hc Ls Hs : Int) (w : World) (hp : Primes w) (m0 : 1 ≤ m) (m1 : m ≤ 30000) (n0 : 1 ≤ n) (n1 : n ≤ 30000)
    (hm : ∀ u : World, Primes u → Calls Tryd.prog 7 #[.agg #[.int .i64 a, .int .i64 b, .int .i64 c, .int .i64 d], .int .i64 m] u fun e w' => e = .returned (.tuple #[.agg #[.int .i64 Lm, .int .i64 Hm], .int .i64 Em]) ∧ Below u.heap.size u w') (hn : ∀ u : World, Primes u → Calls Tryd.prog 7 #[.agg #[.int .i64 a, .int .i64 b, .int .i64 c, .int .i64 d], .int .i64 n] u fun e w' => e = .returned (.tuple #[.agg #[.int .i64 Ln, .int .i64 Hn], .int .i64 En]) ∧ Below u.heap.size u w') (hc : ∀ u : World, Primes u → Calls Tryd.prog 7 #[.agg #[.int .i64 a, .int .i64 b, .int .i64 c, .int .i64 d], .int .i64 (m * n)] u fun e w' => e = .returned (.tuple #[.agg #[.int .i64 Lc, .int .i64 Hc], .int .i64 0]) ∧ Below u.heap.size u w') (hs : ∀ u : World, Primes u → Calls Tryd.prog 7 #[.agg #[.int .i64 a, .int .i64 b, .int .i64 c, .int .i64 d], .int .i64 (m + n)] u fun e w' => e = .returned (.tuple #[.agg #[.int .i64 Ls, .int .i64 Hs], .int .i64 8]) ∧ Below u.heap.size u w') :
    Calls Tryd.prog 3 #[.agg #[.int .i64 a, .int .i64 b, .int .i64 c, .int .i64 d], .int .i64 m, .int .i64 n] w fun e w' => e = .returned (.bool true) ∧ Below w.heap.size w w' := by
  have HR := Lib.hid hp
  have XM := Lib.hid hm; have XN := Lib.hid hn; have XC := Lib.hid hc; have XS := Lib.hid hs
  have im : inR m 1 30000 = true := decide_eq_true ⟨m0, m1⟩
  have jn : inR n 1 30000 = true := decide_eq_true ⟨n0, n1⟩
  have mn0 : 1 ≤ m * n := by have := Int.mul_le_mul_of_nonneg_left n0 (show 0 ≤ m by omega); omega
  have mn1 : m * n ≤ 900000000 := by
    have h1 := Int.mul_le_mul_of_nonneg_left n1 (show 0 ≤ m by omega)
    omega
  have wmn : IntKind.i64.wrap (m * n) = m * n := IntWalk.i64_in _ (by omega)
  clear hp hm hn hc hs mn0 mn1
  go_enter Tryd.func3, Tryd.ntmps3
  go_wp2_with fail
  have BW : Below w.heap.size w (w.alloc (.cells #[.int .i64 a, .int .i64 b, .int .i64 c, .int .i64 d] 23)) := by go_grown
  have BA := Box.new w #[.int .i64 a, .int .i64 b, .int .i64 c, .int .i64 d] 23 rfl
  refine (counts_any _ (HR.out.keep BW)).mono ?_
  rintro e w1 ⟨rfl, h1⟩
  have B1 : Below w.heap.size w w1 := below_via BW h1
  have z1 := B1.size
  have A1 := Lib.hid (BA.keep h1)
  clear h1 BA BW
  obtain ⟨a0, a1, a2, a3, _⟩ := A1.out.four
  go_wp2_with fail
  refine (near60_any a b c d _).mono ?_
  rintro e w8 ⟨nv, rfl, _, h8⟩
  have B8 : Below w.heap.size w w8 := below_via (by go_grown) h8
  have z8 := B8.size
  have A8 := Lib.hid (A1.out.keep h8)
  clear h8 a0 a1 a2 a3 A1
  cases nv
  · go_wp2_with fail
    go_ret
    exact ⟨rfl, by go_grown⟩
  obtain ⟨a0, a1, a2, a3, _⟩ := A8.out.four
  go_wp2_with (go_at_call 6; refine (Within_any _ _ _ _).mono ?_; rintro e w9 ⟨rfl, rfl⟩)
  refine (XM.out _ (HR.out.keep (by (repeat' (first | (with_reducible exact Below.refl _ _) | (with_reducible assumption) | (with_reducible refine Below.drew ?_) | (with_reducible refine below_drewN ?_ _) | (with_reducible refine Below.setCell ?_ ?_ _) | (with_reducible refine Below.alloc ?_ ?_ _) | go_size | omega))))).mono ?_
  rintro e w10 ⟨rfl, h10⟩
  have B10 : Below w.heap.size w w10 := below_via (by go_grown) h10
  have z10 := B10.size
  have y10 := h10.size
  try simp at y10
  have A10 := Lib.hid ((A8.out.keep h10).alloc (.cells #[.int .i64 Lm, .int .i64 Hm] 28))
  have M10 := Lib.hid (Box.new w10 #[.int .i64 Lm, .int .i64 Hm] 28 rfl)
  clear h10 a0 a1 a2 a3 A8
  obtain ⟨a0, a1, a2, a3, _⟩ := A10.out.four
  go_wp2_with fail
  refine (XN.out _ (HR.out.keep (by (repeat' (first | (with_reducible exact Below.refl _ _) | (with_reducible assumption) | (with_reducible refine Below.drew ?_) | (with_reducible refine below_drewN ?_ _) | (with_reducible refine Below.setCell ?_ ?_ _) | (with_reducible refine Below.alloc ?_ ?_ _) | go_size | omega))))).mono ?_
  rintro e w11 ⟨rfl, h11⟩
  have B11 : Below w.heap.size w w11 := below_via (by go_grown) h11
  have z11 := B11.size
  have y11 := h11.size
  try simp at y11
  have A11 := Lib.hid ((A10.out.keep h11).alloc (.cells #[.int .i64 Ln, .int .i64 Hn] 28))
  have M11 := Lib.hid ((M10.out.keep h11).alloc (.cells #[.int .i64 Ln, .int .i64 Hn] 28))
  have N11 := Lib.hid (Box.new w11 #[.int .i64 Ln, .int .i64 Hn] 28 rfl)
  clear h11 a0 a1 a2 a3 A10 M10
  obtain ⟨a0, a1, a2, a3, _⟩ := A11.out.four
  go_wp2_with fail
  refine (XC.out _ (HR.out.keep (by (repeat' (first | (with_reducible exact Below.refl _ _) | (with_reducible assumption) | (with_reducible refine Below.drew ?_) | (with_reducible refine below_drewN ?_ _) | (with_reducible refine Below.setCell ?_ ?_ _) | (with_reducible refine Below.alloc ?_ ?_ _) | go_size | omega))))).mono ?_
  rintro e w12 ⟨rfl, h12⟩
  have B12 : Below w.heap.size w w12 := below_via (by go_grown) h12
  have z12 := B12.size
  have y12 := h12.size
  try simp at y12
  have A12 := Lib.hid ((A11.out.keep h12).alloc (.cells #[.int .i64 Lc, .int .i64 Hc] 28))
  have M12 := Lib.hid ((M11.out.keep h12).alloc (.cells #[.int .i64 Lc, .int .i64 Hc] 28))
  have N12 := Lib.hid ((N11.out.keep h12).alloc (.cells #[.int .i64 Lc, .int .i64 Hc] 28))
  have C12 := Lib.hid (Box.new w12 #[.int .i64 Lc, .int .i64 Hc] 28 rfl)
  clear h12 a0 a1 a2 a3 A11 M11 N11
  obtain ⟨a0, a1, a2, a3, _⟩ := A12.out.four
  go_wp2_with fail
  refine (XS.out _ (HR.out.keep (by (repeat' (first | (with_reducible exact Below.refl _ _) | (with_reducible assumption) | (with_reducible refine Below.drew ?_) | (with_reducible refine below_drewN ?_ _) | (with_reducible refine Below.setCell ?_ ?_ _) | (with_reducible refine Below.alloc ?_ ?_ _) | go_size | omega))))).mono ?_
  rintro e w13 ⟨rfl, h13⟩
  have B13 : Below w.heap.size w w13 := below_via (by go_grown) h13
  have z13 := B13.size
  have y13 := h13.size
  try simp at y13
  have A13 := Lib.hid ((A12.out.keep h13).alloc (.cells #[.int .i64 Ls, .int .i64 Hs] 28))
  have M13 := Lib.hid ((M12.out.keep h13).alloc (.cells #[.int .i64 Ls, .int .i64 Hs] 28))
  have N13 := Lib.hid ((N12.out.keep h13).alloc (.cells #[.int .i64 Ls, .int .i64 Hs] 28))
  have C13 := Lib.hid ((C12.out.keep h13).alloc (.cells #[.int .i64 Ls, .int .i64 Hs] 28))
  have S13 := Lib.hid (Box.new w13 #[.int .i64 Ls, .int .i64 Hs] 28 rfl)
  clear h13 a0 a1 a2 a3 A12 M12 N12 C12
  obtain ⟨a0, a1, a2, a3, _⟩ := A13.out.four
  go_wp2_with fail
  go_ret
  exact ⟨rfl, by go_grown⟩
set_option maxRecDepth 100000 in
set_option maxHeartbeats 4000000 in
theorem nest_3p (a b c d m n Lm Hm Ln Hn Lc Hc Ls Hs : Int) (w : World) (hp : Primes w) (m0 : 1 ≤ m) (m1 : m ≤ 30000) (n0 : 1 ≤ n) (n1 : n ≤ 30000)
    (hm : ∀ u : World, Primes u → Calls Tryd.prog 7 #[.agg #[.int .i64 a, .int .i64 b, .int .i64 c, .int .i64 d], .int .i64 m] u fun e w' => e = .returned (.tuple #[.agg #[.int .i64 Lm, .int .i64 Hm], .int .i64 0]) ∧ Below u.heap.size u w') (hn : ∀ u : World, Primes u → Calls Tryd.prog 7 #[.agg #[.int .i64 a, .int .i64 b, .int .i64 c, .int .i64 d], .int .i64 n] u fun e w' => e = .returned (.tuple #[.agg #[.int .i64 Ln, .int .i64 Hn], .int .i64 0]) ∧ Below u.heap.size u w') (hc : ∀ u : World, Primes u → Calls Tryd.prog 7 #[.agg #[.int .i64 a, .int .i64 b, .int .i64 c, .int .i64 d], .int .i64 (m * n)] u fun e w' => e = .returned (.tuple #[.agg #[.int .i64 Lc, .int .i64 Hc], .int .i64 0]) ∧ Below u.heap.size u w') (hs : ∀ u : World, Primes u → Calls Tryd.prog 7 #[.agg #[.int .i64 a, .int .i64 b, .int .i64 c, .int .i64 d], .int .i64 (m + n)] u fun e w' => e = .returned (.tuple #[.agg #[.int .i64 Ls, .int .i64 Hs], .int .i64 0]) ∧ Below u.heap.size u w')
    (q1 : 0 ≤ Lm ∧ Lm ≤ Hm ∧ Hm ≤ 1000000000000000) (q2 : 0 ≤ Ln ∧ Ln ≤ Hn ∧ Hn ≤ 1000000000000000) (q3 : 0 ≤ Lc ∧ Lc ≤ 1000000000000000) (q4 : Lm * n ≤ Lc) (q5 : Hc ≤ Hm * n ∧ Hm * n ≤ 2000000000000000) (q6 : Lm + Ln ≤ Ls) (q7 : Hs ≤ Hm + Hn) (hpl : ∀ u : World, Calls Tryd.prog 9 #[.agg #[.int .i64 Lm, .int .i64 Hm], .agg #[.int .i64 Ln, .int .i64 Hn]] u fun e w' => e = .returned (.tuple #[.agg #[.int .i64 (Lm + Ln), .int .i64 (Hm + Hn)], .int .i64 0]) ∧ Below u.heap.size u w') :
    Calls Tryd.prog 3 #[.agg #[.int .i64 a, .int .i64 b, .int .i64 c, .int .i64 d], .int .i64 m, .int .i64 n] w fun e w' => e = .returned (.bool true) ∧ Below w.heap.size w w' := by
  have HR := Lib.hid hp
  have XM := Lib.hid hm; have XN := Lib.hid hn; have XC := Lib.hid hc; have XS := Lib.hid hs
  have im : inR m 1 30000 = true := decide_eq_true ⟨m0, m1⟩
  have jn : inR n 1 30000 = true := decide_eq_true ⟨n0, n1⟩
  have mn0 : 1 ≤ m * n := by have := Int.mul_le_mul_of_nonneg_left n0 (show 0 ≤ m by omega); omega
  have mn1 : m * n ≤ 900000000 := by
    have h1 := Int.mul_le_mul_of_nonneg_left n1 (show 0 ≤ m by omega)
    omega
  have wmn : IntKind.i64.wrap (m * n) = m * n := IntWalk.i64_in _ (by omega)
  have XP := Lib.hid hpl
  obtain ⟨q10, q11, q12⟩ := q1
  obtain ⟨q20, q21, q22⟩ := q2
  obtain ⟨q30, q31⟩ := q3
  obtain ⟨q50, q51⟩ := q5
  have p0 : 0 ≤ Lm * n := Int.mul_nonneg q10 (by omega)
  have p1 : 0 ≤ Hm * n := Int.mul_nonneg (by omega) (by omega)
  have wr1 : IntKind.i64.wrap (Lm * n) = Lm * n := IntWalk.i64_in _ (by omega)
  have wr2 : IntKind.i64.wrap (Hm * n) = Hm * n := IntWalk.i64_in _ (by omega)
  have s1 : sz Hm ≤ 1000000000000000 := by unfold sz; omega
  have s2 : sz Lm ≤ 1000000000000000 := by unfold sz; omega
  clear hp hm hn hc hs mn0 mn1 hpl p0 p1
  go_enter Tryd.func3, Tryd.ntmps3
  go_wp2_with fail
  have BW : Below w.heap.size w (w.alloc (.cells #[.int .i64 a, .int .i64 b, .int .i64 c, .int .i64 d] 23)) := by go_grown
  have BA := Box.new w #[.int .i64 a, .int .i64 b, .int .i64 c, .int .i64 d] 23 rfl
  refine (counts_any _ (HR.out.keep BW)).mono ?_
  rintro e w1 ⟨rfl, h1⟩
  have B1 : Below w.heap.size w w1 := below_via BW h1
  have z1 := B1.size
  have A1 := Lib.hid (BA.keep h1)
  clear h1 BA BW
  obtain ⟨a0, a1, a2, a3, _⟩ := A1.out.four
  go_wp2_with fail
  refine (near60_any a b c d _).mono ?_
  rintro e w8 ⟨nv, rfl, _, h8⟩
  have B8 : Below w.heap.size w w8 := below_via (by go_grown) h8
  have z8 := B8.size
  have A8 := Lib.hid (A1.out.keep h8)
  clear h8 a0 a1 a2 a3 A1
  cases nv
  · go_wp2_with fail
    go_ret
    exact ⟨rfl, by go_grown⟩
  obtain ⟨a0, a1, a2, a3, _⟩ := A8.out.four
  go_wp2_with (go_at_call 6; refine (Within_any _ _ _ _).mono ?_; rintro e w9 ⟨rfl, rfl⟩)
  refine (XM.out _ (HR.out.keep (by (repeat' (first | (with_reducible exact Below.refl _ _) | (with_reducible assumption) | (with_reducible refine Below.drew ?_) | (with_reducible refine below_drewN ?_ _) | (with_reducible refine Below.setCell ?_ ?_ _) | (with_reducible refine Below.alloc ?_ ?_ _) | go_size | omega))))).mono ?_
  rintro e w10 ⟨rfl, h10⟩
  have B10 : Below w.heap.size w w10 := below_via (by go_grown) h10
  have z10 := B10.size
  have y10 := h10.size
  try simp at y10
  have A10 := Lib.hid ((A8.out.keep h10).alloc (.cells #[.int .i64 Lm, .int .i64 Hm] 28))
  have M10 := Lib.hid (Box.new w10 #[.int .i64 Lm, .int .i64 Hm] 28 rfl)
  clear h10 a0 a1 a2 a3 A8
  obtain ⟨a0, a1, a2, a3, _⟩ := A10.out.four
  go_wp2_with fail
  refine (XN.out _ (HR.out.keep (by (repeat' (first | (with_reducible exact Below.refl _ _) | (with_reducible assumption) | (with_reducible refine Below.drew ?_) | (with_reducible refine below_drewN ?_ _) | (with_reducible refine Below.setCell ?_ ?_ _) | (with_reducible refine Below.alloc ?_ ?_ _) | go_size | omega))))).mono ?_
  rintro e w11 ⟨rfl, h11⟩
  have B11 : Below w.heap.size w w11 := below_via (by go_grown) h11
  have z11 := B11.size
  have y11 := h11.size
  try simp at y11
  have A11 := Lib.hid ((A10.out.keep h11).alloc (.cells #[.int .i64 Ln, .int .i64 Hn] 28))
  have M11 := Lib.hid ((M10.out.keep h11).alloc (.cells #[.int .i64 Ln, .int .i64 Hn] 28))
  have N11 := Lib.hid (Box.new w11 #[.int .i64 Ln, .int .i64 Hn] 28 rfl)
  clear h11 a0 a1 a2 a3 A10 M10
  obtain ⟨a0, a1, a2, a3, _⟩ := A11.out.four
  go_wp2_with fail
  refine (XC.out _ (HR.out.keep (by (repeat' (first | (with_reducible exact Below.refl _ _) | (with_reducible assumption) | (with_reducible refine Below.drew ?_) | (with_reducible refine below_drewN ?_ _) | (with_reducible refine Below.setCell ?_ ?_ _) | (with_reducible refine Below.alloc ?_ ?_ _) | go_size | omega))))).mono ?_
  rintro e w12 ⟨rfl, h12⟩
  have B12 : Below w.heap.size w w12 := below_via (by go_grown) h12
  have z12 := B12.size
  have y12 := h12.size
  try simp at y12
  have A12 := Lib.hid ((A11.out.keep h12).alloc (.cells #[.int .i64 Lc, .int .i64 Hc] 28))
  have M12 := Lib.hid ((M11.out.keep h12).alloc (.cells #[.int .i64 Lc, .int .i64 Hc] 28))
  have N12 := Lib.hid ((N11.out.keep h12).alloc (.cells #[.int .i64 Lc, .int .i64 Hc] 28))
  have C12 := Lib.hid (Box.new w12 #[.int .i64 Lc, .int .i64 Hc] 28 rfl)
  clear h12 a0 a1 a2 a3 A11 M11 N11
  obtain ⟨a0, a1, a2, a3, _⟩ := A12.out.four
  go_wp2_with fail
  refine (XS.out _ (HR.out.keep (by (repeat' (first | (with_reducible exact Below.refl _ _) | (with_reducible assumption) | (with_reducible refine Below.drew ?_) | (with_reducible refine below_drewN ?_ _) | (with_reducible refine Below.setCell ?_ ?_ _) | (with_reducible refine Below.alloc ?_ ?_ _) | go_size | omega))))).mono ?_
  rintro e w13 ⟨rfl, h13⟩
  have B13 : Below w.heap.size w w13 := below_via (by go_grown) h13
  have z13 := B13.size
  have y13 := h13.size
  try simp at y13
  have A13 := Lib.hid ((A12.out.keep h13).alloc (.cells #[.int .i64 Ls, .int .i64 Hs] 28))
  have M13 := Lib.hid ((M12.out.keep h13).alloc (.cells #[.int .i64 Ls, .int .i64 Hs] 28))
  have N13 := Lib.hid ((N12.out.keep h13).alloc (.cells #[.int .i64 Ls, .int .i64 Hs] 28))
  have C13 := Lib.hid ((C12.out.keep h13).alloc (.cells #[.int .i64 Ls, .int .i64 Hs] 28))
  have S13 := Lib.hid (Box.new w13 #[.int .i64 Ls, .int .i64 Hs] 28 rfl)
  clear h13 a0 a1 a2 a3 A12 M12 N12 C12
  obtain ⟨a0, a1, a2, a3, _⟩ := A13.out.four
  obtain ⟨u0, u1, _⟩ := M13.out.two
  obtain ⟨v0, v1, _⟩ := N13.out.two
  go_wp2_with (first | (go_at_call 8; refine (Abs_any _ _ (by omega) (by omega)).mono ?_; rintro e w9 ⟨rfl, rfl⟩))
  refine (XP.out _).mono ?_
  rintro e w14 ⟨rfl, h14⟩
  have B14 : Below w.heap.size w w14 := below_via (by go_grown) h14
  have z14 := B14.size
  have M14 := Lib.hid (M13.out.keep h14); have C14 := Lib.hid (C13.out.keep h14); have S14 := Lib.hid (S13.out.keep h14)
  clear h14 u0 u1 v0 v1 a0 a1 a2 a3 A13 N13 M13 C13 S13
  have U14 := Lib.hid (Box.new w14 #[.int .i64 (Lm + Ln), .int .i64 (Hm + Hn)] 28 rfl)
  obtain ⟨u0, u1, _⟩ := (M14.out.alloc (.cells #[.int .i64 (Lm + Ln), .int .i64 (Hm + Hn)] 28)).two
  obtain ⟨v0, v1, _⟩ := (C14.out.alloc (.cells #[.int .i64 (Lm + Ln), .int .i64 (Hm + Hn)] 28)).two
  obtain ⟨x0, x1, _⟩ := (S14.out.alloc (.cells #[.int .i64 (Lm + Ln), .int .i64 (Hm + Hn)] 28)).two
  obtain ⟨y0, y1, _⟩ := U14.out.two
  go_wp2_with fail
  go_ret
  exact ⟨rfl, by go_grown⟩
set_option maxRecDepth 100000 in
set_option maxHeartbeats 4000000 in
theorem nest_3q (a b c d m n Lm Hm Ln Hn Lc Hc Ls Hs : Int) (w : World) (hp : Primes w) (m0 : 1 ≤ m) (m1 : m ≤ 30000) (n0 : 1 ≤ n) (n1 : n ≤ 30000)
    (hm : ∀ u : World, Primes u → Calls Tryd.prog 7 #[.agg #[.int .i64 a, .int .i64 b, .int .i64 c, .int .i64 d], .int .i64 m] u fun e w' => e = .returned (.tuple #[.agg #[.int .i64 Lm, .int .i64 Hm], .int .i64 0]) ∧ Below u.heap.size u w') (hn : ∀ u : World, Primes u → Calls Tryd.prog 7 #[.agg #[.int .i64 a, .int .i64 b, .int .i64 c, .int .i64 d], .int .i64 n] u fun e w' => e = .returned (.tuple #[.agg #[.int .i64 Ln, .int .i64 Hn], .int .i64 0]) ∧ Below u.heap.size u w') (hc : ∀ u : World, Primes u → Calls Tryd.prog 7 #[.agg #[.int .i64 a, .int .i64 b, .int .i64 c, .int .i64 d], .int .i64 (m * n)] u fun e w' => e = .returned (.tuple #[.agg #[.int .i64 Lc, .int .i64 Hc], .int .i64 0]) ∧ Below u.heap.size u w') (hs : ∀ u : World, Primes u → Calls Tryd.prog 7 #[.agg #[.int .i64 a, .int .i64 b, .int .i64 c, .int .i64 d], .int .i64 (m + n)] u fun e w' => e = .returned (.tuple #[.agg #[.int .i64 Ls, .int .i64 Hs], .int .i64 0]) ∧ Below u.heap.size u w')
    (q1 : 0 ≤ Lm ∧ Lm ≤ Hm ∧ Hm ≤ 1000000000000000) (q2 : 0 ≤ Ln ∧ Ln ≤ Hn ∧ Hn ≤ 1000000000000000) (q3 : 0 ≤ Lc ∧ Lc ≤ 1000000000000000) (q4 : Lm * n ≤ Lc) (q5 : Hc ≤ Hm * n ∧ Hm * n ≤ 2000000000000000) (q6 : Lm + Ln ≤ Ls) (q7 : Hs ≤ Hm + Hn) (hpl : ∀ u : World, Calls Tryd.prog 9 #[.agg #[.int .i64 Lm, .int .i64 Hm], .agg #[.int .i64 Ln, .int .i64 Hn]] u fun e w' => e = .returned (.tuple #[.agg #[.int .i64 0, .int .i64 0], .int .i64 8]) ∧ Below u.heap.size u w') :
    Calls Tryd.prog 3 #[.agg #[.int .i64 a, .int .i64 b, .int .i64 c, .int .i64 d], .int .i64 m, .int .i64 n] w fun e w' => e = .returned (.bool true) ∧ Below w.heap.size w w' := by
  have HR := Lib.hid hp
  have XM := Lib.hid hm; have XN := Lib.hid hn; have XC := Lib.hid hc; have XS := Lib.hid hs
  have im : inR m 1 30000 = true := decide_eq_true ⟨m0, m1⟩
  have jn : inR n 1 30000 = true := decide_eq_true ⟨n0, n1⟩
  have mn0 : 1 ≤ m * n := by have := Int.mul_le_mul_of_nonneg_left n0 (show 0 ≤ m by omega); omega
  have mn1 : m * n ≤ 900000000 := by
    have h1 := Int.mul_le_mul_of_nonneg_left n1 (show 0 ≤ m by omega)
    omega
  have wmn : IntKind.i64.wrap (m * n) = m * n := IntWalk.i64_in _ (by omega)
  have XP := Lib.hid hpl
  obtain ⟨q10, q11, q12⟩ := q1
  obtain ⟨q20, q21, q22⟩ := q2
  obtain ⟨q30, q31⟩ := q3
  obtain ⟨q50, q51⟩ := q5
  have p0 : 0 ≤ Lm * n := Int.mul_nonneg q10 (by omega)
  have p1 : 0 ≤ Hm * n := Int.mul_nonneg (by omega) (by omega)
  have wr1 : IntKind.i64.wrap (Lm * n) = Lm * n := IntWalk.i64_in _ (by omega)
  have wr2 : IntKind.i64.wrap (Hm * n) = Hm * n := IntWalk.i64_in _ (by omega)
  have s1 : sz Hm ≤ 1000000000000000 := by unfold sz; omega
  have s2 : sz Lm ≤ 1000000000000000 := by unfold sz; omega
  clear hp hm hn hc hs mn0 mn1 hpl p0 p1
  go_enter Tryd.func3, Tryd.ntmps3
  go_wp2_with fail
  have BW : Below w.heap.size w (w.alloc (.cells #[.int .i64 a, .int .i64 b, .int .i64 c, .int .i64 d] 23)) := by go_grown
  have BA := Box.new w #[.int .i64 a, .int .i64 b, .int .i64 c, .int .i64 d] 23 rfl
  refine (counts_any _ (HR.out.keep BW)).mono ?_
  rintro e w1 ⟨rfl, h1⟩
  have B1 : Below w.heap.size w w1 := below_via BW h1
  have z1 := B1.size
  have A1 := Lib.hid (BA.keep h1)
  clear h1 BA BW
  obtain ⟨a0, a1, a2, a3, _⟩ := A1.out.four
  go_wp2_with fail
  refine (near60_any a b c d _).mono ?_
  rintro e w8 ⟨nv, rfl, _, h8⟩
  have B8 : Below w.heap.size w w8 := below_via (by go_grown) h8
  have z8 := B8.size
  have A8 := Lib.hid (A1.out.keep h8)
  clear h8 a0 a1 a2 a3 A1
  cases nv
  · go_wp2_with fail
    go_ret
    exact ⟨rfl, by go_grown⟩
  obtain ⟨a0, a1, a2, a3, _⟩ := A8.out.four
  go_wp2_with (go_at_call 6; refine (Within_any _ _ _ _).mono ?_; rintro e w9 ⟨rfl, rfl⟩)
  refine (XM.out _ (HR.out.keep (by (repeat' (first | (with_reducible exact Below.refl _ _) | (with_reducible assumption) | (with_reducible refine Below.drew ?_) | (with_reducible refine below_drewN ?_ _) | (with_reducible refine Below.setCell ?_ ?_ _) | (with_reducible refine Below.alloc ?_ ?_ _) | go_size | omega))))).mono ?_
  rintro e w10 ⟨rfl, h10⟩
  have B10 : Below w.heap.size w w10 := below_via (by go_grown) h10
  have z10 := B10.size
  have y10 := h10.size
  try simp at y10
  have A10 := Lib.hid ((A8.out.keep h10).alloc (.cells #[.int .i64 Lm, .int .i64 Hm] 28))
  have M10 := Lib.hid (Box.new w10 #[.int .i64 Lm, .int .i64 Hm] 28 rfl)
  clear h10 a0 a1 a2 a3 A8
  obtain ⟨a0, a1, a2, a3, _⟩ := A10.out.four
  go_wp2_with fail
  refine (XN.out _ (HR.out.keep (by (repeat' (first | (with_reducible exact Below.refl _ _) | (with_reducible assumption) | (with_reducible refine Below.drew ?_) | (with_reducible refine below_drewN ?_ _) | (with_reducible refine Below.setCell ?_ ?_ _) | (with_reducible refine Below.alloc ?_ ?_ _) | go_size | omega))))).mono ?_
  rintro e w11 ⟨rfl, h11⟩
  have B11 : Below w.heap.size w w11 := below_via (by go_grown) h11
  have z11 := B11.size
  have y11 := h11.size
  try simp at y11
  have A11 := Lib.hid ((A10.out.keep h11).alloc (.cells #[.int .i64 Ln, .int .i64 Hn] 28))
  have M11 := Lib.hid ((M10.out.keep h11).alloc (.cells #[.int .i64 Ln, .int .i64 Hn] 28))
  have N11 := Lib.hid (Box.new w11 #[.int .i64 Ln, .int .i64 Hn] 28 rfl)
  clear h11 a0 a1 a2 a3 A10 M10
  obtain ⟨a0, a1, a2, a3, _⟩ := A11.out.four
  go_wp2_with fail
  refine (XC.out _ (HR.out.keep (by (repeat' (first | (with_reducible exact Below.refl _ _) | (with_reducible assumption) | (with_reducible refine Below.drew ?_) | (with_reducible refine below_drewN ?_ _) | (with_reducible refine Below.setCell ?_ ?_ _) | (with_reducible refine Below.alloc ?_ ?_ _) | go_size | omega))))).mono ?_
  rintro e w12 ⟨rfl, h12⟩
  have B12 : Below w.heap.size w w12 := below_via (by go_grown) h12
  have z12 := B12.size
  have y12 := h12.size
  try simp at y12
  have A12 := Lib.hid ((A11.out.keep h12).alloc (.cells #[.int .i64 Lc, .int .i64 Hc] 28))
  have M12 := Lib.hid ((M11.out.keep h12).alloc (.cells #[.int .i64 Lc, .int .i64 Hc] 28))
  have N12 := Lib.hid ((N11.out.keep h12).alloc (.cells #[.int .i64 Lc, .int .i64 Hc] 28))
  have C12 := Lib.hid (Box.new w12 #[.int .i64 Lc, .int .i64 Hc] 28 rfl)
  clear h12 a0 a1 a2 a3 A11 M11 N11
  obtain ⟨a0, a1, a2, a3, _⟩ := A12.out.four
  go_wp2_with fail
  refine (XS.out _ (HR.out.keep (by (repeat' (first | (with_reducible exact Below.refl _ _) | (with_reducible assumption) | (with_reducible refine Below.drew ?_) | (with_reducible refine below_drewN ?_ _) | (with_reducible refine Below.setCell ?_ ?_ _) | (with_reducible refine Below.alloc ?_ ?_ _) | go_size | omega))))).mono ?_
  rintro e w13 ⟨rfl, h13⟩
  have B13 : Below w.heap.size w w13 := below_via (by go_grown) h13
  have z13 := B13.size
  have y13 := h13.size
  try simp at y13
  have A13 := Lib.hid ((A12.out.keep h13).alloc (.cells #[.int .i64 Ls, .int .i64 Hs] 28))
  have M13 := Lib.hid ((M12.out.keep h13).alloc (.cells #[.int .i64 Ls, .int .i64 Hs] 28))
  have N13 := Lib.hid ((N12.out.keep h13).alloc (.cells #[.int .i64 Ls, .int .i64 Hs] 28))
  have C13 := Lib.hid ((C12.out.keep h13).alloc (.cells #[.int .i64 Ls, .int .i64 Hs] 28))
  have S13 := Lib.hid (Box.new w13 #[.int .i64 Ls, .int .i64 Hs] 28 rfl)
  clear h13 a0 a1 a2 a3 A12 M12 N12 C12
  obtain ⟨a0, a1, a2, a3, _⟩ := A13.out.four
  obtain ⟨u0, u1, _⟩ := M13.out.two
  obtain ⟨v0, v1, _⟩ := N13.out.two
  go_wp2_with (first | (go_at_call 8; refine (Abs_any _ _ (by omega) (by omega)).mono ?_; rintro e w9 ⟨rfl, rfl⟩))
  refine (XP.out _).mono ?_
  rintro e w14 ⟨rfl, h14⟩
  have B14 : Below w.heap.size w w14 := below_via (by go_grown) h14
  have z14 := B14.size
  have M14 := Lib.hid (M13.out.keep h14); have C14 := Lib.hid (C13.out.keep h14); have S14 := Lib.hid (S13.out.keep h14)
  clear h14 u0 u1 v0 v1 a0 a1 a2 a3 A13 N13 M13 C13 S13
  go_wp2_with fail
  go_ret
  exact ⟨rfl, by go_grown⟩
theorem encE_or {a b c d t : Int} (hk : okP a b c d = true) (t0 : 1 ≤ t) (t1 : t ≤ 1000000000) : encE a b c d t = 0 ∨ encE a b c d t = 8 := by
  have f := enc_ref hk t0 t1
  rcases Int.lt_or_le 1000000000000000 (rHi a b c d t) with h | h
  · exact .inr (f.2 h).1
  · exact .inl (f.1 h).1
set_option maxRecDepth 100000 in
set_option maxHeartbeats 4000000 in
theorem nest_out (a b c d m n : Int) (w : World) (hp : Primes w) (h : okP a b c d = false ∨ inR m 1 30000 = false ∨ inR n 1 30000 = false) :
    Calls Tryd.prog 3 #[.agg #[.int .i64 a, .int .i64 b, .int .i64 c, .int .i64 d], .int .i64 m, .int .i64 n] w fun e w' => e = .returned (.bool true) ∧ Below w.heap.size w w' := by
  have HR := Lib.hid hp
  have HH := Lib.hid h
  clear hp h
  go_enter Tryd.func3, Tryd.ntmps3
  go_wp2_with fail
  have BW : Below w.heap.size w (w.alloc (.cells #[.int .i64 a, .int .i64 b, .int .i64 c, .int .i64 d] 23)) := by go_grown
  have BA := Box.new w #[.int .i64 a, .int .i64 b, .int .i64 c, .int .i64 d] 23 rfl
  refine (counts_any _ (HR.out.keep BW)).mono ?_
  rintro e w1 ⟨rfl, h1⟩
  have B1 : Below w.heap.size w w1 := below_via BW h1
  have z1 := B1.size
  have A1 := Lib.hid (BA.keep h1)
  clear h1 BA BW
  obtain ⟨a0, a1, a2, a3, _⟩ := A1.out.four
  go_wp2_with fail
  refine (near60_any a b c d _).mono ?_
  rintro e w8 ⟨nv, rfl, hv, h8⟩
  have B8 : Below w.heap.size w w8 := below_via (by go_grown) h8
  have z8 := B8.size
  clear h8 a0 a1 a2 a3 A1
  cases nv
  · go_wp2_with fail
    go_ret
    exact ⟨rfl, by go_grown⟩
  have hk := hv rfl
  clear hv
  cases hm : inR m 1 30000
  · go_wp2_with (go_at_call 6; refine (Within_any _ _ _ _).mono ?_; rintro e w9 ⟨rfl, rfl⟩)
    go_ret
    exact ⟨rfl, by go_grown⟩
  cases hn : inR n 1 30000
  · go_wp2_with (go_at_call 6; refine (Within_any _ _ _ _).mono ?_; rintro e w9 ⟨rfl, rfl⟩)
    go_ret
    exact ⟨rfl, by go_grown⟩
  exfalso
  have := HH.out
  rw [hk, hm, hn] at this
  simp at this

/-- the law returns true -/
theorem lawNest (a b c d m n : Int) (w : World) (hp : Primes w) :
    Calls Tryd.prog 3 #[.agg #[.int .i64 a, .int .i64 b, .int .i64 c, .int .i64 d], .int .i64 m, .int .i64 n] w fun e w' => e = .returned (.bool true) ∧ Below w.heap.size w w' := by
  by_cases h : okP a b c d = false ∨ inR m 1 30000 = false ∨ inR n 1 30000 = false
  · exact nest_out a b c d m n w hp h
  have hk : okP a b c d = true := by
    cases hx : okP a b c d
    · exact absurd (.inl hx) h
    · rfl
  have hm : 1 ≤ m ∧ m ≤ 30000 := by
    cases hx : inR m 1 30000
    · exact absurd (.inr (.inl hx)) h
    · exact of_decide_eq_true hx
  have hn : 1 ≤ n ∧ n ≤ 30000 := by
    cases hx : inR n 1 30000
    · exact absurd (.inr (.inr hx)) h
    · exact of_decide_eq_true hx
  clear h
  obtain ⟨m0, m1⟩ := hm
  obtain ⟨n0, n1⟩ := hn
  have mn0 : 1 ≤ m * n := by have := Int.mul_le_mul_of_nonneg_left n0 (show 0 ≤ m by omega); omega
  have mn1 : m * n ≤ 900000000 := by
    have h1 := Int.mul_le_mul_of_nonneg_left n1 (show 0 ≤ m by omega)
    omega
  have Pm := fun (u : World) (hq : Primes u) => enclose_any a b c d m u hq
  have Pn := fun (u : World) (hq : Primes u) => enclose_any a b c d n u hq
  have Pc := fun (u : World) (hq : Primes u) => enclose_any a b c d (m * n) u hq
  have Ps := fun (u : World) (hq : Primes u) => enclose_any a b c d (m + n) u hq
  rcases encE_or hk mn0 (show m * n ≤ 1000000000 by omega) with hc | hc
  · rcases encE_or hk (show 1 ≤ m + n by omega) (show m + n ≤ 1000000000 by omega) with hs | hs
    · obtain ⟨hm, hn, q1, q2, q3, q4, q5, q6, q7⟩ := nests hk m0 m1 n0 n1 hc hs
      rw [hc] at Pc; rw [hs] at Ps; rw [hm] at Pm; rw [hn] at Pn
      have k1 : chkR (encL a b c d m) (encH a b c d m) = 0 := by
        unfold chkR inB; rw [if_pos (by simp; omega), if_neg (by omega)]
      have k2 : chkR (encL a b c d n) (encH a b c d n) = 0 := by
        unfold chkR inB; rw [if_pos (by simp; omega), if_neg (by omega)]
      have pl := plus_any (encL a b c d m) (encH a b c d m) (encL a b c d n) (encH a b c d n)
      by_cases k3 : chkR (encL a b c d m + encL a b c d n) (encH a b c d m + encH a b c d n) = 0
      · have e1 : plE (encL a b c d m) (encH a b c d m) (encL a b c d n) (encH a b c d n) = 0 := by
          unfold plE err2; rw [k1, k2, k3]; rfl
        have e2 : plL (encL a b c d m) (encH a b c d m) (encL a b c d n) (encH a b c d n) = encL a b c d m + encL a b c d n := by unfold plL; rw [if_pos e1]
        have e3 : plH (encL a b c d m) (encH a b c d m) (encL a b c d n) (encH a b c d n) = encH a b c d m + encH a b c d n := by unfold plH; rw [if_pos e1]
        rw [e1, e2, e3] at pl
        exact nest_3p a b c d m n _ _ _ _ _ _ _ _ w hp m0 m1 n0 n1 Pm Pn Pc Ps q1 q2 q3 q4 q5 q6 q7 pl
      · have e1 : plE (encL a b c d m) (encH a b c d m) (encL a b c d n) (encH a b c d n) = 8 := by
          unfold plE err2; rw [k1, k2, if_neg (by simp), if_pos k3]
        have e2 : plL (encL a b c d m) (encH a b c d m) (encL a b c d n) (encH a b c d n) = 0 := by unfold plL; rw [if_neg (by omega)]
        have e3 : plH (encL a b c d m) (encH a b c d m) (encL a b c d n) (encH a b c d n) = 0 := by unfold plH; rw [if_neg (by omega)]
        rw [e1, e2, e3] at pl
        exact nest_3q a b c d m n _ _ _ _ _ _ _ _ w hp m0 m1 n0 n1 Pm Pn Pc Ps q1 q2 q3 q4 q5 q6 q7 pl
    · rw [hc] at Pc; rw [hs] at Ps
      exact nest_2 a b c d m n _ _ _ _ _ _ _ _ _ _ w hp m0 m1 n0 n1 Pm Pn Pc Ps
  · rw [hc] at Pc
    exact nest_1 a b c d m n _ _ _ _ _ _ _ _ _ _ _ w hp m0 m1 n0 n1 Pm Pn Pc Ps
end Go.Proofs.YtdecpekcdnagiaaDoor
