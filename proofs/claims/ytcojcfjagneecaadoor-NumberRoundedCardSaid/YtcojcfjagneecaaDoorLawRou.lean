/-
  The walk of the law NumberRounded: it returns true, whatever the fraction and the number of times; older memory stays as it was. Its condition: the table of primes reads as it is laid (for awake).
-/
import Derived.Test.YtcojcfjagneecaaDoorRou2
import Derived.Test.YtcojcfjagneecaaDoorAwake
namespace Go.Proofs.YtcojcfjagneecaaDoor
open Go.RowKit

theorem up_dn (x d : Int) (hd : 1 ≤ d) : 0 ≤ up x d - dn x d ∧ up x d - dn x d ≤ 1 := by
  unfold up dn
  have a1 := Int.mul_ediv_add_emod x d
  have a2 := Int.emod_nonneg x (show d ≠ 0 by omega)
  have a3 := Int.emod_lt_of_pos x (show 0 < d by omega)
  have b1 := Int.mul_ediv_add_emod (-x) d
  have b2 := Int.emod_nonneg (-x) (show d ≠ 0 by omega)
  have b3 := Int.emod_lt_of_pos (-x) (show 0 < d by omega)
  have c1 : d * (x / d + -x / d) = d * (x / d) + d * (-x / d) := Int.mul_add _ _ _
  generalize x / d = q at *
  generalize -x / d = p at *
  have e1 : q + p ≤ 0 := by
    rcases Int.lt_or_le 0 (q + p) with h | h
    · have := Int.mul_le_mul_of_nonneg_left (show 1 ≤ q + p by omega) (show 0 ≤ d by omega)
      omega
    · exact h
  have e2 : -1 ≤ q + p := by
    rcases Int.lt_or_le (q + p) (-1) with h | h
    · have := Int.mul_le_mul_of_nonneg_left (show q + p ≤ -2 by omega) (show 0 ≤ d by omega)
      omega
    · exact h
  omega

set_option maxRecDepth 100000 in
set_option maxHeartbeats 4000000 in
theorem lawRounded_bad (n d t : Int) (w : World) (hp : Primes w) (hn0 : -9223372036854775808 ≤ n) (hn1 : n ≤ 9223372036854775807) (hd0 : -9223372036854775808 ≤ d) (hd1 : d ≤ 9223372036854775807) (h : rouE n d t ≠ 0) :
    Calls Tryd.prog 4 #[.agg #[.int .i64 n, .int .i64 d], .int .i64 t] w fun e w' => e = .returned (.bool true) ∧ Below w.heap.size w w' := by
  have f1 : rouL n d t = 0 := by unfold rouL; rw [if_neg h]
  have f2 : rouH n d t = 0 := by unfold rouH; rw [if_neg h]
  have P := fun u : World => rounded_any n d t u hn0 hn1 hd0 hd1
  simp only [f1, f2] at P
  have HQ := Lib.hid (fun u : World => rchkF_any n d u hn0 hn1 hd0 hd1)
  have HR := Lib.hid hp
  by_cases hc : chkF n d = 0
  · have f3 : rouE n d t = 2 := by unfold rouE at h ⊢; rw [if_neg (by omega)] at h ⊢; split <;> (try split) <;> simp_all
    have hi : inR t 1 1000000000 = false := by
      cases hx : inR t 1 1000000000
      · rfl
      · unfold inR at hx; simp at hx
        exfalso; apply h; unfold rouE
        rw [if_neg (by omega), if_neg (by omega), if_neg (by omega)]
    rw [f3] at P
    have HP := Lib.hid P
    have hc0 : (chkF n d == 0) = true := by simpa using hc
    clear P f1 f2 f3 h hp
    go_enter Tryd.func4, Tryd.ntmps4
    go_wp2_with fail
    have BW : Below w.heap.size w (w.alloc (.cells #[.int .i64 n, .int .i64 d] 23)) := by go_grown
    have BA := Box.new w #[.int .i64 n, .int .i64 d] 23 rfl
    refine (awake_any _ (HR.out.keep BW)).mono ?_
    rintro e w1 ⟨rfl, h1⟩
    have B1 : Below w.heap.size w w1 := below_via BW h1
    have z1 := B1.size
    have A1 := Lib.hid (BA.keep h1)
    obtain ⟨p0, p1, _, _⟩ := A1.out.two
    clear h1 BA
    go_wp2_with fail
    refine (HP.out _).mono ?_
    rintro e w2 ⟨rfl, h2⟩
    have B2 : Below w.heap.size w w2 := below_via (by go_grown) h2
    have z2 := B2.size
    have A2 := Lib.hid (A1.out.keep h2)
    have p0' : ∀ o, (w2.alloc o).cell? ⟨w.heap.size, 0, none⟩ = some (.int .i64 n) := fun o => (A2.out.alloc o).cell 0
    have p1' : ∀ o, (w2.alloc o).cell? ⟨w.heap.size, 1, none⟩ = some (.int .i64 d) := fun o => (A2.out.alloc o).cell 1
    clear h2 p0 p1
    go_wp2_with fail
    refine (HQ.out _).mono ?_
    rintro e w3 ⟨rfl, h3⟩
    have B3 : Below w.heap.size w w3 := below_via (by go_grown) h3
    have z3 := B3.size
    have A3 := Lib.hid ((A2.out.alloc (.cells #[.int .i64 (0), .int .i64 (0)] 37)).keep h3)
    have S3 := Lib.hid ((Box.new w2 #[.int .i64 (0), .int .i64 (0)] 37 rfl).keep h3)
    clear h3 p0' p1'
    obtain ⟨p0, p1, _, _⟩ := A3.out.two
    obtain ⟨s0, s1, _, _⟩ := S3.out.two
    go_wp2_with (go_at_call 28; refine (Within_any _ _ _ _).mono ?_; rintro e w3 ⟨rfl, rfl⟩)
    go_ret
    exact ⟨rfl, by go_grown⟩
  · have f3 : rouE n d t = chkF n d := by unfold rouE; rw [if_pos hc]
    rw [f3] at P
    have HP := Lib.hid P
    have hc0 : (chkF n d == 0) = false := by simpa using hc
    have hc1 : (chkF n d != 0) = true := by simpa using hc
    clear P f1 f2 f3 h hp hc
    go_enter Tryd.func4, Tryd.ntmps4
    go_wp2_with fail
    have BW : Below w.heap.size w (w.alloc (.cells #[.int .i64 n, .int .i64 d] 23)) := by go_grown
    have BA := Box.new w #[.int .i64 n, .int .i64 d] 23 rfl
    refine (awake_any _ (HR.out.keep BW)).mono ?_
    rintro e w1 ⟨rfl, h1⟩
    have B1 : Below w.heap.size w w1 := below_via BW h1
    have z1 := B1.size
    have A1 := Lib.hid (BA.keep h1)
    obtain ⟨p0, p1, _, _⟩ := A1.out.two
    clear h1 BA
    go_wp2_with fail
    refine (HP.out _).mono ?_
    rintro e w2 ⟨rfl, h2⟩
    have B2 : Below w.heap.size w w2 := below_via (by go_grown) h2
    have z2 := B2.size
    have A2 := Lib.hid (A1.out.keep h2)
    have p0' : ∀ o, (w2.alloc o).cell? ⟨w.heap.size, 0, none⟩ = some (.int .i64 n) := fun o => (A2.out.alloc o).cell 0
    have p1' : ∀ o, (w2.alloc o).cell? ⟨w.heap.size, 1, none⟩ = some (.int .i64 d) := fun o => (A2.out.alloc o).cell 1
    clear h2 p0 p1
    go_wp2_with fail
    refine (HQ.out _).mono ?_
    rintro e w3 ⟨rfl, h3⟩
    have B3 : Below w.heap.size w w3 := below_via (by go_grown) h3
    have z3 := B3.size
    have A3 := Lib.hid ((A2.out.alloc (.cells #[.int .i64 (0), .int .i64 (0)] 37)).keep h3)
    have S3 := Lib.hid ((Box.new w2 #[.int .i64 (0), .int .i64 (0)] 37 rfl).keep h3)
    clear h3 p0' p1'
    obtain ⟨p0, p1, _, _⟩ := A3.out.two
    obtain ⟨s0, s1, _, _⟩ := S3.out.two
    go_wp2_with (go_at_call 28; refine (Within_any _ _ _ _).mono ?_; rintro e w3 ⟨rfl, rfl⟩)
    go_ret
    exact ⟨rfl, by go_grown⟩

set_option maxRecDepth 100000 in
set_option maxHeartbeats 4000000 in
theorem lawRounded_ok (n d t : Int) (w : World) (hp : Primes w) (h : rouE n d t = 0) :
    Calls Tryd.prog 4 #[.agg #[.int .i64 n, .int .i64 d], .int .i64 t] w fun e w' => e = .returned (.bool true) ∧ Below w.heap.size w w' := by
  obtain ⟨hc, t0, t1⟩ := rouE_ok h
  obtain ⟨d0, d1, n0, n1, _⟩ := chkF_ok hc
  obtain ⟨m0, m1⟩ := mulB_bd n0 n1 (show 0 ≤ t by omega) t1
  have F1 : rouL n d t = dn (n * t) d := by unfold rouL; rw [if_pos h]
  have F2 : rouH n d t = up (n * t) d := by unfold rouH; rw [if_pos h]
  have u1 := dn_bd d0 m0 m1 (by omega)
  have u2 := up_dn (n * t) d d0
  rw [← F1] at u1
  rw [← F1, ← F2] at u2
  obtain ⟨u10, u11⟩ := u1
  obtain ⟨u20, u21⟩ := u2
  have P := fun u : World => rounded_any n d t u (by omega) (by omega) (by omega) (by omega)
  have G := fun u : World => rrounded_any n d t u h
  rw [h] at P
  have HQ := Lib.hid (fun u : World => rchkF_any n d u (by omega) (by omega) (by omega) (by omega))
  rw [hc] at HQ
  have HR := Lib.hid hp
  have HP := Lib.hid P
  have HG := Lib.hid G
  have hi : inR t 1 1000000000 = true := by unfold inR; simp; omega
  clear P G F1 F2 h hp hc m0 m1
  generalize rouL n d t = x at *
  generalize rouH n d t = y at *
  have hj : inR (y - x) 0 1 = true := by unfold inR; simp; omega
  have wr : IntKind.i64.wrap (y - x) = y - x := IntWalk.i64_in _ (by omega)
  go_enter Tryd.func4, Tryd.ntmps4
  go_wp2_with fail
  have BW : Below w.heap.size w (w.alloc (.cells #[.int .i64 n, .int .i64 d] 23)) := by go_grown
  have BA := Box.new w #[.int .i64 n, .int .i64 d] 23 rfl
  refine (awake_any _ (HR.out.keep BW)).mono ?_
  rintro e w1 ⟨rfl, h1⟩
  have B1 : Below w.heap.size w w1 := below_via BW h1
  have z1 := B1.size
  have A1 := Lib.hid (BA.keep h1)
  obtain ⟨p0, p1, _, _⟩ := A1.out.two
  clear h1 BA
  go_wp2_with fail
  refine (HP.out _).mono ?_
  rintro e w2 ⟨rfl, h2⟩
  have B2 : Below w.heap.size w w2 := below_via (by go_grown) h2
  have z2 := B2.size
  have A2 := Lib.hid (A1.out.keep h2)
  have p0' : ∀ o, (w2.alloc o).cell? ⟨w.heap.size, 0, none⟩ = some (.int .i64 n) := fun o => (A2.out.alloc o).cell 0
  have p1' : ∀ o, (w2.alloc o).cell? ⟨w.heap.size, 1, none⟩ = some (.int .i64 d) := fun o => (A2.out.alloc o).cell 1
  clear h2 p0 p1
  go_wp2_with fail
  refine (HQ.out _).mono ?_
  rintro e w3 ⟨rfl, h3⟩
  have B3 : Below w.heap.size w w3 := below_via (by go_grown) h3
  have z3 := B3.size
  have A3 := Lib.hid ((A2.out.alloc (.cells #[.int .i64 (x), .int .i64 (y)] 37)).keep h3)
  have S3 := Lib.hid ((Box.new w2 #[.int .i64 (x), .int .i64 (y)] 37 rfl).keep h3)
  clear h3 p0' p1'
  obtain ⟨p0, p1, _, _⟩ := A3.out.two
  obtain ⟨s0, s1, _, _⟩ := S3.out.two
  go_wp2_with (go_at_call 28; refine (Within_any _ _ _ _).mono ?_; rintro e w3 ⟨rfl, rfl⟩)
  have la := A3.out.lt
  have ls := S3.out.lt
  have K := Lib.hid (fun (w' : World) (hw : Below w3.heap.size w3 w') => show w'.cell? ⟨w.heap.size, 0, none⟩ = some (.int .i64 n) ∧ w'.cell? ⟨w.heap.size, 1, none⟩ = some (.int .i64 d) ∧ w'.cell? ⟨w2.heap.size, 0, none⟩ = some (.int .i64 x) ∧ w'.cell? ⟨w2.heap.size, 1, none⟩ = some (.int .i64 y) from ⟨(A3.out.keep hw).cell 0, (A3.out.keep hw).cell 1, (S3.out.keep hw).cell 0, (S3.out.keep hw).cell 1⟩)
  go_region_held3 (fun w' => w'.cell? ⟨w.heap.size, 0, none⟩ = some (.int .i64 n) ∧ w'.cell? ⟨w.heap.size, 1, none⟩ = some (.int .i64 d) ∧ w'.cell? ⟨w2.heap.size, 0, none⟩ = some (.int .i64 x) ∧ w'.cell? ⟨w2.heap.size, 1, none⟩ = some (.int .i64 y)) ((refine K.out _ ?_; go_grown; done))
    (first | (go_at_call 29; refine (HG.out _).mono ?_; rintro e w9 ⟨rfl, h9⟩; have hB9 : Below w3.heap.size w3 w9 := below_via (by go_grown) h9; clear h9; have hz9 := hB9.size; obtain ⟨k0, k1, k2, k3⟩ := K.out w9 hB9) | (go_at_call 28; refine (Within_any _ _ _ _).mono ?_; rintro e w9 ⟨rfl, rfl⟩))
  all_goals
    have BV : Below w.heap.size w w9 := below_via B3 hB9
    go_wp2_with fail
    go_ret
    exact ⟨rfl, by go_grown⟩
theorem lawRounded (n d t : Int) (w : World) (hp : Primes w) (hn0 : -9223372036854775808 ≤ n) (hn1 : n ≤ 9223372036854775807) (hd0 : -9223372036854775808 ≤ d) (hd1 : d ≤ 9223372036854775807) :
    Calls Tryd.prog 4 #[.agg #[.int .i64 n, .int .i64 d], .int .i64 t] w fun e w' => e = .returned (.bool true) ∧ Below w.heap.size w w' := by
  by_cases h : rouE n d t = 0
  · exact lawRounded_ok n d t w hp h
  · exact lawRounded_bad n d t w hp hn0 hn1 hd0 hd1 h
theorem lawRoundedB (n d t : Int) (w : World) (hp : Primes w) (hn0 : -9223372036854775808 ≤ n) (hn1 : n ≤ 9223372036854775807) (hd0 : -9223372036854775808 ≤ d) (hd1 : d ≤ 9223372036854775807) (_ : -9223372036854775808 ≤ t) (_ : t ≤ 9223372036854775807) :
    Calls Tryd.prog 4 #[.agg #[.int .i64 n, .int .i64 d], .int .i64 t] w fun e w' => e = .returned (.bool true) ∧ Below w.heap.size w w' := lawRounded n d t w hp hn0 hn1 hd0 hd1
end Go.Proofs.YtcojcfjagneecaaDoor
