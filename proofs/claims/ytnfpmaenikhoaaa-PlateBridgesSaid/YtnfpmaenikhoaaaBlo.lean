/-
  Bridges: the load of one string.
-/
import Derived.Test.YtnfpmaenikhoaaaBrm
import Derived.Test.YtnfpmaenikhoaaaPul
import Derived.Laws.EntriesVeiled
import Derived.StillTailTactics
namespace Go.Proofs.Ytnfpmaenikhoaaa
open Go.RowKit
abbrev rng (a b : Int) : Value := .agg #[.int .i64 a, .int .i64 b]
set_option maxRecDepth 100000 in
set_option maxHeartbeats 1600000 in
theorem loadOf_bad1 (f b k a h lo hi : Int) (w : World) (ho : okB f b k a h = false) :
    Calls Try.prog 89 #[brg f b k a h, rng lo hi] w fun e w' => e = .returned (.tuple #[rng 0 0, .int .i64 2]) ∧ Below w.heap.size w w' := by
  have CK := Lib.hid (fun u => chkBr_any f b k a h u)
  rw [show chkBr f b k a h = 2 by unfold chkBr; rw [ho]; rfl] at CK
  go_enter Try.func89, Try.ntmps89
  go_wp2_with fail
  refine (CK.out _).mono ?_
  rintro e w1 ⟨rfl, hh⟩
  have B1 : Below w.heap.size w w1 := below_via (by (repeat' (first | (with_reducible exact Below.refl _ _) | (with_reducible assumption) | (with_reducible refine Below.drew ?_) | (with_reducible refine below_drewN ?_ _) | (with_reducible refine Below.setCell ?_ ?_ _) | (with_reducible refine Below.alloc ?_ ?_ _) | go_size | omega))) hh
  have A1 := Lib.hid ((((Box.new w #[.int .i64 f, .int .i64 b, .int .i64 k, .int .i64 a, .int .i64 h] 97 (n := w.heap.size) rfl).alloc (.cells #[.int .i64 lo, .int .i64 hi] 90)).alloc (.cells #[.int .i64 0, .int .i64 0] 90)).keep hh)
  have C1 := Lib.hid (((Box.new (w.alloc (.cells #[.int .i64 f, .int .i64 b, .int .i64 k, .int .i64 a, .int .i64 h] 97)) #[.int .i64 lo, .int .i64 hi] 90 (n := w.heap.size + 1) (by simp)).alloc (.cells #[.int .i64 0, .int .i64 0] 90)).keep hh)
  have R1 := Lib.hid ((Box.new ((w.alloc (.cells #[.int .i64 f, .int .i64 b, .int .i64 k, .int .i64 a, .int .i64 h] 97)).alloc (.cells #[.int .i64 lo, .int .i64 hi] 90)) #[.int .i64 0, .int .i64 0] 90 (n := w.heap.size + 1 + 1) (by simp)).keep hh)
  have z1 := hh.size
  simp at z1
  clear hh CK
  obtain ⟨n0, n1, f0, f1⟩ := R1.out.two
  have l0 := R1.out.lt
  go_wp2_with fail
  clear n0 n1 f0 f1
  have RV : Box ((w1.setCell ⟨w.heap.size + 1 + 1, 0, none⟩ (.int .i64 0)).setCell ⟨w.heap.size + 1 + 1, 1, none⟩ (.int .i64 0)) (w.heap.size + 1 + 1) #[.int .i64 0, .int .i64 0] 90 := ((R1.out.set 0 _).set 1 _)
  have BV : Below w.heap.size w ((w1.setCell ⟨w.heap.size + 1 + 1, 0, none⟩ (.int .i64 0)).setCell ⟨w.heap.size + 1 + 1, 1, none⟩ (.int .i64 0)) := by (repeat' (first | (with_reducible exact Below.refl _ _) | (with_reducible assumption) | (with_reducible refine Below.drew ?_) | (with_reducible refine below_drewN ?_ _) | (with_reducible refine Below.setCell ?_ ?_ _) | (with_reducible refine Below.alloc ?_ ?_ _) | go_size | omega))
  generalize ((w1.setCell ⟨w.heap.size + 1 + 1, 0, none⟩ (.int .i64 0)).setCell ⟨w.heap.size + 1 + 1, 1, none⟩ (.int .i64 0)) = v at *
  have s0 := RV.cell 0
  have s1 := RV.cell 1
  simp at s0 s1
  go_wp2_with fail
  refine bodyPost_ret (v := .tuple #[rng 0 0, .int .i64 2]) (by simp [results, Try.results89, go_sem, s0, s1]) rfl ⟨rfl, BV⟩
set_option maxRecDepth 100000 in
set_option maxHeartbeats 1600000 in
theorem loadOf_bad2 (f b k a h lo hi : Int) (w : World) (ho : okB f b k a h = true) (ht : okT (lo, hi) = false) :
    Calls Try.prog 89 #[brg f b k a h, rng lo hi] w fun e w' => e = .returned (.tuple #[rng 0 0, .int .i64 2]) ∧ Below w.heap.size w w' := by
  have CK := Lib.hid (fun u => chkBr_any f b k a h u)
  rw [show chkBr f b k a h = 0 by unfold chkBr; rw [ho]; rfl] at CK
  have CI := Lib.hid (fun u => inside_any lo hi 0 10000000 u)
  rw [show decide (0 ≤ lo ∧ lo ≤ hi ∧ hi ≤ 10000000) = false from ht] at CI
  go_enter Try.func89, Try.ntmps89
  go_wp2_with fail
  refine (CK.out _).mono ?_
  rintro e w1 ⟨rfl, hh⟩
  have B1 : Below w.heap.size w w1 := below_via (by (repeat' (first | (with_reducible exact Below.refl _ _) | (with_reducible assumption) | (with_reducible refine Below.drew ?_) | (with_reducible refine below_drewN ?_ _) | (with_reducible refine Below.setCell ?_ ?_ _) | (with_reducible refine Below.alloc ?_ ?_ _) | go_size | omega))) hh
  have A1 := Lib.hid ((((Box.new w #[.int .i64 f, .int .i64 b, .int .i64 k, .int .i64 a, .int .i64 h] 97 (n := w.heap.size) rfl).alloc (.cells #[.int .i64 lo, .int .i64 hi] 90)).alloc (.cells #[.int .i64 0, .int .i64 0] 90)).keep hh)
  have C1 := Lib.hid (((Box.new (w.alloc (.cells #[.int .i64 f, .int .i64 b, .int .i64 k, .int .i64 a, .int .i64 h] 97)) #[.int .i64 lo, .int .i64 hi] 90 (n := w.heap.size + 1) (by simp)).alloc (.cells #[.int .i64 0, .int .i64 0] 90)).keep hh)
  have R1 := Lib.hid ((Box.new ((w.alloc (.cells #[.int .i64 f, .int .i64 b, .int .i64 k, .int .i64 a, .int .i64 h] 97)).alloc (.cells #[.int .i64 lo, .int .i64 hi] 90)) #[.int .i64 0, .int .i64 0] 90 (n := w.heap.size + 1 + 1) (by simp)).keep hh)
  have z1 := hh.size
  simp at z1
  clear hh CK
  obtain ⟨c0, c1, -⟩ := C1.out.two
  have lc := C1.out.lt
  go_wp2_with fail
  clear c0 c1 lc
  refine (CI.out _).mono ?_
  rintro e w2 ⟨rfl, hh⟩
  have B2 : Below w.heap.size w w2 := below_via B1 hh
  have R2 := Lib.hid (R1.out.keep hh)
  clear hh CI
  obtain ⟨n0, n1, f0, f1⟩ := R2.out.two
  have l0 := R2.out.lt
  go_wp2_with fail
  clear n0 n1 f0 f1
  have RV : Box ((w2.setCell ⟨w.heap.size + 1 + 1, 0, none⟩ (.int .i64 0)).setCell ⟨w.heap.size + 1 + 1, 1, none⟩ (.int .i64 0)) (w.heap.size + 1 + 1) #[.int .i64 0, .int .i64 0] 90 := ((R2.out.set 0 _).set 1 _)
  have BV : Below w.heap.size w ((w2.setCell ⟨w.heap.size + 1 + 1, 0, none⟩ (.int .i64 0)).setCell ⟨w.heap.size + 1 + 1, 1, none⟩ (.int .i64 0)) := by (repeat' (first | (with_reducible exact Below.refl _ _) | (with_reducible assumption) | (with_reducible refine Below.drew ?_) | (with_reducible refine below_drewN ?_ _) | (with_reducible refine Below.setCell ?_ ?_ _) | (with_reducible refine Below.alloc ?_ ?_ _) | go_size | omega))
  generalize ((w2.setCell ⟨w.heap.size + 1 + 1, 0, none⟩ (.int .i64 0)).setCell ⟨w.heap.size + 1 + 1, 1, none⟩ (.int .i64 0)) = v at *
  have s0 := RV.cell 0
  have s1 := RV.cell 1
  simp at s0 s1
  go_wp2_with fail
  refine bodyPost_ret (v := .tuple #[rng 0 0, .int .i64 2]) (by simp [results, Try.results89, go_sem, s0, s1]) rfl ⟨rfl, BV⟩
set_option maxRecDepth 100000 in
set_option maxHeartbeats 1600000 in
theorem loadOf_ok (f b k a h lo hi : Int) (w : World) (ho : okB f b k a h = true) (ht : okT (lo, hi) = true) :
    Calls Try.prog 89 #[brg f b k a h, rng lo hi] w fun e w' => e = .returned (.tuple #[rng (bLo (⟨f, b, k, a, h⟩ : Br) (lo, hi)) (bHi (⟨f, b, k, a, h⟩ : Br) (lo, hi)), .int .i64 0]) ∧ Below w.heap.size w w' := by
  have CK := Lib.hid (fun u => chkBr_any f b k a h u)
  rw [show chkBr f b k a h = 0 by unfold chkBr; rw [ho]; rfl] at CK
  have CI := Lib.hid (fun u => inside_any lo hi 0 10000000 u)
  rw [show decide (0 ≤ lo ∧ lo ≤ hi ∧ hi ≤ 10000000) = true from ht] at CI
  have CS := (fun u => steepness_any f b k a h u ho)
  obtain ⟨⟨N0, N1⟩, D0, D1⟩ := redND_bd (x := (⟨f, b, k, a, h⟩ : Br)) ho
  obtain ⟨t0, t1, t2⟩ := okT_bd ht
  have bn := fun hn => b_neg (x := (⟨f, b, k, a, h⟩ : Br)) (t := (lo, hi)) ho ht hn
  have bp := fun hn => b_pos (x := (⟨f, b, k, a, h⟩ : Br)) (t := (lo, hi)) ho ht hn
  change (∀ u, Calls Try.prog _ _ u fun e w' => e = .returned (.agg #[.int .i64 (redN (Br.st (⟨f, b, k, a, h⟩ : Br)) (Br.dn (⟨f, b, k, a, h⟩ : Br))), .int .i64 (redD (Br.st (⟨f, b, k, a, h⟩ : Br)) (Br.dn (⟨f, b, k, a, h⟩ : Br)))]) ∧ Below u.heap.size u w') at CS
  generalize redN (Br.st (⟨f, b, k, a, h⟩ : Br)) (Br.dn (⟨f, b, k, a, h⟩ : Br)) = N at *
  generalize redD (Br.st (⟨f, b, k, a, h⟩ : Br)) (Br.dn (⟨f, b, k, a, h⟩ : Br)) = D at *
  dsimp only at t0 t1 t2 bn bp
  generalize bLo (⟨f, b, k, a, h⟩ : Br) (lo, hi) = rl at *
  generalize bHi (⟨f, b, k, a, h⟩ : Br) (lo, hi) = rh at *
  obtain ⟨p0, p1⟩ := mul_bd (show -10000000 ≤ lo by omega) (show lo ≤ 10000000 by omega) N0 N1
  obtain ⟨q0, q1⟩ := mul_bd (show -10000000 ≤ hi by omega) (show hi ≤ 10000000 by omega) N0 N1
  have w1 : IntKind.i64.wrap (lo * N) = lo * N := IntWalk.i64_in _ (by omega)
  have w2 : IntKind.i64.wrap (hi * N) = hi * N := IntWalk.i64_in _ (by omega)
  have W1 := Lib.hid w1; have W2 := Lib.hid w2; have BN := Lib.hid bn; have BP := Lib.hid bp
  have CS := Lib.hid CS
  clear ho ht w1 w2 bn bp
  go_enter Try.func89, Try.ntmps89
  go_wp2_with fail
  refine (CK.out _).mono ?_
  rintro e w1 ⟨rfl, hh⟩
  have B1 : Below w.heap.size w w1 := below_via (by (repeat' (first | (with_reducible exact Below.refl _ _) | (with_reducible assumption) | (with_reducible refine Below.drew ?_) | (with_reducible refine below_drewN ?_ _) | (with_reducible refine Below.setCell ?_ ?_ _) | (with_reducible refine Below.alloc ?_ ?_ _) | go_size | omega))) hh
  have A1 := Lib.hid ((((Box.new w #[.int .i64 f, .int .i64 b, .int .i64 k, .int .i64 a, .int .i64 h] 97 (n := w.heap.size) rfl).alloc (.cells #[.int .i64 lo, .int .i64 hi] 90)).alloc (.cells #[.int .i64 0, .int .i64 0] 90)).keep hh)
  have C1 := Lib.hid (((Box.new (w.alloc (.cells #[.int .i64 f, .int .i64 b, .int .i64 k, .int .i64 a, .int .i64 h] 97)) #[.int .i64 lo, .int .i64 hi] 90 (n := w.heap.size + 1) (by simp)).alloc (.cells #[.int .i64 0, .int .i64 0] 90)).keep hh)
  have R1 := Lib.hid ((Box.new ((w.alloc (.cells #[.int .i64 f, .int .i64 b, .int .i64 k, .int .i64 a, .int .i64 h] 97)).alloc (.cells #[.int .i64 lo, .int .i64 hi] 90)) #[.int .i64 0, .int .i64 0] 90 (n := w.heap.size + 1 + 1) (by simp)).keep hh)
  have z1 := hh.size
  simp at z1
  clear hh CK
  obtain ⟨c0, c1, -⟩ := C1.out.two
  have lc := C1.out.lt
  go_wp2_with fail
  clear c0 c1 lc
  refine (CI.out _).mono ?_
  rintro e w2 ⟨rfl, hh⟩
  have B2 : Below w.heap.size w w2 := below_via B1 hh
  have R2 := Lib.hid (R1.out.keep hh)
  have C2 := Lib.hid (C1.out.keep hh)
  have A2 := Lib.hid (A1.out.keep hh)
  have z2 := hh.size
  clear hh CI R1 C1 A1
  have a0 := A2.out.cell 0; have a1 := A2.out.cell 1; have a2 := A2.out.cell 2; have a3 := A2.out.cell 3; have a4 := A2.out.cell 4
  simp at a0 a1 a2 a3 a4
  have la := A2.out.lt
  go_wp2_with fail
  clear a0 a1 a2 a3 a4 la
  refine (CS.out _).mono ?_
  rintro e w3 ⟨rfl, hh⟩
  have B3 : Below w.heap.size w w3 := below_via B2 hh
  have R3 := Lib.hid ((R2.out.keep hh).alloc (.cells #[.int .i64 N, .int .i64 D] 65))
  have C3 := Lib.hid ((C2.out.keep hh).alloc (.cells #[.int .i64 N, .int .i64 D] 65))
  have F3 := Lib.hid (Box.new w3 #[.int .i64 N, .int .i64 D] 65 (n := w3.heap.size) rfl)
  have z3 := hh.size
  clear hh CS R2 C2 A2
  go_wp2_with fail
  have BU : Below w.heap.size w (w3.alloc (.cells #[.int .i64 N, .int .i64 D] 65)) := by (repeat' (first | (with_reducible exact Below.refl _ _) | (with_reducible assumption) | (with_reducible refine Below.drew ?_) | (with_reducible refine below_drewN ?_ _) | (with_reducible refine Below.setCell ?_ ?_ _) | (with_reducible refine Below.alloc ?_ ?_ _) | go_size | omega))
  have zu : (w3.alloc (.cells #[.int .i64 N, .int .i64 D] 65)).heap.size = w3.heap.size + 1 := by simp
  generalize (w3.alloc (.cells #[.int .i64 N, .int .i64 D] 65)) = u at *
  generalize w3.heap.size = fb at *
  have c0 := C3.out.cell 0; have c1 := C3.out.cell 1
  have k0 := F3.out.cell 0; have k1 := F3.out.cell 1
  simp at c0 c1 k0 k1
  have lc := C3.out.lt; have lf := F3.out.lt; have lr := R3.out.lt
  have w1 := W1.out; have w2 := W2.out
  by_cases hn : N < 0
  · obtain ⟨e1, e2⟩ := BN.out (by omega)
    have hn' : (decide (N < 0)) = true := by simpa using hn
    have E1 := Lib.hid e1; have E2 := Lib.hid e2
    clear e1 e2
    go_quiet (fail)
    rename_i nq
    have R4 := Lib.hid (R3.out.drewN nq); have F4 := Lib.hid (F3.out.drewN nq); have C4 := Lib.hid (C3.out.drewN nq)
    have BV4 : Below w.heap.size w (u.drewN nq) := below_drewN BU nq
    have z4 : (u.drewN nq).heap.size = fb + 1 := zu
    clear R3 F3 C3 BU zu c0 c1 k0 k1 lc lf lr
    generalize (u.drewN nq) = v4 at *
    have k0 := F4.out.cell 0; have k1 := F4.out.cell 1
    have c0 := C4.out.cell 0; have c1 := C4.out.cell 1
    simp at c0 c1 k0 k1
    have lf := F4.out.lt; have lr := R4.out.lt; have lc := C4.out.lt
    have CD := Lib.hid (fun v => dn_any (hi * N) D v (by omega) (by omega) (by omega) (by omega))
    have CU := Lib.hid (fun v => up_any (lo * N) D v (by omega) (by omega) (by omega) (by omega))
    go_wp2_with fail
    obtain ⟨n0, n1, f0, f1⟩ := R4.out.two
    go_still_tail 9, (by kernel_rfl)
    still_call (CD.out _)
    repeat still_step
    still_call (CU.out _)
    repeat still_step
    refine wpStill_nil ?_
    go_wp2_with fail
    have RV : Box (((v4.setCell ⟨w.heap.size + 1 + 1, 0, none⟩ (.int .i64 (dn (hi * N) D))).setCell ⟨w.heap.size + 1 + 1, 1, none⟩ (.int .i64 (up (lo * N) D))).drew) (w.heap.size + 1 + 1) #[.int .i64 (dn (hi * N) D), .int .i64 (up (lo * N) D)] 90 := (((R4.out.set 0 _).set 1 _).drew)
    have BV : Below w.heap.size w (((v4.setCell ⟨w.heap.size + 1 + 1, 0, none⟩ (.int .i64 (dn (hi * N) D))).setCell ⟨w.heap.size + 1 + 1, 1, none⟩ (.int .i64 (up (lo * N) D))).drew) := by (repeat' (first | (with_reducible exact Below.refl _ _) | (with_reducible assumption) | (with_reducible refine Below.drew ?_) | (with_reducible refine below_drewN ?_ _) | (with_reducible refine Below.setCell ?_ ?_ _) | (with_reducible refine Below.alloc ?_ ?_ _) | go_size | omega))
    generalize (((v4.setCell ⟨w.heap.size + 1 + 1, 0, none⟩ (.int .i64 (dn (hi * N) D))).setCell ⟨w.heap.size + 1 + 1, 1, none⟩ (.int .i64 (up (lo * N) D))).drew) = v at *
    have s0 := RV.cell 0
    have s1 := RV.cell 1
    simp at s0 s1
    go_wp2_with fail
    refine bodyPost_ret (v := .tuple #[rng rl rh, .int .i64 0]) (by simp [results, Try.results89, go_sem, s0, s1, E1.out, E2.out]) rfl ⟨rfl, BV⟩
  · obtain ⟨e1, e2⟩ := BP.out (by omega)
    have hn' : (decide (N < 0)) = false := by simpa using hn
    have E1 := Lib.hid e1; have E2 := Lib.hid e2
    clear e1 e2
    go_quiet (fail)
    rename_i nq
    have R4 := Lib.hid (R3.out.drewN nq); have F4 := Lib.hid (F3.out.drewN nq); have C4 := Lib.hid (C3.out.drewN nq)
    have BV4 : Below w.heap.size w (u.drewN nq) := below_drewN BU nq
    have z4 : (u.drewN nq).heap.size = fb + 1 := zu
    clear R3 F3 C3 BU zu c0 c1 k0 k1 lc lf lr
    generalize (u.drewN nq) = v4 at *
    have k0 := F4.out.cell 0; have k1 := F4.out.cell 1
    have c0 := C4.out.cell 0; have c1 := C4.out.cell 1
    simp at c0 c1 k0 k1
    have lf := F4.out.lt; have lr := R4.out.lt; have lc := C4.out.lt
    have CD := Lib.hid (fun v => dn_any (lo * N) D v (by omega) (by omega) (by omega) (by omega))
    have CU := Lib.hid (fun v => up_any (hi * N) D v (by omega) (by omega) (by omega) (by omega))
    go_wp2_with fail
    obtain ⟨n0, n1, f0, f1⟩ := R4.out.two
    go_still_tail 9, (by kernel_rfl)
    still_call (CD.out _)
    repeat still_step
    still_call (CU.out _)
    repeat still_step
    refine wpStill_nil ?_
    go_wp2_with fail
    have RV : Box (((v4.setCell ⟨w.heap.size + 1 + 1, 0, none⟩ (.int .i64 (dn (lo * N) D))).setCell ⟨w.heap.size + 1 + 1, 1, none⟩ (.int .i64 (up (hi * N) D))).drew) (w.heap.size + 1 + 1) #[.int .i64 (dn (lo * N) D), .int .i64 (up (hi * N) D)] 90 := (((R4.out.set 0 _).set 1 _).drew)
    have BV : Below w.heap.size w (((v4.setCell ⟨w.heap.size + 1 + 1, 0, none⟩ (.int .i64 (dn (lo * N) D))).setCell ⟨w.heap.size + 1 + 1, 1, none⟩ (.int .i64 (up (hi * N) D))).drew) := by (repeat' (first | (with_reducible exact Below.refl _ _) | (with_reducible assumption) | (with_reducible refine Below.drew ?_) | (with_reducible refine below_drewN ?_ _) | (with_reducible refine Below.setCell ?_ ?_ _) | (with_reducible refine Below.alloc ?_ ?_ _) | go_size | omega))
    generalize (((v4.setCell ⟨w.heap.size + 1 + 1, 0, none⟩ (.int .i64 (dn (lo * N) D))).setCell ⟨w.heap.size + 1 + 1, 1, none⟩ (.int .i64 (up (hi * N) D))).drew) = v at *
    have s0 := RV.cell 0
    have s1 := RV.cell 1
    simp at s0 s1
    go_wp2_with fail
    refine bodyPost_ret (v := .tuple #[rng rl rh, .int .i64 0]) (by simp [results, Try.results89, go_sem, s0, s1, E1.out, E2.out]) rfl ⟨rfl, BV⟩
end Go.Proofs.Ytnfpmaenikhoaaa
